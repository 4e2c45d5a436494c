import PyProof.Rows.All
import Wide.All
import OpenK.AllK
import Wide.FinOn
import KE.KStateDown
import HandS.Head0
import HandS.Head1
import HandS.Head2
import HandS.HeadEnd
import HandS.HeadHook1
import HandS.HeadHook2
import HandS.HeadHook3
import HandS.HeadHook4
import HandS.ForMost
import HandS.Wide
import HandS.Evl
import HandS.Rev
import HandS.Style
import HandS.IsInst
import HandS.Defaults
import HandS.DictComp
import HandS.WideBits
import KE.GoesEnum
import HandS.TupAny
import HandS.OwnEq
import PyProof.InstNe
import HandS.TryOnly
import HandS.DeepEq
import PyProof.NeKinds
import HandS.TupLe
import HandS.CallLocal
import HandS.Lambda
import HandS.Small
import HandS.Iter
import HandS.More
import KE.KDflt
import HandS.MakeKw
import HandS.MakeKwOnly
import PyProof.Rows.ChunkEnd
import HandS.RevRange
import PyProof.Rows.CountFlat
import HandS.Flow
import HandS.Conv
import HandS.Sort
import HandS.ForExc
import HandS.RaiseMore
import PyProof.ExcBaseAll.ArithmeticError
import HandS.ExcInit
import HandS.ExcField
import HandS.FStr
import KE.KExcInit
import HandS.TryMany
import KE.KExcIs
import HandS.Flt
import PyProof.FString3
import PyProof.StrOps2
import HandS.StrMore
import HandS.Codes
import HandS.Dict
import HandS.Steps
import KE.OsArith
import HandS.Text
import KE.KBits
import KE.BitLaws
import HandS.HeadWalk
import PySem.Challenge.RW_thirtybits_k39_what_shifts_refuse
set_option Elab.async false
set_option linter.all false
set_option maxRecDepth 100000
set_option maxHeartbeats 0
set_option Elab.async false
set_option linter.all false
set_option maxRecDepth 100000
set_option maxHeartbeats 0
namespace VL
open PySem
/-! what is looked at behind the start: the things at places that are told, not those found by walking -/
def obsL (as0 : List Addr) (fa : List He.Fa) (fn : List He.DefD) (tf : List He.Defn) (ex : PySem.W.Frag → Bool) (g : Addr → Option Obj) : He.AlX := ((He.obsD fa fn (He.frT g as0), []), ex (He.frT g as0) && He.tabsB g tf (He.frT g as0))
theorem tabL {g : Addr → Option Obj} {K : PySem.W.Frag} {p : He.Defn} (h : (PySem.W.codeHdIn K (He.cT K p).1 (He.cT K p).2 && (match g (He.cT K p).2 with
    | some o => He.emptyTab o
    | none => false)) = true) : PySem.W.codeHdIn K (He.cT K p).1 (He.cT K p).2 = true ∧ ∃ o, g (He.cT K p).2 = some o ∧ He.emptyTab o = true := by
  rw [Bool.and_eq_true] at h
  refine ⟨h.1, ?_⟩
  revert h
  generalize g (He.cT K p).2 = u
  cases u with
  | none => exact fun h => nomatch h.2
  | some o => exact fun h => ⟨o, rfl, h.2⟩
theorem saysL {as0 : List Addr} {fa : List He.Fa} {fn : List He.DefD} {tf : List He.Defn} {ex : PySem.W.Frag → Bool} {w : World} {h : Heap} (e : obsL as0 fa fn tf ex h.get? = He.valX fn [] w) : He.SaysX fa fn [] tf ex w h (He.frT h.get? as0) := by
  obtain ⟨e1, e2⟩ := Prod.mk.inj e
  rw [Bool.and_eq_true] at e2
  have ts := List.all_eq_true.mp e2.2
  refine { t := e1, more := e2.1, hd := fun p m => (tabL (ts p m)).1, out := fun p m => ?_, empty := fun p m => ?_ }
  · obtain ⟨_, o, q, z⟩ := tabL (ts p m)
    exact He.frT_none q z
  · obtain ⟨_, o, q, z⟩ := tabL (ts p m)
    rw [q, He.emptyTab_eq z]
def hookL (as0 : List Addr) (fa : List He.Fa) (fn : List He.DefD) (tf : List He.Defn) (ex : PySem.W.Frag → Bool) : PySem.W.Hook :=
  ⟨He.AlX, fun s => obsL as0 fa fn tf ex s.heap.get?, fun w => He.valX fn [] w, fun w h => ∃ K : PySem.W.Frag, K.In h ∧ He.SaysX fa fn [] tf ex w h K,
   fun _ _ e => ⟨_, He.frT_in, saysL e⟩, fun _ _ _ ⟨K, i, c⟩ k => ⟨K, i.keeps k, c.t, c.more, c.hd, c.out, fun p m => k _ _ (c.empty p m)⟩⟩
theorem obsL_eq {as0 : List Addr} {fa : List He.Fa} {fn : List He.DefD} {tf : List He.Defn} {ex : PySem.W.Frag → Bool} {g : Addr → Option Obj} {s : PySem.Shared} (h : ∀ a, g a = s.heap.get? a) : obsL as0 fa fn tf ex g = (hookL as0 fa fn tf ex).obs s := by
  show _ = obsL as0 fa fn tf ex s.heap.get?
  rw [show g = s.heap.get? from funext h]
/-- from, how many -/
def addrs (a : Nat) : Nat → List Addr
  | 0 => []
  | n + 1 => a :: addrs (a + 1) n
end VL

namespace VL
open PySem L2 PyProof.Rows
def mwords : List Str := ["short", "sum", "product", "quotient", "corrected", "restored", "shifted", "combined", "complemented", "looked"]
def ownB (K : PySem.W.Frag) (C f : Addr) : Bool := match K.lookup C with
  | some ⟨.type t, _, .cls cd, sl⟩ => (match cd.mro, sl.toList with
    | [.ref C', .type b], [_, _, _, _, some (.builtin n), _] => decide (t = "type") && (decide (C' = C) && (decide (b = "object") && (!cd.hasDel && (PySem.W.nsOkIn K cd.ns && (He.eqO (PySem.W.nsIn K cd.ns "__ne__") (some none) && (He.eqO (PySem.W.nsIn K cd.ns "__eq__") (some (some (.ref f))) &&
        (match K.lookup f with
          | some ⟨.type u, _, _, _⟩ => decide (u = "function")
          | _ => false)))))))
    | _, _ => false)
  | _ => false
abbrev aeBase : List Value := [.type "ArithmeticError", .type "Exception", .type "BaseException", .type "object"]
def excB (K : PySem.W.Frag) (C : Addr) : Bool := PySem.W.excIn K C aeBase "ArithmeticError.__new__" && (PySem.W.keepIn K (.ref C) && (decide (PySem.W.subIn K (.ref C) (.type "BaseException") = some true) && (decide (PySem.W.typeIn K (.ref C) = some (.type "type")) && decide (PySem.W.exmOne K (.ref C) (.ref C) = some true))))
def tupA (K : PySem.W.Frag) (a : Addr) : Option (List Value) := match K.lookup a with
  | some ⟨.type c, _, .seq its _, _⟩ => if (decide (c = "tuple") && decide (its.size ≤ sizeLine)) = true then some its.toList else none
  | _ => none
def pairB (K : PySem.W.Frag) (v : Value) (x : Int × List Int) : Bool := match v with
  | .ref a => match tupA K a with
    | some [u, .ref b] => He.relB (.int x.1) u && (match tupA K b with
      | some zs => He.relAll (x.2.map V.int) zs
      | none => false)
    | _ => false
  | _ => false
def pairsB (K : PySem.W.Frag) : List Value → List (Int × List Int) → Bool
  | [], [] => true
  | v :: vs, x :: xs => pairB K v x && pairsB K vs xs
  | _, _ => false
def fewB (K : PySem.W.Frag) (x : Str) (l : List (Int × List Int)) : Bool := match tupA K (He.ga K x) with
  | some vs => pairsB K vs l
  | none => false
def isVal (o : Option PySem.W.CFound) (v : Value) : Bool := match o with | some (.val a) => decide (a = v) | _ => false
def ixB (K : PySem.W.Frag) (C B0 fI : Addr) (f : Str) : Bool :=
  PySem.W.excInitIn K C aeBase "ArithmeticError.__new__" && (PySem.W.excOver K C aeBase && (PySem.W.hasDictIn K C && (decide (PySem.W.takerIn K C f = some none) && (decide (PySem.W.findIn K (.ref C) "__init__" = some (some (.ref fI))) &&
  (decide (PySem.W.typeIn K (.ref fI) = some (.type "function")) && (decide (PySem.W.findIn K (.ref C) "__setattr__" = some (some (.builtin "object.__setattr__"))) && (decide (PySem.W.subIn K (.ref C) (.type "BaseException") = some true) &&
  (decide (PySem.W.typeIn K (.ref C) = some (.type "type")) && (PySem.W.keepIn K (.ref C) && (xfB K C && (decide (PySem.W.findIn K (.ref C) f = some none) && (decide (PySem.W.specialIn K (.ref B0) "__getattribute__" = some (some (.builtin "type.__getattribute__"))) &&
  (PySem.W.readsIn K B0 (.type "type") && (isVal (PySem.W.findCls K (.ref B0) (.type "type") "__init__") (.builtin "ArithmeticError.__init__") && PySem.W.keepIn K (.ref B0)))))))))))))))
def isV (o : Option (Option Value)) (v : Value) : Bool := match o with | some (some a) => decide (a = v) | _ => false
def isN (o : Option (Option Value)) : Bool := match o with | some none => true | _ => false
def exIB (K : PySem.W.Frag) (D : Addr) : Bool :=
  (PySem.W.clsIn K D).isSome && (isV (PySem.W.findIn K (.ref D) "__getattribute__") (.builtin "BaseException.__getattribute__") && (isN (PySem.W.findIn K (.ref D) "__getattr__") && (decide (PySem.W.subIn K (.ref D) (.type "BaseException") = some true) &&
    (isV (PySem.W.findIn K (.ref D) "__class__") (.builtin "object.__class__") && (isV (PySem.W.specialIn K (.builtin "object.__class__") "__get__") (.builtin "getset_descriptor.__get__") && (decide (PySem.W.takesIn K (.builtin "object.__class__") = some true) && decide (PySem.W.mroIn K D (.type "object") = some true)))))))
def entB : List DictEntry → List (Int × Int) → Bool
  | [], [] => true
  | e :: r, p :: q => (match e.key with | .int a _ => decide (a = p.1) | _ => false) && ((match e.val with | .int a _ => decide (a = p.2) | _ => false) && (decide (e.hash = hashInt p.1) && entB r q))
  | _, _ => false
def idcB (K : PySem.W.Frag) (d : Addr) (kvs : List (Int × Int)) : Bool := (!(d == sysModules)) && match K.lookup d with
  | some ⟨.type c, none, .dict es _, sl⟩ => decide (c = "dict") && (sl.isEmpty && entB es.toList kvs)
  | _ => false
def intsB (K : PySem.W.Frag) (x : Str) (l : List Int) : Bool := match tupA K (He.ga K x) with
  | some vs => He.relAll (l.map V.int) vs
  | none => false
def sentB : List DictEntry → List (Str × Int) → Bool
  | [], [] => true
  | e :: r, p :: q => (match e.key with | .str a _ => decide (a = p.1) | _ => false) && ((match e.val with | .int a _ => decide (a = p.2) | _ => false) && sentB r q)
  | _, _ => false
def sdcB (K : PySem.W.Frag) (d : Addr) (kvs : List (Str × Int)) : Bool := match K.lookup d with
  | some ⟨.type c, none, .dict es _, sl⟩ => sentB es.toList kvs
  | _ => false
end VL
namespace P
open PySem L2 VL
def topS (i : Nat) : Stmt := PySem.Challenge.pw_thirtybits_k39_what_shifts_refuse.main.body.getD i (.Pass ⟨0, 0, 0, 0⟩)
abbrev s_shown : Stmt := topS 6
abbrev s_ix_InvalidBound : Stmt := inClass (topS 4) 0
abbrev s_is_integer : Stmt := topS 8
abbrev s_is_between : Stmt := topS 9
abbrev s_Mach_step : Stmt := inClass (topS 13) 6
abbrev s_Mach_enter : Stmt := inClass (topS 13) 7
abbrev s_Mach_tally : Stmt := inClass (topS 13) 3
abbrev s_Mach_walk : Stmt := inClass (topS 13) 4
abbrev s_Mach_parts : Stmt := inClass (topS 13) 2
abbrev s_Mach_init : Stmt := inClass (topS 13) 0
abbrev s_Big_eq : Stmt := inClass (topS 25) 1
abbrev s_Big_digits : Stmt := inClass (topS 25) 3
abbrev s_Big_sign : Stmt := inClass (topS 25) 2
abbrev s_Big_bits : Stmt := inClass (topS 25) 4
abbrev s_order_of : Stmt := topS 32
abbrev s_Big_init : Stmt := inClass (topS 25) 0
abbrev s_check_machine : Stmt := topS 14
abbrev s_top_digit : Stmt := topS 17
abbrev s_check_row : Stmt := topS 18
abbrev s_size_of : Stmt := topS 19
abbrev s_number_of : Stmt := topS 20
abbrev s_low_part : Stmt := topS 22
abbrev s_row_of : Stmt := topS 21
abbrev s_last_difference : Stmt := topS 23
abbrev s_check_big : Stmt := topS 26
abbrev s_check_fit : Stmt := topS 29
abbrev s_check_one : Stmt := topS 27
abbrev s_check_two : Stmt := topS 28
abbrev s_big_of : Stmt := topS 30
abbrev s_are_compact : Stmt := topS 31
abbrev s_big : Stmt := topS 33
abbrev s_check_shift : Stmt := topS 40
abbrev s_shifted_left : Stmt := topS 42
abbrev s_shift_left : Stmt := topS 36
abbrev s_count_right_steps : Stmt := topS 44
abbrev s_shifted_right : Stmt := topS 43
abbrev s_shift_right : Stmt := topS 37
abbrev s_check_row_shift : Stmt := topS 41
abbrev s_lifted : Stmt := topS 45
abbrev s_shift_row_up : Stmt := topS 38
abbrev s_lowered : Stmt := topS 46
abbrev s_shift_row_down : Stmt := topS 39
abbrev s_added : Stmt := topS 50
abbrev s_taken : Stmt := topS 51
abbrev s_joined : Stmt := topS 49
abbrev s_add : Stmt := topS 48
abbrev s__law_source_of : Stmt := topS 53
abbrev s__law_next : Stmt := topS 54
abbrev s__law_one : Stmt := topS 55
abbrev s__law_cell_at : Stmt := topS 56
abbrev s__law_machine : Stmt := topS 57
abbrev s__law_said : Stmt := topS 58
abbrev s__law_deep : Stmt := topS 59
abbrev s_check_machine__or4 : Stmt := topS 14
abbrev s_check_one__or3 : Stmt := topS 27
abbrev s_check_shift__or2 : Stmt := topS 40
abbrev s_shift_left__or1 : Stmt := topS 36
abbrev s_shift_right__or5 : Stmt := topS 37
abbrev s_check_big__or10 : Stmt := topS 26
abbrev s_check_fit__or9 : Stmt := topS 29
abbrev s_check_one__or8 : Stmt := topS 27
abbrev s_check_shift__or7 : Stmt := topS 40
abbrev s_shift_left__or6 : Stmt := topS 36
abbrev s_shift_right__or11 : Stmt := topS 37
abbrev s_is_integer__or14 : Stmt := topS 8
abbrev s_check_shift__or13 : Stmt := topS 40
abbrev s_shift_left__or12 : Stmt := topS 36
abbrev s_shift_right__or15 : Stmt := topS 37
abbrev s_is_integer__or18 : Stmt := topS 8
abbrev s_check_shift__or17 : Stmt := topS 40
abbrev s_shift_left__or16 : Stmt := topS 36
abbrev s_shift_right__or19 : Stmt := topS 37
abbrev s__law_numbers_right : Stmt := topS 60
abbrev s_check_row_shift__or21 : Stmt := topS 41
abbrev s_shift_row_up__or20 : Stmt := topS 38
abbrev s_shift_row_down__or22 : Stmt := topS 39
abbrev s_check_row__or25 : Stmt := topS 18
abbrev s_check_row_shift__or24 : Stmt := topS 41
abbrev s_shift_row_up__or23 : Stmt := topS 38
abbrev s_shift_row_down__or26 : Stmt := topS 39
abbrev s_is_between__or30 : Stmt := topS 9
abbrev s_is_between__or31 : Stmt := topS 9
abbrev s_check_row__or29 : Stmt := topS 18
abbrev s_check_row_shift__or28 : Stmt := topS 41
abbrev s_shift_row_up__or27 : Stmt := topS 38
abbrev s_shift_row_down__or32 : Stmt := topS 39
abbrev s_check_row_shift__or34 : Stmt := topS 41
abbrev s_shift_row_up__or33 : Stmt := topS 38
abbrev s_shift_row_down__or35 : Stmt := topS 39
abbrev s_check_row_shift__or37 : Stmt := topS 41
abbrev s_shift_row_up__or36 : Stmt := topS 38
abbrev s_shift_row_down__or38 : Stmt := topS 39
abbrev s__law_rows_right : Stmt := topS 61
abbrev s_law : Stmt := topS 62
def iclsB (K : PySem.W.Frag) (C : Addr) : Bool := He.eqO (PySem.W.findIn K (.ref C) "__class__") (some (some (.builtin "object.__class__"))) && (He.eqO (PySem.W.specialIn K (.builtin "object.__class__") "__get__") (some (some (.builtin "getset_descriptor.__get__"))) &&
  (decide (PySem.W.takesIn K (.builtin "object.__class__") = some true) && (decide (PySem.W.mroIn K C (.type "object") = some true) && decide (PySem.W.kitOne K (.ref C) (.ref C) = some true))))
def tfs : List He.Defn := [("_law_numbers_right", none), ("_law_rows_right", none), ("law", none)]
def d_shown : He.DefD := ⟨("shown", none), "shown", "shown", defArgs s_shown, defBody s_shown, defScope s_shown, [], []⟩
def d_is_integer : He.DefD := ⟨("is_integer", none), "is_integer", "is_integer", defArgs s_is_integer, defBody s_is_integer, defScope s_is_integer, [], []⟩
def d_is_between : He.DefD := ⟨("is_between", none), "is_between", "is_between", defArgs s_is_between, defBody s_is_between, defScope s_is_between, [], []⟩
def d_order_of : He.DefD := ⟨("order_of", none), "order_of", "order_of", defArgs s_order_of, defBody s_order_of, defScope s_order_of, [], []⟩
def d_check_machine : He.DefD := ⟨("check_machine", none), "check_machine", "check_machine", defArgs s_check_machine, defBody s_check_machine, defScope s_check_machine, [], []⟩
def d_top_digit : He.DefD := ⟨("top_digit", none), "top_digit", "top_digit", defArgs s_top_digit, defBody s_top_digit, defScope s_top_digit, [], []⟩
def d_check_row : He.DefD := ⟨("check_row", none), "check_row", "check_row", defArgs s_check_row, defBody s_check_row, defScope s_check_row, [], []⟩
def d_size_of : He.DefD := ⟨("size_of", none), "size_of", "size_of", defArgs s_size_of, defBody s_size_of, defScope s_size_of, [], []⟩
def d_number_of : He.DefD := ⟨("number_of", none), "number_of", "number_of", defArgs s_number_of, defBody s_number_of, defScope s_number_of, [], []⟩
def d_low_part : He.DefD := ⟨("low_part", none), "low_part", "low_part", defArgs s_low_part, defBody s_low_part, defScope s_low_part, [], []⟩
def d_row_of : He.DefD := ⟨("row_of", none), "row_of", "row_of", defArgs s_row_of, defBody s_row_of, defScope s_row_of, [], []⟩
def d_last_difference : He.DefD := ⟨("last_difference", none), "last_difference", "last_difference", defArgs s_last_difference, defBody s_last_difference, defScope s_last_difference, [], []⟩
def d_check_big : He.DefD := ⟨("check_big", none), "check_big", "check_big", defArgs s_check_big, defBody s_check_big, defScope s_check_big, [], []⟩
def d_check_fit : He.DefD := ⟨("check_fit", none), "check_fit", "check_fit", defArgs s_check_fit, defBody s_check_fit, defScope s_check_fit, [], []⟩
def d_check_one : He.DefD := ⟨("check_one", none), "check_one", "check_one", defArgs s_check_one, defBody s_check_one, defScope s_check_one, [], []⟩
def d_check_two : He.DefD := ⟨("check_two", none), "check_two", "check_two", defArgs s_check_two, defBody s_check_two, defScope s_check_two, [], []⟩
def d_big_of : He.DefD := ⟨("big_of", none), "big_of", "big_of", defArgs s_big_of, defBody s_big_of, defScope s_big_of, [], []⟩
def d_are_compact : He.DefD := ⟨("are_compact", none), "are_compact", "are_compact", defArgs s_are_compact, defBody s_are_compact, defScope s_are_compact, [], []⟩
def d_big : He.DefD := ⟨("big", none), "big", "big", defArgs s_big, defBody s_big, defScope s_big, [], []⟩
def d_check_shift : He.DefD := ⟨("check_shift", none), "check_shift", "check_shift", defArgs s_check_shift, defBody s_check_shift, defScope s_check_shift, [], []⟩
def d_shifted_left : He.DefD := ⟨("shifted_left", none), "shifted_left", "shifted_left", defArgs s_shifted_left, defBody s_shifted_left, defScope s_shifted_left, [], []⟩
def d_shift_left : He.DefD := ⟨("shift_left", none), "shift_left", "shift_left", defArgs s_shift_left, defBody s_shift_left, defScope s_shift_left, [], []⟩
def d_count_right_steps : He.DefD := ⟨("count_right_steps", none), "count_right_steps", "count_right_steps", defArgs s_count_right_steps, defBody s_count_right_steps, defScope s_count_right_steps, [], []⟩
def d_shifted_right : He.DefD := ⟨("shifted_right", none), "shifted_right", "shifted_right", defArgs s_shifted_right, defBody s_shifted_right, defScope s_shifted_right, [], []⟩
def d_shift_right : He.DefD := ⟨("shift_right", none), "shift_right", "shift_right", defArgs s_shift_right, defBody s_shift_right, defScope s_shift_right, [], []⟩
def d_check_row_shift : He.DefD := ⟨("check_row_shift", none), "check_row_shift", "check_row_shift", defArgs s_check_row_shift, defBody s_check_row_shift, defScope s_check_row_shift, [], []⟩
def d_lifted : He.DefD := ⟨("lifted", none), "lifted", "lifted", defArgs s_lifted, defBody s_lifted, defScope s_lifted, [], []⟩
def d_shift_row_up : He.DefD := ⟨("shift_row_up", none), "shift_row_up", "shift_row_up", defArgs s_shift_row_up, defBody s_shift_row_up, defScope s_shift_row_up, [], []⟩
def d_lowered : He.DefD := ⟨("lowered", none), "lowered", "lowered", defArgs s_lowered, defBody s_lowered, defScope s_lowered, [], []⟩
def d_shift_row_down : He.DefD := ⟨("shift_row_down", none), "shift_row_down", "shift_row_down", defArgs s_shift_row_down, defBody s_shift_row_down, defScope s_shift_row_down, [], []⟩
def d_added : He.DefD := ⟨("added", none), "added", "added", defArgs s_added, defBody s_added, defScope s_added, [], []⟩
def d_taken : He.DefD := ⟨("taken", none), "taken", "taken", defArgs s_taken, defBody s_taken, defScope s_taken, [], []⟩
def d_joined : He.DefD := ⟨("joined", none), "joined", "joined", defArgs s_joined, defBody s_joined, defScope s_joined, [], []⟩
def d_add : He.DefD := ⟨("add", none), "add", "add", defArgs s_add, defBody s_add, defScope s_add, [], []⟩
def d__law_source_of : He.DefD := ⟨("_law_source_of", none), "_law_source_of", "_law_source_of", defArgs s__law_source_of, defBody s__law_source_of, defScope s__law_source_of, [], []⟩
def d__law_next : He.DefD := ⟨("_law_next", none), "_law_next", "_law_next", defArgs s__law_next, defBody s__law_next, defScope s__law_next, [], []⟩
def d__law_one : He.DefD := ⟨("_law_one", none), "_law_one", "_law_one", defArgs s__law_one, defBody s__law_one, defScope s__law_one, [], []⟩
def d__law_cell_at : He.DefD := ⟨("_law_cell_at", none), "_law_cell_at", "_law_cell_at", defArgs s__law_cell_at, defBody s__law_cell_at, defScope s__law_cell_at, [], []⟩
def d__law_machine : He.DefD := ⟨("_law_machine", none), "_law_machine", "_law_machine", defArgs s__law_machine, defBody s__law_machine, defScope s__law_machine, [], []⟩
def d__law_said : He.DefD := ⟨("_law_said", none), "_law_said", "_law_said", defArgs s__law_said, defBody s__law_said, defScope s__law_said, [], []⟩
def d__law_deep : He.DefD := ⟨("_law_deep", none), "_law_deep", "_law_deep", defArgs s__law_deep, defBody s__law_deep, defScope s__law_deep, [], []⟩
def d__law_numbers_right : He.DefD := ⟨("_law_numbers_right", none), "_law_numbers_right", "_law_numbers_right", defArgs s__law_numbers_right, defBody s__law_numbers_right, defScope s__law_numbers_right, [], []⟩
def d__law_rows_right : He.DefD := ⟨("_law_rows_right", none), "_law_rows_right", "_law_rows_right", defArgs s__law_rows_right, defBody s__law_rows_right, defScope s__law_rows_right, [], []⟩
def d_law : He.DefD := ⟨("law", none), "law", "law", defArgs s_law, defBody s_law, defScope s_law, [], []⟩
def d_Mach_step : He.DefD := ⟨("Machine", some "step"), "step", "Machine.step", defArgs s_Mach_step, defBody s_Mach_step, defScope s_Mach_step, [], []⟩
def d_Mach_enter : He.DefD := ⟨("Machine", some "enter"), "enter", "Machine.enter", defArgs s_Mach_enter, defBody s_Mach_enter, defScope s_Mach_enter, [], []⟩
def d_Mach_tally : He.DefD := ⟨("Machine", some "tally"), "tally", "Machine.tally", defArgs s_Mach_tally, defBody s_Mach_tally, defScope s_Mach_tally, [], []⟩
def d_Mach_walk : He.DefD := ⟨("Machine", some "walk"), "walk", "Machine.walk", defArgs s_Mach_walk, defBody s_Mach_walk, defScope s_Mach_walk, [], []⟩
def d_Mach_parts : He.DefD := ⟨("Machine", some "parts"), "parts", "Machine.parts", defArgs s_Mach_parts, defBody s_Mach_parts, defScope s_Mach_parts, [], []⟩
def d_Mach_init : He.DefD := ⟨("Machine", some "__init__"), "__init__", "Machine.__init__", defArgs s_Mach_init, defBody s_Mach_init, defScope s_Mach_init, [.int 30, .int 70], []⟩
def d_Big_init : He.DefD := ⟨("Big", some "__init__"), "__init__", "Big.__init__", defArgs s_Big_init, defBody s_Big_init, defScope s_Big_init, [], []⟩
def d_ix_InvalidBound : He.DefD := ⟨("InvalidBound", some "__init__"), "__init__", "InvalidBound.__init__", defArgs s_ix_InvalidBound, defBody s_ix_InvalidBound, defScope s_ix_InvalidBound, [], []⟩
def d_Big_eq : He.DefD := ⟨("Big", some "__eq__"), "__eq__", "Big.__eq__", defArgs s_Big_eq, defBody s_Big_eq, defScope s_Big_eq, [], []⟩
def d_Big_digits : He.DefD := ⟨("Big", some "digits"), "digits", "Big.digits", defArgs s_Big_digits, defBody s_Big_digits, defScope s_Big_digits, [], []⟩
def d_Big_sign : He.DefD := ⟨("Big", some "sign"), "sign", "Big.sign", defArgs s_Big_sign, defBody s_Big_sign, defScope s_Big_sign, [], []⟩
def d_Big_bits : He.DefD := ⟨("Big", some "bits"), "bits", "Big.bits", defArgs s_Big_bits, defBody s_Big_bits, defScope s_Big_bits, [], []⟩
def fa0 : List He.Fa := [.cls "Machine", .noat "Machine" "width", .noat "Machine" "cutoff", .noat "Machine" "counts", .noat "Machine" "entered", .cls "Big", .noat "Big" "width", .noat "Big" "side", .noat "Big" "row", .noat "Big" "value", .glo "TooGreat", .free "isinstance", .free "str", .glo "shown", .glo "BitsError", .glo "InvalidBound", .free "int", .free "bool", .glo "is_integer", .glo "is_between", .meth "Machine" "step", .free "len", .int "LONGEST_WALK" 1000, .meth "Machine" "enter", .glo "WORDS", .meth "Machine" "tally", .free "list", .meth "Machine" "walk", .meth "Machine" "parts", .glo "Machine"]
def fa1 : List He.Fa := [.mkr "Machine", .glo "Big", .meth "Big" "__eq__", .meth "Big" "digits", .meth "Big" "sign", .meth "Big" "bits", .glo "order_of", .free "tuple", .mkr "Big", .glo "check_machine", .glo "top_digit", .free "all", .glo "check_row", .glo "size_of", .glo "number_of", .int "LONGEST_LOOP" 32, .free "reversed", .glo "low_part", .glo "row_of", .free "range", .free "max", .glo "last_difference", .glo "check_big", .glo "check_fit", .glo "check_one", .glo "check_two", .free "abs", .glo "big_of", .glo "are_compact", .glo "big"]
def fa2 : List He.Fa := [.glo "check_shift", .glo "shifted_left", .int "GREATEST_SHIFT" 100000, .glo "shift_left", .glo "count_right_steps", .free "min", .glo "shifted_right", .glo "shift_right", .glo "check_row_shift", .glo "lifted", .glo "shift_row_up", .glo "lowered", .glo "shift_row_down", .glo "added", .glo "taken", .glo "joined", .glo "add", .glo "_law_source_of", .glo "_law_next", .glo "_law_one", .glo "_law_cell_at", .glo "_law_machine", .glo "_law_said", .glo "_law_deep", .glo "_law_numbers_right", .glo "_law_rows_right", .glo "law"]
def fa : List He.Fa := fa0 ++ fa1 ++ fa2
def fn : List He.DefD := [d_shown, d_is_integer, d_is_between, d_order_of, d_check_machine, d_top_digit, d_check_row, d_size_of, d_number_of, d_low_part, d_row_of, d_last_difference, d_check_big, d_check_fit, d_check_one, d_check_two, d_big_of, d_are_compact, d_big, d_check_shift, d_shifted_left, d_shift_left, d_count_right_steps, d_shifted_right, d_shift_right, d_check_row_shift, d_lifted, d_shift_row_up, d_lowered, d_shift_row_down, d_added, d_taken, d_joined, d_add, d__law_source_of, d__law_next, d__law_one, d__law_cell_at, d__law_machine, d__law_said, d__law_deep, d__law_numbers_right, d__law_rows_right, d_law, d_Mach_step, d_Mach_enter, d_Mach_tally, d_Mach_walk, d_Mach_parts, d_Mach_init, d_Big_init, d_ix_InvalidBound, d_Big_eq, d_Big_digits, d_Big_sign, d_Big_bits]
def tabsApart (K : PySem.W.Frag) : Bool := decide (((tfs.map fun p => (He.cT K p).2)).Nodup)
def rxB (K : PySem.W.Frag) : Bool := decide (PySem.W.exmOne K (.ref (He.ga K "InvalidBound")) (.ref (He.ga K "InvalidBound")) = some true) && (xfB K (He.ga K "InvalidBound") && (decide (PySem.W.findIn K (.ref (He.ga K "InvalidBound")) "argument" = some none) && (decide (PySem.W.exmOne K (.ref (He.ga K "TooGreat")) (.ref (He.ga K "InvalidBound")) = some false) && (decide (PySem.W.exmOne K (.ref (He.ga K "TooGreat")) (.ref (He.ga K "TooGreat")) = some true) && (decide (PySem.W.kitOne K (.ref (He.ga K "Big")) (.type "int") = some false) && (decide (PySem.W.kitOne K (.type "tuple") (.ref (He.ga K "Big")) = some false) && (decide (PySem.W.kitOne K (.type "list") (.ref (He.ga K "Big")) = some false) && (decide (PySem.W.kitOne K (.type "dict") (.ref (He.ga K "Big")) = some false) && (decide (PySem.W.kitOne K (.ref (He.ga K "Machine")) (.ref (He.ga K "Big")) = some false) && (decide (PySem.W.kitOne K (.type "str") (.ref (He.ga K "Big")) = some false) && (decide (PySem.W.kitOne K (.type "bool") (.ref (He.ga K "Big")) = some false) && (decide (PySem.W.kitOne K (.type "int") (.ref (He.ga K "Big")) = some false) && (decide (PySem.W.kitOne K (.type "NoneType") (.ref (He.ga K "Big")) = some false) && (decide (PySem.W.kitOne K (.type "tuple") (.ref (He.ga K "Machine")) = some false) && (decide (PySem.W.kitOne K (.type "list") (.ref (He.ga K "Machine")) = some false) && (decide (PySem.W.kitOne K (.ref (He.ga K "Big")) (.ref (He.ga K "Machine")) = some false) && (decide (PySem.W.kitOne K (.type "int") (.ref (He.ga K "Machine")) = some false) && (decide (PySem.W.kitOne K (.type "NoneType") (.ref (He.ga K "Machine")) = some false) && (decide (PySem.W.kitOne K (.ref (He.ga K "Big")) (.type "list") = some false) && (ixB K (He.ga K "InvalidBound") (He.ga K "BitsError") (He.ma K (He.ga K "InvalidBound") "__init__") "argument" && (excB K (He.ga K "TooGreat"))))))))))))))))))))))
def exB (K : PySem.W.Frag) : Bool := He.tupB K "WORDS" (mwords.map He.Dv.str) && (iclsB K (He.ga K "Machine") && (iclsB K (He.ga K "Big") && ownB K (He.ga K "Big") (He.ma K (He.ga K "Big") "__eq__"))) && tabsApart K && rxB K
def loose0 : List Str := ["_wall", "BitsError", "InvalidMachine", "InvalidBound", "TooGreat", "shown", "is_integer", "is_between", "WORDS", "LONGEST_WALK", "Machine", "check_machine", "LONGEST_LOOP", "top_digit", "check_row", "size_of", "number_of", "row_of", "low_part", "last_difference", "Big", "check_big", "check_one", "check_two", "check_fit", "big_of", "are_compact", "order_of", "big", "GREATEST_SHIFT"]
def loose1 : List Str := ["shift_left", "shift_right", "shift_row_up", "shift_row_down", "check_shift", "check_row_shift", "shifted_left", "shifted_right", "count_right_steps", "lifted", "lowered", "add", "joined", "added", "taken", "_law_source_of", "_law_next", "_law_one", "_law_cell_at", "_law_machine", "_law_said", "_law_deep", "_law_numbers_right", "_law_rows_right"]
def loose : List Str := loose0 ++ loose1
abbrev R : PySem.W.OpenRow := PySem.W.OpenLaw.row PySem.Challenge.rw_thirtybits_k39_what_shifts_refuse
abbrev hk : PySem.W.Hook := hookL (addrs 0 1200) fa fn tfs exB
def ob (s : PySem.W.SharedT) : He.AlX := obsL (addrs 0 1200) fa fn tfs exB (HandSHeadRun.getT s)
theorem ob_eq (s : PySem.W.SharedT) : ob s = hk.obs s.abs := obsL_eq (HandSHeadRun.getT_eq s)
theorem run (w : World) : HandSHeadRun.RunEq R (PySem.W.view R.prog [62]) hk ob 12000 loose w := by
  intro os
  kernel_rfl
end P
set_option maxHeartbeats 200000
set_option Elab.async false
set_option linter.all false
set_option maxRecDepth 100000
/-! What a body does, by values: Holds (the frozen part, the changing things, by place), Env (the slots), XG, XE, XT, XA, XS. -/
namespace VL
open PySem L2

/-! ### the frozen part and the changing things -/
structure VA where
  P : Hp → V → Prop
  mono : ∀ {F F' : Hp} {v : V}, Same F F' → P F v → P F' v
structure OA where
  P : Hp → Hp → Prop
  mono : ∀ {F F' t : Hp}, Same F F' → P F t → P F' t

def Holds (F : Hp) (Ω : List OA) (H : Hp) : Prop :=
  ∃ ts : Nat → Hp, (∀ (i : Nat) (o : OA), Ω[i]? = some o → o.P F (ts i)) ∧ Same F H ∧ (∀ i : Nat, i < Ω.length → Same (ts i) H) ∧
    (∀ (i : Nat) (b : Addr) (o : HO), i < Ω.length → ts i b = some o → F b = none) ∧
    ∀ (i j : Nat) (b : Addr) (o : HO), i < Ω.length → j < Ω.length → i ≠ j → ts i b = some o → ts j b = none

theorem getlt {α : Type} {l : List α} {i : Nat} {a : α} (h : l[i]? = some a) : i < l.length := (List.getElem?_eq_some_iff.mp h).1
theorem nn {F : Hp} {b : Addr} {o : HO} (h : F b = some o) (h' : F b = none) : False := by rw [h] at h'; cases h'
theorem same_upd {H : Hp} {p : Addr} {o : HO} (h : H p = none) : Same H (upd H p o) := fun b x e => by
  rw [upd_ne (ne_of_none e h)]; exact e

section
variable {F F' H H' : Hp} {Ω : List OA} {o o' : OA} {i j : Nat} {a p : Addr} {u u' : HO}
theorem Holds.same (h : Holds F Ω H) : Same F H := let ⟨_, _, q, _⟩ := h; q
theorem Holds.nil (h : Same F H) : Holds F [] H := ⟨fun _ _ => none, fun i o q => by simp at q, h, fun i q => absurd q (Nat.not_lt_zero _), fun i _ _ q => absurd q (Nat.not_lt_zero _), fun i _ _ _ q => absurd q (Nat.not_lt_zero _)⟩
theorem Holds.grow (h : Holds F Ω H) (e : Same H H') : Holds F Ω H' := by
  obtain ⟨ts, h1, h2, h3, h4, h5⟩ := h
  exact ⟨ts, h1, h2.trans e, fun i q => (h3 i q).trans e, h4, h5⟩
/-- a new frozen object -/
theorem Holds.newF (h : Holds F Ω H) (n : H p = none) : Holds (upd F p u) Ω (upd H p u) ∧ Same F (upd F p u) := by
  obtain ⟨ts, h1, h2, h3, h4, h5⟩ := h
  have nF : F p = none := h2.free n
  have sF : Same F (upd F p u) := same_upd nF
  have nt : ∀ i, i < Ω.length → ts i p = none := fun i q => (h3 i q).free n
  refine ⟨⟨ts, fun i o q => o.mono sF (h1 i o q), fun b x e => ?_, fun i q => (h3 i q).trans (same_upd n), fun i b x q e => ?_, h5⟩, sF⟩
  · by_cases hb : b = p
    · subst hb; rw [upd_same] at e ⊢; exact e
    · rw [upd_ne hb] at e ⊢; exact h2 b x e
  · have hb : b ≠ p := fun z => by subst z; exact nn e (nt i q)
    rw [upd_ne hb]; exact h4 i b x q e
theorem app_at {α : Type} {l : List α} {a : α} : (l ++ [a])[l.length]? = some a := by simp
theorem app_lt {α : Type} {l : List α} {a b : α} {i : Nat} (h : l[i]? = some b) : (l ++ [a])[i]? = some b := by
  rw [List.getElem?_append_left (getlt h)]; exact h
/-- a new changing thing, behind the others -/
theorem Holds.newO {t : Hp} (h : Holds F Ω H) (n : ∀ b x, t b = some x → H b = none) (e : Same H H') (et : Same t H') (ok : o.P F t) : Holds F (Ω ++ [o]) H' := by
  obtain ⟨ts, h1, h2, h3, h4, h5⟩ := h
  have len : (Ω ++ [o]).length = Ω.length + 1 := by simp
  refine ⟨fun k => if k = Ω.length then t else ts k, fun i x q => ?_, h2.trans e, fun i q => ?_, fun i b x q r => ?_, fun i j b x qi qj ne r => ?_⟩
  · show x.P F (if i = Ω.length then t else ts i)
    by_cases hi : i = Ω.length
    · subst hi; rw [app_at] at q; cases q; rw [if_pos rfl]; exact ok
    · rw [if_neg hi]
      have lt : i < Ω.length := by have := getlt q; omega
      rw [List.getElem?_append_left lt] at q
      exact h1 i x q
  · show Same (if i = Ω.length then t else ts i) H'
    by_cases hi : i = Ω.length
    · rw [if_pos hi]; exact et
    · rw [if_neg hi]; exact (h3 i (by omega)).trans e
  · have r : (if i = Ω.length then t else ts i) b = some x := r
    by_cases hi : i = Ω.length
    · rw [if_pos hi] at r; exact h2.free (n b x r)
    · rw [if_neg hi] at r; exact h4 i b x (by omega) r
  · have r : (if i = Ω.length then t else ts i) b = some x := r
    show (if j = Ω.length then t else ts j) b = none
    by_cases hi : i = Ω.length
    · rw [if_pos hi] at r
      rw [if_neg (fun z => ne (hi.trans z.symm))]
      exact (h3 j (by omega)).free (n b x r)
    · rw [if_neg hi] at r
      by_cases hj : j = Ω.length
      · rw [if_pos hj]
        cases q : t b with
        | none => rfl
        | some y => exact (nn (h3 i (by omega) b x r) (n b y q)).elim
      · rw [if_neg hj]; exact h5 i j b x (by omega) (by omega) ne r
theorem sng_some {b : Addr} {x : HO} (e : upd (fun _ => none) p u b = some x) : b = p := by
  by_cases h : b = p
  · exact h
  · rw [upd_ne h] at e; cases e
theorem Holds.newL (h : Holds F Ω H) (n : H p = none) (ok : o.P F (upd (fun _ => none) p u)) : Holds F (Ω ++ [o]) (upd H p u) :=
  h.newO (t := upd (fun _ => none) p u) (fun b x e => by rw [sng_some e]; exact n) (same_upd n) (fun b x e => by
    have hb := sng_some e
    subst hb; rw [upd_same] at e ⊢; exact e) ok
/-- the thing at i: its part of the heap; it may be changed there -/
theorem Holds.get (h : Holds F Ω H) (q : Ω[i]? = some o) : ∃ t, o.P F t ∧ Same t H ∧ (∀ b x, t b = some x → F b = none) ∧
    ∀ (o' : OA) (a : Addr) (u u' : HO), t a = some u → o'.P F (upd t a u') → Holds F (Ω.set i o') (upd H a u') := by
  obtain ⟨ts, h1, h2, h3, h4, h5⟩ := h
  have lt := getlt q
  refine ⟨ts i, h1 i o q, h3 i lt, fun b x e => h4 i b x lt e, fun o' a u u' ha ok => ?_⟩
  have nF : F a = none := h4 i a u lt ha
  have tj : ∀ j, j < Ω.length → j ≠ i → ts j a = none := fun j lj ne => h5 i j a u lt lj (fun z => ne z.symm) ha
  refine ⟨fun k => if k = i then upd (ts i) a u' else ts k, fun k x r => ?_, fun b x e => ?_, fun k lk b x e => ?_, fun k b x lk e => ?_, fun k m b x lk lm ne e => ?_⟩
  · show x.P F (if k = i then _ else ts k)
    by_cases hk : k = i
    · subst hk
      rw [List.getElem?_set_self lt] at r; cases r; rw [if_pos rfl]; exact ok
    · rw [if_neg hk]
      rw [List.getElem?_set_ne (fun z => hk z.symm)] at r
      exact h1 k x r
  · rw [upd_ne (ne_of_none e nF)]; exact h2 b x e
  · rw [List.length_set] at lk
    have e : (if k = i then upd (ts i) a u' else ts k) b = some x := e
    by_cases hk : k = i
    · rw [if_pos hk] at e
      by_cases hb : b = a
      · subst hb; rw [upd_same] at e ⊢; exact e
      · rw [upd_ne hb] at e ⊢; exact h3 i lt b x e
    · rw [if_neg hk] at e
      rw [upd_ne (ne_of_none e (tj k lk hk))]; exact h3 k lk b x e
  · rw [List.length_set] at lk
    have e : (if k = i then upd (ts i) a u' else ts k) b = some x := e
    by_cases hk : k = i
    · rw [if_pos hk] at e
      by_cases hb : b = a
      · subst hb; exact nF
      · rw [upd_ne hb] at e; exact h4 i b x lt e
    · rw [if_neg hk] at e; exact h4 k b x lk e
  · rw [List.length_set] at lk lm
    have e : (if k = i then upd (ts i) a u' else ts k) b = some x := e
    show (if m = i then upd (ts i) a u' else ts m) b = none
    by_cases hk : k = i
    · rw [if_pos hk] at e
      have hm : m ≠ i := fun z => ne (hk.trans z.symm)
      rw [if_neg hm]
      by_cases hb : b = a
      · subst hb; exact tj m lm hm
      · rw [upd_ne hb] at e; exact h5 i m b x lt lm (fun z => hm z.symm) e
    · rw [if_neg hk] at e
      by_cases hm : m = i
      · rw [if_pos hm]
        have hb : b ≠ a := ne_of_none e (tj k lk hk)
        rw [upd_ne hb]; exact h5 k i b x lk lt hk e
      · rw [if_neg hm]; exact h5 k m b x lk lm ne e
/-- the last thing is left -/
theorem Holds.drop (h : Holds F (Ω ++ [o]) H) : Holds F Ω H := by
  obtain ⟨ts, h1, h2, h3, h4, h5⟩ := h
  have len : (Ω ++ [o]).length = Ω.length + 1 := by simp
  exact ⟨ts, fun i x q => h1 i x (app_lt q), h2, fun i q => h3 i (by omega), fun i b x q => h4 i b x (by omega), fun i j b x qi qj => h5 i j b x (by omega) (by omega)⟩
/-- two maps with nothing in common -/
def cup (F t : Hp) : Hp := fun b => match F b with | some o => some o | none => t b
theorem cup_l {F t : Hp} : Same F (cup F t) := fun b x e => by show (match F b with | some o => some o | none => t b) = _; rw [e]
theorem cup_r {F t : Hp} (d : ∀ b x, t b = some x → F b = none) : Same t (cup F t) := fun b x e => by show (match F b with | some o => some o | none => t b) = _; rw [d b x e]; exact e
theorem cup_or {F t : Hp} {b : Addr} {x : HO} (e : cup F t b = some x) : F b = some x ∨ t b = some x := by
  have e : (match F b with | some o => some o | none => t b) = some x := e
  cases h : F b with
  | none => rw [h] at e; exact .inr e
  | some y => rw [h] at e; exact .inl e
/-- the last thing becomes frozen -/
theorem Holds.freeze (h : Holds F (Ω ++ [o]) H) : ∃ F' t, Same F F' ∧ Same t F' ∧ o.P F t ∧ Holds F' Ω H := by
  obtain ⟨ts, h1, h2, h3, h4, h5⟩ := h
  have len : (Ω ++ [o]).length = Ω.length + 1 := by simp
  have d : ∀ b x, ts Ω.length b = some x → F b = none := fun b x e => h4 Ω.length b x (by omega) e
  refine ⟨cup F (ts Ω.length), ts Ω.length, cup_l, cup_r d, h1 _ _ app_at, ts, fun i x q => x.mono cup_l (h1 i x (app_lt q)), fun b x e => ?_, fun i q => h3 i (by omega), fun i b x q e => ?_, fun i j b x qi qj => h5 i j b x (by omega) (by omega)⟩
  · rcases cup_or e with e | e
    · exact h2 b x e
    · exact h3 Ω.length (by omega) b x e
  · cases z : cup F (ts Ω.length) b with
    | none => rfl
    | some y =>
      rcases cup_or z with z | z
      · exact (nn z (h4 i b x (by omega) e)).elim
      · exact (nn z (h5 i Ω.length b x (by omega) (by omega) (by omega) e)).elim
/-- the last thing is taken into the thing at i -/
theorem Holds.merge {o2 : OA} (h : Holds F (Ω ++ [o2]) H) (q : Ω[i]? = some o) : ∃ t t2, o.P F t ∧ o2.P F t2 ∧ Same t H ∧ Same t2 H ∧ (∀ b x, t b = some x → t2 b = none) ∧
    (∀ o' : OA, o'.P F (cup t t2) → Holds F (Ω.set i o') H) := by
  obtain ⟨ts, h1, h2, h3, h4, h5⟩ := h
  have len : (Ω ++ [o2]).length = Ω.length + 1 := by simp
  have lt := getlt q
  refine ⟨ts i, ts Ω.length, h1 i o (app_lt q), h1 _ _ app_at, h3 i (by omega), h3 _ (by omega), fun b x e => h5 i Ω.length b x (by omega) (by omega) (by omega) e, fun o' ok => ?_⟩
  refine ⟨fun k => if k = i then cup (ts i) (ts Ω.length) else ts k, fun k x r => ?_, h2, fun k lk b x e => ?_, fun k b x lk e => ?_, fun k m b x lk lm ne e => ?_⟩
  · show x.P F (if k = i then _ else ts k)
    by_cases hk : k = i
    · subst hk
      rw [List.getElem?_set_self lt] at r; cases r; rw [if_pos rfl]; exact ok
    · rw [if_neg hk]
      rw [List.getElem?_set_ne (fun z => hk z.symm)] at r
      exact h1 k x (app_lt r)
  · rw [List.length_set] at lk
    have e : (if k = i then cup (ts i) (ts Ω.length) else ts k) b = some x := e
    by_cases hk : k = i
    · rw [if_pos hk] at e
      rcases cup_or e with e | e
      · exact h3 i (by omega) b x e
      · exact h3 Ω.length (by omega) b x e
    · rw [if_neg hk] at e; exact h3 k (by omega) b x e
  · rw [List.length_set] at lk
    have e : (if k = i then cup (ts i) (ts Ω.length) else ts k) b = some x := e
    by_cases hk : k = i
    · rw [if_pos hk] at e
      rcases cup_or e with e | e
      · exact h4 i b x (by omega) e
      · exact h4 Ω.length b x (by omega) e
    · rw [if_neg hk] at e; exact h4 k b x (by omega) e
  · rw [List.length_set] at lk lm
    have e : (if k = i then cup (ts i) (ts Ω.length) else ts k) b = some x := e
    show (if m = i then cup (ts i) (ts Ω.length) else ts m) b = none
    by_cases hk : k = i
    · rw [if_pos hk] at e
      have hm : m ≠ i := fun z => ne (hk.trans z.symm)
      rw [if_neg hm]
      rcases cup_or e with e | e
      · exact h5 i m b x (by omega) (by omega) (by omega) e
      · exact h5 Ω.length m b x (by omega) (by omega) (by omega) e
    · rw [if_neg hk] at e
      by_cases hm : m = i
      · rw [if_pos hm]
        cases z : cup (ts i) (ts Ω.length) b with
        | none => rfl
        | some y =>
          rcases cup_or z with z | z
          · exact (nn z (h5 k i b x (by omega) (by omega) hk e)).elim
          · exact (nn z (h5 k Ω.length b x (by omega) (by omega) (by omega) e)).elim
      · rw [if_neg hm]; exact h5 k m b x (by omega) (by omega) ne e
end

/-! ### values by what they stand for -/
structure TC where
  K : PySem.W.Frag
  C : Nat → Addr
class Rp (α : Type) where
  rep : TC → Hp → V → α → Prop
  mono : ∀ {T : TC} {F F' : Hp} {v : V} {a : α}, Same F F' → rep T F v a → rep T F' v a
def va (T : TC) {α : Type} [Rp α] (a : α) : VA := ⟨fun F v => Rp.rep T F v a, Rp.mono⟩
def vr (p : Addr) : VA := ⟨fun _ v => v = .ref p, fun _ h => h⟩
def vx (v0 : V) : VA := ⟨fun _ v => v = v0, fun _ h => h⟩
instance : Rp Int := ⟨fun _ _ v n => v = .int n, fun _ h => h⟩
instance : Rp Bool := ⟨fun _ _ v n => v = .bl n, fun _ h => h⟩
instance : Rp Str := ⟨fun _ _ v n => v = .str n, fun _ h => h⟩
instance : Rp Unit := ⟨fun _ _ v _ => v = .non, fun _ h => h⟩
/-- a list that stays, a tuple of one kind, a pair, a triple -/
structure LF (α : Type) where
  l : List α
structure TF (α : Type) where
  l : List α
/-- the script -/
structure SF (α : Type) where
  l : List α
structure T3 (α β γ : Type) where
  a : α
  b : β
  c : γ
def Al {α : Type} [Rp α] (T : TC) (F : Hp) (vs : List V) (l : List α) : Prop := Paired (fun v a => Rp.rep T F v a) vs l
theorem Al.mono {α : Type} [Rp α] {T : TC} {F F' : Hp} (e : Same F F') : ∀ {vs : List V} {l : List α}, Al T F vs l → Al T F' vs l
  | _, _, .nil => .nil
  | _, _, .cons h t => .cons (Rp.mono e h) (Al.mono e t)
theorem Same.tup {K : PySem.W.Frag} {H H' : Hp} {a : Addr} {xs : List V} (e : Same H H') (h : SqT K H a xs) : SqT K H' a xs := by
  rcases h with (h | ⟨o, h⟩) | h
  · exact .inl (.inl (e _ _ h))
  · exact .inl (.inr ⟨o, e _ _ h⟩)
  · exact .inr h
instance {α : Type} [Rp α] : Rp (LF α) := ⟨fun T F v l => ∃ p vs, v = .ref p ∧ F p = some (.lst vs) ∧ Al T F vs l.l, fun e ⟨p, vs, h1, h2, h3⟩ => ⟨p, vs, h1, e _ _ h2, h3.mono e⟩⟩
instance {α : Type} [Rp α] : Rp (SF α) := ⟨fun T F v l => ∃ p vs, v = .ref p ∧ SqL T.K F p vs ∧ Al T F vs l.l, fun e ⟨p, vs, h1, h2, h3⟩ => ⟨p, vs, h1, e.seq h2, h3.mono e⟩⟩
instance {α : Type} [Rp α] : Rp (TF α) := ⟨fun T F v l => ∃ p vs, v = .ref p ∧ SqT T.K F p vs ∧ Al T F vs l.l, fun e ⟨p, vs, h1, h2, h3⟩ => ⟨p, vs, h1, Same.tup e h2, h3.mono e⟩⟩
instance {α β : Type} [Rp α] [Rp β] : Rp (α × β) := ⟨fun T F v l => ∃ p x y, v = .ref p ∧ SqT T.K F p [x, y] ∧ Rp.rep T F x l.1 ∧ Rp.rep T F y l.2, fun e ⟨p, x, y, h1, h2, h3, h4⟩ => ⟨p, x, y, h1, Same.tup e h2, Rp.mono e h3, Rp.mono e h4⟩⟩
instance {α β γ : Type} [Rp α] [Rp β] [Rp γ] : Rp (T3 α β γ) := ⟨fun T F v l => ∃ p x y z, v = .ref p ∧ SqT T.K F p [x, y, z] ∧ Rp.rep T F x l.a ∧ Rp.rep T F y l.b ∧ Rp.rep T F z l.c, fun e ⟨p, x, y, z, h1, h2, h3, h4, h5⟩ => ⟨p, x, y, z, h1, Same.tup e h2, Rp.mono e h3, Rp.mono e h4, Rp.mono e h5⟩⟩
theorem al_of_int {T : TC} {F : Hp} : ∀ {l : List Int}, Al T F (l.map V.int) l
  | [] => .nil
  | x :: r => .cons (show V.int x = V.int x from rfl) al_of_int
theorem al_len {α : Type} [Rp α] {T : TC} {F : Hp} : ∀ {vs : List V} {l : List α}, Al T F vs l → vs.length = l.length
  | _, _, .nil => rfl
  | _, _, .cons _ t => congrArg (· + 1) (al_len t)
theorem al_get {α : Type} [Rp α] {T : TC} {F : Hp} : ∀ {vs : List V} {l : List α} {i : Nat} {a : α}, Al T F vs l → l[i]? = some a → ∃ v, vs[i]? = some v ∧ Rp.rep T F v a
  | _, _, _, _, .nil, e => by simp at e
  | _, _, 0, _, .cons h _, e => by cases e; exact ⟨_, rfl, h⟩
  | _, _, i + 1, _, .cons _ t, e => al_get (i := i) t e
theorem al_set {α : Type} [Rp α] {T : TC} {F : Hp} {v : V} {a : α} (h : Rp.rep T F v a) : ∀ {vs : List V} {l : List α} (i : Nat), Al T F vs l → Al T F (vs.set i v) (l.set i a)
  | _, _, _, .nil => .nil
  | _, _, 0, .cons _ t => .cons h t
  | _, _, i + 1, .cons q t => .cons q (al_set h i t)
theorem al_app {α : Type} [Rp α] {T : TC} {F : Hp} : ∀ {vs ws : List V} {l m : List α}, Al T F vs l → Al T F ws m → Al T F (vs ++ ws) (l ++ m)
  | _, _, _, _, .nil, h => h
  | _, _, _, _, .cons q t, h => .cons q (al_app t h)
theorem al_take {α : Type} [Rp α] {T : TC} {F : Hp} : ∀ {vs : List V} {l : List α} (n : Nat), Al T F vs l → Al T F (vs.take n) (l.take n)
  | _, _, 0, _ => .nil
  | _, _, _ + 1, .nil => .nil
  | _, _, n + 1, .cons q t => .cons q (al_take n t)
theorem al_drop {α : Type} [Rp α] {T : TC} {F : Hp} : ∀ {vs : List V} {l : List α} (n : Nat), Al T F vs l → Al T F (vs.drop n) (l.drop n)
  | _, _, 0, h => h
  | _, _, _ + 1, .nil => .nil
  | _, _, n + 1, .cons _ t => al_drop n t
/-- a list that changes -/
def lstA (T : TC) {α : Type} [Rp α] (p : Addr) (l : List α) : OA := ⟨fun F t => ∃ vs, t p = some (.lst vs) ∧ Al T F vs l, fun e ⟨vs, h1, h2⟩ => ⟨vs, h1, h2.mono e⟩⟩

/-! ### slots -/
def Env (F : Hp) (σ : St) (Γ : List (Option VA)) : Prop := σ.length = Γ.length ∧ ∀ (i : Nat) (A : VA), Γ[i]? = some (some A) → ∃ v, σ[i]? = some (some v) ∧ A.P F v
theorem Env.mono {F F' : Hp} {σ : St} {Γ : List (Option VA)} (h : Env F σ Γ) (e : Same F F') : Env F' σ Γ := ⟨h.1, fun i A q => let ⟨v, h1, h2⟩ := h.2 i A q; ⟨v, h1, A.mono e h2⟩⟩
theorem Env.set {F : Hp} {σ : St} {Γ : List (Option VA)} {i : Nat} {v : V} {A : VA} (h : Env F σ Γ) (a : A.P F v) : Env F (σ.set i (some v)) (Γ.set i (some A)) := by
  refine ⟨by rw [List.length_set, List.length_set]; exact h.1, fun k B q => ?_⟩
  by_cases hk : i = k
  · subst hk
    have lt : i < Γ.length := by have := getlt q; rwa [List.length_set] at this
    rw [List.getElem?_set_self lt] at q
    cases q
    exact ⟨v, by rw [List.getElem?_set_self (by rw [h.1]; exact lt)], a⟩
  · rw [List.getElem?_set_ne hk] at q
    obtain ⟨w, h1, h2⟩ := h.2 k B q
    exact ⟨w, by rw [List.getElem?_set_ne hk]; exact h1, h2⟩
/-- what is known of slots is left -/
theorem Env.weak {F : Hp} {σ : St} {Γ Γ' : List (Option VA)} (h : Env F σ Γ) (hl : Γ'.length = Γ.length) (k : ∀ (i : Nat) A, Γ'[i]? = some (some A) → Γ[i]? = some (some A)) : Env F σ Γ' := ⟨h.1.trans hl.symm, fun i A q => h.2 i A (k i A q)⟩

/-! ### expressions -/
def XG (te : TE) (Γ : List (Option VA)) (Ω : List OA) (R : Hp → V → List OA → Prop) : Prop :=
  ∀ F σ H, Env F σ Γ → Holds F Ω H → ∀ Q : VK, (∀ F' v H' Ω', Same F F' → Holds F' Ω' H' → R F' v Ω' → Q v H') → te σ H Q
abbrev XE (te : TE) (Γ : List (Option VA)) (Ω : List OA) (A : VA) (Ω2 : List OA) : Prop := XG te Γ Ω fun F v Ω' => A.P F v ∧ Ω' = Ω2
def XT (t : TT) (Γ : List (Option VA)) (Ω : List OA) (b : Bool) (Ω2 : List OA) : Prop :=
  ∀ F σ H, Env F σ Γ → Holds F Ω H → ∀ Q : Bool → Hp → Prop, (∀ F' H', Same F F' → Holds F' Ω2 H' → Q b H') → t σ H Q
def AlA (F : Hp) (vs : List V) (As : List VA) : Prop := Paired (fun v (A : VA) => A.P F v) vs As
theorem AlA.mono {F F' : Hp} (e : Same F F') : ∀ {vs : List V} {As : List VA}, AlA F vs As → AlA F' vs As
  | _, _, .nil => .nil
  | _, _, .cons (b := A) h t => .cons (A.mono e h) (AlA.mono e t)
theorem AlA.len {F : Hp} : ∀ {vs : List V} {As : List VA}, AlA F vs As → vs.length = As.length
  | _, _, .nil => rfl
  | _, _, .cons _ t => congrArg (· + 1) (AlA.len t)
theorem AlA.app {F : Hp} : ∀ {vs ws : List V} {As Bs : List VA}, AlA F vs As → AlA F ws Bs → AlA F (vs ++ ws) (As ++ Bs)
  | _, _, _, _, .nil, h => h
  | _, _, _, _, .cons q t, h => .cons q (AlA.app t h)
def XA (t : TA) (Γ : List (Option VA)) (Ω : List OA) (As : List VA) (Ω2 : List OA) : Prop :=
  ∀ F σ H, Env F σ Γ → Holds F Ω H → ∀ Q : List V → Hp → Prop, (∀ F' vs H', Same F F' → Holds F' Ω2 H' → AlA F' vs As → Q vs H') → t σ H Q
/-- a one-place, two-place operation on values, a call on values -/
def RO (r : R2) (Ω : List OA) (A B C : VA) : Prop := ∀ F H x y, Holds F Ω H → A.P F x → B.P F y → ∀ Q : VK, (∀ F' v H', Same F F' → Holds F' Ω H' → C.P F' v → Q v H') → r x y H Q
def RU (r : V → Hp → VK → Prop) (Ω : List OA) (A C : VA) : Prop := ∀ F H x, Holds F Ω H → A.P F x → ∀ Q : VK, (∀ F' v H', Same F F' → Holds F' Ω H' → C.P F' v → Q v H') → r x H Q
def RC (r : List V → Hp → VK → Prop) (Ω : List OA) (As : List VA) (C : VA) : Prop := ∀ F H vs, Holds F Ω H → AlA F vs As → ∀ Q : VK, (∀ F' v H', Same F F' → Holds F' Ω H' → C.P F' v → Q v H') → r vs H Q

section
variable {T : TC} {Γ : List (Option VA)} {Ω Ω1 Ω2 : List OA} {A B C : VA} {ta tb te : TE} {t u : TT} {i j n m : Int} {b c : Bool}
theorem xe_var {i : Nat} (h : Γ[i]? = some (some A)) : XE (tVar i) Γ Ω A Ω := fun F σ H e hh Q q => by
  obtain ⟨v, h1, h2⟩ := e.2 i A h
  exact ⟨v, h1, q F v H Ω (Same.refl F) hh ⟨h2, rfl⟩⟩
theorem xe_c {v : V} (h : ∀ F, A.P F v) : XE (tC v) Γ Ω A Ω := fun F σ H e hh Q q => q F v H Ω (Same.refl F) hh ⟨h F, rfl⟩
theorem xe_int : XE (tC (.int n)) Γ Ω (va T n) Ω := xe_c fun _ => rfl
theorem xe_bl : XE (tC (.bl b)) Γ Ω (va T b) Ω := xe_c fun _ => rfl
theorem xe_str {s : Str} : XE (tC (.str s)) Γ Ω (va T s) Ω := xe_c fun _ => rfl
theorem xe_non : XE (tC .non) Γ Ω (va T ()) Ω := xe_c fun _ => rfl
theorem xe_op {r : R2} (ha : XE ta Γ Ω A Ω1) (hb : XE tb Γ Ω1 B Ω2) (hr : RO r Ω2 A B C) : XE (tOp r ta tb) Γ Ω C Ω2 := fun F σ H e hh Q q => by
  refine ha F σ H e hh _ fun F1 x H1 Ω' e1 hh1 ⟨a1, o1⟩ => ?_
  subst o1
  refine hb F1 σ H1 (e.mono e1) hh1 _ fun F2 y H2 Ω'' e2 hh2 ⟨a2, o2⟩ => ?_
  subst o2
  exact hr F2 H2 x y hh2 (A.mono e2 a1) a2 Q fun F3 v H3 e3 hh3 a3 => q F3 v H3 _ ((e1.trans e2).trans e3) hh3 ⟨a3, rfl⟩
theorem xe_un {r : V → Hp → VK → Prop} (ha : XE ta Γ Ω A Ω1) (hr : RU r Ω1 A C) : XE (tUn r ta) Γ Ω C Ω1 := fun F σ H e hh Q q => by
  refine ha F σ H e hh _ fun F1 x H1 Ω' e1 hh1 ⟨a1, o1⟩ => ?_
  subst o1
  exact hr F1 H1 x hh1 a1 Q fun F3 v H3 e3 hh3 a3 => q F3 v H3 _ (e1.trans e3) hh3 ⟨a3, rfl⟩
theorem xa_nil : XA tNil Γ Ω [] Ω := fun F σ H e hh Q q => q F [] H (Same.refl F) hh .nil
theorem xa_cons {tr : TA} {As : List VA} (ha : XE ta Γ Ω A Ω1) (hr : XA tr Γ Ω1 As Ω2) : XA (tCons ta tr) Γ Ω (A :: As) Ω2 := fun F σ H e hh Q q => by
  refine ha F σ H e hh _ fun F1 x H1 Ω' e1 hh1 ⟨a1, o1⟩ => ?_
  subst o1
  refine hr F1 σ H1 (e.mono e1) hh1 _ fun F2 xs H2 e2 hh2 a2 => ?_
  exact q F2 (x :: xs) H2 (e1.trans e2) hh2 (.cons (A.mono e2 a1) a2)
theorem xe_cb {r : List V → Hp → VK → Prop} {t : TA} {As : List VA} (ha : XA t Γ Ω As Ω1) (hr : RC r Ω1 As C) : XE (tCB r t) Γ Ω C Ω1 := fun F σ H e hh Q q => by
  refine ha F σ H e hh _ fun F1 xs H1 e1 hh1 a1 => ?_
  exact hr F1 H1 xs hh1 a1 Q fun F3 v H3 e3 hh3 a3 => q F3 v H3 _ (e1.trans e3) hh3 ⟨a3, rfl⟩
/-- the same with another word for it -/
theorem XG.imp {R R' : Hp → V → List OA → Prop} (h : XG te Γ Ω R) (k : ∀ F v Ω', R F v Ω' → R' F v Ω') : XG te Γ Ω R' := fun F σ H e hh Q q => h F σ H e hh Q fun F' v H' Ω' e' hh' r => q F' v H' Ω' e' hh' (k _ _ _ r)
theorem XE.to (h : XE te Γ Ω A Ω1) (k : ∀ F v, A.P F v → B.P F v) : XE te Γ Ω B Ω1 := h.imp fun F v Ω' ⟨a, o⟩ => ⟨k F v a, o⟩
theorem xe_eq {α : Type} [Rp α] {a a' : α} (h : XE te Γ Ω (va T a) Ω1) (e : a = a') : XE te Γ Ω (va T a') Ω1 := e ▸ h

/-! ints -/
theorem ro_I0 {g : Int → Int → V} (h : ∀ F, C.P F (g i j)) : RO (rI0 g) Ω (va T i) (va T j) C := fun F H x y hh a1 a2 Q q => ⟨i, j, a1, a2, q F _ H (Same.refl F) hh (h F)⟩
theorem ro_I {D : Int → Int → Prop} {g : Int → Int → V} (hd : D i j) (h : ∀ F, C.P F (g i j)) : RO (rI D g) Ω (va T i) (va T j) C := fun F H x y hh a1 a2 Q q => ⟨i, j, a1, a2, hd, q F _ H (Same.refl F) hh (h F)⟩
theorem ro_int {g : Int → Int → Int} : RO (rI0 fun i j => .int (g i j)) Ω (va T i) (va T j) (va T (g i j)) := ro_I0 fun _ => rfl
theorem ro_intD {D : Int → Int → Prop} {g : Int → Int → Int} (hd : D i j) : RO (rI D fun i j => .int (g i j)) Ω (va T i) (va T j) (va T (g i j)) := ro_I hd fun _ => rfl
theorem ro_bl {g : Int → Int → Bool} : RO (rI0 fun i j => .bl (g i j)) Ω (va T i) (va T j) (va T (g i j)) := ro_I0 fun _ => rfl
theorem ru_int {g : Int → Int} : RU (rU fun i => .int (g i)) Ω (va T i) (va T (g i)) := fun F H x hh a1 Q q => ⟨i, a1, q F _ H (Same.refl F) hh rfl⟩
theorem ro_eqI : RO rEq Ω (va T i) (va T j) (va T (decide (i = j))) := fun F H x y hh a1 a2 Q q => by
  have a1 : x = .int i := a1
  have a2 : y = .int j := a2
  subst a1 a2
  refine ⟨rfl, q F _ H (Same.refl F) hh ?_⟩
  show V.bl _ = V.bl _
  congr 1
  exact decide_eq_decide.mpr ⟨V.int.inj, fun h => by rw [h]⟩
theorem ro_neI : RO rNe Ω (va T i) (va T j) (va T (!decide (i = j))) := fun F H x y hh a1 a2 Q q => by
  have a1 : x = .int i := a1
  have a2 : y = .int j := a2
  subst a1 a2
  refine ⟨rfl, q F _ H (Same.refl F) hh ?_⟩
  show V.bl _ = V.bl _
  congr 2
  exact decide_eq_decide.mpr ⟨V.int.inj, fun h => by rw [h]⟩
theorem ro_eqB : RO rEq Ω (va T b) (va T c) (va T (decide (b = c))) := fun F H x y hh a1 a2 Q q => by
  have a1 : x = .bl b := a1
  have a2 : y = .bl c := a2
  subst a1 a2
  refine ⟨rfl, q F _ H (Same.refl F) hh ?_⟩
  show V.bl _ = V.bl _
  congr 1
  exact decide_eq_decide.mpr ⟨V.bl.inj, fun h => by rw [h]⟩
/-! tests -/
theorem xt_test (h : XE te Γ Ω (va T b) Ω1) : XT (tTest te) Γ Ω b Ω1 := fun F σ H e hh Q q => by
  refine h F σ H e hh _ fun F1 x H1 Ω' e1 hh1 ⟨a1, o1⟩ => ?_
  subst o1
  exact ⟨b, a1, q F1 H1 e1 hh1⟩
theorem xt_tB (h : XE te Γ Ω (va T b) Ω1) : XT (tB te) Γ Ω b Ω1 := xt_test (T := T) h
theorem xt_and (h1 : XT t Γ Ω b Ω1) (h2 : b = true → XT u Γ Ω1 c Ω2) (h3 : b = false → Ω1 = Ω2) : XT (tAnd t u) Γ Ω (b && c) Ω2 := fun F σ H e hh Q q => by
  refine h1 F σ H e hh _ fun F1 H1 e1 hh1 => ?_
  cases b with
  | true => rw [if_pos rfl]; exact h2 rfl F1 σ H1 (e.mono e1) hh1 Q fun F2 H2 e2 hh2 => q F2 H2 (e1.trans e2) hh2
  | false => rw [if_neg Bool.false_ne_true]; exact q F1 H1 e1 (h3 rfl ▸ hh1)
theorem xt_or (h1 : XT t Γ Ω b Ω1) (h2 : b = false → XT u Γ Ω1 c Ω2) (h3 : b = true → Ω1 = Ω2) : XT (tOr t u) Γ Ω (b || c) Ω2 := fun F σ H e hh Q q => by
  refine h1 F σ H e hh _ fun F1 H1 e1 hh1 => ?_
  cases b with
  | false => rw [if_neg Bool.false_ne_true]; exact h2 rfl F1 σ H1 (e.mono e1) hh1 Q fun F2 H2 e2 hh2 => q F2 H2 (e1.trans e2) hh2
  | true => rw [if_pos rfl]; exact q F1 H1 e1 (h3 rfl ▸ hh1)
theorem xt_not (h1 : XT t Γ Ω b Ω1) : XT (tNot t) Γ Ω (!b) Ω1 := fun F σ H e hh Q q => h1 F σ H e hh _ q
theorem xt_eq (h : XT t Γ Ω b Ω1) (e : b = c) : XT t Γ Ω c Ω1 := e ▸ h
theorem xe_if (h : XT t Γ Ω b Ω1) (h1 : b = true → XE ta Γ Ω1 A Ω2) (h2 : b = false → XE tb Γ Ω1 A Ω2) : XE (tIf t ta tb) Γ Ω A Ω2 := fun F σ H e hh Q q => by
  refine h F σ H e hh _ fun F1 H1 e1 hh1 => ?_
  cases b with
  | true => rw [if_pos rfl]; exact h1 rfl F1 σ H1 (e.mono e1) hh1 Q fun F2 v H2 Ω' e2 hh2 r => q F2 v H2 Ω' (e1.trans e2) hh2 r
  | false => rw [if_neg Bool.false_ne_true]; exact h2 rfl F1 σ H1 (e.mono e1) hh1 Q fun F2 v H2 Ω' e2 hh2 r => q F2 v H2 Ω' (e1.trans e2) hh2 r
theorem xe_andV (h1 : XE ta Γ Ω (va T b) Ω) (h2 : b = true → XE tb Γ Ω (va T c) Ω) : XE (tAndV ta tb) Γ Ω (va T (b && c)) Ω := fun F σ H e hh Q q => by
  refine h1 F σ H e hh _ fun F1 x H1 Ω' e1 hh1 ⟨a1, o1⟩ => ?_
  subst o1
  refine ⟨b, a1, ?_⟩
  cases b with
  | true => rw [if_pos rfl]; exact h2 rfl F1 σ H1 (e.mono e1) hh1 Q fun F2 v H2 Ω'' e2 hh2 r => q F2 v H2 Ω'' (e1.trans e2) hh2 r
  | false => rw [if_neg Bool.false_ne_true]; exact q F1 _ H1 _ e1 hh1 ⟨rfl, rfl⟩
theorem xe_notV (h1 : XE ta Γ Ω (va T b) Ω1) : XE (tNotV ta) Γ Ω (va T (!b)) Ω1 := fun F σ H e hh Q q => by
  refine h1 F σ H e hh _ fun F1 x H1 Ω' e1 hh1 ⟨a1, o1⟩ => ?_
  exact ⟨b, a1, q F1 _ H1 _ e1 hh1 ⟨rfl, o1⟩⟩
theorem xe_chain {r r' : R2} {D : VA} {tc : TE} (ha : XE ta Γ Ω A Ω) (hb : XE tb Γ Ω B Ω) (hr : RO r Ω A B (va T b)) (hc : b = true → XE tc Γ Ω D Ω) (hr' : b = true → RO r' Ω B D (va T c)) : XE (tChain r r' ta tb tc) Γ Ω (va T (b && c)) Ω := fun F σ H e hh Q q => by
  refine ha F σ H e hh _ fun F1 x H1 Ω' e1 hh1 ⟨a1, o1⟩ => ?_
  subst o1
  refine hb F1 σ H1 (e.mono e1) hh1 _ fun F2 y H2 Ω'' e2 hh2 ⟨a2, o2⟩ => ?_
  subst o2
  refine hr F2 H2 x y hh2 (A.mono e2 a1) a2 _ fun F3 v H3 e3 hh3 a3 => ⟨b, a3, ?_⟩
  cases b with
  | true =>
    rw [if_pos rfl]
    refine hc rfl F3 σ H3 (e.mono ((e1.trans e2).trans e3)) hh3 _ fun F4 z H4 Ω3 e4 hh4 ⟨a4, o4⟩ => ?_
    subst o4
    exact hr' rfl F4 H4 y z hh4 (B.mono (e3.trans e4) a2) a4 Q fun F5 w H5 e5 hh5 a5 => q F5 w H5 _ ((((e1.trans e2).trans e3).trans e4).trans e5) hh5 ⟨a5, rfl⟩
  | false => rw [if_neg Bool.false_ne_true]; exact q F3 _ H3 _ ((e1.trans e2).trans e3) hh3 ⟨rfl, rfl⟩
end
end VL

set_option Elab.async false
set_option linter.all false
set_option maxRecDepth 100000
/-! lists, fields, calls, statements -/
namespace VL
open PySem L2

/-! ### defs' promises -/
/-- a promise: of the arguments As in the state Ω, what comes of it -/
abbrev PreT := List VA → List OA → (Hp → V → List OA → Prop) → Prop
def mkSp (Pre : PreT) : Sp := fun vs H Q _ => ∃ F Ω As R, Pre As Ω R ∧ AlA F vs As ∧ Holds F Ω H ∧ ∀ F' v H' Ω', Same F F' → Holds F' Ω' H' → R F' v Ω' → Q v H'
/-- hands back a, leaves Ω2 -/
abbrev RV (A : VA) (Ω2 : List OA) : Hp → V → List OA → Prop := fun F v Ω' => A.P F v ∧ Ω' = Ω2
/-- hands back a new changing thing -/
abbrev RN (Ω2 : List OA) (o : Addr → OA) : Hp → V → List OA → Prop := fun F v Ω' => ∃ p, v = .ref p ∧ Ω' = Ω2 ++ [o p]

/-! ### the changing things by place: those of the caller at the places ks, then a def's own -/
def apk (Ω : List OA) : List (Nat × OA) → List OA
  | [] => Ω
  | p :: r => (apk Ω r).set p.1 p.2
def stt (Ω : List OA) (ks : List (Nat × OA)) (L : List OA) : List OA := apk Ω ks ++ L
theorem apk_len {Ω : List OA} : ∀ ks : List (Nat × OA), (apk Ω ks).length = Ω.length
  | [] => rfl
  | p :: r => by unfold apk; rw [List.length_set, apk_len r]
/-- the places differ and are there -/
structure Okk (Ω : List OA) (keys : List Nat) : Prop where
  nd : keys.Nodup
  lt : ∀ k ∈ keys, k < Ω.length
theorem apk_get {Ω : List OA} : ∀ {ks : List (Nat × OA)} {i : Nat} {k : Nat} {o : OA}, (ks.map (·.1)).Nodup → k < Ω.length → ks[i]? = some (k, o) → (apk Ω ks)[k]? = some o
  | [], _, _, _, _, _, h => by simp at h
  | p :: r, 0, k, o, _, lt, h => by
    cases h
    unfold apk
    rw [List.getElem?_set_self (by rw [apk_len]; exact lt)]
  | p :: r, i + 1, k, o, nd, lt, h => by
    have h : r[i]? = some (k, o) := h
    unfold apk
    obtain ⟨h1, h2⟩ := List.nodup_cons.mp (show (p.1 :: r.map (·.1)).Nodup from nd)
    have ne : p.1 ≠ k := fun e => h1 (List.mem_map.mpr ⟨(k, o), List.mem_of_getElem? h, e.symm⟩)
    rw [List.getElem?_set_ne ne]
    exact apk_get h2 lt h
theorem apk_set {Ω : List OA} : ∀ {ks : List (Nat × OA)} {i : Nat} {k : Nat} {o o' : OA}, (ks.map (·.1)).Nodup → ks[i]? = some (k, o) → (apk Ω ks).set k o' = apk Ω (ks.set i (k, o'))
  | [], _, _, _, _, _, h => by simp at h
  | p :: r, 0, k, o, o', _, h => by
    cases h
    show ((apk Ω r).set k o).set k o' = (apk Ω r).set k o'
    rw [List.set_set]
  | p :: r, i + 1, k, o, o', nd, h => by
    have h : r[i]? = some (k, o) := h
    obtain ⟨h1, h2⟩ := List.nodup_cons.mp (show (p.1 :: r.map (·.1)).Nodup from nd)
    have ne : p.1 ≠ k := fun e => h1 (List.mem_map.mpr ⟨(k, o), List.mem_of_getElem? h, e.symm⟩)
    show ((apk Ω r).set p.1 p.2).set k o' = (apk Ω (r.set i (k, o'))).set p.1 p.2
    rw [List.set_comm _ _ ne, apk_set h2 h]
theorem apk_self {Ω : List OA} : ∀ {ks : List (Nat × OA)}, (∀ p ∈ ks, Ω[p.1]? = some p.2) → apk Ω ks = Ω
  | [], _ => rfl
  | p :: r, h => by
    unfold apk
    rw [apk_self fun q hq => h q (List.mem_cons_of_mem _ hq)]
    apply List.ext_getElem?
    intro k
    have hp := h p List.mem_cons_self
    by_cases e : p.1 = k
    · subst e; rw [List.getElem?_set_self (getlt hp), hp]
    · rw [List.getElem?_set_ne e]
section
variable {Ω : List OA} {keys : List Nat} {ks : List (Nat × OA)} {L : List OA} {i j k : Nat} {o o' : OA}
theorem stt_get (ok : Okk Ω keys) (h : ks[i]? = some (k, o)) (hk : ks.map (·.1) = keys := by rfl) : (stt Ω ks L)[k]? = some o := by
  subst hk
  have hm : k ∈ ks.map (·.1) := List.mem_map.mpr ⟨(k, o), List.mem_of_getElem? h, rfl⟩
  have lt := ok.lt k hm
  unfold stt
  rw [List.getElem?_append_left (by rw [apk_len]; exact lt)]
  exact apk_get ok.nd lt h
theorem stt_set (ok : Okk Ω keys) (h : ks[i]? = some (k, o)) (hk : ks.map (·.1) = keys := by rfl) : (stt Ω ks L).set k o' = stt Ω (ks.set i (k, o')) L := by
  subst hk
  have hm : k ∈ ks.map (·.1) := List.mem_map.mpr ⟨(k, o), List.mem_of_getElem? h, rfl⟩
  have lt := ok.lt k hm
  unfold stt
  rw [List.set_append_left _ _ (by rw [apk_len]; exact lt), apk_set ok.nd h]
theorem stt_getL (h : L[j]? = some o) : (stt Ω ks L)[Ω.length + j]? = some o := by
  unfold stt
  rw [List.getElem?_append_right (by rw [apk_len]; omega), apk_len, Nat.add_sub_cancel_left]
  exact h
theorem stt_setL : (stt Ω ks L).set (Ω.length + j) o' = stt Ω ks (L.set j o') := by
  unfold stt
  rw [List.set_append_right _ _ (by rw [apk_len]; omega), apk_len, Nat.add_sub_cancel_left]
theorem stt_app : stt Ω ks L ++ [o] = stt Ω ks (L ++ [o]) := List.append_assoc _ _ _
theorem stt_self (h : ∀ p ∈ ks, Ω[p.1]? = some p.2) : stt Ω ks [] = Ω := by
  unfold stt
  rw [apk_self h, List.append_nil]
theorem stt_nil : stt Ω ks [] = apk Ω ks := List.append_nil _
theorem apk_out {Ω : List OA} : ∀ {ks : List (Nat × OA)}, k ∉ ks.map (·.1) → (apk Ω ks)[k]? = Ω[k]?
  | [], _ => rfl
  | p :: r, h => by
    unfold apk
    have h : k ∉ p.1 :: r.map (·.1) := h
    rw [List.getElem?_set_ne (fun e => h (by rw [e]; exact List.mem_cons_self))]
    exact apk_out fun m => h (List.mem_cons_of_mem _ m)
theorem stt_getU (h : Ω[k]? = some o) (hn : k ∉ ks.map (·.1) := by simp) : (stt Ω ks L)[k]? = some o := by
  unfold stt
  rw [List.getElem?_append_left (by rw [apk_len]; exact getlt h), apk_out hn]
  exact h
theorem ne_kL (h : k < Ω.length) : k ≠ Ω.length + j := by omega
theorem cal0 : stt (stt Ω ks L) [] [] = stt Ω ks L := List.append_nil _
theorem stt_one {Ω : List OA} : stt Ω [(k, o)] [] = Ω.set k o := List.append_nil _
theorem cal1 (ok : Okk Ω keys) (h : ks[i]? = some (k, o)) (hk : ks.map (·.1) = keys := by rfl) : stt (stt Ω ks L) [(k, o')] [] = stt Ω (ks.set i (k, o')) L := stt_one.trans (stt_set ok h hk)
theorem cal1L : stt (stt Ω ks L) [(Ω.length + j, o')] [] = stt Ω ks (L.set j o') := stt_one.trans stt_setL
theorem okk0 : Okk Ω [] := ⟨by simp, fun k h => by cases h⟩
theorem okk1 (h : Ω[k]? = some o) : Okk Ω [k] := ⟨by simp, fun m hm => by rw [List.mem_singleton.mp hm]; exact getlt h⟩
end
section
variable {T : TC} {Γ : List (Option VA)} {Ω Ω1 Ω2 : List OA} {A B C : VA} {As : List VA} {ta tb te : TE} {t u : TT} {i j n m : Int} {b c : Bool}
theorem xg_call {Pre : PreT} {E : XK} {t : TA} {R : Hp → V → List OA → Prop} (ha : XA t Γ Ω As Ω1) (hp : Pre As Ω1 R) : XG (tCall (mkSp Pre) [] E t) Γ Ω R := fun F σ H e hh Q q => by
  refine ha F σ H e hh _ fun F1 xs H1 e1 hh1 a1 => ?_
  refine ⟨F1, Ω1, As, R, hp, by rw [List.append_nil]; exact a1, hh1, fun F' v H' Ω' e' hh' r => q F' v H' Ω' (e1.trans e') hh' r⟩
/-! ### the state ahead of a statement -/
def NX (F0 : Hp) (Γ : List (Option VA)) (Ω : List OA) : St → Hp → Prop := fun σ H => ∃ F, Same F0 F ∧ Env F σ Γ ∧ Holds F Ω H
def RT (F0 : Hp) (R : Hp → V → List OA → Prop) : VK → Prop := fun Q => ∀ F v H Ω, Same F0 F → Holds F Ω H → R F v Ω → Q v H
def XS (t : TS) (D : Ends) (F0 : Hp) (Γ : List (Option VA)) (Ω : List OA) : Prop := ∀ σ H, NX F0 Γ Ω σ H → t D σ H
theorem RT.mono {F0 F1 : Hp} {R : Hp → V → List OA → Prop} {Q : VK} (k : RT F0 R Q) (e : Same F0 F1) : RT F1 R Q := fun F v H Ω f hh r => k F v H Ω (e.trans f) hh r
variable {D : Ends} {F0 : Hp} {t1 t2 ts : TS} {R : Hp → V → List OA → Prop}
theorem xs_set {k : Nat} (h : XE te Γ Ω A Ω1) (q : XS ts D F0 (Γ.set k (some A)) Ω1) : XS (tSeq (tAsg te (gName k)) ts) D F0 Γ Ω := fun σ H ⟨F, f0, e, hh⟩ =>
  h F σ H e hh _ fun F1 v H1 Ω' e1 hh1 ⟨a1, o1⟩ => q _ H1 ⟨F1, f0.trans e1, (e.mono e1).set a1, o1 ▸ hh1⟩
theorem xs_setN {k : Nat} {o : Addr → OA} (h : XG te Γ Ω (RN Ω1 o)) (q : ∀ p, XS ts D F0 (Γ.set k (some (vr p))) (Ω1 ++ [o p])) : XS (tSeq (tAsg te (gName k)) ts) D F0 Γ Ω := fun σ H ⟨F, f0, e, hh⟩ =>
  h F σ H e hh _ fun F1 v H1 Ω' e1 hh1 ⟨p, a1, o1⟩ => q p _ H1 ⟨F1, f0.trans e1, (e.mono e1).set (A := vr p) a1, o1 ▸ hh1⟩
theorem xs_drop (h : XE te Γ Ω A Ω1) (q : XS ts D F0 Γ Ω1) : XS (tSeq (tDrop te) ts) D F0 Γ Ω := fun σ H ⟨F, f0, e, hh⟩ =>
  h F σ H e hh _ fun F1 v H1 Ω' e1 hh1 ⟨_, o1⟩ => q σ H1 ⟨F1, f0.trans e1, e.mono e1, o1 ▸ hh1⟩
/-- the same as the block's last statement -/
theorem xs_set1 {k : Nat} (h : XE te Γ Ω A Ω1) (q : ∀ σ H, NX F0 (Γ.set k (some A)) Ω1 σ H → D.nx σ H) : XS (tAsg te (gName k)) D F0 Γ Ω := fun σ H ⟨F, f0, e, hh⟩ =>
  h F σ H e hh _ fun F1 v H1 Ω' e1 hh1 ⟨a1, o1⟩ => q _ H1 ⟨F1, f0.trans e1, (e.mono e1).set a1, o1 ▸ hh1⟩
theorem xs_drop1 (h : XE te Γ Ω A Ω1) (q : ∀ σ H, NX F0 Γ Ω1 σ H → D.nx σ H) : XS (tDrop te) D F0 Γ Ω := fun σ H ⟨F, f0, e, hh⟩ =>
  h F σ H e hh _ fun F1 v H1 Ω' e1 hh1 ⟨_, o1⟩ => q σ H1 ⟨F1, f0.trans e1, e.mono e1, o1 ▸ hh1⟩
theorem xs_ret (h : XG te Γ Ω R) (q : RT F0 R D.rt) : XS (tRet te) D F0 Γ Ω := fun σ H ⟨F, f0, e, hh⟩ =>
  h F σ H e hh _ fun F1 v H1 Ω' e1 hh1 r => q F1 v H1 Ω' (f0.trans e1) hh1 r
theorem xs_retN (q : ∀ F H, Same F0 F → Holds F Ω H → R F .non Ω) (k : RT F0 R D.rt) : XS tRetN D F0 Γ Ω := fun σ H ⟨F, f0, e, hh⟩ => k F .non H Ω f0 hh (q F H f0 hh)
/-- what is made in a def and not told is left -/
theorem RT.drop {Q : VK} {A : VA} {o : OA} (k : RT F0 (RV A Ω) Q) : RT F0 (RV A (Ω ++ [o])) Q := fun F v H Ω' f hh ⟨a, e⟩ => by
  subst e
  exact k F v H Ω f hh.drop ⟨a, rfl⟩
theorem xs_ifT (h : XT t Γ Ω true Ω1) (q : XS t1 { D with nx := ts D } F0 Γ Ω1) : XS (tSeq (tIfS t t1 t2) ts) D F0 Γ Ω := fun σ H ⟨F, f0, e, hh⟩ =>
  h F σ H e hh _ fun F1 H1 e1 hh1 => by rw [if_pos rfl]; exact q σ H1 ⟨F1, f0.trans e1, e.mono e1, hh1⟩
theorem xs_ifF (h : XT t Γ Ω false Ω1) (q : XS t2 { D with nx := ts D } F0 Γ Ω1) : XS (tSeq (tIfS t t1 t2) ts) D F0 Γ Ω := fun σ H ⟨F, f0, e, hh⟩ =>
  h F σ H e hh _ fun F1 H1 e1 hh1 => by rw [if_neg Bool.false_ne_true]; exact q σ H1 ⟨F1, f0.trans e1, e.mono e1, hh1⟩
theorem xs_ifT1 (h : XT t Γ Ω true Ω1) (q : XS t1 D F0 Γ Ω1) : XS (tIfS t t1 t2) D F0 Γ Ω := fun σ H ⟨F, f0, e, hh⟩ =>
  h F σ H e hh _ fun F1 H1 e1 hh1 => by rw [if_pos rfl]; exact q σ H1 ⟨F1, f0.trans e1, e.mono e1, hh1⟩
theorem xs_ifF1 (h : XT t Γ Ω false Ω1) (q : XS t2 D F0 Γ Ω1) : XS (tIfS t t1 t2) D F0 Γ Ω := fun σ H ⟨F, f0, e, hh⟩ =>
  h F σ H e hh _ fun F1 H1 e1 hh1 => by rw [if_neg Bool.false_ne_true]; exact q σ H1 ⟨F1, f0.trans e1, e.mono e1, hh1⟩
/-- a statement, a word between, the rest -/
theorem xs_cut {Γ' : List (Option VA)} {Ω' : List OA} (h : XS t1 { D with nx := NX F0 Γ' Ω' } F0 Γ Ω) (k : XS ts D F0 Γ' Ω') : XS (Evl.tCut t1 ts) D F0 Γ Ω := fun σ H n => ⟨NX F0 Γ' Ω', h σ H n, fun σ' H' m => k σ' H' m⟩
/-- what is known is left -/
theorem NX.weak {Γ' : List (Option VA)} {σ : St} {H : Hp} (h : NX F0 Γ Ω σ H) (hl : Γ'.length = Γ.length) (k : ∀ (i : Nat) A, Γ'[i]? = some (some A) → Γ[i]? = some (some A)) : NX F0 Γ' Ω σ H :=
  let ⟨F, f0, e, hh⟩ := h
  ⟨F, f0, e.weak hl k, hh⟩
theorem NX.drop {o : OA} {σ : St} {H : Hp} (h : NX F0 Γ (Ω ++ [o]) σ H) : NX F0 Γ Ω σ H := let ⟨F, f0, e, hh⟩ := h; ⟨F, f0, e, hh.drop⟩
/-- what an expression makes anew becomes frozen -/
theorem xe_fz {α : Type} [Rp α] {l : List α} (h : XG te Γ Ω (RN Ω1 fun p => lstA T p l)) : XE te Γ Ω (va T (LF.mk l)) Ω1 := fun F σ H e hh Q q =>
  h F σ H e hh Q fun F1 v H1 Ω' e1 hh1 ⟨p, hv, o1⟩ => by
    subst o1
    obtain ⟨F', t, s1, s2, ⟨vs, ht, al⟩, hh'⟩ := hh1.freeze
    exact q F' v H1 _ (e1.trans s1) hh' ⟨⟨p, vs, hv, s2 _ _ ht, al.mono s1⟩, rfl⟩
theorem xs_seq (h : XS t1 { D with nx := ts D } F0 Γ Ω) : XS (tSeq t1 ts) D F0 Γ Ω := h
/-! ### tests whose second part may be undefined -/
theorem xt_andO {mb : Option Bool} {v : Bool} (h1 : XT t Γ Ω b Ω) (hm : (if b = true then mb else some false) = some v) (h2 : ∀ v, mb = some v → XT u Γ Ω v Ω) : XT (tAnd t u) Γ Ω v Ω := fun F σ H e hh Q q => by
  refine h1 F σ H e hh _ fun F1 H1 e1 hh1 => ?_
  cases b with
  | true =>
    rw [if_pos rfl] at hm ⊢
    exact h2 v hm F1 σ H1 (e.mono e1) hh1 Q fun F2 H2 e2 hh2 => q F2 H2 (e1.trans e2) hh2
  | false =>
    rw [if_neg Bool.false_ne_true] at hm ⊢
    cases hm
    exact q F1 H1 e1 hh1
/-- a known way through a test -/
theorem xt_orF (h1 : XT t Γ Ω false Ω1) (h2 : XT u Γ Ω1 false Ω2) : XT (tOr t u) Γ Ω false Ω2 := xt_or (b := false) (c := false) h1 (fun _ => h2) (fun h => nomatch h)
theorem xt_notF (h1 : XT t Γ Ω true Ω1) : XT (tNot t) Γ Ω false Ω1 := xt_not h1
theorem xt_notT (h1 : XT t Γ Ω false Ω1) : XT (tNot t) Γ Ω true Ω1 := xt_not h1
/-- what an expression's value must be to go on -/
def chk (b : Bool) : Option Unit := if b = true then some () else none
theorem xs_setO {k : Nat} {ks : List (Nat × OA)} {L : List OA} {o : Addr → OA} {Ω0 : List OA} (h : XG te Γ Ω0 (RN (stt Ω ks L) o)) (q : ∀ p, XS ts D F0 (Γ.set k (some (vr p))) (stt Ω ks (L ++ [o p]))) : XS (tSeq (tAsg te (gName k)) ts) D F0 Γ Ω0 :=
  xs_setN h fun p => by rw [stt_app]; exact q p
theorem xe_call {Pre : PreT} {E : XK} {t : TA} {Ω' : List OA} (ha : XA t Γ Ω As Ω1) (hp : Pre As Ω1 (RV A Ω')) (he : Ω' = Ω2) : XE (tCall (mkSp Pre) [] E t) Γ Ω A Ω2 := he ▸ xg_call ha hp
theorem xn_call {Pre : PreT} {E : XK} {t : TA} {Ω' : List OA} {o : Addr → OA} (ha : XA t Γ Ω As Ω1) (hp : Pre As Ω1 (RN Ω' o)) (he : Ω' = Ω2) : XG (tCall (mkSp Pre) [] E t) Γ Ω (RN Ω2 o) := he ▸ xg_call ha hp
theorem NX.forget {σ : L2.St} {H : Hp} (h : NX F0 Γ Ω σ H) (k : Nat) : NX F0 (Γ.set k none) Ω σ H := h.weak (by rw [List.length_set]) fun i A q => by
  by_cases e : k = i
  · subst e
    have lt : k < Γ.length := by have := getlt q; rwa [List.length_set] at this
    rw [List.getElem?_set_self lt] at q
    cases q
  · rwa [List.getElem?_set_ne e] at q
/-- nothing -/
def nilA : OA := ⟨fun _ _ => True, fun _ _ => trivial⟩
theorem Holds.freezeAt {F H : Hp} {Ω : List OA} {o : OA} {i : Nat} (h : Holds F Ω H) (q : Ω[i]? = some o) : ∃ F' t, Same F F' ∧ Same t F' ∧ o.P F t ∧ Holds F' (Ω.set i nilA) H := by
  obtain ⟨ts, h1, h2, h3, h4, h5⟩ := h
  have lt := getlt q
  have d : ∀ b x, ts i b = some x → F b = none := fun b x e => h4 i b x lt e
  refine ⟨cup F (ts i), ts i, cup_l, cup_r d, h1 _ _ q, fun k => if k = i then (fun _ => none) else ts k, fun k x r => ?_, fun b x e => ?_, fun k r b x e => ?_, fun k b x r e => ?_, fun k m b x r r2 ne e => ?_⟩
  · show x.P _ (if k = i then (fun _ => none) else ts k)
    by_cases hk : k = i
    · subst hk
      rw [List.getElem?_set_self lt] at r
      cases r
      exact trivial
    · rw [if_neg hk]
      rw [List.getElem?_set_ne (fun z => hk z.symm)] at r
      exact x.mono cup_l (h1 k x r)
  · rcases cup_or e with e | e
    · exact h2 b x e
    · exact h3 i lt b x e
  · rw [List.length_set] at r
    have e : (if k = i then (fun _ => none) else ts k) b = some x := e
    by_cases hk : k = i
    · rw [if_pos hk] at e; cases e
    · rw [if_neg hk] at e; exact h3 k r b x e
  · rw [List.length_set] at r
    have e : (if k = i then (fun _ => none) else ts k) b = some x := e
    by_cases hk : k = i
    · rw [if_pos hk] at e; cases e
    · rw [if_neg hk] at e
      cases z : cup F (ts i) b with
      | none => rfl
      | some y =>
        rcases cup_or z with z | z
        · exact (nn z (h4 k b x r e)).elim
        · exact (nn z (h5 k i b x r lt hk e)).elim
  · rw [List.length_set] at r r2
    have e : (if k = i then (fun _ => none) else ts k) b = some x := e
    show (if m = i then (fun _ => none) else ts m) b = none
    by_cases hm : m = i
    · rw [if_pos hm]
    · rw [if_neg hm]
      by_cases hk : k = i
      · rw [if_pos hk] at e; cases e
      · rw [if_neg hk] at e; exact h5 k m b x r r2 ne e
theorem NX.fzJ {α : Type} [Rp α] {l : List α} {p : Addr} {k j : Nat} {ks : List (Nat × OA)} {L : List OA} {σ : L2.St} {H : Hp} (h : NX F0 Γ (stt Ω ks L) σ H) (hk : Γ[k]? = some (some (vr p))) (hj : L[j]? = some (lstA T p l)) : NX F0 (Γ.set k (some (va T (LF.mk l)))) (stt Ω ks (L.set j nilA)) σ H := by
  obtain ⟨F, f0, e, hh⟩ := h
  obtain ⟨F', t, s1, s2, ⟨vs, ht, al⟩, hh'⟩ := hh.freezeAt (stt_getL hj)
  rw [stt_setL] at hh'
  obtain ⟨v, h1, h2⟩ := e.2 k _ hk
  have e2 := (e.mono s1).set (i := k) (v := v) (A := va T (LF.mk l)) ⟨p, vs, h2, s2 _ _ ht, al.mono s1⟩
  have es : σ.set k (some v) = σ := by
    apply List.ext_getElem?
    intro m
    by_cases hm : k = m
    · subst hm; rw [List.getElem?_set_self (getlt h1)]; exact h1.symm
    · rw [List.getElem?_set_ne hm]
  rw [es] at e2
  exact ⟨F', f0.trans s1, e2, hh'⟩
theorem xs_fzJ {α : Type} [Rp α] {l : List α} {p : Addr} {k j : Nat} {ks : List (Nat × OA)} {L : List OA} (hk : Γ[k]? = some (some (vr p))) (hj : L[j]? = some (lstA T p l)) (q : XS ts D F0 (Γ.set k (some (va T (LF.mk l)))) (stt Ω ks (L.set j nilA))) : XS ts D F0 Γ (stt Ω ks L) := fun σ H n => q σ H (n.fzJ hk hj)
/-- one of a def's own things stays, the others are left -/
theorem Holds.sel {F H : Hp} {Ω L : List OA} {o : OA} {j : Nat} (h : Holds F (Ω ++ L) H) (q : L[j]? = some o) : Holds F (Ω ++ [o]) H := by
  obtain ⟨ts, h1, h2, h3, h4, h5⟩ := h
  have lj := getlt q
  have len : (Ω ++ L).length = Ω.length + L.length := List.length_append
  have len1 : (Ω ++ [o]).length = Ω.length + 1 := by simp
  have ix : ∀ k, k < Ω.length + 1 → (if k = Ω.length then Ω.length + j else k) < (Ω ++ L).length := fun k hk => by
    split <;> omega
  have inj : ∀ k m, k < Ω.length + 1 → m < Ω.length + 1 → k ≠ m → (if k = Ω.length then Ω.length + j else k) ≠ (if m = Ω.length then Ω.length + j else m) := fun k m hk hm ne => by
    split <;> split <;> omega
  refine ⟨fun k => ts (if k = Ω.length then Ω.length + j else k), fun k x r => ?_, h2, fun k r => h3 _ (ix k (by omega)), fun k b x r e => h4 _ b x (ix k (by omega)) e, fun k m b x r r2 ne e => h5 _ _ b x (ix k (by omega)) (ix m (by omega)) (inj k m (by omega) (by omega) ne) e⟩
  by_cases hk : k = Ω.length
  · subst hk
    rw [app_at] at r
    cases r
    show o.P F (ts (if Ω.length = Ω.length then Ω.length + j else Ω.length))
    rw [if_pos rfl]
    refine h1 _ _ ?_
    rw [List.getElem?_append_right (by omega), Nat.add_sub_cancel_left]
    exact q
  · have lt : k < Ω.length := by have := getlt r; omega
    show x.P F (ts (if k = Ω.length then Ω.length + j else k))
    rw [if_neg hk]
    rw [List.getElem?_append_left lt] at r
    refine h1 _ _ ?_
    rw [List.getElem?_append_left lt]
    exact r
theorem Holds.all {F H : Hp} {Ω : List OA} {ks : List (Nat × OA)} {L : List OA} (h : Holds F (stt Ω ks L) H) : Holds F (stt Ω ks []) H := by
  obtain ⟨ts, h1, h2, h3, h4, h5⟩ := h
  have len : (stt Ω ks L).length = (apk Ω ks).length + L.length := List.length_append
  have e : stt Ω ks [] = apk Ω ks := stt_nil
  rw [e]
  exact ⟨ts, fun i o q => h1 i o (by unfold stt; rw [List.getElem?_append_left (getlt q)]; exact q), h2, fun i q => h3 i (by omega), fun i b x q => h4 i b x (by omega), fun i j b x qi qj => h5 i j b x (by omega) (by omega)⟩
theorem RT.all {Q : VK} {A : VA} {ks : List (Nat × OA)} {L : List OA} (k : RT F0 (RV A (stt Ω ks [])) Q) : RT F0 (RV A (stt Ω ks L)) Q := fun F v H Ω' f hh ⟨a, e⟩ => by
  subst e
  exact k F v H _ f hh.all ⟨a, rfl⟩
theorem RT.allN {Q : VK} {o : Addr → OA} {ks : List (Nat × OA)} {L : List OA} (k : RT F0 (RN (stt Ω ks []) o) Q) : RT F0 (RN (stt Ω ks L) o) Q := fun F v H Ω' f hh ⟨p, a, e⟩ => by
  subst e
  rw [stt_app] at hh
  refine k F v H _ f (Holds.sel (Ω := apk Ω ks) (o := o p) (j := L.length) hh app_at) ⟨p, a, ?_⟩
  rw [stt_nil]
/-! ### loops -/
inductive Stp (S ρ : Type) where
  | nx (s : S) | rt (r : ρ) | bk (s : S)
def whileM {S ρ : Type} (c : S → Option Bool) (b : S → Option (Stp S ρ)) : Nat → S → Option (Stp S ρ)
  | 0, _ => none
  | n + 1, s => (c s).bind fun v => if v = true then (b s).bind fun
      | .nx s' => whileM c b n s'
      | .rt r => some (.rt r)
      | .bk s' => some (.nx s')
    else some (.nx s)
def forM' {α S ρ : Type} (b : α → S → Option (Stp S ρ)) : List α → S → Option (Stp S ρ)
  | [], s => some (.nx s)
  | x :: r, s => (b x s).bind fun
      | .nx s' => forM' b r s'
      | .rt v => some (.rt v)
      | .bk s' => some (.nx s')
/-- what a loop hands on -/
def nxt {S ρ : Type} : Stp S ρ → Option S
  | .nx s => some s
  | _ => none
def aft {S ρ : Type} (st : Stp S ρ) (k : S → Option ρ) : Option ρ := match st with
  | .nx s => k s
  | .rt r => some r
  | .bk _ => none
/-- what a block's end must lead to: st by the block's own word -/
structure To {S ρ : Type} (D : Ends) (F0 : Hp) (st : Stp S ρ) (N B : S → St → Hp → Prop) (RR : ρ → Hp → V → List OA → Prop) : Prop where
  nx : ∀ s, st = .nx s → ∀ σ H, N s σ H → D.nx σ H
  ct : ∀ s, st = .nx s → ∀ σ H, N s σ H → D.ct σ H
  bk : ∀ s, st = .bk s → ∀ σ H, B s σ H → D.bk σ H
  rt : ∀ r, st = .rt r → RT F0 (RR r) D.rt
theorem bnd_some {α β : Type} {o : Option α} {f : α → Option β} {r : β} (h : o.bind f = some r) : ∃ a, o = some a ∧ f a = some r := by
  cases o with
  | none => cases h
  | some a => exact ⟨a, rfl, h⟩
/-- what a for's target does with its item -/
def Tgt (g : TG) (A : VA) (f : List (Option VA) → List (Option VA)) (js : List Nat) : Prop := ∀ F σ Γ x H Ω, Env F σ Γ → Holds F Ω H → A.P F x → ∀ Q : L2.St → Hp → Prop,
  (∀ F' σ' H', Same F F' → Env F' σ' (f Γ) → Holds F' Ω H' → (∀ vs, (∀ j ∈ js, j ∈ vs) → wipe σ' vs = wipe σ vs) → Q σ' H') → g x σ H Q
theorem wipe_set {σ : L2.St} {j : Nat} {v : Option V} : ∀ {vs : List Nat}, j ∈ vs → wipe (σ.set j v) vs = wipe σ vs := by
  intro vs hj
  apply List.ext_getElem?
  intro k
  have len : (wipe (σ.set j v) vs).length = (wipe σ vs).length := by rw [wipe_length, wipe_length, List.length_set]
  by_cases hk : k ∈ vs
  · have : ∀ (τ : L2.St) (vs : List Nat), k ∈ vs → k < τ.length → (wipe τ vs)[k]? = some none := by
      intro τ vs
      induction vs with
      | nil => intro h; cases h
      | cons a r ih =>
        intro h lt
        unfold wipe
        by_cases ha : a = k
        · subst ha; rw [List.getElem?_set_self (by rw [wipe_length]; exact lt)]
        · rw [List.getElem?_set_ne ha]
          rcases List.mem_cons.mp h with z | z
          · exact absurd z.symm ha
          · exact ih z lt
    by_cases lt : k < σ.length
    · rw [this σ vs hk lt, this _ vs hk (by rw [List.length_set]; exact lt)]
    · rw [List.getElem?_eq_none (by rw [wipe_length, List.length_set]; omega), List.getElem?_eq_none (by rw [wipe_length]; omega)]
  · rw [wipe_out hk, wipe_out hk]
    have ne : j ≠ k := fun e => hk (e ▸ hj)
    rw [List.getElem?_set_ne ne]
theorem tgt_name {k : Nat} : Tgt (gName k) A (fun Γ => Γ.set k (some A)) [k] := fun F σ Γ x H Ω e hh a Q q => q F _ H (Same.refl F) (e.set a) hh fun vs h => wipe_set (h k List.mem_cons_self)
structure Wk {α : Type} (J : It) (Sx : Hp → Prop) (xs : List α) (A : α → VA) : Prop where
  mono : ∀ F F', Same F F' → Sx F → Sx F'
  go : ∀ (i : Nat) F Ω H, Sx F → Holds F Ω H → i < xs.length → J.go i H
  stop : ∀ F Ω H, Sx F → Holds F Ω H → J.stop xs.length H
  yld : ∀ (i : Nat) a F Ω H x H', Sx F → Holds F Ω H → xs[i]? = some a → J.yld i H x H' → ∃ F', Same F F' ∧ Holds F' Ω H' ∧ (A a).P F' x
def XI {α : Type} (wi : TI) (Γ : List (Option VA)) (Ω : List OA) (xs : List α) (A : α → VA) (Ω2 : List OA) : Prop :=
  ∀ F σ H, Env F σ Γ → Holds F Ω H → ∀ R : It → Hp → Prop, (∀ F' J H' Sx, Same F F' → Holds F' Ω2 H' → Wk J Sx xs A → Sx F' → R J H') → wi σ H R
theorem xs_for {α S ρ : Type} {bd : α → S → Option (Stp S ρ)} {s0 : S} {st : Stp S ρ} {wi : TI} {tb : TS} {g : TG} {xs : List α} {A : α → VA} {f : α → List (Option VA) → List (Option VA)} (G : S → List (Option VA)) (O : S → List OA) (RR : ρ → Hp → V → List OA → Prop)
    (hm : forM' bd xs s0 = some st) (hi : XI wi (G s0) Ω xs A (O s0)) {js : List Nat} (ht : ∀ a, Tgt g (A a) (f a) js)
    (hb : ∀ a s s', a ∈ xs → bd a s = some s' → ∀ F1 D', Same F0 F1 → To D' F1 s' (fun s => NX F1 (G s) (O s)) (fun s => NX F1 (G s) (O s)) RR → XS tb D' F1 (f a (G s)) (O s))
    (hn : ∀ s, st = .nx s → ∀ σ H, NX F0 (G s) (O s) σ H → D.nx σ H) (hr : ∀ r, st = .rt r → RT F0 (RR r) D.rt) : XS (tFor wi g tb) D F0 (G s0) Ω := by
  rintro σ H ⟨F, f0, e, hh⟩
  refine hi F σ H e hh _ fun F1 J H1 Sx e1 hh1 W sx => ?_
  refine ⟨fun i m σ H => m = xs.length - i ∧ i ≤ xs.length ∧ ∃ s F, forM' bd (xs.drop i) s = some st ∧ Same F0 F ∧ Sx F ∧ Env F σ (G s) ∧ Holds F (O s) H, ⟨xs.length, by simp, Nat.zero_le _, s0, F1, by rw [List.drop_zero]; exact hm, f0.trans e1, sx, e.mono e1, hh1⟩, ?_⟩
  rintro i m σ H ⟨rfl, hi, s, F, hs, f0, sx, e, hh⟩
  by_cases hlt : i < xs.length
  · refine .inr ⟨W.go i F (O s) H sx hh hlt, ?_⟩
    have hx : xs[i]? = some xs[i] := List.getElem?_eq_getElem hlt
    rw [List.drop_eq_getElem_cons hlt] at hs
    obtain ⟨s', h1, hs⟩ := bnd_some hs
    refine ⟨fun σ' H' => ∃ s2, s' = .nx s2 ∧ ∃ F, Same F0 F ∧ Sx F ∧ Env F σ' (G s2) ∧ Holds F (O s2) H', ?_, fun x H' y => ?_⟩
    · rintro σ' H' ⟨s2, rfl, F', f0', sx', e', hh'⟩
      exact ⟨xs.length - (i + 1), by omega, rfl, hlt, s2, F', hs, f0', sx', e', hh'⟩
    · obtain ⟨F2, e2, hh2, a2⟩ := W.yld i _ F (O s) H x H' sx hh hx y
      refine ht xs[i] F2 σ (G s) x H' (O s) (e.mono e2) hh2 a2 _ fun F3 σ3 H3 e3 en3 hh3 _ => ?_
      have sx3 := W.mono _ _ (e2.trans e3) sx
      have f3 : Same F0 F3 := f0.trans (e2.trans e3)
      have gN : ∀ (s2 : S) (σ' : L2.St) (H' : Hp), NX F3 (G s2) (O s2) σ' H' → ∃ F, Same F0 F ∧ Sx F ∧ Env F σ' (G s2) ∧ Holds F (O s2) H' := fun s2 σ' H' ⟨F4, f4, e4, hh4⟩ => ⟨F4, f3.trans f4, W.mono _ _ f4 sx3, e4, hh4⟩
      have gW : ∀ (s2 : S) (σ' : L2.St) (H' : Hp), NX F3 (G s2) (O s2) σ' H' → NX F0 (G s2) (O s2) σ' H' := fun s2 σ' H' ⟨F4, f4, e4, hh4⟩ => ⟨F4, f3.trans f4, e4, hh4⟩
      refine hb xs[i] s s' (List.getElem_mem hlt) h1 F3 { D with nx := fun σ' H' => ∃ s2, s' = .nx s2 ∧ ∃ F, Same F0 F ∧ Sx F ∧ Env F σ' (G s2) ∧ Holds F (O s2) H', ct := fun σ' H' => ∃ s2, s' = .nx s2 ∧ ∃ F, Same F0 F ∧ Sx F ∧ Env F σ' (G s2) ∧ Holds F (O s2) H', bk := D.nx } f3 ⟨fun s2 z σ' H' n2 => ⟨s2, z, gN s2 σ' H' n2⟩, fun s2 z σ' H' n2 => ⟨s2, z, gN s2 σ' H' n2⟩, fun s2 z σ' H' n2 => ?_, fun r z => ?_⟩ σ3 H3 ⟨F3, Same.refl _, en3, hh3⟩
      · subst z
        cases hs
        exact hn s2 rfl σ' H' (gW s2 σ' H' n2)
      · subst z
        cases hs
        exact (hr r rfl).mono f3
  · have ei : i = xs.length := by omega
    subst ei
    refine .inl ⟨W.stop F (O s) H sx hh, ?_⟩
    rw [List.drop_length] at hs
    cases hs
    exact hn s rfl σ H ⟨F, f0, e, hh⟩
theorem xs_forS {α S ρ : Type} {bd : α → S → Option (Stp S ρ)} {s0 : S} {st : Stp S ρ} {wi : TI} {tb : TS} {g : TG} {xs : List α} {A : α → VA} {f : α → List (Option VA) → List (Option VA)} (G : S → List (Option VA)) (O : S → List OA) (RR : ρ → Hp → V → List OA → Prop)
    (hm : forM' bd xs s0 = some st) (hi : XI wi (G s0) Ω xs A (O s0)) {js : List Nat} (ht : ∀ a, Tgt g (A a) (f a) js)
    (hb : ∀ a s s', a ∈ xs → bd a s = some s' → ∀ F1 D', Same F0 F1 → To D' F1 s' (fun s => NX F1 (G s) (O s)) (fun s => NX F1 (G s) (O s)) RR → XS tb D' F1 (f a (G s)) (O s))
    (hn : ∀ s, st = .nx s → XS ts D F0 (G s) (O s)) (hr : ∀ r, st = .rt r → RT F0 (RR r) D.rt) : XS (tSeq (tFor wi g tb) ts) D F0 (G s0) Ω :=
  xs_seq (xs_for G O RR hm hi ht hb (fun s e σ H n => hn s e σ H n) hr)
end
end VL

set_option Elab.async false
set_option linter.all false
set_option maxRecDepth 100000
/-! lists, fields, the machine, the numbers, defs -/
namespace VL
open PySem L2

theorem alA_map {α : Type} [Rp α] {T : TC} {F : Hp} : ∀ {vs : List V} {l : List α}, AlA F vs (l.map (va T)) → Al T F vs l
  | _, [], h => by cases h; exact .nil
  | _, a :: r, h => by cases h with | cons h t => exact .cons h (alA_map t)
def cut {α : Type} (l : List α) (lo hi : Option Int) : List α := (l.drop (HT.sIx l.length 0 lo)).take (HT.sIx l.length l.length hi - HT.sIx l.length 0 lo)
theorem cut_len {α : Type} (l : List α) (lo hi : Option Int) : (cut l lo hi).length ≤ l.length := by
  unfold cut
  rw [List.length_take, List.length_drop]
  omega
theorem al_cut {α : Type} [Rp α] {T : TC} {F : Hp} {vs : List V} {l : List α} (lo hi : Option Int) (h : Al T F vs l) : Al T F (cutV vs lo hi) (cut l lo hi) := by
  unfold cut cutV
  rw [al_len h]
  exact al_take _ (al_drop _ h)
theorem al_at {α : Type} [Rp α] {T : TC} {F : Hp} {vs : List V} {l : List α} {i : Int} {a : α} (h : Al T F vs l) (e : atI l i = some a) : ∃ v, atI vs i = some v ∧ Rp.rep T F v a := by
  unfold atI at e ⊢
  rw [al_len h]
  cases hx : ixN l.length i with
  | none => rw [hx] at e; cases e
  | some k =>
    rw [hx] at e
    exact al_get h e

section
variable {T : TC} {Γ : List (Option VA)} {Ω Ω1 Ω2 Ω3 : List OA} {A B C : VA} {As : List VA} {ta tb te : TE} {t u : TT} {i j n m : Int} {b c : Bool} {α : Type} [Rp α] {l l2 : List α} {F0 : Hp} {D : Ends} {ts : TS}

/-! ### what a list holds, whoever holds it -/
def IsL (T : TC) (Ω : List OA) (A : VA) (l : List α) : Prop := ∀ F H v, Holds F Ω H → A.P F v → ∃ p vs, v = .ref p ∧ SqL T.K H p vs ∧ Al T F vs l
def IsLs (T : TC) (Ω : List OA) (A : VA) (l : List α) : Prop := ∀ F H v, Holds F Ω H → A.P F v → ∃ p vs, v = .ref p ∧ H p = some (.lst vs) ∧ Al T F vs l
def IsT (T : TC) (Ω : List OA) (A : VA) (l : List α) : Prop := ∀ F H v, Holds F Ω H → A.P F v → ∃ p vs, v = .ref p ∧ SqT T.K H p vs ∧ Al T F vs l
theorem isLs_LF : IsLs T Ω (va T (LF.mk l)) l := fun F H v hh ⟨p, vs, h1, h2, h3⟩ => ⟨p, vs, h1, hh.same _ _ h2, h3⟩
theorem isL_LF : IsL T Ω (va T (LF.mk l)) l := fun F H v hh ⟨p, vs, h1, h2, h3⟩ => ⟨p, vs, h1, SqL.of (hh.same _ _ h2), h3⟩
theorem isL_SF : IsL T Ω (va T (SF.mk l)) l := fun F H v hh ⟨p, vs, h1, h2, h3⟩ => ⟨p, vs, h1, hh.same.seq h2, h3⟩
theorem isT_TF : IsT T Ω (va T (TF.mk l)) l := fun F H v hh ⟨p, vs, h1, h2, h3⟩ => ⟨p, vs, h1, Same.tup hh.same h2, h3⟩
theorem isLs_M {k : Nat} {p : Addr} (h : Ω[k]? = some (lstA T p l)) : IsLs T Ω (vr p) l := fun F H v hh e => by
  obtain ⟨t, ⟨vs, h1, h2⟩, st, _⟩ := hh.get h
  exact ⟨p, vs, e, st _ _ h1, h2⟩
theorem isL_M {k : Nat} {p : Addr} (h : Ω[k]? = some (lstA T p l)) : IsL T Ω (vr p) l := fun F H v hh e => by
  obtain ⟨t, ⟨vs, h1, h2⟩, st, _⟩ := hh.get h
  exact ⟨p, vs, e, SqL.of (st _ _ h1), h2⟩

def rLen (K : PySem.W.Frag) : List V → Hp → VK → Prop := fun xs H Q => ∃ p ys, xs = [.ref p] ∧ (SqL K H p ys ∨ SqT K H p ys) ∧ Q (.int ys.length) H
theorem cr_len {X : Cx} : CallR X (.builtin "len") (rLen X.K) := call_len_seq
theorem alA1 {F : Hp} {vs : List V} (h : AlA F vs [A]) : ∃ v, vs = [v] ∧ A.P F v := by
  cases h with
  | cons h t => cases t; exact ⟨_, rfl, h⟩
theorem alA2 {F : Hp} {vs : List V} (h : AlA F vs [A, B]) : ∃ v w, vs = [v, w] ∧ A.P F v ∧ B.P F w := by
  cases h with
  | cons h t => cases t with | cons h2 t => cases t; exact ⟨_, _, rfl, h, h2⟩
theorem rc_lenL (h : IsL T Ω A l) : RC (rLen T.K) Ω [A] (va T (l.length : Int)) := fun F H vs hh a Q q => by
  obtain ⟨v, rfl, a1⟩ := alA1 a
  obtain ⟨p, ws, e, hs, al⟩ := h F H v hh a1
  refine ⟨p, ws, by rw [e], .inl hs, q F _ H (Same.refl F) hh ?_⟩
  show V.int _ = V.int _
  rw [al_len al]
theorem xe_lenL (ha : XE te Γ Ω A Ω1) (h : IsL T Ω1 A l) : XE (tCB (rLen T.K) (tCons te tNil)) Γ Ω (va T (l.length : Int)) Ω1 := xe_cb (xa_cons ha xa_nil) (rc_lenL h)
theorem ro_ixL {a : α} (h : IsL T Ω A l) (e : atI l i = some a) : RO (rIx T.K) Ω A (va T i) (va T a) := fun F H x y hh a1 a2 Q q => by
  obtain ⟨p, ws, rfl, hs, al⟩ := h F H x hh a1
  obtain ⟨v, hv, rv⟩ := al_at al e
  exact .inl ⟨p, ws, i, v, rfl, a2, hs, hv, q F v H (Same.refl F) hh rv⟩
/-! new lists -/
theorem xe_lst {ta : TA} (h : XA ta Γ Ω (l.map (va T)) Ω1) (hz : l.length ≤ sizeLine) : XE (tLst ta) Γ Ω (va T (LF.mk l)) Ω1 := fun F σ H e hh Q q => by
  refine h F σ H e hh _ fun F1 xs H1 e1 hh1 a1 => ?_
  have al := alA_map a1
  refine ⟨by rw [al_len al]; exact hz, fun p hp => ?_⟩
  obtain ⟨hh2, e2⟩ := hh1.newF (u := .lst xs) hp
  exact q _ _ _ _ (e1.trans e2) hh2 ⟨⟨p, xs, rfl, upd_same, al.mono e2⟩, rfl⟩
theorem xn_lst {ta : TA} (h : XA ta Γ Ω (l.map (va T)) Ω1) (hz : l.length ≤ sizeLine) : XG (tLst ta) Γ Ω (RN Ω1 fun p => lstA T p l) := fun F σ H e hh Q q => by
  refine h F σ H e hh _ fun F1 xs H1 e1 hh1 a1 => ?_
  have al := alA_map a1
  refine ⟨by rw [al_len al]; exact hz, fun p hp => ?_⟩
  exact q F1 _ _ _ e1 (hh1.newL (o := lstA T p l) hp ⟨xs, upd_same, al⟩) ⟨p, rfl, rfl⟩
theorem xe_tup2 {β : Type} [Rp β] {a : α} {x : β} {ta : TA} (h : XA ta Γ Ω [va T a, va T x] Ω1) : XE (tTup ta) Γ Ω (va T (a, x)) Ω1 := fun F σ H e hh Q q => by
  refine h F σ H e hh _ fun F1 xs H1 e1 hh1 a1 => ?_
  obtain ⟨v, w, rfl, h1, h2⟩ := alA2 a1
  refine ⟨by show 2 ≤ sizeLine; decide, fun p hp => ?_⟩
  obtain ⟨hh2, e2⟩ := hh1.newF (u := .tup [v, w]) hp
  exact q _ _ _ _ (e1.trans e2) hh2 ⟨⟨p, v, w, rfl, SqT.of upd_same, Rp.mono e2 h1, Rp.mono e2 h2⟩, rfl⟩
theorem xe_tupF {ta : TA} (h : XA ta Γ Ω (l.map (va T)) Ω1) (hz : l.length ≤ sizeLine) : XE (tTup ta) Γ Ω (va T (TF.mk l)) Ω1 := fun F σ H e hh Q q => by
  refine h F σ H e hh _ fun F1 xs H1 e1 hh1 a1 => ?_
  have al := alA_map a1
  refine ⟨by rw [al_len al]; exact hz, fun p hp => ?_⟩
  obtain ⟨hh2, e2⟩ := hh1.newF (u := .tup xs) hp
  exact q _ _ _ _ (e1.trans e2) hh2 ⟨⟨p, xs, rfl, SqT.of upd_same, al.mono e2⟩, rfl⟩
/-- xs + ys -/
theorem ro_cat (h : IsLs T Ω A l) (h2 : IsLs T Ω B l2) (hz : l.length + l2.length ≤ sizeLine) : RO rCat Ω A B (va T (LF.mk (l ++ l2))) := fun F H x y hh a1 a2 Q q => by
  obtain ⟨p, vs, rfl, hp, al⟩ := h F H x hh a1
  obtain ⟨p2, vs2, rfl, hp2, al2⟩ := h2 F H y hh a2
  refine ⟨p, p2, vs, vs2, rfl, rfl, hp, hp2, by rw [al_len al, al_len al2]; exact hz, fun d hd => ?_⟩
  obtain ⟨hh2, e2⟩ := hh.newF (u := .lst (vs ++ vs2)) hd
  exact q _ _ _ e2 hh2 ⟨d, _, rfl, upd_same, (al_app al al2).mono e2⟩
theorem al_repF {vs : List V} {F : Hp} (h : Al T F vs l) : ∀ n : Nat, Al T F (List.replicate n vs).flatten (List.replicate n l).flatten
  | 0 => .nil
  | n + 1 => by rw [List.replicate_succ, List.flatten_cons, List.replicate_succ, List.flatten_cons]; exact al_app h (al_repF h n)
theorem ro_rep (h : IsLs T Ω A l) (h1 : -(2 ^ 63) ≤ i) (h2 : i < 2 ^ 63) (hz : l.length * i.toNat ≤ sizeLine) : RO rRep Ω A (va T i) (va T (LF.mk (List.replicate i.toNat l).flatten)) := fun F H x y hh a1 a2 Q q => by
  obtain ⟨p, vs, rfl, hp, al⟩ := h F H x hh a1
  refine ⟨p, i, vs, rfl, a2, hp, h1, h2, by rw [al_len al]; exact hz, fun d hd => ?_⟩
  obtain ⟨hh2, e2⟩ := hh.newF (u := .lst (List.replicate i.toNat vs).flatten) hd
  exact q _ _ _ e2 hh2 ⟨d, _, rfl, upd_same, (al_repF al _).mono e2⟩
/-- list(xs) -/
def rList (K : PySem.W.Frag) : List V → Hp → VK → Prop := fun xs H Q => ∃ p ys, xs = [.ref p] ∧ (SqL K H p ys ∨ SqT K H p ys) ∧ ∀ l, H l = none → Q (.ref l) (upd H l (.lst ys))
theorem cr_list {X : Cx} : CallR X (.type "list") (rList X.K) := call_list_of
theorem xe_listT (ha : XE te Γ Ω A Ω1) (h : IsT T Ω1 A l) : XE (tCB (rList T.K) (tCons te tNil)) Γ Ω (va T (LF.mk l)) Ω1 := xe_cb (xa_cons ha xa_nil) fun F H vs hh a Q q => by
  obtain ⟨v, rfl, a1⟩ := alA1 a
  obtain ⟨p, ws, e, hs, al⟩ := h F H v hh a1
  refine ⟨p, ws, by rw [e], .inr hs, fun d hd => ?_⟩
  obtain ⟨hh2, e2⟩ := hh.newF (u := .lst ws) hd
  exact q _ _ _ e2 hh2 ⟨d, _, rfl, upd_same, al.mono e2⟩
/-- tuple(xs): of a list, a new one; of a tuple, itself -/
def rTuple (K : PySem.W.Frag) : List V → Hp → VK → Prop := fun xs H Q => ∃ p ys, xs = [.ref p] ∧ ((SqL K H p ys ∧ ∀ l, H l = none → Q (.ref l) (upd H l (.tup ys))) ∨ (SqT K H p ys ∧ Q (.ref p) H))
theorem cr_tuple {X : Cx} : CallR X (.type "tuple") (rTuple X.K) := call_tuple_of
theorem xe_tupleL (ha : XE te Γ Ω A Ω1) (h : IsL T Ω1 A l) : XE (tCB (rTuple T.K) (tCons te tNil)) Γ Ω (va T (TF.mk l)) Ω1 := xe_cb (xa_cons ha xa_nil) fun F H vs hh a Q q => by
  obtain ⟨v, rfl, a1⟩ := alA1 a
  obtain ⟨p, ws, e, hs, al⟩ := h F H v hh a1
  refine ⟨p, ws, by rw [e], .inl ⟨hs, fun d hd => ?_⟩⟩
  obtain ⟨hh2, e2⟩ := hh.newF (u := .tup ws) hd
  exact q _ _ _ e2 hh2 ⟨d, _, rfl, SqT.of upd_same, al.mono e2⟩
theorem xe_tupleT (ha : XE te Γ Ω (va T (TF.mk l)) Ω1) : XE (tCB (rTuple T.K) (tCons te tNil)) Γ Ω (va T (TF.mk l)) Ω1 := xe_cb (xa_cons ha xa_nil) fun F H vs hh a Q q => by
  obtain ⟨v, rfl, a1⟩ := alA1 a
  obtain ⟨p, ws, e, hs, al⟩ := id a1
  exact ⟨p, ws, by rw [e], .inr ⟨Same.tup hh.same hs, q F _ H (Same.refl F) hh (e ▸ a1)⟩⟩
/-! slices -/
def XO (to : TO) (Γ : List (Option VA)) (Ω : List OA) (o : Option Int) : Prop := ∀ F σ H, Env F σ Γ → Holds F Ω H → ∀ Q : Option Int → Hp → Prop, (∀ F' H', Same F F' → Holds F' Ω H' → Q o H') → to σ H Q
theorem xo_none : XO tNoPart Γ Ω none := fun F σ H e hh Q q => q F H (Same.refl F) hh
theorem xo_some (h : XE te Γ Ω (va T i) Ω) : XO (tPart te) Γ Ω (some i) := fun F σ H e hh Q q => by
  refine h F σ H e hh _ fun F1 x H1 Ω' e1 hh1 ⟨a1, o1⟩ => ?_
  subst o1
  exact ⟨i, a1, q F1 H1 e1 hh1⟩
theorem xe_sliceL {tl th : TO} {lo hi : Option Int} (ha : XE te Γ Ω A Ω1) (hl : XO tl Γ Ω1 lo) (hu : XO th Γ Ω1 hi) (h : IsL T Ω1 A l) : XE (tSl (rSlL T.K) te tl th) Γ Ω (va T (LF.mk (cut l lo hi))) Ω1 := fun F σ H e hh Q q => by
  refine ha F σ H e hh _ fun F1 x H1 Ω' e1 hh1 ⟨a1, o1⟩ => ?_
  subst o1
  refine hl F1 σ H1 (e.mono e1) hh1 _ fun F2 H2 e2 hh2 => ?_
  refine hu F2 σ H2 ((e.mono e1).mono e2) hh2 _ fun F3 H3 e3 hh3 => ?_
  obtain ⟨p, ws, rfl, hs, al⟩ := h F3 H3 x hh3 (A.mono (e2.trans e3) a1)
  refine ⟨p, ws, rfl, hs, fun d hd => ?_⟩
  obtain ⟨hh4, e4⟩ := hh3.newF (u := .lst (cutV ws lo hi)) hd
  exact q _ _ _ _ (((e1.trans e2).trans e3).trans e4) hh4 ⟨⟨d, _, rfl, upd_same, (al_cut lo hi al).mono e4⟩, rfl⟩
/-! lists that change -/
theorem xe_app {k : Nat} {p : Addr} {a : α} (h0 : Ω[k]? = some (lstA T p l2)) (hk : Ω1[k]? = some (lstA T p l)) (ha : XE ta Γ Ω (vr p) Ω) (hb : XE tb Γ Ω (va T a) Ω1) (hz : l.length < sizeLine) :
    XE (tBM T.K "list" rAppend ta (tCons tb tNil)) Γ Ω (va T ()) (Ω1.set k (lstA T p (l ++ [a]))) := fun F σ H e hh Q q => by
  refine ha F σ H e hh _ fun F1 x H1 Ω' e1 hh1 ⟨a1, o1⟩ => ?_
  subst o1
  obtain ⟨p0, vs0, e0, h00, _⟩ := isLs_M h0 F1 H1 x hh1 a1
  have a1 : x = .ref p := a1
  subst a1
  cases e0
  refine ⟨.inl ⟨rfl, _, SqL.of h00⟩, ?_⟩
  refine hb F1 σ H1 (e.mono e1) hh1 _ fun F2 y H2 Ω'' e2 hh2 ⟨a2, o2⟩ => ?_
  subst o2
  obtain ⟨t, ⟨vs, h1, al⟩, st, _, wr⟩ := hh2.get hk
  refine ⟨p, vs, y, rfl, rfl, st _ _ h1, by rw [al_len al]; exact hz, ?_⟩
  exact q F2 _ _ _ (e1.trans e2) (wr (lstA T p (l ++ [a])) p _ _ h1 ⟨_, upd_same, al_app al (.cons a2 .nil)⟩) ⟨rfl, rfl⟩
/-- xs[i] = e, xs a name's own list -/
theorem xs_setL {k : Nat} {p : Addr} {a : α} {to ti : TE} {jn : Nat} (hv : XE te Γ Ω (va T a) Ω1) (ho : XE to Γ Ω1 (vr p) Ω1) (hi : XE ti Γ Ω1 (va T i) Ω1) (hk : Ω1[k]? = some (lstA T p l)) (hj : ixN l.length i = some jn) (q : XS ts D F0 Γ (Ω1.set k (lstA T p (l.set jn a)))) :
    XS (tSeq (tAsg te (gSub to ti rSetL)) ts) D F0 Γ Ω := fun σ H ⟨F, f0, e, hh⟩ => by
  refine hv F σ H e hh _ fun F1 v H1 Ω' e1 hh1 ⟨a1, o1⟩ => ?_
  subst o1
  refine ho F1 σ H1 (e.mono e1) hh1 _ fun F2 o H2 Ω' e2 hh2 ⟨a2, o2⟩ => ?_
  subst o2
  refine hi F2 σ H2 ((e.mono e1).mono e2) hh2 _ fun F3 x H3 Ω' e3 hh3 ⟨a3, o3⟩ => ?_
  subst o3
  obtain ⟨t, ⟨vs, h1, al⟩, st, _, wr⟩ := hh3.get hk
  refine ⟨p, vs, i, jn, a2, a3, st _ _ h1, by rw [al_len al]; exact hj, ?_⟩
  exact q σ _ ⟨F3, f0.trans ((e1.trans e2).trans e3), ((e.mono e1).mono e2).mono e3, wr (lstA T p (l.set jn a)) p _ _ h1 ⟨_, upd_same, al_set (Rp.mono (e2.trans e3) a1) jn al⟩⟩
/-! walks -/
theorem wk_list {p : Addr} {vs : List V} : Wk (Itl T.K p) (fun F => SqL T.K F p vs ∧ Al T F vs l) l (fun a => va T a) where
  mono := fun F F' e ⟨h1, h2⟩ => ⟨e.seq h1, h2.mono e⟩
  go := fun i F Ω H ⟨h1, h2⟩ hh hi => ⟨vs, vs[i]'(by rw [al_len h2]; exact hi), hh.same.seq h1, List.getElem?_eq_getElem _⟩
  stop := fun F Ω H ⟨h1, h2⟩ hh => ⟨vs, hh.same.seq h1, by rw [al_len h2]; exact Nat.le_refl _⟩
  yld := fun i a F Ω H x H' ⟨h1, h2⟩ hh hx y => by
    obtain ⟨e, y⟩ := y
    subst e
    obtain ⟨v, hv, rv⟩ := al_get h2 hx
    have ev := y vs (hh.same.seq h1)
    rw [hv] at ev
    cases ev
    exact ⟨F, Same.refl F, hh, rv⟩
theorem wk_tup {p : Addr} {vs : List V} : Wk (Itt T.K p) (fun F => SqT T.K F p vs ∧ Al T F vs l) l (fun a => va T a) where
  mono := fun F F' e ⟨h1, h2⟩ => ⟨Same.tup e h1, h2.mono e⟩
  go := fun i F Ω H ⟨h1, h2⟩ hh hi => ⟨vs, vs[i]'(by rw [al_len h2]; exact hi), Same.tup hh.same h1, List.getElem?_eq_getElem _⟩
  stop := fun F Ω H ⟨h1, h2⟩ hh => ⟨vs, Same.tup hh.same h1, by rw [al_len h2]; exact Nat.le_refl _⟩
  yld := fun i a F Ω H x H' ⟨h1, h2⟩ hh hx y => by
    obtain ⟨e, y⟩ := y
    subst e
    obtain ⟨v, hv, rv⟩ := al_get h2 hx
    have ev := y vs (Same.tup hh.same h1)
    rw [hv] at ev
    cases ev
    exact ⟨F, Same.refl F, hh, rv⟩
theorem wk_range {n : Nat} {lo : Int} : Wk (Itr lo n) (fun _ => True) ((List.range n).map fun (k : Nat) => lo + (k : Int)) (fun a => va T a) where
  mono := fun _ _ _ _ => trivial
  go := fun i F Ω H _ _ hi => by
    have hi : i < n := by simpa using hi
    exact hi
  stop := fun F Ω H _ _ => by show n ≤ _; simp
  yld := fun i a F Ω H x H' _ hh hx y => by
    obtain ⟨e, y⟩ := y
    subst e y
    refine ⟨F, Same.refl F, hh, ?_⟩
    show V.int _ = V.int a
    rw [List.getElem?_map] at hx
    cases hr : (List.range n)[i]? with
    | none => rw [hr] at hx; cases hx
    | some k =>
      rw [hr] at hx
      have hk : i = k := by
        obtain ⟨h1, h2⟩ := List.getElem?_eq_some_iff.mp hr
        rw [List.getElem_range] at h2
        exact h2
      subst hk
      cases hx
      rfl
theorem xi_list (ha : XE te Γ Ω A Ω1) (h : ∀ F v, A.P F v → ∃ p vs, v = .ref p ∧ SqL T.K F p vs ∧ Al T F vs l) : XI (iList T.K te) Γ Ω l (fun a => va T a) Ω1 := fun F σ H e hh R r => by
  refine ha F σ H e hh _ fun F1 x H1 Ω' e1 hh1 ⟨a1, o1⟩ => ?_
  subst o1
  obtain ⟨p, vs, rfl, h1, al⟩ := h F1 x a1
  exact ⟨p, rfl, ⟨vs, hh1.same.seq h1⟩, r F1 _ H1 _ e1 hh1 wk_list ⟨h1, al⟩⟩
theorem xi_LF (ha : XE te Γ Ω (va T (LF.mk l)) Ω1) : XI (iList T.K te) Γ Ω l (fun a => va T a) Ω1 := xi_list ha fun F v ⟨p, vs, h1, h2, h3⟩ => ⟨p, vs, h1, SqL.of h2, h3⟩
theorem xi_TF (ha : XE te Γ Ω (va T (TF.mk l)) Ω1) : XI (iTup T.K te) Γ Ω l (fun a => va T a) Ω1 := fun F σ H e hh R r => by
  refine ha F σ H e hh _ fun F1 x H1 Ω' e1 hh1 ⟨a1, o1⟩ => ?_
  subst o1
  obtain ⟨p, vs, rfl, h1, al⟩ := id a1
  exact ⟨p, rfl, ⟨vs, Same.tup hh1.same h1⟩, r F1 _ H1 _ e1 hh1 wk_tup ⟨h1, al⟩⟩
/-- the ints from lo on, so many -/
def rng (lo : Int) (n : Nat) : List Int := (List.range n).map fun (k : Nat) => lo + (k : Int)
theorem xi_range1 {ta : TA} (ha : XA ta Γ Ω [va T i] Ω1) (h1 : -(2 ^ 62) ≤ i) (h2 : i < 2 ^ 62) : XI (iRng1 ta) Γ Ω (rng 0 i.toNat) (fun a => va T a) Ω1 := fun F σ H e hh R r => by
  refine ha F σ H e hh _ fun F1 vs H1 e1 hh1 a1 => ?_
  obtain ⟨v, rfl, b1⟩ := alA1 a1
  have b1 : v = .int i := b1
  subst b1
  exact ⟨i, rfl, h1, h2, r F1 _ H1 _ e1 hh1 wk_range trivial⟩
theorem rev_get {β : Type} {xs : List β} {i : Nat} {a : β} (h : xs.reverse[i]? = some a) : i < xs.length ∧ xs[xs.length - 1 - i]? = some a := by
  have lt : i < xs.length := by have := getlt h; rwa [List.length_reverse] at this
  rw [List.getElem?_reverse lt] at h
  exact ⟨lt, h⟩
theorem wk_revL {p : Addr} {vs : List V} : Wk (Itv T.K p vs.length) (fun F => SqL T.K F p vs ∧ Al T F vs l) l.reverse (fun a => va T a) where
  mono := fun F F' e ⟨h1, h2⟩ => ⟨e.seq h1, h2.mono e⟩
  go := fun i F Ω H ⟨h1, h2⟩ hh hi => by
    rw [List.length_reverse, ← al_len h2] at hi
    exact ⟨hi, vs, _, hh.same.seq h1, List.getElem?_eq_getElem (by omega)⟩
  stop := fun F Ω H ⟨h1, h2⟩ hh => by show vs.length ≤ _; rw [List.length_reverse, al_len h2]; exact Nat.le_refl _
  yld := fun i a F Ω H x H' ⟨h1, h2⟩ hh hx y => by
    obtain ⟨e, y⟩ := y
    subst e
    obtain ⟨lt, hx⟩ := rev_get hx
    obtain ⟨v, hv, rv⟩ := al_get h2 hx
    have ev := y vs (hh.same.seq h1)
    rw [al_len h2, hv] at ev
    cases ev
    exact ⟨F, Same.refl F, hh, rv⟩
theorem xi_revL (ha : XE te Γ Ω (va T (LF.mk l)) Ω1) : XI (_root_.RT.iRevA T.K te) Γ Ω l.reverse (fun a => va T a) Ω1 := fun F σ H e hh R r => by
  refine ha F σ H e hh _ fun F1 x H1 Ω' e1 hh1 ⟨a1, o1⟩ => ?_
  subst o1
  obtain ⟨p, vs, rfl, h1, al⟩ := id a1
  exact ⟨p, vs, rfl, .inl ⟨SqL.of (hh1.same _ _ h1), r F1 _ H1 _ e1 hh1 wk_revL ⟨SqL.of h1, al⟩⟩⟩

/-! ### a list comprehension -/
/-- b x s: whether the item is taken, its value, the state behind -/
def lcM {β γ S : Type} (b : β → S → Option (Option γ × S)) : List β → S → Option (List γ × S)
  | [], s => some ([], s)
  | x :: r, s => (b x s).bind fun (o, s') => (lcM b r s').bind fun (ys, s'') => some ((match o with | some y => y :: ys | none => ys), s'')
/-- what is known behind the wiping of the slots vs -/
def wip (Γ : List (Option VA)) : List Nat → List (Option VA)
  | [] => Γ
  | i :: r => (wip Γ r).set i none
theorem env_none {F : Hp} {σ : L2.St} {k : Nat} (h : Env F σ Γ) : Env F (σ.set k none) (Γ.set k none) := by
  refine ⟨by rw [List.length_set, List.length_set]; exact h.1, fun i A q => ?_⟩
  by_cases hk : k = i
  · subst hk
    have lt : k < Γ.length := by have := getlt q; rwa [List.length_set] at this
    rw [List.getElem?_set_self lt] at q
    cases q
  · rw [List.getElem?_set_ne hk] at q
    obtain ⟨w, h1, h2⟩ := h.2 i A q
    exact ⟨w, by rw [List.getElem?_set_ne hk]; exact h1, h2⟩
theorem wip_env {F : Hp} {σ : L2.St} (h : Env F σ Γ) : ∀ vs : List Nat, Env F (wipe σ vs) (wip Γ vs)
  | [] => h
  | i :: r => env_none (wip_env h r)
theorem wipe_wipe {σ : L2.St} (vs : List Nat) : wipe (wipe σ vs) vs = wipe σ vs := by
  have : ∀ (r : List Nat) (τ : L2.St), (∀ i ∈ r, i ∈ vs) → wipe (wipe τ r) vs = wipe τ vs := by
    intro r
    induction r with
    | nil => intro τ _; rfl
    | cons a r ih =>
      intro τ h
      show wipe ((wipe τ r).set a none) vs = _
      rw [wipe_set (h a List.mem_cons_self)]
      exact ih τ fun i hi => h i (List.mem_cons_of_mem _ hi)
  exact this vs σ fun _ h => h
theorem set_last {β : Type} {l : List β} {a b : β} : (l ++ [a]).set l.length b = l ++ [b] := by
  rw [List.set_append_right _ _ (Nat.le_refl _)]; simp
theorem xn_lc {β γ S : Type} [Rp γ] {b : β → S → Option (Option γ × S)} {xs : List β} {s0 s1 : S} {ys : List γ} {wi : TI} {g : TG} {tt : TT} {vs : List Nat} {A : β → VA} {f : β → List (Option VA) → List (Option VA)} {js : List Nat} (O : S → List OA)
    (hm : lcM b xs s0 = some (ys, s1)) (hi : XI wi Γ Ω xs A (O s0)) (ht : ∀ a, Tgt g (A a) (f a) js) (hj : ∀ j ∈ js, j ∈ vs) (hz : xs.length ≤ sizeLine)
    (hb : ∀ a s o s', a ∈ xs → b a s = some (o, s') → ∀ X : OA, (o = none → XT tt (f a (wip Γ vs)) (O s ++ [X]) false (O s' ++ [X])) ∧
      (∀ y, o = some y → XT tt (f a (wip Γ vs)) (O s ++ [X]) true (O s ++ [X]) ∧ XE te (f a (wip Γ vs)) (O s ++ [X]) (va T y) (O s' ++ [X]))) :
    XG (tLc wi g tt te vs) Γ Ω (RN (O s1) fun p => lstA T p ys) := by
  intro F σ H e hh Q q
  refine hi F σ H e hh _ fun F1 J H1 Sx e1 hh1 W sx => fun d hd => ?_
  refine ⟨fun i m H => m = xs.length - i ∧ i ≤ xs.length ∧ ∃ s F acc r, lcM b (xs.drop i) s = some (r, s1) ∧ acc ++ r = ys ∧ acc.length ≤ i ∧ Same F1 F ∧ Sx F ∧ Holds F (O s ++ [lstA T d acc]) H,
    ⟨xs.length, by simp, Nat.zero_le _, s0, F1, [], ys, by rw [List.drop_zero]; exact hm, rfl, Nat.zero_le _, Same.refl _, sx, hh1.newL (o := lstA T d ([] : List γ)) hd ⟨[], upd_same, .nil⟩⟩, ?_⟩
  rintro i m H ⟨rfl, hi, s, F, acc, r, hs, he, hl, f1, sx, hh⟩
  by_cases hlt : i < xs.length
  · refine .inr ⟨W.go i F _ H sx hh hlt, ?_⟩
    have hx : xs[i]? = some xs[i] := List.getElem?_eq_getElem hlt
    rw [List.drop_eq_getElem_cons hlt] at hs
    obtain ⟨⟨o, s'⟩, h1, hs⟩ := bnd_some hs
    obtain ⟨⟨r2, s2⟩, h2, hs⟩ := bnd_some hs
    cases hs
    refine ⟨fun H' => ∃ s F acc r, lcM b (xs.drop (i + 1)) s = some (r, s1) ∧ acc ++ r = ys ∧ acc.length ≤ i + 1 ∧ Same F1 F ∧ Sx F ∧ Holds F (O s ++ [lstA T d acc]) H', fun H' n => ⟨xs.length - (i + 1), by omega, rfl, hlt, n⟩, fun x H' y => ?_⟩
    obtain ⟨F2, e2, hh2, a2⟩ := W.yld i _ F _ H x H' sx hh hx y
    have en : Env F2 (wipe σ vs) (wip Γ vs) := wip_env ((e.mono e1).mono (f1.trans e2)) vs
    refine ht xs[i] F2 (wipe σ vs) (wip Γ vs) x H' _ en hh2 a2 _ fun F3 σ3 H3 e3 en3 hh3 hw => ⟨(hw vs hj).trans (wipe_wipe vs), ?_⟩
    obtain ⟨c1, c2⟩ := hb xs[i] s o s' (List.getElem_mem hlt) h1 (lstA T d acc)
    have f3 : Same F1 F3 := f1.trans (e2.trans e3)
    have sx3 := W.mono _ _ (e2.trans e3) sx
    cases o with
    | none =>
      refine c1 rfl F3 σ3 H3 en3 hh3 _ fun F4 H4 e4 hh4 => ?_
      rw [if_neg Bool.false_ne_true]
      exact ⟨s', F4, acc, r2, h2, he, by omega, f3.trans e4, W.mono _ _ e4 sx3, hh4⟩
    | some y =>
      obtain ⟨c3, c4⟩ := c2 y rfl
      refine c3 F3 σ3 H3 en3 hh3 _ fun F4 H4 e4 hh4 => ?_
      rw [if_pos rfl]
      refine c4 F4 σ3 H4 (en3.mono e4) hh4 _ fun F5 v H5 Ω5 e5 hh5 ⟨a5, o5⟩ => ?_
      subst o5
      have hk : (O s' ++ [lstA T d acc])[(O s').length]? = some (lstA T d acc) := app_at
      obtain ⟨t, ⟨ws, w1, al⟩, st, _, wr⟩ := hh5.get hk
      refine ⟨ws, st _ _ w1, by rw [al_len al]; omega, ?_⟩
      have hh6 := wr (lstA T d (acc ++ [y])) d _ (.lst (ws ++ [v])) w1 ⟨_, upd_same, al_app al (.cons a5 .nil)⟩
      rw [set_last] at hh6
      refine ⟨s', F5, acc ++ [y], r2, h2, by rw [List.append_assoc]; exact he, by rw [List.length_append]; simp; omega, f3.trans (e4.trans e5), W.mono _ _ (e4.trans e5) sx3, hh6⟩
  · have ei : i = xs.length := by omega
    subst ei
    refine .inl ⟨W.stop F _ H sx hh, ?_⟩
    rw [List.drop_length] at hs
    cases hs
    rw [List.append_nil] at he
    subst he
    exact q F (.ref d) H _ (e1.trans f1) hh ⟨d, rfl, rfl⟩
theorem xn_lcS {β γ S : Type} [Rp γ] {b : β → S → Option (Option γ × S)} {xs : List β} {s0 s1 : S} {ys : List γ} {wi : TI} {g : TG} {tt : TT} {vs : List Nat} {A : β → VA} {f : β → List (Option VA) → List (Option VA)} {js : List Nat} {Ω0 : List OA} (ks : S → List (Nat × OA)) (L : S → List OA)
    (hm : lcM b xs s0 = some (ys, s1)) (hi : XI wi Γ Ω0 xs A (stt Ω (ks s0) (L s0))) (ht : ∀ a, Tgt g (A a) (f a) js) (hj : ∀ j ∈ js, j ∈ vs) (hz : xs.length ≤ sizeLine)
    (hb : ∀ a s o s', a ∈ xs → b a s = some (o, s') → ∀ X : OA, (o = none → XT tt (f a (wip Γ vs)) (stt Ω (ks s) (L s ++ [X])) false (stt Ω (ks s') (L s' ++ [X]))) ∧
      (∀ y, o = some y → XT tt (f a (wip Γ vs)) (stt Ω (ks s) (L s ++ [X])) true (stt Ω (ks s) (L s ++ [X])) ∧ XE te (f a (wip Γ vs)) (stt Ω (ks s) (L s ++ [X])) (va T y) (stt Ω (ks s') (L s' ++ [X])))) :
    XG (tLc wi g tt te vs) Γ Ω0 (RN (stt Ω (ks s1) (L s1)) fun p => lstA T p ys) :=
  xn_lc (fun s => stt Ω (ks s) (L s)) hm hi ht hj hz fun a s o s' ha h X => by
    simp only [stt_app]
    exact hb a s o s' ha h X
/-- no test -/
theorem xt_yes : XT tYes Γ Ω true Ω := fun F σ H e hh Q q => q F H (Same.refl F) hh
end
end VL

set_option Elab.async false
set_option linter.all false
set_option maxRecDepth 100000
/-! defs, the machine, the numbers -/
namespace VL
open PySem L2
open PyProof.Rows (envOfC)

/-! ### a def by its body -/
/-- a body at a promise's arguments -/
def Bod (X : Cx) (body : List Stmt) (Γ : List (Option VA)) (Ω : List OA) (F0 : Hp) (R : Hp → V → List OA → Prop) : Prop :=
  ∃ t, PSs X body t ∧ ∀ D : Ends, RT F0 R D.rt → (∀ F σ H Ω', Same F0 F → Holds F Ω' H → R F .non Ω' → D.nx σ H) → XS t D F0 Γ Ω
theorem start_env {F : Hp} {N : List Str} {vs : List V} {As : List VA} (h : AlA F vs As) : Env F (L2.start N vs) (As.map some ++ List.replicate (N.length - As.length) none) := by
  have hl := h.len
  refine ⟨by unfold L2.start; simp [hl], fun i A q => ?_⟩
  by_cases hi : i < As.length
  · rw [List.getElem?_append_left (by simpa using hi), List.getElem?_map] at q
    have : ∀ {vs : List V} {As : List VA} {i : Nat}, AlA F vs As → (As[i]?).map some = some (some A) → ∃ v, vs[i]? = some v ∧ A.P F v := by
      intro vs As i h
      induction h generalizing i with
      | nil => intro q; simp at q
      | cons a t ih =>
        intro q
        cases i with
        | zero => simp at q; subst q; exact ⟨_, rfl, a⟩
        | succ i => simpa using ih (by simpa using q)
    obtain ⟨v, h1, h2⟩ := this h q
    refine ⟨v, ?_, h2⟩
    unfold L2.start
    rw [List.getElem?_append_left (by rw [List.length_map]; exact getlt h1), List.getElem?_map, h1]
    rfl
  · rw [List.getElem?_append_right (by simpa using hi), List.getElem?_replicate] at q
    split at q <;> cases q
section
variable {P : Program} {w : World} {K : PySem.W.Frag} {mg : Str → Option Value} {base : Heap}
theorem fn_ok {x qual : Str} {st : Stmt} {f : Addr} {fd : FuncData} {N ps : List Str} {k : Nat} {Pre : PreT} (F : Fun K x qual st f fd) (S : FnScope N ps (defScope st)) (hl : ∀ As Ω R, Pre As Ω R → As.length = ps.length)
    (hb : ∀ (cdv : Value) (A : Around) (outer : List PySem.Env) (s : Shared) (H : Hp) (E : XK), Room k (A.deeper (envOfC qual (defScope st) s.heap.objs.size f cdv)) → ∀ As Ω R F0, Pre As Ω R →
      Bod (cxOf CX0 P w K mg base N qual (defScope st) f cdv A outer s H E).nox (defBody st) (As.map some ++ List.replicate (N.length - As.length) none) Ω F0 R) : FnOk P w K mg base CX0 (k + 1) f fd ps (mkSp Pre) := by
  refine F.ok S (fun vs H Q E h => ?_) (fun cdv A outer s H vs Q E hr h => ?_)
  · obtain ⟨F, Ω, As, R, hp, ha, _⟩ := h
    rw [ha.len]; exact hl _ _ _ hp
  · obtain ⟨F0, Ω, As, R, hp, ha, hh, hq⟩ := h
    obtain ⟨t, h1, h2⟩ := hb cdv A outer s H E hr As Ω R F0 hp
    refine ⟨t, h1, h2 _ (fun F v H Ω' e hh r => hq F v H Ω' e hh r) (fun F σ H Ω' e hh r => hq F .non H Ω' e hh r) _ _ ⟨F0, Same.refl F0, start_env ha, hh⟩⟩

/-! ### a def that may be called -/
structure Cal (P : Program) (w : World) (K : PySem.W.Frag) (mg : Str → Option Value) (base : Heap) (k : Nat) (x : Str) (ps : List Str) (sp : Sp) : Prop where
  ex : ∃ f fd, FnOk P w K mg base CX0 k f fd ps sp ∧ mg x = some (.ref f) ∧ PySem.W.keepIn K (.ref f) = true ∧ Binds K fd ps []
theorem pe_cal {X : Cx} {k : Nat} {x : Str} {ps : List Str} {sp : Sp} {p pos : Pos} {e : Expr} {es : List Expr} {t : TA} (C : Cal X.prog X.w X.K X.mg X.base k x ps sp) (hr : Room k X.A) (hg : Gl X x) (ha : PA X (e :: es) t)
    (hdb : (x == ("__debug__" : Str)) = false := by decide) (he : starEach (e :: es) X.env = (false, eval e X.env) :: starEach es X.env := by rfl) (hpl : (backTo pos (starEach es X.env)).any (·.1) = false := by rfl) :
    PE X (.Call (.Name x p) (e :: es) [] pos) (tCall sp [] E0 t) := by
  obtain ⟨f, fd, F, hm, hk, hb⟩ := C.ex
  exact pe_call F hr hg hm hk hb .nil pass0 ha hdb he hpl
/-- a method -/
structure CalM (P : Program) (w : World) (K : PySem.W.Frag) (mg : Str → Option Value) (base : Heap) (k : Nat) (C : Addr) (m : Str) (ps : List Str) (sp : Sp) : Prop where
  ex : ∃ f fd, FnOk P w K mg base CX0 k f fd ps sp ∧ Meth K C m f ∧ Binds K fd ps []
  cl : Cls K C
end

/-! ### the machine -/
structure MS where
  w : Int
  c : Int
  cnt : Str → Int
  wk : List (T3 Str Int Int)
def mf (s : MS) (d e : Addr) : List (Str × V) := [("width", .int s.w), ("cutoff", .int s.c), ("counts", .ref d), ("entered", .ref e)]
def mkv (s : MS) : List (Key × V) := mwords.map fun w => (Sum.inr w, V.int (s.cnt w))
def MachAt (T : TC) (p dx d e : Addr) (ws : List V) (s : MS) (F t : Hp) : Prop := t p = some (.ins (T.C 0) dx (mf s d e)) ∧ t d = some (.dK (mkv s)) ∧ t e = some (.lst ws) ∧ Al T F ws s.wk
def machA (T : TC) (p : Addr) (s : MS) : OA := ⟨fun F t => ∃ dx d e ws, MachAt T p dx d e ws s F t, fun h ⟨dx, d, e, ws, h1, h2, h3, h4⟩ => ⟨dx, d, e, ws, h1, h2, h3, h4.mono h⟩⟩
section
variable {T : TC} {Γ : List (Option VA)} {Ω Ω1 Ω2 : List OA} {A B C : VA} {ta tb te : TE} {s : MS} {p : Addr} {k : Nat}
/-- machine.width, machine.cutoff -/
theorem xe_mw (cl : Cls T.K (T.C 0)) (na : NoAttr T.K (T.C 0) "width") (ha : XE ta Γ Ω (vr p) Ω1) (hk : Ω1[k]? = some (machA T p s)) : XE (tFld T.K ta "width") Γ Ω (va T s.w) Ω1 := fun F σ H e hh Q q => by
  refine ha F σ H e hh _ fun F1 x H1 Ω' e1 hh1 ⟨a1, o1⟩ => ?_
  subst o1
  obtain ⟨t, ⟨dx, d, en, ws, h1, h2, h3, h4⟩, st, _⟩ := hh1.get hk
  exact ⟨p, _, dx, _, _, a1, st _ _ h1, cl, na, rfl, q F1 _ H1 _ e1 hh1 ⟨rfl, rfl⟩⟩
theorem xe_mc (cl : Cls T.K (T.C 0)) (na : NoAttr T.K (T.C 0) "cutoff") (ha : XE ta Γ Ω (vr p) Ω1) (hk : Ω1[k]? = some (machA T p s)) : XE (tFld T.K ta "cutoff") Γ Ω (va T s.c) Ω1 := fun F σ H e hh Q q => by
  refine ha F σ H e hh _ fun F1 x H1 Ω' e1 hh1 ⟨a1, o1⟩ => ?_
  subst o1
  obtain ⟨t, ⟨dx, d, en, ws, h1, h2, h3, h4⟩, st, _⟩ := hh1.get hk
  exact ⟨p, _, dx, _, _, a1, st _ _ h1, cl, na, rfl, q F1 _ H1 _ e1 hh1 ⟨rfl, rfl⟩⟩
end

/-! ### the numbers -/
structure Bg where
  w : Int
  row : List Int
  v : Int
/-- the sign of a number -/
def sgn (v : Int) : Int := if v < 0 then -1 else if v = 0 then 0 else 1
instance : Rp Bg := ⟨fun T F v b => ∃ p dx r vs, v = .ref p ∧ F p = some (.ins (T.C 1) dx [("width", .int b.w), ("side", .int (sgn b.v)), ("row", .ref r), ("value", .int b.v)]) ∧ SqT T.K F r vs ∧ Al T F vs b.row,
  fun e ⟨p, dx, r, vs, h1, h2, h3, h4⟩ => ⟨p, dx, r, vs, h1, e _ _ h2, Same.tup e h3, h4.mono e⟩⟩
section
variable {T : TC} {Γ : List (Option VA)} {Ω Ω1 Ω2 : List OA} {A B C : VA} {ta tb te : TE} {x : Bg} {p : Addr} {k : Nat}
theorem xe_bw (cl : Cls T.K (T.C 1)) (na : NoAttr T.K (T.C 1) "width") (ha : XE ta Γ Ω (va T x) Ω1) : XE (tFld T.K ta "width") Γ Ω (va T x.w) Ω1 := fun F σ H e hh Q q => by
  refine ha F σ H e hh _ fun F1 v H1 Ω' e1 hh1 ⟨⟨p, dx, r, vs, h1, h2, h3, h4⟩, o1⟩ => ?_
  subst o1
  exact ⟨p, _, dx, _, _, h1, hh1.same _ _ h2, cl, na, rfl, q F1 _ H1 _ e1 hh1 ⟨rfl, rfl⟩⟩
theorem xe_bs (cl : Cls T.K (T.C 1)) (na : NoAttr T.K (T.C 1) "side") (ha : XE ta Γ Ω (va T x) Ω1) : XE (tFld T.K ta "side") Γ Ω (va T (sgn x.v)) Ω1 := fun F σ H e hh Q q => by
  refine ha F σ H e hh _ fun F1 v H1 Ω' e1 hh1 ⟨⟨p, dx, r, vs, h1, h2, h3, h4⟩, o1⟩ => ?_
  subst o1
  exact ⟨p, _, dx, _, _, h1, hh1.same _ _ h2, cl, na, rfl, q F1 _ H1 _ e1 hh1 ⟨rfl, rfl⟩⟩
theorem xe_br (cl : Cls T.K (T.C 1)) (na : NoAttr T.K (T.C 1) "row") (ha : XE ta Γ Ω (va T x) Ω1) : XE (tFld T.K ta "row") Γ Ω (va T (TF.mk x.row)) Ω1 := fun F σ H e hh Q q => by
  refine ha F σ H e hh _ fun F1 v H1 Ω' e1 hh1 ⟨⟨p, dx, r, vs, h1, h2, h3, h4⟩, o1⟩ => ?_
  subst o1
  exact ⟨p, _, dx, _, _, h1, hh1.same _ _ h2, cl, na, rfl, q F1 _ H1 _ e1 hh1 ⟨⟨r, vs, rfl, h3, h4⟩, rfl⟩⟩
theorem xe_bv (cl : Cls T.K (T.C 1)) (na : NoAttr T.K (T.C 1) "value") (ha : XE ta Γ Ω (va T x) Ω1) : XE (tFld T.K ta "value") Γ Ω (va T x.v) Ω1 := fun F σ H e hh Q q => by
  refine ha F σ H e hh _ fun F1 v H1 Ω' e1 hh1 ⟨⟨p, dx, r, vs, h1, h2, h3, h4⟩, o1⟩ => ?_
  subst o1
  exact ⟨p, _, dx, _, _, h1, hh1.same _ _ h2, cl, na, rfl, q F1 _ H1 _ e1 hh1 ⟨rfl, rfl⟩⟩
end
/-! ### things in the making -/
def rawA (t0 : Hp) : OA := ⟨fun _ t => Same t0 t, fun _ h => h⟩
section
variable {F F' H H' : Hp} {Ω : List OA} {o o' : OA} {i j : Nat} {a p : Addr} {u u' : HO}
theorem Holds.conv (h : Holds F Ω H) (q : Ω[i]? = some o) (k : ∀ t, o.P F t → o'.P F t) : Holds F (Ω.set i o') H := by
  obtain ⟨ts, h1, h2, h3, h4, h5⟩ := h
  have lt := getlt q
  refine ⟨ts, fun k x r => ?_, h2, fun k r => h3 k (by rwa [List.length_set] at r), fun k b x r => h4 k b x (by rwa [List.length_set] at r), fun k m b x r r2 => h5 k m b x (by rwa [List.length_set] at r) (by rwa [List.length_set] at r2)⟩
  by_cases hk : i = k
  · subst hk
    rw [List.getElem?_set_self lt] at r
    cases r
    exact k _ (h1 _ _ q)
  · rw [List.getElem?_set_ne hk] at r
    exact h1 k x r
/-- the thing at i, its part of the heap laid open -/
theorem Holds.opened (h : Holds F Ω H) (q : Ω[i]? = some o) : ∃ t, o.P F t ∧ Same t H ∧ Holds F (Ω.set i (rawA t)) H := by
  obtain ⟨ts, h1, h2, h3, h4, h5⟩ := h
  have lt := getlt q
  refine ⟨ts i, h1 i o q, h3 i lt, ts, fun k x r => ?_, h2, fun k r => h3 k (by rwa [List.length_set] at r), fun k b x r => h4 k b x (by rwa [List.length_set] at r), fun k m b x r r2 => h5 k m b x (by rwa [List.length_set] at r) (by rwa [List.length_set] at r2)⟩
  by_cases hk : i = k
  · subst hk
    rw [List.getElem?_set_self lt] at r
    cases r
    exact Same.refl _
  · rw [List.getElem?_set_ne hk] at r
    exact h1 k x r
theorem Holds.rawWrite {t : Hp} (h : Holds F Ω H) (q : Ω[i]? = some (rawA t)) (ha : t a = some u) : Holds F (Ω.set i (rawA (upd t a u'))) (upd H a u') := by
  obtain ⟨t2, s2, st, _, wr⟩ := h.get q
  refine wr (rawA (upd t a u')) a u u' (s2 _ _ ha) fun b x e => ?_
  by_cases hb : b = a
  · subst hb; rw [upd_same] at e ⊢; exact e
  · rw [upd_ne hb] at e ⊢; exact s2 _ _ e
theorem Holds.rawHas {t : Hp} (h : Holds F Ω H) (q : Ω[i]? = some (rawA t)) : Same t H := let ⟨_, s2, st, _⟩ := h.get q; fun b x e => st _ _ (s2 b x e)
end
/-- a new instance, nothing in it -/
def newA (C p : Addr) : OA := ⟨fun _ t => ∃ dx, t p = some (.ins C dx []), fun _ h => h⟩
section
variable {T : TC} {Γ : List (Option VA)} {Ω Ω1 Ω2 : List OA} {A B C : VA} {As Ds : List VA} {ta tb te : TE} {D : Ends} {F0 : Hp} {ts : TS}
theorem xn_make {C : Addr} {Pre : PreT} {E : XK} {t : TA} {dvs : List V} {o : Addr → OA} (ha : XA t Γ Ω As Ω1) (hd : ∀ F, AlA F dvs Ds) (hp : ∀ x, Pre (vr x :: (As ++ Ds)) (Ω1 ++ [newA C x]) (RV (va T ()) (Ω1 ++ [o x]))) :
    XG (tMake C (mkSp Pre) dvs E t) Γ Ω (RN Ω1 o) := fun F σ H e hh Q q => by
  refine ha F σ H e hh _ fun F1 xs H1 e1 hh1 a1 => ?_
  intro x dx nx ndx nex
  have hh2 : Holds F1 (Ω1 ++ [newA C x]) (upd (upd H1 dx (.own x)) x (.ins C dx [])) := by
    refine hh1.newO (t := upd (fun _ => none) x (.ins C dx [])) (fun b y r => by rw [sng_some r]; exact nx) (fun b y r => ?_) (fun b y r => ?_) ⟨dx, upd_same⟩
    · rw [upd_ne (ne_of_none r nx), upd_ne (ne_of_none r ndx)]; exact r
    · have hb := sng_some r
      subst hb
      rw [upd_same] at r ⊢; exact r
  refine ⟨F1, Ω1 ++ [newA C x], vr x :: (As ++ Ds), _, hp x, .cons rfl (a1.app (hd F1)), hh2, fun F' v H' Ω' e' hh' ⟨hv, ho⟩ => ⟨hv, ?_⟩⟩
  subst ho
  exact q F' _ H' _ (e1.trans e') hh' ⟨x, rfl, rfl⟩
def bigA (T : TC) (p : Addr) (b : Bg) : OA := ⟨fun F t => ∃ dx r vs, t p = some (.ins (T.C 1) dx [("width", .int b.w), ("side", .int (sgn b.v)), ("row", .ref r), ("value", .int b.v)]) ∧ SqT T.K F r vs ∧ Al T F vs b.row,
  fun e ⟨dx, r, vs, h2, h3, h4⟩ => ⟨dx, r, vs, h2, Same.tup e h3, h4.mono e⟩⟩
theorem xe_fzB {b : Bg} (h : XG te Γ Ω (RN Ω1 fun p => bigA T p b)) : XE te Γ Ω (va T b) Ω1 := fun F σ H e hh Q q =>
  h F σ H e hh Q fun F1 v H1 Ω' e1 hh1 ⟨p, hv, o1⟩ => by
    subst o1
    obtain ⟨F', t, s1, s2, ⟨dx, r, vs, h2, h3, h4⟩, hh'⟩ := hh1.freeze
    exact q F' v H1 _ (e1.trans s1) hh' ⟨⟨p, dx, r, vs, hv, s2 _ _ h2, Same.tup s1 h3, h4.mono s1⟩, rfl⟩
end
/-! ### what the machine's methods do -/
def MS.step (s : MS) (w : Str) (n : Int) : MS := { s with cnt := fun x => if x = w then s.cnt x + n else s.cnt x }
def MS.enter (s : MS) (w : Str) (m n : Int) : MS := { s with wk := if s.wk.length < 1000 then s.wk ++ [T3.mk w m n] else s.wk }
def MS.fresh (w c : Int) : MS := ⟨w, c, fun _ => 0, []⟩
def MS.reset (s : MS) : MS := MS.fresh s.w s.c
theorem mwords_nd : mwords.Nodup := by decide +kernel
theorem val_words {f : Str → Int} : ∀ {ws : List Str} {w : Str}, w ∈ ws → valV (ws.map fun w => ((Sum.inr w : Key), V.int (f w))) (Sum.inr w) = some (V.int (f w)) := by
  intro ws w hw
  unfold valV
  induction ws with
  | nil => cases hw
  | cons a r ih =>
    rw [List.map_cons, List.find?_cons]
    by_cases h : a = w
    · subst h; simp
    · have : decide ((Sum.inr a : Key) = Sum.inr w) = false := decide_eq_false fun e => h (Sum.inr.inj e)
      simp only [this]
      rcases List.mem_cons.mp hw with e | e
      · exact absurd e.symm h
      · exact ih e
end VL

set_option Elab.async false
set_option linter.all false
set_option maxRecDepth 100000
/-! the machine's methods, the numbers' -/
namespace VL
open PySem L2
theorem putK_words {f : Str → Int} {w : Str} (n : Int) {ws : List Str} (hw : w ∈ ws) :
    putK (ws.map fun x => ((Sum.inr x : Key), V.int (f x))) (Sum.inr w) (V.int n) = ws.map fun x => ((Sum.inr x : Key), V.int (if x = w then n else f x)) := by
  have any : ((ws.map fun x => ((Sum.inr x : Key), V.int (f x))).any fun kv => decide (kv.1 = Sum.inr w)) = true :=
    List.any_eq_true.mpr ⟨_, List.mem_map.mpr ⟨w, hw, rfl⟩, decide_eq_true rfl⟩
  unfold putK
  rw [if_pos any, List.map_map]
  apply List.map_congr_left
  intro x _
  show (if (Sum.inr x : Key) = Sum.inr w then ((Sum.inr x : Key), V.int n) else (Sum.inr x, V.int (f x))) = _
  by_cases e : x = w
  · rw [if_pos (by rw [e]), if_pos e]
  · rw [if_neg (fun z => e (Sum.inr.inj z)), if_neg e]
theorem mwords_len (s : MS) : (mkv s).length < sizeLine := by
  unfold mkv
  rw [List.length_map]
  decide +kernel
section
variable {T : TC} {Γ : List (Option VA)} {Ω Ω1 Ω2 : List OA} {A B C : VA} {As Ds : List VA} {ta tb te : TE} {D : Ends} {F0 : Hp} {ts : TS} {s : MS} {p : Addr} {k : Nat}
/-- what the machine's class must be -/
structure MCls (K : PySem.W.Frag) (C : Addr) : Prop where
  cl : Cls K C
  nw : NoAttr K C "width"
  nc : NoAttr K C "cutoff"
  nt : NoAttr K C "counts"
  ne : NoAttr K C "entered"
structure BCls (K : PySem.W.Frag) (C : Addr) : Prop where
  cl : Cls K C
  nw : NoAttr K C "width"
  ns : NoAttr K C "side"
  nr : NoAttr K C "row"
  nv : NoAttr K C "value"
theorem look_ne {a b : Str} {v : V} {fs : List (Str × V)} (h : (b == a) = false) : ((a, v) :: fs).lookup b = fs.lookup b := by
  rw [List.lookup_cons, h]
theorem mf_counts (d e : Addr) : (mf s d e).lookup ("counts" : Str) = some (V.ref d) := by
  unfold mf
  rw [look_ne (by decide +kernel), look_ne (by decide +kernel)]
  rfl
theorem mf_entered (d e : Addr) : (mf s d e).lookup ("entered" : Str) = some (V.ref e) := by
  unfold mf
  rw [look_ne (by decide +kernel), look_ne (by decide +kernel), look_ne (by decide +kernel)]
  rfl
theorem putF_miss {f g : Str} {v x : V} {fs : List (Str × V)} (h : ¬ g = f) : putF f v ((g, x) :: fs) = (g, x) :: putF f v fs := by
  show (if g = f then _ else (g, x) :: putF f v fs) = _
  rw [if_neg h]
/-- self.counts[word] += many -/
theorem xs_step {wd : Str} {n : Int} (mc : MCls T.K (T.C 0)) (h0 : Γ[0]? = some (some (vr p))) (h1 : Γ[1]? = some (some (va T wd))) (h2 : Γ[2]? = some (some (va T n))) (hk : Ω[k]? = some (machA T p s)) (hw : wd ∈ mwords)
    (q : ∀ σ H, NX F0 Γ (Ω.set k (machA T p (s.step wd n))) σ H → D.nx σ H) : XS (sDAug (tFld T.K (tVar 0) "counts") (tVar 1) (tVar 2) rAdd) D F0 Γ Ω := fun σ H ⟨F, f0, e, hh⟩ => by
  obtain ⟨v0, a0, b0⟩ := e.2 0 _ h0
  obtain ⟨v1, a1, b1⟩ := e.2 1 _ h1
  obtain ⟨v2, a2, b2⟩ := e.2 2 _ h2
  have b1 : v1 = .str wd := b1
  have b2 : v2 = .int n := b2
  subst b1 b2
  obtain ⟨t, ⟨dx, d, en, ws, m1, m2, m3, m4⟩, st, _, wr⟩ := hh.get hk
  refine ⟨v0, a0, p, _, dx, _, _, b0, st _ _ m1, mc.cl, mc.nt, mf_counts d en, .str wd, a1, d, .int (s.cnt wd), rfl, ?_, .int n, a2, s.cnt wd, n, rfl, rfl, ?_⟩
  · have g := DGet.k (k := Sum.inr wd) (st _ _ m2)
    rw [show valV (mkv s) (Sum.inr wd) = some (V.int (s.cnt wd)) from val_words hw] at g
    exact g
  · refine ⟨_, DPut.k (k := Sum.inr wd) (st _ _ m2) (mwords_len s), q σ _ ⟨F, f0, e, wr (machA T p (s.step wd n)) d _ _ m2 ⟨dx, d, en, ws, ?_, ?_, ?_, m4⟩⟩⟩
    · rw [upd_ne (by intro z; rw [z, m2] at m1; cases m1)]; exact m1
    · rw [upd_same]
      unfold mkv
      rw [putK_words _ hw]
      congr 2
      apply List.map_congr_left
      intro x _
      show (Sum.inr x, V.int _) = (Sum.inr x, V.int (if x = wd then s.cnt x + n else s.cnt x))
      by_cases z : x = wd
      · rw [if_pos z, if_pos z, z]
      · rw [if_neg z, if_neg z]
    · rw [upd_ne (by intro z; rw [z, m2] at m3; cases m3)]; exact m3
/-- if len(self.entered) < 1000: self.entered.append((word, m, n)) -/
theorem xs_enter {wd : Str} {m n : Int} (mc : MCls T.K (T.C 0)) (h0 : Γ[0]? = some (some (vr p))) (h1 : Γ[1]? = some (some (va T wd))) (h2 : Γ[2]? = some (some (va T m))) (h3 : Γ[3]? = some (some (va T n))) (hk : Ω[k]? = some (machA T p s))
    (q : ∀ σ H, NX F0 Γ (Ω.set k (machA T p (s.enter wd m n))) σ H → D.nx σ H) :
    XS (tIfS (tTest (tOp (rI0 fun i j => .bl (decide (i < j))) (tCB (rLen T.K) (tCons (tFld T.K (tVar 0) "entered") tNil)) (tC (.int 1000))))
      (tDrop (tBM T.K "list" rAppend (tFld T.K (tVar 0) "entered") (tCons (tTup (tCons (tVar 1) (tCons (tVar 2) (tCons (tVar 3) tNil)))) tNil))) tNext) D F0 Γ Ω := fun σ H ⟨F, f0, e, hh⟩ => by
  obtain ⟨v0, a0, b0⟩ := e.2 0 _ h0
  obtain ⟨v1, a1, b1⟩ := e.2 1 _ h1
  obtain ⟨v2, a2, b2⟩ := e.2 2 _ h2
  obtain ⟨v3, a3, b3⟩ := e.2 3 _ h3
  obtain ⟨t, ⟨dx, d, en, ws, m1, m2, m3, m4⟩, st, _, wr⟩ := hh.get hk
  refine ⟨v0, a0, p, _, dx, _, _, b0, st _ _ m1, mc.cl, mc.ne, mf_entered d en, en, ws, rfl, .inl (SqL.of (st _ _ m3)), (ws.length : Int), 1000, rfl, rfl, _, rfl, ite2 (fun h => ?_) (fun h => ?_)⟩
  · have lt : ws.length < 1000 := by have := of_decide_eq_true h; omega
    refine ⟨v0, a0, p, _, dx, _, _, b0, st _ _ m1, mc.cl, mc.ne, mf_entered d en, .inl ⟨rfl, _, SqL.of (st _ _ m3)⟩, v1, a1, v2, a2, v3, a3, by show 3 ≤ sizeLine; decide, fun x hx => ?_⟩
    obtain ⟨hh2, e2⟩ := hh.newF (u := .tup [v1, v2, v3]) hx
    obtain ⟨t', ⟨dx', d', en', ws', m1', m2', m3', m4'⟩, st', _, wr'⟩ := hh2.get hk
    have nx : ∀ b y, H b = some y → b ≠ x := fun b y r => ne_of_none r hx
    have i1 := (st' _ _ m1').symm.trans ((upd_ne (nx _ _ (st _ _ m1))).trans (st _ _ m1))
    have i1 : mf s d' en' = mf s d en := by
      have := Option.some.inj i1
      injection this
    have i2 : en' = en := by
      unfold mf at i1
      injection i1 with _ i1
      injection i1 with _ i1
      injection i1 with _ i1
      injection i1 with i1 _
      injection i1 with _ i1
      injection i1
    subst i2
    have i3 := (st' _ _ m3').symm.trans ((upd_ne (nx _ _ (st _ _ m3))).trans (st _ _ m3))
    cases i3
    refine ⟨en', ws, _, rfl, rfl, st' _ _ m3', Nat.lt_trans lt (by decide), q σ _ ⟨_, f0.trans e2, e.mono e2, wr' (machA T p (s.enter wd m n)) en' _ _ m3' ⟨dx', d', en', _, ?_, ?_, upd_same, ?_⟩⟩⟩
    · rw [upd_ne (by intro z; rw [z, m3'] at m1'; cases m1')]; exact m1'
    · rw [upd_ne (by intro z; rw [z, m3'] at m2'; cases m2')]; exact m2'
    · have hl : s.wk.length < 1000 := by rw [← al_len m4]; exact lt
      show Al T _ _ (if s.wk.length < 1000 then s.wk ++ [T3.mk wd m n] else s.wk)
      rw [if_pos hl]
      exact al_app m4' (.cons ⟨x, v1, v2, v3, rfl, SqT.of upd_same, Rp.mono (α := Str) e2 b1, Rp.mono (α := Int) e2 b2, Rp.mono (α := Int) e2 b3⟩ .nil)
  · have ge : ¬ s.wk.length < 1000 := by
      intro z
      apply h
      rw [← al_len m4] at z
      exact decide_eq_true (by omega)
    refine q σ H ⟨F, f0, e, ?_⟩
    have es : s.enter wd m n = s := by
      unfold MS.enter
      rw [if_neg ge]
    rw [es]
    have : Ω.set k (machA T p s) = Ω := by
      apply List.ext_getElem?
      intro j
      by_cases z : k = j
      · subst z; rw [List.getElem?_set_self (getlt hk), hk]
      · rw [List.getElem?_set_ne z]
    rw [this]
    exact hh
/-! ### a thing in the making: its attributes stored one by one -/
theorem xs_fldV {C : Addr} {f : Str} {v0 : V} {t : Hp} {dx : Addr} {fs : List (Str × V)} {j : Nat} (cl : Cls T.K C) (na : NoAttr T.K C f) (h : XE te Γ Ω (vx v0) Ω) (hj : Γ[j]? = some (some (vr p))) (hk : Ω[k]? = some (rawA t)) (ht : t p = some (.ins C dx fs)) (hl : fs.length < 1000)
    (q : XS ts D F0 Γ (Ω.set k (rawA (upd t p (.ins C dx (putF f v0 fs)))))) : XS (tSeq (sFld T.K (tVar j) te f) ts) D F0 Γ Ω := fun σ H ⟨F, f0, e, hh⟩ => by
  refine h F σ H e hh _ fun F1 v H1 Ω' e1 hh1 ⟨a1, o1⟩ => ?_
  subst o1
  have a1 : v = v0 := a1
  subst a1
  obtain ⟨x, h1, h2⟩ := e.2 j _ hj
  refine ⟨x, h1, p, C, dx, fs, h2, hh1.rawHas hk _ _ ht, cl, na, hl, ?_⟩
  exact q σ _ ⟨F1, f0.trans e1, e.mono e1, hh1.rawWrite hk ht⟩
theorem xs_fldN {C : Addr} {f : Str} {u : HO} {t : Hp} {dx : Addr} {fs : List (Str × V)} {j : Nat} (cl : Cls T.K C) (na : NoAttr T.K C f) (h : XG te Γ Ω (RN Ω fun r => rawA (upd (fun _ => none) r u))) (hj : Γ[j]? = some (some (vr p))) (hk : Ω[k]? = some (rawA t)) (ht : t p = some (.ins C dx fs)) (hl : fs.length < 1000)
    (q : ∀ r, t r = none → XS ts D F0 Γ (Ω.set k (rawA (upd (upd t r u) p (.ins C dx (putF f (.ref r) fs)))))) : XS (tSeq (sFld T.K (tVar j) te f) ts) D F0 Γ Ω := fun σ H ⟨F, f0, e, hh⟩ => by
  refine h F σ H e hh _ fun F1 v H1 Ω' e1 hh1 ⟨r, a1, o1⟩ => ?_
  subst o1 a1
  obtain ⟨x, h1, h2⟩ := e.2 j _ hj
  obtain ⟨t1, t2, s1, s2, _, _, dj, kk⟩ := hh1.merge hk
  have nt : t r = none := by
    cases z : t r with
    | none => rfl
    | some y => exact (nn (s2 r u upd_same) (dj r y (s1 _ _ z))).elim
  have hh2 : Holds F1 (Ω.set k (rawA (upd t r u))) H1 := kk _ fun b y e => by
    by_cases hb : b = r
    · subst hb
      rw [upd_same] at e
      cases e
      refine cup_r (fun c y z => ?_) b u (s2 b u upd_same)
      cases w : t1 c with
      | none => rfl
      | some y2 => exact (nn z (dj c y2 w)).elim
    · rw [upd_ne hb] at e
      exact cup_l b y (s1 b y e)
  have hk2 : (Ω.set k (rawA (upd t r u)))[k]? = some (rawA (upd t r u)) := List.getElem?_set_self (getlt hk)
  have np : p ≠ r := ne_of_none ht nt
  have ht2 : upd t r u p = some (.ins C dx fs) := by rw [upd_ne np]; exact ht
  refine ⟨x, h1, p, C, dx, fs, h2, hh2.rawHas hk2 _ _ ht2, cl, na, hl, ?_⟩
  have hh3 := hh2.rawWrite (u' := .ins C dx (putF f (.ref r) fs)) hk2 ht2
  rw [List.set_set] at hh3
  exact q r nt σ _ ⟨F1, f0.trans e1, e.mono e1, hh3⟩
theorem NX.conv {o o' : OA} {σ : L2.St} {H : Hp} (h : NX F0 Γ Ω σ H) (hk : Ω[k]? = some o) (c : ∀ F t, Same F0 F → o.P F t → o'.P F t) : NX F0 Γ (Ω.set k o') σ H :=
  let ⟨F, f0, e, hh⟩ := h
  ⟨F, f0, e, hh.conv hk fun t => c F t f0⟩
/-- {word: 0 for word in WORDS} -/
theorem xn_zeros {aW : Addr} {i : Nat} {vs : List Nat} (hW : ∀ H, SqT T.K H aW (mwords.map V.str)) (hi : i ∈ vs) (hlt : i < Γ.length) :
    XG (tDc (iTup T.K (tC (.ref aW))) (gName i) tYes (tVar i) (tC (.int 0)) vs) Γ Ω (RN Ω fun r => rawA (upd (fun _ => none) r (.dK (mwords.map fun w => (Sum.inr w, V.int 0))))) := fun F σ H e hh Q q => by
  refine ⟨aW, rfl, ⟨_, hW H⟩, fun d hd => ?_⟩
  refine dc_tup (xs := mwords.map V.str) (fun m H' => Holds F (Ω ++ [rawA (upd (fun _ => none) d (.dK ((mwords.take m).map fun w => (Sum.inr w, V.int 0))))]) H') (hh.newL hd (Same.refl _)) (fun _ H' _ _ => hW H') (fun m x H' hx p => ?_) (fun H' p => ?_)
  · rw [List.getElem?_map] at hx
    cases hw : mwords[m]? with
    | none => rw [hw] at hx; cases hx
    | some wd =>
      rw [hw] at hx
      cases hx
      refine ⟨(wipe_set hi).trans (wipe_wipe vs), ?_⟩
      simp only [tYes, ↓reduceIte]
      have li : i < (wipe σ vs).length := by rw [wipe_length, e.1]; exact hlt
      refine ⟨.str wd, by rw [List.getElem?_set_self li], _, Sum.inr wd, rfl, p.rawHas app_at d _ upd_same, ?_, ?_⟩
      · rw [List.length_map, List.length_take]
        exact Nat.lt_of_le_of_lt (Nat.min_le_right _ _) (by decide +kernel)
      · have hh2 := p.rawWrite (u' := .dK (putK ((mwords.take m).map fun w => ((Sum.inr w : Key), V.int 0)) (Sum.inr wd) (.int 0))) app_at upd_same
        rw [set_last, upd_upd] at hh2
        have nin : valV ((mwords.take m).map fun w => ((Sum.inr w : Key), V.int 0)) (Sum.inr wd) = none := by
          cases z : valV ((mwords.take m).map fun w => ((Sum.inr w : Key), V.int 0)) (Sum.inr wd) with
          | none => rfl
          | some y =>
            have hm := valV_in z
            rw [List.map_map] at hm
            obtain ⟨w2, h2, e2⟩ := List.mem_map.mp hm
            have e2 : w2 = wd := Sum.inr.inj e2
            subst e2
            obtain ⟨j2, h3, h4⟩ := List.mem_take_iff_getElem.mp h2
            have hlt3 : j2 < mwords.length := by omega
            have eq2 : mwords[j2]? = some w2 := by rw [List.getElem?_eq_getElem hlt3, h4]
            have := nd_ix mwords_nd eq2 hw
            omega
        rw [putK_new _ nin] at hh2
        rw [List.take_add_one, hw, List.map_append, putK_new _ nin]
        exact hh2
  · rw [show (mwords.map V.str).length = mwords.length from List.length_map _, List.take_length] at p
    exact q F (.ref d) H' _ (Same.refl F) p ⟨d, rfl, rfl⟩
/-- the whole of a machine's __init__ behind its checks: four stores -/
theorem mf_put {w c : Int} {d e : Addr} : putF "entered" (.ref e) (putF "counts" (.ref d) (putF "cutoff" (.int c) (putF "width" (.int w) []))) = ([("width", .int w), ("cutoff", .int c), ("counts", .ref d), ("entered", .ref e)] : List (Str × V)) := by
  rw [show putF "width" (.int w) [] = [(("width" : Str), V.int w)] from rfl, putF_miss (f := "cutoff") (g := "width") (by decide +kernel), show putF "cutoff" (.int c) [] = [(("cutoff" : Str), V.int c)] from rfl,
    putF_miss (f := "counts") (g := "width") (by decide +kernel), putF_miss (f := "counts") (g := "cutoff") (by decide +kernel), show putF "counts" (.ref d) [] = [(("counts" : Str), V.ref d)] from rfl,
    putF_miss (f := "entered") (g := "width") (by decide +kernel), putF_miss (f := "entered") (g := "cutoff") (by decide +kernel), putF_miss (f := "entered") (g := "counts") (by decide +kernel)]
  all_goals rfl
theorem set_get {l : List OA} {k : Nat} {o o' : OA} (h : l[k]? = some o) : (l.set k o')[k]? = some o' := List.getElem?_set_self (getlt h)
/-- self.width = bits; self.cutoff = cutoff; self.counts = {..}; self.entered = [] -/
theorem xs_minit {w c : Int} {aW : Addr} {i : Nat} {vs : List Nat} (mc : MCls T.K (T.C 0)) (hW : ∀ H, SqT T.K H aW (mwords.map V.str)) (hi : i ∈ vs) (hlt : i < Γ.length)
    (h0 : Γ[0]? = some (some (vr p))) (h1 : Γ[1]? = some (some (va T w))) (h2 : Γ[2]? = some (some (va T c))) (hk : Ω[k]? = some (newA (T.C 0) p)) (q : ∀ σ H, NX F0 Γ (Ω.set k (machA T p (MS.fresh w c))) σ H → D.nx σ H) :
    XS (tSeq (sFld T.K (tVar 0) (tVar 1) "width") (tSeq (sFld T.K (tVar 0) (tVar 2) "cutoff") (tSeq (sFld T.K (tVar 0) (tDc (iTup T.K (tC (.ref aW))) (gName i) tYes (tVar i) (tC (.int 0)) vs) "counts") (sFld T.K (tVar 0) (tLst tNil) "entered")))) D F0 Γ Ω := by
  intro σ H ⟨F, f0, e, hh⟩
  obtain ⟨t, ⟨dx, ht⟩, _, hh2⟩ := hh.opened hk
  have hk2 : (Ω.set k (rawA t))[k]? = some (rawA t) := set_get hk
  have iv : ∀ {j : Nat} {n : Int} {Ω' : List OA}, Γ[j]? = some (some (va T n)) → XE (tVar j) Γ Ω' (vx (.int n)) Ω' := fun h => (xe_var h).to fun F v a => a
  refine xs_fldV (D := D) (ts := (tSeq (sFld T.K (tVar 0) (tVar 2) "cutoff") (tSeq (sFld T.K (tVar 0) (tDc (iTup T.K (tC (.ref aW))) (gName i) tYes (tVar i) (tC (.int 0)) vs) "counts") (sFld T.K (tVar 0) (tLst tNil) "entered")))) mc.cl mc.nw (iv h1) h0 hk2 ht (by decide) ?_ σ H ⟨F, Same.refl F, e, hh2⟩
  rw [List.set_set]
  refine xs_fldV mc.cl mc.nc (iv h2) h0 (set_get hk) upd_same (by show 1 < 1000; decide) ?_
  rw [List.set_set, upd_upd]
  refine xs_fldN mc.cl mc.nt (xn_zeros hW hi hlt) h0 (set_get hk) upd_same (by rw [show putF "width" (V.int w) [] = [(("width" : Str), V.int w)] from rfl, putF_miss (by decide +kernel)]; show 2 < 1000; decide) fun d hd => ?_
  rw [List.set_set]
  refine fun σ H n => xs_fldN (ts := tNext) mc.cl mc.ne (u := .lst []) (p := p) ?_ h0 (set_get hk) upd_same ?_ (fun en he => ?_) σ H n
  · exact fun F σ H e hh Q q => ⟨Nat.zero_le _, fun r hr => q F (.ref r) _ _ (Same.refl F) (hh.newL (o := rawA (upd (fun _ => none) r (.lst []))) hr (Same.refl _)) ⟨r, rfl, rfl⟩⟩
  · rw [show putF "width" (V.int w) [] = [(("width" : Str), V.int w)] from rfl, putF_miss (by decide +kernel), show putF "cutoff" (V.int c) [] = [(("cutoff" : Str), V.int c)] from rfl, putF_miss (by decide +kernel), putF_miss (by decide +kernel)]
    show 3 < 1000
    decide
  · rw [List.set_set, mf_put]
    intro σ H n
    have npd : d ≠ p := fun z => by rw [z, upd_same] at hd; cases hd
    have npe : en ≠ p := fun z => by rw [z, upd_same] at he; cases he
    have nde : d ≠ en := fun z => by rw [← z, upd_ne npd, upd_same] at he; cases he
    have n2 := n.conv (o' := machA T p (MS.fresh w c)) (set_get hk) fun F t f st => ⟨dx, d, en, [], st p _ upd_same, st d _ (by rw [upd_ne npd, upd_ne nde, upd_ne npd, upd_same]; rfl), st en _ (by rw [upd_ne npe, upd_same]), .nil⟩
    rw [List.set_set] at n2
    obtain ⟨F2, f2, e2, hh3⟩ := n2
    exact q σ H ⟨F2, f0.trans f2, e2, hh3⟩
/-- self.counts[word] -/
theorem xe_cnt {wd : Str} {i j : Nat} (mc : MCls T.K (T.C 0)) (ha : Γ[j]? = some (some (vr p))) (hy : Γ[i]? = some (some (va T wd))) (hk : Ω[k]? = some (machA T p s)) (hw : wd ∈ mwords) : XE (tDGet (tFld T.K (tVar j) "counts") (tVar i)) Γ Ω (va T (s.cnt wd)) Ω := fun F σ H e hh Q q => by
  obtain ⟨v0, a0, b0⟩ := e.2 j _ ha
  obtain ⟨v1, a1, b1⟩ := e.2 i _ hy
  have b1 : v1 = .str wd := b1
  subst b1
  obtain ⟨t, ⟨dx, d, en, ws, m1, m2, m3, m4⟩, st, _⟩ := hh.get hk
  refine ⟨v0, a0, p, _, dx, _, _, b0, st _ _ m1, mc.cl, mc.nt, mf_counts d en, .str wd, a1, d, .int (s.cnt wd), rfl, ?_, q F _ H _ (Same.refl F) hh ⟨rfl, rfl⟩⟩
  have g := DGet.k (k := Sum.inr wd) (st _ _ m2)
  rw [show valV (mkv s) (Sum.inr wd) = some (V.int (s.cnt wd)) from val_words hw] at g
  exact g
/-- self.entered, as a list -/
theorem xe_walk {j : Nat} (mc : MCls T.K (T.C 0)) (ha : Γ[j]? = some (some (vr p))) (hk : Ω[k]? = some (machA T p s)) : XE (tCB (rList T.K) (tCons (tFld T.K (tVar j) "entered") tNil)) Γ Ω (va T (LF.mk s.wk)) Ω := fun F σ H e hh Q q => by
  obtain ⟨v0, a0, b0⟩ := e.2 j _ ha
  obtain ⟨t, ⟨dx, d, en, ws, m1, m2, m3, m4⟩, st, _⟩ := hh.get hk
  refine ⟨v0, a0, p, _, dx, _, _, b0, st _ _ m1, mc.cl, mc.ne, mf_entered d en, en, ws, rfl, .inl (SqL.of (st _ _ m3)), fun l hl => ?_⟩
  obtain ⟨hh2, e2⟩ := hh.newF (u := .lst ws) hl
  exact q _ _ _ _ e2 hh2 ⟨⟨l, ws, rfl, upd_same, m4.mono e2⟩, rfl⟩
/-- the words of the tally -/
theorem xi_words {aW : Addr} (hW : ∀ H, SqT T.K H aW (mwords.map V.str)) : XI (iTup T.K (tC (.ref aW))) Γ Ω mwords (fun a => va T a) Ω := fun F σ H e hh R r => by
  have al : ∀ l : List Str, Al T F (l.map V.str) l := fun l => by
    induction l with
    | nil => exact .nil
    | cons a r ih => exact .cons rfl ih
  exact ⟨aW, rfl, ⟨_, hW H⟩, r F _ H _ (Same.refl F) hh wk_tup ⟨hW F, al mwords⟩⟩
theorem lcM_all {β γ : Type} (f : β → γ) : ∀ l : List β, lcM (fun x (_ : Unit) => some (some (f x), ())) l () = some (l.map f, ())
  | [] => rfl
  | x :: r => by
    show ((lcM (fun x (_ : Unit) => some (some (f x), ())) r ()).bind fun (ys, s'') => some (f x :: ys, s'')) = _
    rw [lcM_all f r]
    rfl
def MS.tally (s : MS) : List (Str × Int) := mwords.map fun w => (w, s.cnt w)
theorem xe_tally {aW : Addr} {i j : Nat} {vs : List Nat} (mc : MCls T.K (T.C 0)) (hW : ∀ H, SqT T.K H aW (mwords.map V.str)) (hi : i ∈ vs) (ha : ((wip Γ vs).set i none)[j]? = some (some (vr p))) (hlt : i < (wip Γ vs).length) (hk : Ω[k]? = some (machA T p s)) :
    XE (tLc (iTup T.K (tC (.ref aW))) (gName i) tYes (tTup (tCons (tVar i) (tCons (tDGet (tFld T.K (tVar j) "counts") (tVar i)) tNil))) vs) Γ Ω (va T (LF.mk s.tally)) Ω := by
  refine xe_fz (xn_lc (fun _ : Unit => Ω) (lcM_all (fun w => (w, s.cnt w)) mwords) (xi_words hW) (fun a => tgt_name) (fun m hm => by rw [List.mem_singleton.mp hm]; exact hi) (by decide +kernel) fun a s1 o s2 hm h X => ⟨fun e => ?_, fun y e => ?_⟩)
  · subst e; cases h
  · subst e
    cases h
    have hj : ((wip Γ vs).set i (some (va T a)))[j]? = some (some (vr p)) := by
      have ne : i ≠ j := fun z => by
        subst z
        rw [List.getElem?_set_self hlt] at ha
        cases ha
      rw [List.getElem?_set_ne ne] at ha ⊢
      exact ha
    have hi' : ((wip Γ vs).set i (some (va T a)))[i]? = some (some (va T a)) := List.getElem?_set_self hlt
    exact ⟨xt_yes, xe_tup2 (xa_cons (xe_var hi') (xa_cons (xe_cnt mc hj hi' (app_lt hk) hm) xa_nil))⟩
/-- a frozen thing stored -/
theorem xs_fldR {C : Addr} {f : Str} {t : Hp} {dx : Addr} {fs : List (Str × V)} {j : Nat} {row : List Int} (cl : Cls T.K C) (na : NoAttr T.K C f) (h : ∀ Ω', XE te Γ Ω' (va T (TF.mk row)) Ω') (hj : Γ[j]? = some (some (vr p))) (hk : Ω[k]? = some (rawA t)) (ht : t p = some (.ins C dx fs)) (hl : fs.length < 1000)
    (q : ∀ F1 r vs, Same F0 F1 → SqT T.K F1 r vs → Al T F1 vs row → XS ts D F1 Γ (Ω.set k (rawA (upd t p (.ins C dx (putF f (.ref r) fs)))))) : XS (tSeq (sFld T.K (tVar j) te f) ts) D F0 Γ Ω := fun σ H ⟨F, f0, e, hh⟩ => by
  refine h Ω F σ H e hh _ fun F1 v H1 Ω' e1 hh1 ⟨⟨r, vs, hv, s1, a1⟩, o1⟩ => ?_
  subst o1 hv
  obtain ⟨x, h1, h2⟩ := e.2 j _ hj
  refine ⟨x, h1, p, C, dx, fs, h2, hh1.rawHas hk _ _ ht, cl, na, hl, ?_⟩
  exact q F1 r vs (f0.trans e1) s1 a1 σ _ ⟨F1, Same.refl F1, e.mono e1, hh1.rawWrite hk ht⟩
/-- a number's __init__ -/
theorem bg_put {w s v : Int} {r : Addr} : putF "value" (.int v) (putF "row" (.ref r) (putF "side" (.int s) (putF "width" (.int w) []))) = ([("width", .int w), ("side", .int s), ("row", .ref r), ("value", .int v)] : List (Str × V)) := by
  rw [show putF "width" (V.int w) [] = [(("width" : Str), V.int w)] from rfl, putF_miss (f := "side") (g := "width") (by decide +kernel), show putF "side" (V.int s) [] = [(("side" : Str), V.int s)] from rfl,
    putF_miss (f := "row") (g := "width") (by decide +kernel), putF_miss (f := "row") (g := "side") (by decide +kernel), show putF "row" (V.ref r) [] = [(("row" : Str), V.ref r)] from rfl,
    putF_miss (f := "value") (g := "width") (by decide +kernel), putF_miss (f := "value") (g := "side") (by decide +kernel), putF_miss (f := "value") (g := "row") (by decide +kernel)]
  rfl
theorem xs_binit {ts1 : TE} {w v : Int} {row : List Int} (bc : BCls T.K (T.C 1)) (h0 : Γ[0]? = some (some (vr p))) (h1 : Γ[1]? = some (some (va T w))) (h2 : Γ[2]? = some (some (va T v)))
    (hs : ∀ Ω', XE ts1 Γ Ω' (va T (sgn v)) Ω') (h3 : ∀ Ω', XE te Γ Ω' (va T (TF.mk row)) Ω') (hk : Ω[k]? = some (newA (T.C 1) p)) (q : ∀ σ H, NX F0 Γ (Ω.set k (bigA T p ⟨w, row, v⟩)) σ H → D.nx σ H) :
    XS (tSeq (sFld T.K (tVar 0) (tVar 1) "width") (tSeq (sFld T.K (tVar 0) ts1 "side") (tSeq (sFld T.K (tVar 0) te "row") (sFld T.K (tVar 0) (tVar 2) "value")))) D F0 Γ Ω := by
  intro σ H ⟨F, f0, e, hh⟩
  obtain ⟨t, ⟨dx, ht⟩, _, hh2⟩ := hh.opened hk
  have hk2 : (Ω.set k (rawA t))[k]? = some (rawA t) := set_get hk
  have iv : ∀ {j : Nat} {n : Int} {Ω' : List OA}, Γ[j]? = some (some (va T n)) → XE (tVar j) Γ Ω' (vx (.int n)) Ω' := fun h => (xe_var h).to fun F v a => a
  refine xs_fldV (D := D) (ts := (tSeq (sFld T.K (tVar 0) ts1 "side") (tSeq (sFld T.K (tVar 0) te "row") (sFld T.K (tVar 0) (tVar 2) "value")))) bc.cl bc.nw (iv h1) h0 hk2 ht (by decide) ?_ σ H ⟨F, Same.refl F, e, hh2⟩
  rw [List.set_set]
  refine xs_fldV (v0 := .int (sgn v)) bc.cl bc.ns ((hs _).to fun F u a => a) h0 (set_get hk) upd_same (by show 1 < 1000; decide) ?_
  rw [List.set_set, upd_upd]
  refine xs_fldR bc.cl bc.nr h3 h0 (set_get hk) upd_same (by rw [show putF "width" (V.int w) [] = [(("width" : Str), V.int w)] from rfl, putF_miss (by decide +kernel)]; show 2 < 1000; decide) fun F1 r vs e1 s1 a1 => ?_
  rw [List.set_set, upd_upd]
  refine fun σ H n => xs_fldV (ts := tNext) bc.cl bc.nv (iv h2) h0 (set_get hk) upd_same ?_ ?_ σ H n
  · rw [show putF "width" (V.int w) [] = [(("width" : Str), V.int w)] from rfl, putF_miss (by decide +kernel), show putF "side" (V.int (sgn v)) [] = [(("side" : Str), V.int (sgn v))] from rfl, putF_miss (by decide +kernel), putF_miss (by decide +kernel)]
    show 3 < 1000
    decide
  · rw [List.set_set, upd_upd, bg_put]
    intro σ H n
    have n2 := n.conv (o' := bigA T p ⟨w, row, v⟩) (set_get hk) fun F t f st => ⟨dx, r, vs, st p _ upd_same, Same.tup f s1, a1.mono f⟩
    rw [List.set_set] at n2
    obtain ⟨F2, f2, e2, hh3⟩ := n2
    exact q σ H ⟨F2, f0.trans (e1.trans f2), e2, hh3⟩
end
end VL

set_option Elab.async false
set_option linter.all false
set_option maxRecDepth 100000
/-! what the printed texts lean on -/
namespace VL
open PySem L2
open PyProof.Rows (envOfC)
section
variable {P : Program} {w : World} {K : PySem.W.Frag} {mg : Str → Option Value} {base : Heap}
theorem fn_okD {x qual : Str} {params : Arguments} {body : List Stmt} {scope : Scope} {dvs : List V} {f : Addr} {fd : FuncData} {N ps : List Str} {k : Nat} {Pre : PreT} (F : FunD K x qual params body scope dvs [] f fd) (S : FnScope N ps scope) (hl : ∀ As Ω R, Pre As Ω R → As.length = ps.length)
    (hb : ∀ (cdv : Value) (A : Around) (outer : List PySem.Env) (s : Shared) (H : Hp) (E : XK), Room k (A.deeper (envOfC qual scope s.heap.objs.size f cdv)) → ∀ As Ω R F0, Pre As Ω R →
      Bod (cxOf CX0 P w K mg base N qual scope f cdv A outer s H E).nox body (As.map some ++ List.replicate (N.length - As.length) none) Ω F0 R) : FnOk P w K mg base CX0 (k + 1) f fd ps (mkSp Pre) := by
  refine F.ok S (fun vs H Q E h => ?_) (fun cdv A outer s H vs Q E hr h => ?_)
  · obtain ⟨F, Ω, As, R, hp, ha, _⟩ := h
    rw [ha.len]; exact hl _ _ _ hp
  · obtain ⟨F0, Ω, As, R, hp, ha, hh, hq⟩ := h
    obtain ⟨t, h1, h2⟩ := hb cdv A outer s H E hr As Ω R F0 hp
    exact ⟨t, h1.nox, h2 _ (fun F v H Ω' e hh r => hq F v H Ω' e hh r) (fun F σ H Ω' e hh r => hq F .non H Ω' e hh r) _ _ ⟨F0, Same.refl F0, start_env ha, hh⟩⟩
/-- a class that may be made: dvs fill up what is not written -/
structure CalC (P : Program) (w : World) (K : PySem.W.Frag) (mg : Str → Option Value) (base : Heap) (k : Nat) (x : Str) (C : Addr) (ps : List Str) (dvs : List V) (sp : Sp) : Prop where
  ex : ∃ f fd ds, FnOk P w K mg base CX0 k f fd ps sp ∧ mg x = some (.ref C) ∧ Mk K C f ∧ Vals dvs ds ∧ Binds K fd ps ds
section
variable {X : Cx} {k : Nat} {x m : Str} {C : Addr} {ps : List Str} {dvs : List V} {sp : Sp} {p pos apos : Pos} {e o : Expr} {es : List Expr} {t : TA} {ta : TE}
theorem pe_calC (c : CalC X.prog X.w X.K X.mg X.base k x C ps dvs sp) (hr : Room (k + 1) X.A) (hg : Gl X x) (ha : PA X (e :: es) t)
    (hdb : (x == ("__debug__" : Str)) = false := by decide) (he : starEach (e :: es) X.env = (false, eval e X.env) :: starEach es X.env := by rfl) (hpl : (backTo pos (starEach es X.env)).any (·.1) = false := by rfl) :
    PE X (.Call (.Name x p) (e :: es) [] pos) (tMake C sp dvs E0 t) := by
  obtain ⟨f, fd, ds, F, hm, M, hv, hb⟩ := c.ex
  exact pe_make M F hr hg hm hb hv pass0 ha hdb he hpl
theorem pe_calM {pl : Sem Bool} (he : PE X o ta) (c : CalM X.prog X.w X.K X.mg X.base k C m ps sp) (hr : Room k X.A) (ha : PA X (e :: es) t)
    (hst : starEach (e :: es) X.env = (false, eval e X.env) :: starEach es X.env := by rfl) (hpl : (backTo pos (starEach es X.env)).any (·.1) = false := by rfl)
    (ht : eval (.Call (.Attribute o m apos) (e :: es) [] pos) X.env = (do
      let ov ← eval o X.env
      standAt apos.atName
      let (f, first) ← holding [ov] (getMethod ov m pl)
      callWith pos f first (backTo pos (starEach (e :: es) X.env)) (backToKw pos (keywordEach [] X.env))) := by rfl) :
    PE X (.Call (.Attribute o m apos) (e :: es) [] pos) (tMeth C m sp [] E0 ta t) := by
  obtain ⟨f, fd, F, hm, hb⟩ := c.ex
  exact pe_meth he c.cl hm F hr hb .nil pass0 ha hst hpl ht
theorem pe_calM0 {pl : Sem Bool} (he : PE X o ta) (c : CalM X.prog X.w X.K X.mg X.base k C m ps sp) (hr : Room k X.A)
    (ht : eval (.Call (.Attribute o m apos) [] [] pos) X.env = (do
      let ov ← eval o X.env
      standAt apos.atName
      let (f, first) ← holding [ov] (getMethod ov m pl)
      callWith pos f first (backTo pos (starEach [] X.env)) (backToKw pos (keywordEach [] X.env))) := by rfl) :
    PE X (.Call (.Attribute o m apos) [] [] pos) (tMeth C m sp [] E0 ta tNil) := by
  obtain ⟨f, fd, F, hm, hb⟩ := c.ex
  exact pe_meth0 he c.cl hm F hr hb .nil pass0 ht
/-- a module's constant -/
theorem pe_gl {x : Str} {v : V} {pos : Pos} (hg : Gl X x) (hm : ∃ u, X.mg x = some u ∧ RelV v u) (hd : (x == ("__debug__" : Str)) = false := by decide) : PE X (.Name x pos) (tC v) := by
  obtain ⟨u, h1, h2⟩ := hm
  exact pe_glob hg h1 h2 hd
end
end
section
variable {X : Cx}
theorem op_mulG : OpR X (binaryOp .Mult) (rI IntMulOk fun i j => .int (i * j)) := L2.opI fun _ _ _ _ _ _ _ hc q => PyProof.Rows.mul_int q hc
/-- + of ints, of lists; * of ints, of a list and an int -/
def rAddQ : R2 := fun x y H Q => rI0 (fun i j => .int (i + j)) x y H Q ∨ rCat x y H Q
theorem op_addQ : OpR X (binaryOp .Add) rAddQ := op_add.or op_cat
def rMulQ : R2 := fun x y H Q => rI IntMulOk (fun i j => .int (i * j)) x y H Q ∨ rRep x y H Q
theorem op_mulQ : OpR X (binaryOp .Mult) rMulQ := op_mulG.or op_rep
/-- int(x) -/
def rInt : List V → Hp → VK → Prop := fun xs H Q => (∃ i, xs = [.int i] ∧ Q (.int i) H) ∨ ∃ k, xs = [.bl k] ∧ Q (.int (if k then 1 else 0)) H
theorem cr_int : CallR X (.type "int") rInt := call_int1
def rAbs : List V → Hp → VK → Prop := fun xs H Q => ∃ i, xs = [.int i] ∧ Q (.int (if i < 0 then -i else i)) H
theorem cr_abs : CallR X (.builtin "abs") rAbs := call_abs
def rMax2 : List V → Hp → VK → Prop := fun xs H Q => ∃ i j, xs = [.int i, .int j] ∧ Q (.int (if j > i then j else i)) H
theorem cr_max2 (hc : X.calm = true) : CallR X (.builtin "max") rMax2 := call_max2 hc
def rMin2 : List V → Hp → VK → Prop := fun xs H Q => ∃ i j, xs = [.int i, .int j] ∧ Q (.int (if j < i then j else i)) H
theorem cr_min2 (hc : X.calm = true) : CallR X (.builtin "min") rMin2 := call_min2 hc
/-- x op= y by the operator's rule -/
theorem ip_of {op : Operator} {r : R2} (h : OpR X (inplaceOp op) r) : PIp X op r := h
end
section
variable {T : TC} {Γ : List (Option VA)} {Ω Ω1 Ω2 : List OA} {A B C : VA} {As Ds : List VA} {ta tb te : TE} {t u : TT} {D : Ends} {F0 : Hp} {ts : TS} {i j : Int} {b c : Bool} {α : Type} [Rp α] {l l2 : List α} {p : Addr} {k : Nat} {s : MS} {R : Hp → V → List OA → Prop}
theorem ro_or1 {r r' : R2} (h : RO r Ω A B C) : RO (fun x y H Q => r x y H Q ∨ r' x y H Q) Ω A B C := fun F H x y hh a1 a2 Q q => .inl (h F H x y hh a1 a2 Q q)
theorem ro_or2 {r r' : R2} (h : RO r' Ω A B C) : RO (fun x y H Q => r x y H Q ∨ r' x y H Q) Ω A B C := fun F H x y hh a1 a2 Q q => .inr (h F H x y hh a1 a2 Q q)
theorem xe_add (ha : XE ta Γ Ω (va T i) Ω1) (hb : XE tb Γ Ω1 (va T j) Ω2) : XE (tOp rAddQ ta tb) Γ Ω (va T (i + j)) Ω2 := xe_op ha hb (ro_or1 ro_int)
theorem xe_sub (ha : XE ta Γ Ω (va T i) Ω1) (hb : XE tb Γ Ω1 (va T j) Ω2) : XE (tOp (rI0 fun i j => .int (i - j)) ta tb) Γ Ω (va T (i - j)) Ω2 := xe_op ha hb ro_int
theorem xe_mul (h : IntMulOk i j) (ha : XE ta Γ Ω (va T i) Ω1) (hb : XE tb Γ Ω1 (va T j) Ω2) : XE (tOp rMulQ ta tb) Γ Ω (va T (i * j)) Ω2 := xe_op ha hb (ro_or1 (ro_intD h))
theorem xe_fdiv (h : CDivW i j) (ha : XE ta Γ Ω (va T i) Ω1) (hb : XE tb Γ Ω1 (va T j) Ω2) : XE (tOp (rI CDivW fun i j => .int (i / j)) ta tb) Γ Ω (va T (i / j)) Ω2 := xe_op ha hb (ro_intD h)
theorem xe_mod (h : 0 < j) (ha : XE ta Γ Ω (va T i) Ω1) (hb : XE tb Γ Ω1 (va T j) Ω2) : XE (tOp (rI (fun _ j => 0 < j) fun i j => .int (i % j)) ta tb) Γ Ω (va T (i % j)) Ω2 := xe_op ha hb (ro_intD (D := fun _ j => 0 < j) h)
theorem xe_shl (h : CShl i j) (ha : XE ta Γ Ω (va T i) Ω1) (hb : XE tb Γ Ω1 (va T j) Ω2) : XE (tOp (rI CShl fun i j => .int (i * 2 ^ j.toNat)) ta tb) Γ Ω (va T (i * 2 ^ j.toNat)) Ω2 := xe_op ha hb (ro_intD h)
theorem xe_shr (h : 0 ≤ j) (ha : XE ta Γ Ω (va T i) Ω1) (hb : XE tb Γ Ω1 (va T j) Ω2) : XE (tOp (rI (fun _ j => 0 ≤ j) fun i j => .int (i / 2 ^ j.toNat)) ta tb) Γ Ω (va T (i / 2 ^ j.toNat)) Ω2 := xe_op ha hb (ro_intD (D := fun _ j => 0 ≤ j) h)
theorem xe_pow (h : CPow i j) (ha : XE ta Γ Ω (va T i) Ω1) (hb : XE tb Γ Ω1 (va T j) Ω2) : XE (tOp (rI CPow fun i j => .int (i ^ j.toNat)) ta tb) Γ Ω (va T (i ^ j.toNat)) Ω2 := xe_op ha hb (ro_intD h)
theorem xe_band (ha : XE ta Γ Ω (va T i) Ω1) (hb : XE tb Γ Ω1 (va T j) Ω2) : XE (tOp (rI0 fun i j => .int (Builtin.bitAnd i j)) ta tb) Γ Ω (va T (Builtin.bitAnd i j)) Ω2 := xe_op ha hb ro_int
theorem xe_neg (ha : XE ta Γ Ω (va T i) Ω1) : XE (tUn (rU fun i => .int (-i)) ta) Γ Ω (va T (-i)) Ω1 := xe_un ha ru_int
theorem xe_cat {A B : VA} (ha : XE ta Γ Ω A Ω1) (hb : XE tb Γ Ω1 B Ω2) (h : IsLs T Ω2 A l) (h2 : IsLs T Ω2 B l2) (hz : l.length + l2.length ≤ sizeLine) : XE (tOp rAddQ ta tb) Γ Ω (va T (LF.mk (l ++ l2))) Ω2 := xe_op ha hb (ro_or2 (ro_cat h h2 hz))
theorem xe_rep {A : VA} (ha : XE ta Γ Ω A Ω1) (hb : XE tb Γ Ω1 (va T i) Ω2) (h : IsLs T Ω2 A l) (h1 : (-(2 ^ 63) ≤ i ∧ i < 2 ^ 63) ∧ l.length * i.toNat ≤ sizeLine) : XE (tOp rMulQ ta tb) Γ Ω (va T (LF.mk (List.replicate i.toNat l).flatten)) Ω2 := xe_op ha hb (ro_or2 (ro_rep h h1.1.1 h1.1.2 h1.2))
theorem xe_ix {A : VA} {a : α} (ha : XE ta Γ Ω A Ω1) (hb : XE tb Γ Ω1 (va T i) Ω2) (h : IsL T Ω2 A l) (e : atI l i = some a) : XE (tOp (rIx T.K) ta tb) Γ Ω (va T a) Ω2 := xe_op ha hb (ro_ixL h e)
theorem xe_int1 (ha : XE te Γ Ω (va T i) Ω1) : XE (tCB rInt (tCons te tNil)) Γ Ω (va T i) Ω1 := xe_cb (xa_cons ha xa_nil) fun F H vs hh a Q q => by
  obtain ⟨v, rfl, a1⟩ := alA1 a
  have a1 : v = .int i := a1
  subst a1
  exact .inl ⟨i, rfl, q F _ H (Same.refl F) hh rfl⟩
theorem xe_intb (ha : XE te Γ Ω (va T b) Ω1) : XE (tCB rInt (tCons te tNil)) Γ Ω (va T (if b = true then (1 : Int) else 0)) Ω1 := xe_cb (xa_cons ha xa_nil) fun F H vs hh a Q q => by
  obtain ⟨v, rfl, a1⟩ := alA1 a
  have a1 : v = .bl b := a1
  subst a1
  refine .inr ⟨b, rfl, q F _ H (Same.refl F) hh ?_⟩
  cases b <;> rfl
theorem xe_abs (ha : XE te Γ Ω (va T i) Ω1) : XE (tCB rAbs (tCons te tNil)) Γ Ω (va T ((i.natAbs : Nat) : Int)) Ω1 := xe_cb (xa_cons ha xa_nil) fun F H vs hh a Q q => by
  obtain ⟨v, rfl, a1⟩ := alA1 a
  have a1 : v = .int i := a1
  subst a1
  refine ⟨i, rfl, q F _ H (Same.refl F) hh ?_⟩
  show V.int _ = V.int _
  congr 1
  split <;> omega
theorem xe_max2 (ha : XE ta Γ Ω (va T i) Ω1) (hb : XE tb Γ Ω1 (va T j) Ω2) : XE (tCB rMax2 (tCons ta (tCons tb tNil))) Γ Ω (va T (max i j)) Ω2 := xe_cb (xa_cons ha (xa_cons hb xa_nil)) fun F H vs hh a Q q => by
  obtain ⟨v, w, rfl, a1, a2⟩ := alA2 a
  have a1 : v = .int i := a1
  have a2 : w = .int j := a2
  subst a1 a2
  refine ⟨i, j, rfl, q F _ H (Same.refl F) hh ?_⟩
  show V.int _ = V.int _
  congr 1
  split <;> omega
theorem xe_min2 (ha : XE ta Γ Ω (va T i) Ω1) (hb : XE tb Γ Ω1 (va T j) Ω2) : XE (tCB rMin2 (tCons ta (tCons tb tNil))) Γ Ω (va T (min i j)) Ω2 := xe_cb (xa_cons ha (xa_cons hb xa_nil)) fun F H vs hh a Q q => by
  obtain ⟨v, w, rfl, a1, a2⟩ := alA2 a
  have a1 : v = .int i := a1
  have a2 : w = .int j := a2
  subst a1 a2
  refine ⟨i, j, rfl, q F _ H (Same.refl F) hh ?_⟩
  show V.int _ = V.int _
  congr 1
  split <;> omega
theorem xe_bits (ha : XE te Γ Ω (va T i) Ω1) : XE (tBits te) Γ Ω (va T ((Builtin.Int.intBits i : Nat) : Int)) Ω1 := fun F σ H e hh Q q => by
  refine ha F σ H e hh _ fun F1 x H1 Ω' e1 hh1 ⟨a1, o1⟩ => ?_
  subst o1
  exact ⟨i, a1, q F1 _ H1 _ e1 hh1 ⟨rfl, rfl⟩⟩
theorem xe_ite {a a' : α} (h : XT t Γ Ω b Ω1) (h1 : XE ta Γ Ω1 (va T a) Ω2) (h2 : XE tb Γ Ω1 (va T a') Ω2) : XE (tIf t ta tb) Γ Ω (va T (if b = true then a else a')) Ω2 :=
  xe_if h (fun e => xe_eq h1 (by rw [if_pos e])) (fun e => xe_eq h2 (by rw [if_neg (by rw [e]; exact Bool.false_ne_true)]))
theorem xe_ifT (h : XT t Γ Ω true Ω1) (h1 : XE ta Γ Ω1 A Ω2) : XE (tIf t ta tb) Γ Ω A Ω2 := xe_if h (fun _ => h1) (fun e => nomatch e)
theorem xe_ifF (h : XT t Γ Ω false Ω1) (h1 : XE tb Γ Ω1 A Ω2) : XE (tIf t ta tb) Γ Ω A Ω2 := xe_if h (fun e => nomatch e) (fun _ => h1)
theorem xe_lt (ha : XE ta Γ Ω (va T i) Ω1) (hb : XE tb Γ Ω1 (va T j) Ω2) : XE (tOp (rI0 fun i j => .bl (decide (i < j))) ta tb) Γ Ω (va T (decide (i < j))) Ω2 := (xe_op ha hb ro_bl)
theorem xe_le (ha : XE ta Γ Ω (va T i) Ω1) (hb : XE tb Γ Ω1 (va T j) Ω2) : XE (tOp (rI0 fun i j => .bl (decide (i ≤ j))) ta tb) Γ Ω (va T (decide (i ≤ j))) Ω2 := (xe_op ha hb ro_bl)
theorem xe_gt (ha : XE ta Γ Ω (va T i) Ω1) (hb : XE tb Γ Ω1 (va T j) Ω2) : XE (tOp (rI0 fun i j => .bl (decide (j < i))) ta tb) Γ Ω (va T (decide (j < i))) Ω2 := (xe_op ha hb (ro_bl (g := fun i j => decide (j < i))))
theorem xe_ge (ha : XE ta Γ Ω (va T i) Ω1) (hb : XE tb Γ Ω1 (va T j) Ω2) : XE (tOp (rI0 fun i j => .bl (decide (j ≤ i))) ta tb) Γ Ω (va T (decide (j ≤ i))) Ω2 := (xe_op ha hb (ro_bl (g := fun i j => decide (j ≤ i))))
/-! == by values, by data -/
def rEqX (K : PySem.W.Frag) : R2 := fun x y H Q => rEq x y H Q ∨ rEqD K x y H Q
theorem op_eqX {X : Cx} (hu : X.A.units + 64 < cLine) : OpR X (compareOp .Eq) (rEqX X.K) := op_eq.or (op_eqD hu)
def rNeX (K : PySem.W.Frag) : R2 := fun x y H Q => rNe x y H Q ∨ rNeD K x y H Q
theorem op_neX {X : Cx} (hu : X.A.units + 64 < cLine) : OpR X (compareOp .NotEq) (rNeX X.K) := op_ne.or (op_neD hu)
theorem xe_eqI (ha : XE ta Γ Ω (va T i) Ω1) (hb : XE tb Γ Ω1 (va T j) Ω2) : XE (tOp (rEqX T.K) ta tb) Γ Ω (va T (decide (i = j))) Ω2 := xe_op ha hb (ro_or1 ro_eqI)
theorem xe_neI (ha : XE ta Γ Ω (va T i) Ω1) (hb : XE tb Γ Ω1 (va T j) Ω2) : XE (tOp (rNeX T.K) ta tb) Γ Ω (va T (!decide (i = j))) Ω2 := xe_op ha hb (ro_or1 ro_neI)
theorem xe_eqB (ha : XE ta Γ Ω (va T b) Ω1) (hb : XE tb Γ Ω1 (va T c) Ω2) : XE (tOp (rEqX T.K) ta tb) Γ Ω (va T (decide (b = c))) Ω2 := xe_op ha hb (ro_or1 ro_eqB)
/-! statements, further -/
theorem xs_ifN {t1 : TS} (h : XT t Γ Ω false Ω1) (q : XS ts D F0 Γ Ω1) : XS (tSeq (tIfS t t1 tNext) ts) D F0 Γ Ω := xs_ifF h q
theorem nt {b : Bool} (h : ¬ b = true) : b = false := by cases b with
  | true => exact absurd rfl h
  | false => rfl
variable {n : Int}
theorem xs_augI {k : Nat} {g : Int → Int → Int} (hx : Γ[k]? = some (some (va T i))) (h : XE te Γ Ω (va T j) Ω1) (e : g i j = n) (q : XS ts D F0 (Γ.set k (some (va T n))) Ω1) : XS (tSeq (tAug k te (rI0 fun i j => .int (g i j))) ts) D F0 Γ Ω := fun σ H ⟨F, f0, en, hh⟩ => by
  subst e
  obtain ⟨x, h1, h2⟩ := en.2 k _ hx
  refine ⟨x, h1, ?_⟩
  refine h F σ H en hh _ fun F1 v H1 Ω' e1 hh1 ⟨a1, o1⟩ => ?_
  exact ⟨i, j, h2, a1, q _ H1 ⟨F1, f0.trans e1, (en.mono e1).set (A := va T (g i j)) rfl, o1 ▸ hh1⟩⟩
theorem xs_augI1 {k : Nat} {g : Int → Int → Int} (hx : Γ[k]? = some (some (va T i))) (h : XE te Γ Ω (va T j) Ω1) (e : g i j = n) (q : ∀ σ H, NX F0 (Γ.set k (some (va T n))) Ω1 σ H → D.nx σ H) : XS (tAug k te (rI0 fun i j => .int (g i j))) D F0 Γ Ω := fun σ H m => xs_augI (ts := tNext) hx h e q σ H m
theorem xs_augD {k : Nat} {Dd : Int → Int → Prop} {g : Int → Int → Int} (hx : Γ[k]? = some (some (va T i))) (hd : Dd i j) (h : XE te Γ Ω (va T j) Ω1) (e : g i j = n) (q : XS ts D F0 (Γ.set k (some (va T n))) Ω1) : XS (tSeq (tAug k te (rI Dd fun i j => .int (g i j))) ts) D F0 Γ Ω := fun σ H ⟨F, f0, en, hh⟩ => by
  subst e
  obtain ⟨x, h1, h2⟩ := en.2 k _ hx
  refine ⟨x, h1, ?_⟩
  refine h F σ H en hh _ fun F1 v H1 Ω' e1 hh1 ⟨a1, o1⟩ => ?_
  exact ⟨i, j, h2, a1, hd, q _ H1 ⟨F1, f0.trans e1, (en.mono e1).set (A := va T (g i j)) rfl, o1 ▸ hh1⟩⟩
theorem xs_augD1 {k : Nat} {Dd : Int → Int → Prop} {g : Int → Int → Int} (hx : Γ[k]? = some (some (va T i))) (hd : Dd i j) (h : XE te Γ Ω (va T j) Ω1) (e : g i j = n) (q : ∀ σ H, NX F0 (Γ.set k (some (va T n))) Ω1 σ H → D.nx σ H) : XS (tAug k te (rI Dd fun i j => .int (g i j))) D F0 Γ Ω := fun σ H m => xs_augD (ts := tNext) hx hd h e q σ H m
theorem xs_par2 {k l : Nat} {ta : TA} (h : XA ta Γ Ω [A, B] Ω1) (q : XS ts D F0 ((Γ.set k (some A)).set l (some B)) Ω1) : XS (tSeq (tPar k l ta) ts) D F0 Γ Ω := fun σ H ⟨F, f0, en, hh⟩ => by
  refine h F σ H en hh _ fun F1 vs H1 e1 hh1 a1 => ?_
  obtain ⟨v, w, rfl, b1, b2⟩ := alA2 a1
  exact ⟨v, w, rfl, q _ H1 ⟨F1, f0.trans e1, ((en.mono e1).set b1).set b2, hh1⟩⟩
theorem xs_par21 {k l : Nat} {ta : TA} (h : XA ta Γ Ω [A, B] Ω1) (q : ∀ σ H, NX F0 ((Γ.set k (some A)).set l (some B)) Ω1 σ H → D.nx σ H) : XS (tPar k l ta) D F0 Γ Ω := fun σ H n => xs_par2 (ts := tNext) h q σ H n
theorem mf_none {m : Str} {d e : Addr} (h : (m == "width" || m == "cutoff" || m == "counts" || m == "entered") = false) : (mf s d e).lookup m = none := by
  simp only [Bool.or_eq_false_iff] at h
  unfold mf
  rw [look_ne h.1.1.1, look_ne h.1.1.2, look_ne h.1.2, look_ne h.2]
  rfl
/-- a method of the machine -/
theorem xe_mcall {m : Str} {Pre : PreT} {E : XK} {ta : TE} {t : TA} {Ω' : List OA} (ha : XE ta Γ Ω (vr p) Ω) (hk : Ω[k]? = some (machA T p s)) (hx : XA t Γ Ω As Ω1) (hp : Pre (vr p :: As) Ω1 (RV A Ω')) (he : Ω' = Ω2)
    (hm : (m == "width" || m == "cutoff" || m == "counts" || m == "entered") = false := by decide +kernel) : XE (tMeth (T.C 0) m (mkSp Pre) [] E ta t) Γ Ω A Ω2 := fun F σ H e hh Q q => by
  subst he
  refine ha F σ H e hh _ fun F1 x H1 Ωa e1 hh1 ⟨a1, o1⟩ => ?_
  subst o1
  obtain ⟨t0, ⟨dx, d, en, ws, m1, m2, m3, m4⟩, st, _⟩ := hh1.get hk
  refine ⟨p, dx, _, a1, st _ _ m1, mf_none hm, ?_⟩
  refine hx F1 σ H1 (e.mono e1) hh1 _ fun F2 vs H2 e2 hh2 a2 => ?_
  refine ⟨F2, Ω1, vr p :: As, _, hp, ?_, hh2, fun F' v H' Ω3 e' hh' r => q F' v H' Ω3 ((e1.trans e2).trans e') hh' r⟩
  rw [List.append_nil]
  exact .cons a1 a2
end
section
variable {T : TC} {Γ : List (Option VA)} {Ω Ω1 Ω2 : List OA} {A B C : VA} {ta tb te tc : TE} {i j : Int} {b : Bool}
def rIsi (K : PySem.W.Frag) : List V → Hp → VK → Prop := fun xs H Q => ∃ (x c : V) (t u : Value) (b : Bool), xs = [x, c] ∧ ClsV c u ∧ TyX K H x t ∧ PySem.W.kitOne K t u = some b ∧ Q (.bl b) H
theorem cr_isi {X : Cx} : CallR X (.builtin "isinstance") (rIsi X.K) := call_isi
/-- what a class must be that isinstance asks for -/
structure ICls (K : PySem.W.Frag) (C : Addr) : Prop where
  cl : Cls K C
  ha : PySem.W.findIn K (.ref C) "__class__" = some (some (.builtin "object.__class__"))
  hn : PySem.W.specialIn K (.builtin "object.__class__") "__get__" = some (some (.builtin "getset_descriptor.__get__"))
  htk : PySem.W.takesIn K (.builtin "object.__class__") = some true
  hm : PySem.W.mroIn K C (.type "object") = some true
  kit : PySem.W.kitOne K (.ref C) (.ref C) = some true
theorem xe_isi {c : V} {t u : Value} (ha : XE ta Γ Ω A Ω1) (hb : XE tc Γ Ω1 (vx c) Ω1) (hc : ClsV c u) (ht : ∀ F H v, Holds F Ω1 H → A.P F v → TyX T.K H v t) (hk : PySem.W.kitOne T.K t u = some b) :
    XE (tCB (rIsi T.K) (tCons ta (tCons tc tNil))) Γ Ω (va T b) Ω1 := xe_cb (xa_cons ha (xa_cons hb xa_nil)) fun F H vs hh a Q q => by
  obtain ⟨v, w, rfl, a1, a2⟩ := alA2 a
  have a2 : w = c := a2
  subst a2
  exact ⟨v, w, t, u, b, rfl, hc, ht F H v hh a1, hk, q F _ H (Same.refl F) hh rfl⟩
theorem xe_vx {c : V} : XE (tC c) Γ Ω (vx c) Ω := xe_c fun _ => rfl
theorem ty_int {F H : Hp} {v : V} (_ : Holds F Ω H) (a : (va T i).P F v) : TyX T.K H v (.type "int") := by
  have a : v = .int i := a
  subst a
  exact .base (.int i)
theorem ty_mach {F H : Hp} {v : V} {p : Addr} {k : Nat} {s : MS} (ic : ICls T.K (T.C 0)) (hk : Ω[k]? = some (machA T p s)) (hh : Holds F Ω H) (a : (vr p).P F v) : TyX T.K H v (.ref (T.C 0)) := by
  have a : v = .ref p := a
  subst a
  obtain ⟨t, ⟨dx, d, en, ws, m1, _⟩, st, _⟩ := hh.get hk
  exact .base (.ins (st _ _ m1) ic.cl ic.ha ic.hn ic.htk ic.hm)
theorem ty_big {F H : Hp} {v : V} {x : Bg} (ic : ICls T.K (T.C 1)) (hh : Holds F Ω H) (a : (va T x).P F v) : TyX T.K H v (.ref (T.C 1)) := by
  obtain ⟨p, dx, r, vs, rfl, h2, _⟩ := a
  exact .base (.ins (hh.same _ _ h2) ic.cl ic.ha ic.hn ic.htk ic.hm)
end
section
variable {X : Cx} {K : PySem.W.Frag} {e o tg l : Expr} {es : List Expr} {f m name : Str} {pos p1 p2 p3 apos cpos : Pos} {te ta tl : TE} {t : TA} {k : Nat} {id Tn : String} {r : V → List V → Hp → VK → Prop}
/-! the rules, the written part named (within a comprehension's block) -/
theorem pe_fldK (he : PE X e ta) (hb : attributeBase e f X.env (eval e X.env) = eval e X.env) (hK : X.K = K) : PE X (.Attribute e f pos) (tFld K ta f) := hK ▸ pe_fld he hb
theorem cr_lenK (hK : X.K = K) : CallR X (.builtin "len") (rLen K) := hK ▸ cr_len
theorem cr_listK (hK : X.K = K) : CallR X (.type "list") (rList K) := hK ▸ cr_list
theorem cr_isiK (hK : X.K = K) : CallR X (.builtin "isinstance") (rIsi K) := hK ▸ cr_isi
theorem ix_seqK (hK : X.K = K) : IxR X (rIx K) := hK ▸ ix_seq
theorem sl_listK (hK : X.K = K) : SlR X (rSlL K) := hK ▸ sl_list
theorem op_eqXK (hu : X.A.units + 64 < cLine) (hK : X.K = K) : OpR X (compareOp .Eq) (rEqX K) := hK ▸ op_eqX hu
theorem op_neXK (hu : X.A.units + 64 < cLine) (hK : X.K = K) : OpR X (compareOp .NotEq) (rNeX K) := hK ▸ op_neX hu
theorem pi_listK (hl : PE X l tl) (hK : X.K = K) : PI X tg l (iList K tl) := hK ▸ pi_list hl
theorem pi_tupK (hl : PE X l tl) (hK : X.K = K) : PI X tg l (iTup K tl) := hK ▸ pi_tup hl
end
theorem neK_ {α : Type} [DecidableEq α] {a b : α} (h : a = b) : (!decide (a = b)) = false := by rw [decide_eq_true h]; rfl
/-! ### promises of the machine's and the numbers' methods -/
def Pre_Mach_step (T : TC) : PreT := fun As Ω R => ∃ (k : Nat) (p : Addr) (s : MS) (wd : Str) (n : Int), As = [vr p, va T wd, va T n] ∧ Ω[k]? = some (machA T p s) ∧ wd ∈ mwords ∧ R = RV (va T ()) (stt Ω [(k, machA T p (s.step wd n))] [])
def Pre_Mach_enter (T : TC) : PreT := fun As Ω R => ∃ (k : Nat) (p : Addr) (s : MS) (wd : Str) (m n : Int), As = [vr p, va T wd, va T m, va T n] ∧ Ω[k]? = some (machA T p s) ∧ R = RV (va T ()) (stt Ω [(k, machA T p (s.enter wd m n))] [])
def Pre_Mach_reset (T : TC) : PreT := fun As Ω R => ∃ (k : Nat) (p : Addr) (s : MS), As = [vr p] ∧ Ω[k]? = some (machA T p s) ∧ R = RV (va T ()) (stt Ω [(k, machA T p s.reset)] [])
def Pre_Mach_tally (T : TC) : PreT := fun As Ω R => ∃ (k : Nat) (p : Addr) (s : MS), As = [vr p] ∧ Ω[k]? = some (machA T p s) ∧ R = RV (va T (LF.mk s.tally)) Ω
def Pre_Mach_walk (T : TC) : PreT := fun As Ω R => ∃ (k : Nat) (p : Addr) (s : MS), As = [vr p] ∧ Ω[k]? = some (machA T p s) ∧ R = RV (va T (LF.mk s.wk)) Ω
def Pre_Mach_parts (T : TC) : PreT := fun As Ω R => ∃ (k : Nat) (p : Addr) (s : MS), As = [vr p] ∧ Ω[k]? = some (machA T p s) ∧ R = RV (va T (s.w, s.c)) Ω
def Pre_Machine (T : TC) : PreT := fun As Ω R => ∃ (Ω0 : List OA) (p : Addr) (w c : Int), As = [vr p, va T w, va T c] ∧ ((8 ≤ w ∧ w ≤ 30) ∧ 2 ≤ c ∧ c ≤ 1000) ∧ Ω = Ω0 ++ [newA (T.C 0) p] ∧ R = RV (va T ()) (Ω0 ++ [machA T p (MS.fresh w c)])
def Pre_Big (T : TC) : PreT := fun As Ω R => ∃ (Ω0 : List OA) (p : Addr) (w v : Int) (row : List Int) (B : VA), (B = va T (LF.mk row) ∨ B = va T (TF.mk row)) ∧ As = [vr p, va T w, va T v, B] ∧ Ω = Ω0 ++ [newA (T.C 1) p] ∧ R = RV (va T ()) (Ω0 ++ [bigA T p ⟨w, row, v⟩])
/-- what must hold to go on -/
noncomputable def chkP (p : Prop) : Option Unit := @ite _ p (Classical.propDecidable p) (some ()) none
theorem chkP_some {p : Prop} {r : Unit} (h : chkP p = some r) : p := by
  unfold chkP at h
  split at h
  · assumption
  · cases h
end VL

set_option Elab.async false
set_option linter.all false
set_option maxRecDepth 100000
/-! == of data; new things side by side -/
namespace VL
open PySem L2
class Dat (α : Type) [Rp α] where
  dat : α → PyData
  ok : α → Prop
  dep : Nat
  dp : ∀ {T : TC} {F H : Hp} {v : V} {a : α}, Same F H → Rp.rep T F v a → Dp T.K H v (dat a)
  lay : ∀ {a : α}, ok a → (dat a).canLay0 = true
  depth : ∀ {a : α}, (dat a).depth ≤ dep
  eqv : ∀ {a b : α}, PyData.eqv (dat a) (dat b) = true ↔ a = b
instance : Dat Int := ⟨.int, fun _ => True, 0, fun _ h => by
    rw [show _ = V.int _ from h]; exact .int _, fun _ => rfl, Nat.le_refl _, fun {a b} => by
    show (a == b) = true ↔ a = b
    exact beq_iff_eq⟩
instance : Dat Bool := ⟨.bool, fun _ => True, 0, fun _ h => by
    rw [show _ = V.bl _ from h]; exact .bl _, fun _ => rfl, Nat.le_refl _, fun {a b} => by
    show (a == b) = true ↔ a = b
    exact beq_iff_eq⟩
instance : Dat Str := ⟨.str, fun s => (PyData.str s).canLay0 = true, 0, fun _ h => by
    rw [show _ = V.str _ from h]; exact .str _, fun h => h, Nat.le_refl _, fun {a b} => by
    show (a == b) = true ↔ a = b
    exact beq_iff_eq⟩
section
variable {α : Type} [Rp α] [Dat α]
theorem dp_all {T : TC} {F H : Hp} (e : Same F H) : ∀ {vs : List V} {l : List α}, Al T F vs l → DpAll T.K H vs (l.map Dat.dat)
  | _, _, .nil => .nil
  | _, _, .cons h t => .cons (Dat.dp e h) (dp_all e t)
theorem lay_all : ∀ {l : List α}, (∀ x ∈ l, Dat.ok x) → PyData.canLayAll0 (l.map Dat.dat) = true
  | [], _ => rfl
  | x :: r, h => by
    show (PyData.canLay0 (Dat.dat x) && PyData.canLayAll0 (r.map Dat.dat)) = true
    rw [Dat.lay (h x List.mem_cons_self), lay_all fun y hy => h y (List.mem_cons_of_mem _ hy)]
    rfl
theorem dep_all : ∀ {l : List α}, PyData.depthAll (l.map Dat.dat) ≤ Dat.dep α
  | [] => Nat.zero_le _
  | x :: r => by
    show max (PyData.depth (Dat.dat x)) (PyData.depthAll (r.map Dat.dat)) ≤ _
    exact Nat.max_le.mpr ⟨Dat.depth, dep_all⟩
theorem eqv_all : ∀ {l m : List α}, PyData.eqvAll (l.map Dat.dat) (m.map Dat.dat) = true ↔ l = m
  | [], [] => by simp [PyData.eqvAll]
  | [], _ :: _ => by simp [PyData.eqvAll]
  | _ :: _, [] => by simp [PyData.eqvAll]
  | x :: r, y :: s => by
    simp only [List.map_cons, PyData.eqvAll, Bool.and_eq_true, Dat.eqv, eqv_all, List.cons.injEq]
end
theorem depth_list {ds : List PyData} : (PyData.list ds).depth = PyData.depthAll ds + 1 := by simp [PyData.depth]
theorem depth_tuple {ds : List PyData} : (PyData.tuple ds).depth = PyData.depthAll ds + 1 := by simp [PyData.depth]
instance {α : Type} [Rp α] [Dat α] : Dat (LF α) := ⟨fun l => .list (l.l.map Dat.dat), fun l => ∀ x ∈ l.l, Dat.ok x, Dat.dep α + 1, fun e ⟨p, vs, h1, h2, h3⟩ => by
    rw [h1]; exact .lst (SqL.of (e _ _ h2)) (dp_all e h3), fun h => by show PyData.canLayAll0 _ = true; exact lay_all h, fun {a} => by rw [depth_list]; exact Nat.succ_le_succ dep_all, fun {a b} => by
    show PyData.eqvAll _ _ = true ↔ a = b
    rw [eqv_all]
    cases a; cases b; simp⟩
instance {α : Type} [Rp α] [Dat α] : Dat (TF α) := ⟨fun l => .tuple (l.l.map Dat.dat), fun l => ∀ x ∈ l.l, Dat.ok x, Dat.dep α + 1, fun e ⟨p, vs, h1, h2, h3⟩ => by
    rw [h1]; exact .tup (Same.tup e h2) (dp_all e h3), fun h => by show PyData.canLayAll0 _ = true; exact lay_all h, fun {a} => by rw [depth_tuple]; exact Nat.succ_le_succ dep_all, fun {a b} => by
    show PyData.eqvAll _ _ = true ↔ a = b
    rw [eqv_all]
    cases a; cases b; simp⟩
instance {α β : Type} [Rp α] [Rp β] [Dat α] [Dat β] : Dat (α × β) := ⟨fun l => .tuple [Dat.dat l.1, Dat.dat l.2], fun l => Dat.ok l.1 ∧ Dat.ok l.2, max (Dat.dep α) (Dat.dep β) + 1, fun e ⟨p, x, y, h1, h2, h3, h4⟩ => by
    rw [h1]; exact .tup (Same.tup e h2) (.cons (Dat.dp e h3) (.cons (Dat.dp e h4) .nil)), fun h => by
    show (PyData.canLay0 (Dat.dat _) && (PyData.canLay0 (Dat.dat _) && true)) = true
    rw [Dat.lay h.1, Dat.lay h.2]; rfl, fun {a} => by
    rw [depth_tuple]
    refine Nat.succ_le_succ ?_
    show max (PyData.depth (Dat.dat a.1)) (max (PyData.depth (Dat.dat a.2)) 0) ≤ _
    have h1 := Dat.depth (a := a.1)
    have h2 := Dat.depth (a := a.2)
    omega, fun {a b} => by
    show (PyData.eqv (Dat.dat a.1) (Dat.dat b.1) && (PyData.eqv (Dat.dat a.2) (Dat.dat b.2) && true)) = true ↔ a = b
    rw [Bool.and_true, Bool.and_eq_true, Dat.eqv, Dat.eqv]
    exact Prod.ext_iff.symm⟩
instance {α β γ : Type} [Rp α] [Rp β] [Rp γ] [Dat α] [Dat β] [Dat γ] : Dat (T3 α β γ) := ⟨fun l => .tuple [Dat.dat l.a, Dat.dat l.b, Dat.dat l.c], fun l => Dat.ok l.a ∧ Dat.ok l.b ∧ Dat.ok l.c, max (Dat.dep α) (max (Dat.dep β) (Dat.dep γ)) + 1, fun e ⟨p, x, y, z, h1, h2, h3, h4, h5⟩ => by
    rw [h1]; exact .tup (Same.tup e h2) (.cons (Dat.dp e h3) (.cons (Dat.dp e h4) (.cons (Dat.dp e h5) .nil))), fun h => by
    show (PyData.canLay0 (Dat.dat _) && (PyData.canLay0 (Dat.dat _) && (PyData.canLay0 (Dat.dat _) && true))) = true
    rw [Dat.lay h.1, Dat.lay h.2.1, Dat.lay h.2.2]; rfl, fun {a} => by
    rw [depth_tuple]
    refine Nat.succ_le_succ ?_
    show max (PyData.depth (Dat.dat a.a)) (max (PyData.depth (Dat.dat a.b)) (max (PyData.depth (Dat.dat a.c)) 0)) ≤ _
    have h1 := Dat.depth (a := a.a)
    have h2 := Dat.depth (a := a.b)
    have h3 := Dat.depth (a := a.c)
    omega, fun {a b} => by
    show (PyData.eqv (Dat.dat a.a) (Dat.dat b.a) && (PyData.eqv (Dat.dat a.b) (Dat.dat b.b) && (PyData.eqv (Dat.dat a.c) (Dat.dat b.c) && true))) = true ↔ a = b
    rw [Bool.and_true, Bool.and_eq_true, Bool.and_eq_true, Dat.eqv, Dat.eqv, Dat.eqv]
    cases a; cases b; simp⟩
/-- == -/
def eqD {α : Type} [Rp α] [Dat α] (x y : α) : Bool := PyData.eqv (Dat.dat x) (Dat.dat y)
/-- A is data d -/
def IsD (T : TC) (Ω : List OA) (A : VA) (d : PyData) : Prop := ∀ F H v, Holds F Ω H → A.P F v → Dp T.K H v d
section
variable {T : TC} {Γ : List (Option VA)} {Ω Ω1 Ω2 Ω3 : List OA} {A B C : VA} {ta tb te : TE} {D : Ends} {F0 : Hp} {ts : TS} {b : Bool} {α : Type} [Rp α] [Dat α] {x y : α} {l m : List α} {p : Addr} {k : Nat}
theorem isD_va : IsD T Ω (va T x) (Dat.dat x) := fun F H v hh a => Dat.dp hh.same a
theorem shp {x : α} (h : Dat.ok x) (hd : Dat.dep α ≤ 64) : SeqAt.shaped (Dat.dat x) = true := by
  unfold SeqAt.shaped
  rw [Dat.lay h, Bool.true_and]
  exact decide_eq_true (Nat.le_trans Dat.depth hd)
theorem ro_eqD {d e : PyData} (h1 : IsD T Ω A d) (h2 : IsD T Ω B e) (s1 : SeqAt.shaped d = true) (s2 : SeqAt.shaped e = true) : RO (rEqX T.K) Ω A B (va T (PyData.eqv d e)) := fun F H x y hh a1 a2 Q q =>
  .inr ⟨d, e, h1 F H x hh a1, h2 F H y hh a2, s1, s2, q F _ H (Same.refl F) hh rfl⟩
theorem ro_neD {d e : PyData} (h1 : IsD T Ω A d) (h2 : IsD T Ω B e) (s1 : SeqAt.shaped d = true) (s2 : SeqAt.shaped e = true) : RO (rNeX T.K) Ω A B (va T (!PyData.eqv d e)) := fun F H x y hh a1 a2 Q q =>
  .inr ⟨d, e, h1 F H x hh a1, h2 F H y hh a2, s1, s2, q F _ H (Same.refl F) hh rfl⟩
theorem xe_neK (h : x = y ∧ Dat.ok x) (hd : Dat.dep α ≤ 64) (ha : XE ta Γ Ω A Ω1) (hb : XE tb Γ Ω1 B Ω2) (i1 : IsD T Ω2 A (Dat.dat x)) (i2 : IsD T Ω2 B (Dat.dat y)) : XE (tOp (rNeX T.K) ta tb) Γ Ω (va T false) Ω2 := by
  obtain ⟨h, o⟩ := h
  subst h
  have := xe_op ha hb (ro_neD i1 i2 (shp o hd) (shp o hd))
  rw [Dat.eqv.mpr rfl] at this
  exact this
theorem xe_eqU (h : x ≠ y ∧ Dat.ok x ∧ Dat.ok y) (hd : Dat.dep α ≤ 64) (ha : XE ta Γ Ω A Ω1) (hb : XE tb Γ Ω1 B Ω2) (i1 : IsD T Ω2 A (Dat.dat x)) (i2 : IsD T Ω2 B (Dat.dat y)) : XE (tOp (rEqX T.K) ta tb) Γ Ω (va T false) Ω2 := by
  have := xe_op ha hb (ro_eqD i1 i2 (shp h.2.1 hd) (shp h.2.2 hd))
  rw [show PyData.eqv (Dat.dat x) (Dat.dat y) = false from Bool.eq_false_iff.mpr fun z => h.1 (Dat.eqv.mp z)] at this
  exact this
/-- things made in a turn are left -/
theorem Holds.cutL {F H : Hp} {Ω : List OA} {ks : List (Nat × OA)} {L M : List OA} (h : Holds F (stt Ω ks (L ++ M)) H) : Holds F (stt Ω ks L) H := by
  have e : stt Ω ks (L ++ M) = stt Ω ks L ++ M := (List.append_assoc _ _ _).symm
  rw [e] at h
  obtain ⟨ts, h1, h2, h3, h4, h5⟩ := h
  have len : (stt Ω ks L ++ M).length = (stt Ω ks L).length + M.length := List.length_append
  exact ⟨ts, fun i o q => h1 i o (by rw [List.getElem?_append_left (getlt q)]; exact q), h2, fun i q => h3 i (by omega), fun i b x q => h4 i b x (by omega), fun i j b x qi qj => h5 i j b x (by omega) (by omega)⟩
theorem NX.cutL {ks : List (Nat × OA)} {σ : L2.St} {H : Hp} {L' : List OA} (L M : List OA) (h : NX F0 Γ (stt Ω ks L') σ H) (e : L' = L ++ M := by rfl) : NX F0 Γ (stt Ω ks L) σ H := by
  subst e
  let ⟨F, f0, en, hh⟩ := h
  exact ⟨F, f0, en, hh.cutL⟩
end
/-! ### keyword arguments -/
/-- the parameters' values out of those that are written, by place -/
def prm {α : Type} (ix : List Nat) (l : List α) : List α := ix.filterMap fun i => l[i]?
structure CalK (P : Program) (w : World) (K : PySem.W.Frag) (mg : Str → Option Value) (base : Heap) (k : Nat) (x : Str) (ps : List Str) (n : Nat) (ks : List Str) (ix : List Nat) (sp : Sp) : Prop where
  ex : ∃ f fd, FnOk P w K mg base CX0 k f fd ps sp ∧ mg x = some (.ref f) ∧ PySem.W.keepIn K (.ref f) = true ∧ KBn K fd ps n ks (fun us ws => prm ix (us ++ ws)) (fun vs zs => prm ix (vs ++ zs))
section
variable {X : Cx} {k n : Nat} {x : Str} {ps ks : List Str} {ix : List Nat} {sp : Sp} {p pos : Pos} {e : Expr} {es : List Expr} {kws : List Keyword} {t tk : TA}
end
section
variable {T : TC} {Γ : List (Option VA)} {Ω Ω1 Ω2 Ω3 : List OA} {A : VA} {As Ks : List VA}
end
end VL

set_option Elab.async false
set_option linter.all false
set_option maxRecDepth 100000
/-! frozen dicts from texts to ints; zip; pairs by place -/
namespace VL
open PySem L2 PyProof.Rows
structure DF where
  l : List (Str × Int)
def dkv (l : List (Str × Int)) : List (Key × V) := l.map fun q => (Sum.inr q.1, V.int q.2)
instance : Rp DF := ⟨fun T F v d => ∃ p od, v = .ref p ∧ F p = some (.frz od (.dK (dkv d.l))), fun e ⟨p, od, h1, h2⟩ => ⟨p, od, h1, e _ _ h2⟩⟩
/-- what an expression makes is locked for good -/
def tFz (te : TE) : TE := fun σ H Q => te σ H fun v H1 => ∃ p kvs, v = .ref p ∧ H1 p = some (.dK kvs) ∧ ∀ od, Q v (upd H1 p (.frz od (.dK kvs)))
theorem pe_fz {X : Cx} {e : Expr} {te : TE} (he : PE X e te) : PE X e (tFz te) := by
  refine ⟨fun pins s σ H Q I hw => ?_⟩
  refine thn (he.run pins s σ H _ I hw) fun u s1 ⟨x, H1, I1, rx, p, kvs, ex, hp, q⟩ => ?_
  obtain ⟨od, I2⟩ := I1.lock hp trivial
  exact ⟨x, _, I2, rx, q od⟩
/-! ### a dict on its way -/
def rawD (p : Addr) (kvs : List (Key × V)) : OA := ⟨fun _ t => t p = some (.dK kvs), fun _ h => h⟩
section
variable {T : TC} {Γ : List (Option VA)} {Ω Ω1 Ω2 Ω3 : List OA} {A B C : VA} {ta tb te : TE} {D : Ends} {F0 : Hp} {ts : TS}
/-! ### a display -/
def XPs (trs : List (TE × TE)) (Γ : List (Option VA)) (Ω : List OA) (kvs : List (Str × Int)) : Prop :=
  ∀ F σ H, Env F σ Γ → Holds F Ω H → ∀ Q : List (V × V) → Hp → Prop, (∀ F' H', Same F F' → Holds F' Ω H' → Q (kvs.map fun q => (V.str q.1, V.int q.2)) H') → tPairs trs σ H Q
theorem xe_disp0 : XE (tFz tDNewK) Γ Ω (va T (DF.mk [])) Ω := fun F σ H e hh Q q => by
  intro p hp
  refine ⟨p, [], rfl, upd_same, fun od => ?_⟩
  have eu : upd (upd H p (.dK [])) p (.frz od (.dK [])) = upd H p (.frz od (.dK [])) := by
    funext b
    by_cases hb : b = p
    · subst hb; rw [upd_same, upd_same]
    · rw [upd_ne hb, upd_ne hb, upd_ne hb]
  rw [eu]
  obtain ⟨hh3, e3⟩ := hh.newF (u := .frz od (.dK [])) hp
  exact q _ _ _ _ e3 hh3 ⟨⟨p, od, rfl, upd_same⟩, rfl⟩

/-! ### dict(pairs) -/
def rDictP (K : PySem.W.Frag) : List V → Hp → VK → Prop := fun xs H Q => ∃ (a : Addr) (ps : List Addr) (kvs : List (Key × V)), xs = [.ref a] ∧ SqL K H a (ps.map V.ref) ∧ Paired (fun p kv => SqT K H p [kV kv.1, kv.2]) ps kvs ∧
    ∀ p, H p = none → Q (.ref p) (upd H p (.dK (mergeK [] kvs)))
/-! ### == where it is known to hold -/
def rEqF : R2 := fun x y H Q => ∃ a b oa ob ks ls, x = .ref a ∧ y = .ref b ∧ H a = some (.frz oa (.dK ks)) ∧ H b = some (.frz ob (.dK ls)) ∧ ks.length = ls.length ∧ (∀ p ∈ ks, valV ls p.1 = some p.2 ∧ flatB p.2 = true) ∧ Q (.bl true) H
/-- the same keys, the same numbers -/
def sameD (l m : List (Str × Int)) : Prop := l.length = m.length ∧ ∀ x ∈ l, m.lookup x.1 = some x.2
/-! ### a pair's part -/
theorem xe_fst {α β : Type} [Rp α] [Rp β] {z : α × β} (ha : XE te Γ Ω (va T z) Ω1) : XE (tOp (rIx T.K) te (tC (.int 0))) Γ Ω (va T z.1) Ω1 := xe_op ha (xe_int (T := T) (n := 0)) fun F H x y hh a1 a2 Q q => by
  obtain ⟨p, u, v, rfl, hs, r1, r2⟩ := a1
  exact .inr (.inl ⟨p, _, 0, u, rfl, a2, Same.tup hh.same hs, rfl, q F u H (Same.refl F) hh r1⟩)
theorem xe_snd {α β : Type} [Rp α] [Rp β] {z : α × β} (ha : XE te Γ Ω (va T z) Ω1) : XE (tOp (rIx T.K) te (tC (.int 1))) Γ Ω (va T z.2) Ω1 := xe_op ha (xe_int (T := T) (n := 1)) fun F H x y hh a1 a2 Q q => by
  obtain ⟨p, u, v, rfl, hs, r1, r2⟩ := a1
  exact .inr (.inl ⟨p, _, 1, v, rfl, a2, Same.tup hh.same hs, rfl, q F v H (Same.refl F) hh r2⟩)
def rSumT (K : PySem.W.Frag) : List V → Hp → VK → Prop := fun vs H Q => ∃ (a : Addr) (ns : List Int), vs = [V.ref a] ∧ SqT K H a (ns.map V.int) ∧ Q (.int ns.sum) H
end
end VL

set_option Elab.async false
set_option linter.all false
set_option maxRecDepth 100000
/-! enumerate over a tuple; a truth whose second part may have no value; slices of tuples -/
namespace VL
open PySem L2 PyProof.Rows
/-- the tuple at a, its items in new pairs with their places -/
def IteT (K : PySem.W.Frag) (a : Addr) : It :=
  ⟨fun i H => ∃ xs x, SqT K H a xs ∧ xs[i]? = some x, fun i H v H' => ∃ p x, v = .ref p ∧ H p = none ∧ H' = upd H p (.tup [.int (i : Nat), x]) ∧ ∀ xs, SqT K H a xs → xs[i]? = some x, fun i H => ∃ xs, SqT K H a xs ∧ xs.length = i⟩
def iEnumT (K : PySem.W.Frag) (ta : TA) : TI := fun σ H R => ta σ H fun vs H1 => ∃ a xs, vs = [.ref a] ∧ SqT K H1 a xs ∧ R (IteT K a) H1
section
variable {T : TC} {Γ : List (Option VA)} {Ω Ω1 Ω2 Ω3 : List OA} {A B C : VA} {ta tb te : TE} {b : Bool} {α : Type} [Rp α] {l : List α}
/-- the items with their places -/
def nums (l : List α) : List (Int × α) := (rng 0 l.length).zip l
/-! ### a pair of a new list and a value -/
def RNP (T : TC) (Ω2 : List OA) (o : Addr → OA) (B : VA) : Hp → V → List OA → Prop := fun F v Ω' => ∃ p t w, v = .ref t ∧ SqT T.K F t [.ref p, w] ∧ B.P F w ∧ Ω' = Ω2 ++ [o p]
def RNQ (T : TC) (Ω2 : List OA) (p : Addr) (B : VA) : Hp → V → List OA → Prop := fun F v Ω' => ∃ t w, v = .ref t ∧ SqT T.K F t [.ref p, w] ∧ B.P F w ∧ Ω' = Ω2
end
end VL

set_option Elab.async false
set_option linter.all false
set_option maxRecDepth 100000
/-! == and != by the text's own __eq__ -/
namespace VL
open PySem L2 PyProof.Rows
/-- x == y, x != y of two instances of the class at C: what its own __eq__ promises -/
def rOwnEq (C : Addr) (sp : Sp) : R2 := fun x y H Q => ∃ a b dx dy fs gs, x = .ref a ∧ y = .ref b ∧ H a = some (.ins C dx fs) ∧ H b = some (.ins C dy gs) ∧ sp [x, y] H (fun v H' => ∃ r, v = .bl r ∧ Q (.bl r) H') E0
def rOwnNe (C : Addr) (sp : Sp) : R2 := fun x y H Q => ∃ a b dx dy fs gs, x = .ref a ∧ y = .ref b ∧ H a = some (.ins C dx fs) ∧ H b = some (.ins C dy gs) ∧ sp [x, y] H (fun v H' => ∃ r, v = .bl r ∧ Q (.bl (!r)) H') E0
section
variable {X : Cx} {n : Nat} {C f : Addr} {fd : FuncData} {ps : List Str} {sp : Sp}
/-- the call of __eq__ at a place with room -/
theorem call_own {A : Around} (F : FnOk X.prog X.w X.K X.mg X.base CX0 n f fd ps sp) (hb : Binds X.K fd ps []) (room : Room n A) (fr : A.frames = X.A.frames) {pins : List (Addr × Obj)} {σ : L2.St} {H : Hp} {s : Shared} {x y : V} {u v : Value} {Q : VK} (I : Inv X pins σ H s) (r1 : RelV x u) (r2 : RelV y v) (q : sp [x, y] H Q E0) :
    wpAny (model X.prog X.w) A (call (.ref f) [u, v]) (EP X pins σ Q) X.xe s := by
  have e0 : Env0 X.prog X.w X.K X.mg X.base A X.stack s H := by
    have b := I.env0
    exact ⟨by rw [fr]; exact b.frames, b.mod, b.bs, b.bsz, b.funs, b.frf, b.hok, b.bare⟩
  have len := F.len _ _ _ _ q
  have two : Vals [x, y] [u, v] := .cons r1 (.cons r2 .nil)
  refine wpAny_call (codeAny_mono (F.run A X.stack s H ⟨[u, v], []⟩ [u, v] [x, y] Q E0 room e0 (by
    have z := hb s [u, v] I.kIn (by simpa using len)
    simpa using z) two q) fun res s' out => ?_)
  cases res with
  | error e => exact False.elim out
  | ok fl =>
    cases fl with
    | ret w => exact I.after out
    | next => exact False.elim out
    | brk => exact False.elim out
    | cont => exact False.elim out
end
section
variable {T : TC} {Γ : List (Option VA)} {Ω Ω1 Ω2 Ω3 : List OA} {A B C : VA} {ta tb te : TE} {x y : Bg} {r : Bool}
end
structure CalEq (P : Program) (w : World) (K : PySem.W.Frag) (mg : Str → Option Value) (base : Heap) (n : Nat) (C : Addr) (sp : Sp) : Prop where
  ex : ∃ f fd, FnOk P w K mg base CX0 n f fd ["self", "other"] sp ∧ ownB K C f = true ∧ Meth K C "__eq__" f ∧ Binds K fd ["self", "other"] []
section
variable {X : Cx} {n : Nat} {C : Addr} {sp : Sp}
end
end VL

set_option Elab.async false
set_option linter.all false
set_option maxRecDepth 100000
/-! bits joined; tuples of four -/
namespace VL
open PySem L2
structure T4 (α β γ δ : Type) where
  a : α
  b : β
  c : γ
  d : δ
instance {α β γ δ : Type} [Rp α] [Rp β] [Rp γ] [Rp δ] : Rp (T4 α β γ δ) := ⟨fun T F v l => ∃ p x y z u, v = .ref p ∧ SqT T.K F p [x, y, z, u] ∧ Rp.rep T F x l.a ∧ Rp.rep T F y l.b ∧ Rp.rep T F z l.c ∧ Rp.rep T F u l.d,
  fun e ⟨p, x, y, z, u, h1, h2, h3, h4, h5, h6⟩ => ⟨p, x, y, z, u, h1, Same.tup e h2, Rp.mono e h3, Rp.mono e h4, Rp.mono e h5, Rp.mono e h6⟩⟩
section
variable {T : TC} {Γ : List (Option VA)} {Ω Ω1 Ω2 Ω3 : List OA} {A B C : VA} {As : List VA} {ta tb te : TE} {t u : TT} {i j n m : Int} {b c : Bool}
theorem xe_bxor (ha : XE ta Γ Ω (va T i) Ω1) (hb : XE tb Γ Ω1 (va T j) Ω2) : XE (tOp (rI0 fun i j => .int (Builtin.bitXor i j)) ta tb) Γ Ω (va T (Builtin.bitXor i j)) Ω2 := xe_op ha hb ro_int
theorem cal0' {Ω : List OA} : stt Ω [] [] = Ω := List.append_nil _
end
end VL

set_option Elab.async false
set_option linter.all false
set_option maxRecDepth 100000
/-! texts compared; items of a dict; enumerate over a list; lists unpacked; extend -/
namespace VL
open PySem L2
section
variable {T : TC} {Γ : List (Option VA)} {Ω Ω1 Ω2 Ω3 : List OA} {A B C : VA} {As : List VA} {ta tb te ti : TE} {t u : TT} {i j n m : Int} {b c : Bool} {x y : Str}
/-! isinstance of a list, a tuple, a truth -/
theorem ty_lst {α : Type} [Rp α] {l : List α} {F H : Hp} {v : V} (hh : Holds F Ω H) (a : (va T (LF.mk l)).P F v) : TyX T.K H v (.type "list") := by
  obtain ⟨p, vs, rfl, h, _⟩ := a
  exact .base (.lst (hh.same _ _ h))
theorem ty_bool {F H : Hp} {v : V} (_ : Holds F Ω H) (a : (va T b).P F v) : TyX T.K H v (.type "bool") := by
  have a : v = .bl b := a
  subst a
  exact .base (.bl b)
/-! all(xs), xs a list of truths -/
theorem al_bool {F : Hp} : ∀ {vs : List V} {l : List Bool}, Al T F vs l → vs = l.map V.bl
  | _, _, .nil => rfl
  | _, _, .cons h t => by rw [List.map_cons, ← al_bool t, show _ = V.bl _ from h]
theorem xe_all {l : List Bool} (ha : XE te Γ Ω A Ω1) (h : IsL T Ω1 A l) : XE (tCB (rAll T.K) (tCons te tNil)) Γ Ω (va T (l.all id)) Ω1 := xe_cb (xa_cons ha xa_nil) fun F H vs hh a Q q => by
  obtain ⟨v, rfl, a1⟩ := alA1 a
  obtain ⟨p, ws, e, hs, al⟩ := h F H v hh a1
  subst e
  refine ⟨p, l, rfl, ?_, q F _ H (Same.refl F) hh rfl⟩
  rw [← al_bool al]
  exact hs
def un2 {α : Type} : List α → Option (α × α)
  | [a, b] => some (a, b)
  | _ => none
end
instance {α β γ δ : Type} [Rp α] [Rp β] [Rp γ] [Rp δ] [Dat α] [Dat β] [Dat γ] [Dat δ] : Dat (T4 α β γ δ) := ⟨fun l => .tuple [Dat.dat l.a, Dat.dat l.b, Dat.dat l.c, Dat.dat l.d], fun l => Dat.ok l.a ∧ Dat.ok l.b ∧ Dat.ok l.c ∧ Dat.ok l.d, max (Dat.dep α) (max (Dat.dep β) (max (Dat.dep γ) (Dat.dep δ))) + 1, fun e ⟨p, x, y, z, u, h1, h2, h3, h4, h5, h6⟩ => by
    rw [h1]; exact .tup (Same.tup e h2) (.cons (Dat.dp e h3) (.cons (Dat.dp e h4) (.cons (Dat.dp e h5) (.cons (Dat.dp e h6) .nil)))), fun h => by
    show (PyData.canLay0 (Dat.dat _) && (PyData.canLay0 (Dat.dat _) && (PyData.canLay0 (Dat.dat _) && (PyData.canLay0 (Dat.dat _) && true)))) = true
    rw [Dat.lay h.1, Dat.lay h.2.1, Dat.lay h.2.2.1, Dat.lay h.2.2.2]; rfl, fun {a} => by
    rw [depth_tuple]
    refine Nat.succ_le_succ ?_
    show max (PyData.depth (Dat.dat a.a)) (max (PyData.depth (Dat.dat a.b)) (max (PyData.depth (Dat.dat a.c)) (max (PyData.depth (Dat.dat a.d)) 0))) ≤ _
    have h1 := Dat.depth (a := a.a)
    have h2 := Dat.depth (a := a.b)
    have h3 := Dat.depth (a := a.c)
    have h4 := Dat.depth (a := a.d)
    omega, fun {a b} => by
    show (PyData.eqv (Dat.dat a.a) (Dat.dat b.a) && (PyData.eqv (Dat.dat a.b) (Dat.dat b.b) && (PyData.eqv (Dat.dat a.c) (Dat.dat b.c) && (PyData.eqv (Dat.dat a.d) (Dat.dat b.d) && true)))) = true ↔ a = b
    rw [Bool.and_true, Bool.and_eq_true, Bool.and_eq_true, Bool.and_eq_true, Dat.eqv, Dat.eqv, Dat.eqv, Dat.eqv]
    cases a; cases b; simp⟩
section
variable {X : Cx} {K : PySem.W.Frag} {e : Expr} {ta : TA} {p pos tpos : Pos} {elts : List Expr} {kk : Nat}
theorem cr_allK (hK : X.K = K) (hc : X.calm = true) : CallR X (.builtin "all") (rAll K) := hK ▸ cr_all hc
end
end VL

set_option Elab.async false
set_option linter.all false
set_option maxRecDepth 100000
/-! != of tuples item by item; == and != of pairs (frozen dict, data) that are equal -/
namespace VNe
open PySem
end VNe
namespace VL
open PySem L2 PyProof.Rows
/-- two frozen dicts of the same keys and flat values -/
def FD (H : Hp) (x y : V) : Prop := ∃ a b oa ob ks ls, x = .ref a ∧ y = .ref b ∧ H a = some (.frz oa (.dK ks)) ∧ H b = some (.frz ob (.dK ls)) ∧ ks.length = ls.length ∧ ∀ p ∈ ks, valV ls p.1 = some p.2 ∧ flatB p.2 = true
/-- the same data -/
def FS (K : PySem.W.Frag) (H : Hp) (x y : V) : Prop := ∃ d, Dp K H x d ∧ Dp K H y d ∧ d.canLay0 = true ∧ d.depth ≤ 60 ∧ PyData.eqv d d = true
section
variable {X : Cx} {pins : List (Addr × Obj)} {σ : L2.St} {H : Hp} {s : Shared}
end
def PkE (K : PySem.W.Frag) (x y : V) (H : Hp) : Prop := ∃ a b x1 x2 y1 y2, x = .ref a ∧ y = .ref b ∧ SqT K H a [x1, x2] ∧ SqT K H b [y1, y2] ∧ FD H x1 y1 ∧ FS K H x2 y2
def rPkEq (K : PySem.W.Frag) : R2 := fun x y H Q => PkE K x y H ∧ Q (.bl true) H
def rPkNe (K : PySem.W.Frag) : R2 := fun x y H Q => PkE K x y H ∧ Q (.bl false) H
section
variable {X : Cx} {pins : List (Addr × Obj)} {σ : L2.St} {H : Hp} {s : Shared}
end
section
variable {T : TC} {Γ : List (Option VA)} {Ω Ω1 Ω2 : List OA} {ta tb : TE} {α : Type} [Rp α] [Dat α] {x y : DF × α}
end
section
variable {T : TC} {Γ : List (Option VA)} {Ω Ω1 Ω2 Ω3 : List OA} {ta tb tc : TE}
end
end VL

set_option Elab.async false
set_option linter.all false
set_option maxRecDepth 100000
/-! != of lists whose items have a text's own __eq__; a list unpacked into three -/
namespace VNe
open PySem PySem.SeqAt
end VNe
namespace VL
open PySem L2 PyProof.Rows
/-- pair by pair the own __eq__ says yes; both lists stay -/
def WL (C : Addr) (sp : Sp) (a b : Addr) (xs ys : List V) : List (V × V) → Hp → (Hp → Prop) → Prop
  | [], H, Q => Q H
  | z :: r, H, Q => ∃ p q dx dy fs gs, z.1 = .ref p ∧ z.2 = .ref q ∧ H p = some (.ins C dx fs) ∧ H q = some (.ins C dy gs) ∧ (p = q → WL C sp a b xs ys r H Q) ∧
    (p ≠ q → sp [z.1, z.2] H (fun v H' => v = .bl true ∧ H' a = some (.lst xs) ∧ H' b = some (.lst ys) ∧ WL C sp a b xs ys r H' Q) E0)
def rOwnL (C : Addr) (sp : Sp) (r : Bool) : R2 := fun x y H Q => ∃ a b xs ys, x = .ref a ∧ y = .ref b ∧ H a = some (.lst xs) ∧ H b = some (.lst ys) ∧ xs.length = ys.length ∧ WL C sp a b xs ys (xs.zip ys) H (fun H' => Q (.bl r) H')
section
variable {X : Cx} {n : Nat} {C f : Addr} {fd : FuncData} {ps : List Str} {sp : Sp}
/-- what the loop keeps -/
def LI (X : Cx) (pins : List (Addr × Obj)) (σ : L2.St) (C : Addr) (sp : Sp) (a b : Addr) (xs ys : List V) (Q : Hp → Prop) (i : Nat) (s : Shared) : Prop := ∃ H, Inv X pins σ H s ∧ H a = some (.lst xs) ∧ H b = some (.lst ys) ∧ WL C sp a b xs ys ((xs.zip ys).drop i) H Q
end
section
variable {T : TC} {Γ : List (Option VA)} {Ω Ω1 Ω2 Ω3 : List OA} {ta tb te : TE} {l m : List Bg}
def un3 {α : Type} : List α → Option (α × α × α)
  | [a, b, c] => some (a, b, c)
  | _ => none
end
end VL

set_option Elab.async false
set_option linter.all false
set_option maxRecDepth 100000
/-! None behind a list of numbers; a pair of a new list and a value, kept in a name -/
namespace VL
open PySem L2
inductive OI where
  | i (n : Int)
  | no
def OI.v : OI → V
  | .i n => .int n
  | .no => .non
def OI.d : OI → PyData
  | .i n => .int n
  | .no => .none
instance : Rp OI := ⟨fun _ _ v a => v = a.v, fun _ h => h⟩
instance : Dat OI := ⟨OI.d, fun _ => True, 0, fun {T F H v a} _ h => by
    rw [show v = a.v from h]
    cases a
    · exact .int _
    · exact .non, fun {a} _ => by cases a <;> rfl, fun {a} => by cases a <;> exact Nat.le_refl _, fun {a b} => by
    cases a <;> cases b
    · rename_i m n
      show (m == n) = true ↔ _
      rw [beq_iff_eq]
      exact ⟨fun e => by rw [e], fun e => by cases e; rfl⟩
    · exact ⟨(fun e => nomatch e), (fun e => nomatch e)⟩
    · exact ⟨(fun e => nomatch e), (fun e => nomatch e)⟩
    · exact ⟨fun _ => rfl, fun _ => rfl⟩⟩
/-- a pair of a list that changes, at p, and a value -/
def pvA (T : TC) (p : Addr) (B : VA) : VA := ⟨fun F v => ∃ t w, v = .ref t ∧ SqT T.K F t [.ref p, w] ∧ B.P F w, fun e ⟨t, w, a, b, c⟩ => ⟨t, w, a, Same.tup e b, B.mono e c⟩⟩
section
variable {T : TC} {Γ : List (Option VA)} {Ω Ω1 Ω2 Ω3 : List OA} {A B C : VA} {ta tb te : TE} {D : Ends} {F0 : Hp} {ts : TS} {p : Addr}
end
/-! ### walks over a list that may change, and doesn't -/
section
variable {T : TC} {Γ : List (Option VA)} {Ω Ω0 Ω1 Ω2 : List OA} {A B : VA} {te ta tb : TE} {D : Ends} {F0 : Hp} {ts : TS}
structure Wk2 (k : Nat) (o : OA) {α : Type} (J : It) (Sx : Hp → Prop) (xs : List α) (A : α → VA) : Prop where
  mono : ∀ F F', Same F F' → Sx F → Sx F'
  go : ∀ (i : Nat) F Ω H, Sx F → Holds F Ω H → Ω[k]? = some o → i < xs.length → J.go i H
  stop : ∀ F Ω H, Sx F → Holds F Ω H → Ω[k]? = some o → J.stop xs.length H
  yld : ∀ (i : Nat) a F Ω H x H', Sx F → Holds F Ω H → Ω[k]? = some o → xs[i]? = some a → J.yld i H x H' → ∃ F', Same F F' ∧ Holds F' Ω H' ∧ (A a).P F' x
def XI2 (k : Nat) (o : OA) {α : Type} (wi : TI) (Γ : List (Option VA)) (Ω : List OA) (xs : List α) (A : α → VA) (Ω2 : List OA) : Prop :=
  ∀ F σ H, Env F σ Γ → Holds F Ω H → ∀ R : It → Hp → Prop, (∀ F' J H' Sx, Same F F' → Holds F' Ω2 H' → Wk2 k o J Sx xs A → Sx F' → R J H') → wi σ H R
end
end VL

set_option Elab.async false
set_option linter.all false
set_option maxRecDepth 100000
/-! the parts of a pair with a list that changes -/
namespace VL
open PySem L2
section
variable {T : TC} {Γ : List (Option VA)} {Ω Ω1 Ω2 : List OA} {B : VA} {te : TE} {p : Addr}
end
end VL

set_option Elab.async false
set_option linter.all false
set_option maxRecDepth 100000
/-! an own __eq__ beside a number or a list; is, of truths; a new list of a tuple; a new machine handed over at once -/
namespace VL
open PySem L2 PyProof.Rows
/-- neither an int nor a list comes ahead of the class at C, nor is one of it -/
def otherB (K : PySem.W.Frag) (C : Addr) : Bool := PySem.W.notFirst K C (.type "int") && (PySem.W.notFirst K C (.type "list") && (decide (PySem.W.kitOne K (.type "int") (.ref C) = some false) && decide (PySem.W.kitOne K (.type "list") (.ref C) = some false)))
/-- an int or a list -/
def IsO (H : Hp) (y : V) : Prop := (∃ i, y = .int i) ∨ ∃ b vs, y = .ref b ∧ H b = some (.lst vs)
def rOwnX (K : PySem.W.Frag) (C : Addr) (sp : Sp) : R2 := fun x y H Q => ∃ a dx fs, x = .ref a ∧ H a = some (.ins C dx fs) ∧ IsO H y ∧ sp [x, y] H (fun v H' => v = .bl false ∧ Q (.bl false) H') E0
section
variable {X : Cx} {n : Nat} {C f : Addr} {fd : FuncData} {ps : List Str} {sp : Sp}
structure CalEqX (P : Program) (w : World) (K : PySem.W.Frag) (mg : Str → Option Value) (base : Heap) (n : Nat) (C : Addr) (sp : Sp) : Prop where
  ex : ∃ f fd, FnOk P w K mg base CX0 n f fd ["self", "other"] sp ∧ otherB K C = true ∧ Meth K C "__eq__" f ∧ Binds K fd ["self", "other"] []
end
/-- what __eq__ tells of a number beside an int or a list -/
def PreX (T : TC) : PreT := fun As Ω R => ∃ (x0 : Bg) (A : VA), As = [va T x0, A] ∧ (∀ F H v, Holds F Ω H → A.P F v → IsO H v) ∧ R = RV (va T false) (stt Ω [] [])
section
variable {T : TC} {Γ : List (Option VA)} {Ω Ω0 Ω1 Ω2 : List OA} {A B : VA} {ta tb te : TE} {x : Bg} {b c : Bool}
def rIsB : R2 := fun x y H Q => ∃ a b, x = .bl a ∧ y = .bl b ∧ Q (.bl (decide (a = b))) H
/-- f(a new thing, ..): the thing is left behind -/
theorem xe_callF {Pre : PreT} {E : XK} {t : TA} {As : List VA} {ks : List (Nat × OA)} {L : List OA} {o : Addr → OA} {Ω' : Addr → List OA} (h1 : XG ta Γ Ω0 (RN (stt Ω ks L) o)) (h2 : ∀ p, XA t Γ (stt Ω ks (L ++ [o p])) As (stt Ω ks (L ++ [o p])))
    (hp : ∀ p, Pre (vr p :: As) (stt Ω ks (L ++ [o p])) (RV A (Ω' p))) (he : ∀ p, Ω' p = stt Ω ks (L ++ [o p])) : XE (tCall (mkSp Pre) [] E (tCons ta t)) Γ Ω0 A (stt Ω ks L) := fun F σ H e hh Q q => by
  refine h1 F σ H e hh _ fun F1 x H1 Ωa e1 hh1 ⟨p, a1, o1⟩ => ?_
  subst o1
  rw [stt_app] at hh1
  refine h2 p F1 σ H1 (e.mono e1) hh1 _ fun F2 ws H2 e2 hh2 a2 => ?_
  have a1 : x = .ref p := a1
  subst a1
  refine ⟨F2, _, vr p :: As, _, hp p, ?_, hh2, fun F' v H' Ω3 e' hh' ⟨av, eo⟩ => ?_⟩
  · rw [List.append_nil]
    exact .cons (show (vr p).P F2 (.ref p) from rfl) a2
  · subst eo
    rw [he p, ← stt_app] at hh'
    exact q F' v H' _ ((e1.trans e2).trans e') hh'.drop ⟨av, rfl⟩
end
end VL

set_option Elab.async false
set_option linter.all false
set_option maxRecDepth 100000
/-! VL18: a name that holds one of several defs; and/or whose second part changes things. -/
namespace VL
open PySem L2
/-- one of several defs, by its number -/
structure FT where
  i : Nat
instance : Rp FT := ⟨fun T _ v a => v = .ref (T.C (200 + a.i)), fun _ h => h⟩
structure HeldF (P : Program) (w : World) (K : PySem.W.Frag) (mg : Str → Option Value) (base : Heap) (k : Nat) (f : Addr) (sp : Sp) : Prop where
  ex : ∃ (fd : FuncData) (ps : List Str), FnOk P w K mg base CX0 k f fd ps sp ∧ PySem.W.keepIn K (.ref f) = true ∧ Binds K fd ps []
structure HeldFK (P : Program) (w : World) (K : PySem.W.Frag) (mg : Str → Option Value) (base : Heap) (k : Nat) (f : Addr) (n : Nat) (ks : List Str) (ix : List Nat) (sp : Sp) : Prop where
  ex : ∃ (fd : FuncData) (ps : List Str), FnOk P w K mg base CX0 k f fd ps sp ∧ PySem.W.keepIn K (.ref f) = true ∧ KBn K fd ps n ks (fun us ws => prm ix (us ++ ws)) (fun vs zs => prm ix (vs ++ zs))
def tCallFn (i : Nat) (S : Addr → Sp → Prop) (t : TA) : TE := fun σ H Q => ∃ f sp, σ[i]? = some (some (.ref f)) ∧ S f sp ∧ t σ H fun vs H1 => sp (vs ++ []) H1 Q E0
def tCallFnN (i : Nat) (S : Addr → Sp → Prop) (n m : Nat) (g : List V → List V → List V) (t tk : TA) : TE := fun σ H Q => ∃ f sp, σ[i]? = some (some (.ref f)) ∧ S f sp ∧ tCallN n m sp g E0 t tk σ H Q
section
variable {X : Cx} {k i n : Nat} {S : Addr → Sp → Prop} {x : Str} {ks : List Str} {ix : List Nat} {p pos : Pos} {e : Expr} {es : List Expr} {kws : List Keyword} {t tk : TA}
end
section
variable {T : TC} {Γ : List (Option VA)} {Ω Ω1 Ω2 Ω3 : List OA} {A : VA} {As Ks : List VA} {a : FT} {i : Nat} {S : Addr → Sp → Prop}
end
end VL

set_option Elab.async false
set_option linter.all false
set_option maxRecDepth 100000
set_option maxHeartbeats 2000000
/-! VL19: a lambda without parameters handed to a def that calls it: what it makes of the caller's machine. -/
namespace VL
open PySem PySem.Spec PyProof.Rows L2 LamX
/-- the table at P in t: its code objects stand in F -/
def TabF (F t : Hp) (P : Addr) (q : Str) : Prop := ∃ ps : Array Value, t P = some (.tbl ps) ∧ TriplesOk ps.toList ∧ ∀ (pos : Pos) (cv : Value), codeAmong pos ps.toList = some cv → ∃ c, cv = .ref c ∧ F c = some (CodeO c q)
theorem TabF.mono {F F' t : Hp} {P : Addr} {q : Str} (e : Same F F') : TabF F t P q → TabF F' t P q := fun ⟨ps, h1, h2, h3⟩ => ⟨ps, h1, h2, fun pos cv h => let ⟨c, a, b⟩ := h3 pos cv h; ⟨c, a, e _ _ b⟩⟩
/-- all the tables of a law -/
def tabA (l : List (Addr × Str)) : OA := ⟨fun F t => ∀ p ∈ l, TabF F t p.1 p.2, fun e h p hp => (h p hp).mono e⟩
/-- the table's part of the heap behind a lambda's making: H as it was, or a new code object at c' -/
def Grown (H : Hp) (P : Addr) (q : Str) (H1 : Hp) (c' : Addr) : Prop :=
  (H1 = H ∧ ∃ (ps : Array Value) (pos : Pos), H P = some (.tbl ps) ∧ codeAmong pos ps.toList = some (.ref c')) ∨
  ∃ (ps more : Array Value), H P = some (.tbl ps) ∧ H c' = none ∧ H1 = upd (upd H P (.tbl (ps ++ more))) c' (CodeO c' q) ∧ (TriplesOk ps.toList → TriplesOk (ps ++ more).toList) ∧
    ∀ (pos : Pos) (cv : Value), TriplesOk ps.toList → codeAmong pos (ps ++ more).toList = some cv → codeAmong pos ps.toList = some cv ∨ cv = .ref c'
theorem set_own {α : Type} {l : List α} {i : Nat} {a : α} (h : l[i]? = some a) : l.set i a = l := by
  apply List.ext_getElem?
  intro j
  by_cases e : i = j
  · subst e; rw [List.getElem?_set_self (getlt h), h]
  · rw [List.getElem?_set_ne e]
theorem grown_holds {F H H1 : Hp} {Ω : List OA} {l : List (Addr × Str)} {kt : Nat} {P c' : Addr} {q : Str} (hh : Holds F Ω H) (ht : Ω[kt]? = some (tabA l)) (hm : (P, q) ∈ l) (hu : ∀ p ∈ l, p.1 = P → p.2 = q) (g : Grown H P q H1 c') :
    ∃ F1, Same F F1 ∧ Holds F1 Ω H1 ∧ F1 c' = some (CodeO c' q) := by
  rcases g with ⟨rfl, ps, pos, e1, e2⟩ | ⟨ps, more, e1, e2, e3, e4, e5⟩
  · obtain ⟨t, h1, h2, _, _⟩ := hh.get ht
    obtain ⟨ps', a1, a2, a3⟩ := h1 _ hm
    have := (h2 _ _ a1).symm.trans e1
    cases this
    obtain ⟨c, b1, b2⟩ := a3 pos _ e2
    cases b1
    exact ⟨F, Same.refl F, hh, b2⟩
  · have nP : P ≠ c' := ne_of_none e1 e2
    obtain ⟨hh1, s1⟩ := hh.newF (u := CodeO c' q) e2
    obtain ⟨t, h1, h2, h3, h4⟩ := hh1.get ht
    have eP : t P = some (.tbl ps) := by
      obtain ⟨ps', a1, _⟩ := h1 _ hm
      have z := h2 _ _ a1
      rw [upd_ne nP, e1] at z
      cases z
      exact a1
    have key := h4 (tabA l) P (.tbl ps) (.tbl (ps ++ more)) eP fun p hp => by
      obtain ⟨ps', a1, a2, a3⟩ := h1 p hp
      by_cases hb : p.1 = P
      · have hq := hu p hp hb
        rw [hb] at a1 ⊢
        rw [hq] at a3 ⊢
        have := a1.symm.trans eP
        cases this
        refine ⟨_, upd_same, e4 a2, fun pos cv hc => ?_⟩
        rcases e5 pos cv a2 hc with z | z
        · exact a3 pos cv z
        · exact ⟨c', z, upd_same⟩
      · exact ⟨ps', by rw [upd_ne hb]; exact a1, a2, a3⟩
    rw [set_own ht] at key
    refine ⟨_, s1, ?_, upd_same⟩
    have e6 : H1 = upd (upd H c' (CodeO c' q)) P (.tbl (ps ++ more)) := by
      rw [e3]
      funext b
      by_cases b1 : b = P
      · subst b1
        rw [upd_ne nP, upd_same, upd_same]
      · by_cases b2 : b = c'
        · subst b2; rw [upd_same, upd_ne b1, upd_same]
        · rw [upd_ne b2, upd_ne b1, upd_ne b1, upd_ne b2]
    rw [e6]
    exact key
section
variable {X : Cx} {pins : List (Addr × Obj)} {σ : L2.St} {H : Hp} {s : Shared}
end
/-! ### a def that is handed a lambda -/
/-- what its name makes: act -/
def tAct (i : Nat) (f c' : Addr) (q : Str) (act : Hp → VK → Prop) : TE := fun σ H Q => σ[i]? = some (some (.ref f)) ∧ H c' = some (CodeO c' q) ∧ act H Q
/-- in each def's context that is entered at s: a call of the name that holds the lambda -/
def ActH (P : Program) (w : World) (K : PySem.W.Frag) (mg : Str → Option Value) (base : Heap) (k : Nat) (A : Around) (outer : List PySem.Env) (s : Shared) (H : Hp) (f c' : Addr) (q : Str) (act : Hp → VK → Prop) : Prop :=
  ∀ (Ng : List Str) (qg : Str) (sg : Scope) (g : Addr) (cdg : Value) (i : Nat) (a : Str) (p1 p2 : Pos), Room (k + 1) (A.deeper (envOfC qg sg s.heap.objs.size g cdg)) → Ng[i]? = some a → Vis sg a → (a == ("__debug__" : Str)) = false → (a == ("__classdict__" : Str)) = false →
    PE (cxOf CX0 P w K mg base Ng qg sg g cdg A outer s H E0).nox (.Call (.Name a p1) [] [] p2) (tAct i f c' q act)
abbrev PreLT := Addr → Addr → Str → (Hp → VK → Prop) → PreT
/-- that def: k, its depth; kl, that of the lambda's body -/
structure CalL (P : Program) (w : World) (K : PySem.W.Frag) (mg : Str → Option Value) (base : Heap) (kl k : Nat) (x : Str) (ps : List Str) (Pre : PreLT) : Prop where
  ex : ∃ g fd, mg x = some (.ref g) ∧ PySem.W.keepIn K (.ref g) = true ∧ Binds K fd ps [] ∧ (∀ f c' q act As Ω R, Pre f c' q act As Ω R → As.length = ps.length) ∧
    ∀ (A : Around) (outer : List PySem.Env) (s : Shared) (H : Hp) (us : List Value) (vs : List V) (Q : VK) (f c' : Addr) (q : Str) (act : Hp → VK → Prop), Room k A → Env0 P w K mg base A outer s H → BindsTo s fd ⟨us, []⟩ (ps.zip us) → Vals vs us →
      ActH P w K mg base kl A outer s H f c' q act → mkSp (Pre f c' q act) vs H Q E0 → codeAny (model P w) A (.call (.ref g) ⟨us, []⟩) (CR CX0 outer P w H s Q E0) s
section
variable {P : Program} {w : World} {K : PySem.W.Frag} {mg : Str → Option Value} {base : Heap}
end
/-! ### x(e, lambda: body) -/
def tLam (P : Addr) (q : Str) (Pre : PreLT) (ta tb : TE) : TE := fun σ H Q => ta σ H fun v H0 => (∃ ps : Array Value, H0 P = some (.tbl ps) ∧ TriplesOk ps.toList ∧ ∀ (pos : Pos) (cv : Value), codeAmong pos ps.toList = some cv → ∃ c, cv = .ref c ∧ H0 c = some (CodeO c q)) ∧
  ∀ f c' H1, Grown H0 P q H1 c' → mkSp (Pre f c' q fun H' Q' => tb σ H' Q') [v, .ref f] H1 Q E0
section
variable {X : Cx}
end
/-! ### what it makes of a machine -/
/-- the name's value: the lambda f, which takes the machine at k0 from m to r.2 and tells r.1 -/
def askA (T : TC) {α : Type} [Rp α] (f c' : Addr) (q : Str) (act : Hp → VK → Prop) (Ω : List OA) (k0 : Nat) (p0 : Addr) (M : MS → Option (α × MS)) : VA :=
  ⟨fun F v => v = .ref f ∧ F c' = some (CodeO c' q) ∧ ∀ m r, M m = some r → ∀ F1 H1, Same F F1 → Holds F1 (stt Ω [(k0, machA T p0 m)] []) H1 → ∀ Q : VK, (∀ F2 v H2, Same F1 F2 → Holds F2 (stt Ω [(k0, machA T p0 r.2)] []) H2 → (va T r.1).P F2 v → Q v H2) → act H1 Q,
   fun e ⟨h1, h2, h3⟩ => ⟨h1, e _ _ h2, fun m r hm F1 H1 e1 => h3 m r hm F1 H1 (e.trans e1)⟩⟩
section
variable {T : TC} {Γ : List (Option VA)} {Ω Ω1 : List OA} {α : Type} [Rp α]
end
section
variable {T : TC} {Γ : List (Option VA)} {Ω Ω1 Ω2 : List OA} {α : Type} [Rp α]
end
/-! ### a def whose code object is known -/
def CodeIs (K : PySem.W.Frag) (g c : Addr) : Prop := ∀ (oc : Value) (od : Option Addr) (x qual : Str) (ar : Arguments) (body : List Stmt) (sc : Scope) (dV kV doc pm : Value) (an : Option Addr) (cdv ct : Value) (osl : Array (Option Value)),
  K.lookup g = some ⟨oc, od, .func (PySem.W.fnOf x qual ar body sc dV kV doc pm an cdv ct), osl⟩ → PySem.W.codeIn K cdv qual = true → cdv = .ref c
section
variable {P : Program} {w : World} {K : PySem.W.Frag} {mg : Str → Option Value} {base : Heap}
theorem fn_okC {x qual : Str} {st : Stmt} {f c : Addr} {fd : FuncData} {N ps : List Str} {k : Nat} {Pre : PreT} (F : Fun K x qual st f fd) (hc : CodeIs K f c) (S : FnScope N ps (defScope st)) (hl : ∀ As Ω R, Pre As Ω R → As.length = ps.length)
    (hb : ∀ (A : Around) (outer : List PySem.Env) (s : Shared) (H : Hp) (E : XK), Room k (A.deeper (envOfC qual (defScope st) s.heap.objs.size f (.ref c))) → ∀ As Ω R F0, Pre As Ω R →
      Bod (cxOf CX0 P w K mg base N qual (defScope st) f (.ref c) A outer s H E).nox (defBody st) (As.map some ++ List.replicate (N.length - As.length) none) Ω F0 R) : FnOk P w K mg base CX0 (k + 1) f fd ps (mkSp Pre) := by
  obtain ⟨oc, od, kV, doc, pm, an, cdv, ct, osl, rfl, lk, hcd⟩ := F.ex
  obtain rfl := hc _ _ _ _ _ _ _ _ _ _ _ _ _ _ _ lk hcd
  refine fn_of lk hcd S (fun vs H Q E h => ?_) fun A outer s H vs Q E hr h => ?_
  · obtain ⟨F, Ω, As, R, hp, ha, _⟩ := h
    rw [ha.len]; exact hl _ _ _ hp
  · obtain ⟨F0, Ω, As, R, hp, ha, hh, hq⟩ := h
    obtain ⟨t, h1, h2⟩ := hb A outer s H E hr As Ω R F0 hp
    exact ⟨t, h1.nox, h2 _ (fun F v H Ω' e hh r => hq F v H Ω' e hh r) (fun F σ H Ω' e hh r => hq F .non H Ω' e hh r) _ _ ⟨F0, Same.refl F0, start_env ha, hh⟩⟩
end
/-- the law's start: the tables apart from all else -/
theorem tab_start {K : PySem.W.Frag} {H : Hp} {l : List (Addr × Str)} {a : Addr} {xs : List V} (hH : ∀ p ∈ l, H p.1 = some (.tbl #[])) (hS : SqL K H a xs) : ∃ F, SqL K F a xs ∧ Holds F [tabA l] H := by
  let inT : Addr → Prop := fun b => ∃ p ∈ l, p.1 = b
  have dec : ∀ b, Decidable (inT b) := fun b => Classical.propDecidable _
  let F : Hp := fun b => if inT b then none else H b
  let t : Hp := fun b => if inT b then some (.tbl #[]) else none
  have hHt : ∀ b, inT b → H b = some (.tbl #[]) := fun b ⟨p, hp, e⟩ => e ▸ hH p hp
  have sF : Same F H := fun b x e => by
    by_cases q : inT b
    · have e : (if inT b then none else H b) = some x := e
      rw [if_pos q] at e; cases e
    · have e : (if inT b then none else H b) = some x := e
      rw [if_neg q] at e; exact e
  have sT : Same t H := fun b x e => by
    by_cases q : inT b
    · have e : (if inT b then some (HO.tbl #[]) else none) = some x := e
      rw [if_pos q] at e; rw [← e]; exact hHt b q
    · have e : (if inT b then some (HO.tbl #[]) else none) = some x := e
      rw [if_neg q] at e; cases e
  have at_ : ∀ u, H a = some u → u ≠ .tbl #[] → F a = some u := fun u e n => by
    show (if inT a then none else H a) = some u
    rw [if_neg (fun q => n (Option.some.inj (e.symm.trans (hHt a q)))), e]
  refine ⟨F, ?_, fun _ => t, fun i o q => ?_, sF, fun i _ => sT, fun i b x _ e => ?_, fun i j b x hi hj ne _ => ?_⟩
  · rcases hS with (h | ⟨o, h⟩) | h
    · exact .inl (.inl (at_ _ h fun z => by cases z))
    · exact .inl (.inr ⟨o, at_ _ h fun z => by cases z⟩)
    · exact .inr h
  · cases i with
    | zero =>
      cases q
      intro p hp
      refine ⟨#[], ?_, True.intro, fun pos cv hc => ?_⟩
      · show (if inT p.1 then some (HO.tbl #[]) else none) = _
        exact if_pos ⟨p, hp, rfl⟩
      · have z : codeAmong pos [] = some cv := hc
        simp [codeAmong] at z
    | succ i => simp at q
  · have e : (if inT b then some (HO.tbl #[]) else none) = some x := e
    show (if inT b then none else H b) = none
    by_cases q : inT b
    · exact if_pos q
    · rw [if_neg q] at e; cases e
  · simp at hi hj
    omega
end VL

set_option Elab.async false
set_option linter.all false
set_option maxRecDepth 100000
/-! VL20: the script with a list behind it; divmod; tests whose parts change things. -/
namespace VL
open PySem PySem.Spec PyProof.Rows L2
def rCatS (K : PySem.W.Frag) : R2 := fun x y H Q => ∃ l b xs zs, x = .ref l ∧ y = .ref b ∧ SqL K H l xs ∧ H b = some (.lst zs) ∧ xs.length + zs.length ≤ sizeLine ∧ ∀ p, H p = none → Q (.ref p) (upd H p (.lst (xs ++ zs)))
/-- divmod by what is not 0 -/
def CDivF (_ j : Int) : Prop := j ≠ 0 ∧ j.natAbs.log2 < 9000
def rDivmod : List V → Hp → VK → Prop := fun xs H Q => ∃ i j, xs = [.int i, .int j] ∧ CDivF i j ∧ ∀ p, H p = none → Q (.ref p) (upd H p (.tup [.int (i.fdiv j), .int (i.fmod j)]))
section
variable {T : TC} {ts : TA} {Γ : List (Option VA)} {Ω Ω1 Ω2 : List OA} {A : VA} {ta tb : TE} {t u : TT} {i j : Int} {b : Bool}
end
end VL

set_option Elab.async false
set_option linter.all false
set_option maxRecDepth 100000
/-! VL21: == and != of tuples whose items are numbers by their own __eq__, frozen dicts and data. -/
namespace VNe
open PySem PySem.SeqAt
end VNe
namespace VL
open PySem L2 PyProof.Rows
/-- pair by pair: equal dicts, equal data, or the own __eq__ says yes -/
def WT (K : PySem.W.Frag) (C : Addr) (sp : Sp) : List (V × V) → Hp → (Hp → Prop) → Prop
  | [], H, Q => Q H
  | z :: r, H, Q => (FD H z.1 z.2 ∧ WT K C sp r H Q) ∨ (FS K H z.1 z.2 ∧ WT K C sp r H Q) ∨
    ∃ p q dx dy fs gs, z.1 = .ref p ∧ z.2 = .ref q ∧ H p = some (.ins C dx fs) ∧ H q = some (.ins C dy gs) ∧ (p = q → WT K C sp r H Q) ∧ (p ≠ q → sp [z.1, z.2] H (fun v H' => v = .bl true ∧ WT K C sp r H' Q) E0)
def rOwnT (K : PySem.W.Frag) (C : Addr) (sp : Sp) (b : Bool) : R2 := fun x y H Q => ∃ a c xs ys, x = .ref a ∧ y = .ref c ∧ SqT K H a xs ∧ SqT K H c ys ∧ xs.length = ys.length ∧ WT K C sp (xs.zip ys) H (fun H' => Q (.bl b) H')
section
variable {X : Cx} {n : Nat} {C f : Addr} {fd : FuncData} {ps : List Str} {sp : Sp}
/-- what the walk keeps -/
def TI (X : Cx) (pins : List (Addr × Obj)) (σ : L2.St) (C : Addr) (sp : Sp) (Q : Hp → Prop) (zs : List (Value × Value)) (s : Shared) : Prop :=
  ∃ H, Inv X pins σ H s ∧ ∃ us : List (V × V), us.length = zs.length ∧ (∀ i (h : i < us.length) (h2 : i < zs.length), RelV us[i].1 zs[i].1 ∧ RelV us[i].2 zs[i].2) ∧ WT X.K C sp us H Q
end
section
variable {T : TC} {Γ : List (Option VA)} {Ω Ω1 Ω2 : List OA} {ta tb : TE} {Pre : PreT}
/-- two items that compare alike -/
def ItE (T : TC) (Ω : List OA) (sp : Sp) (A B : VA) : Prop := ∀ F H x y r k, Holds F Ω H → A.P F x → B.P F y → (∀ F' H', Same F F' → Holds F' Ω H' → WT T.K (T.C 1) sp r H' k) → WT T.K (T.C 1) sp ((x, y) :: r) H k
end
end VL

set_option Elab.async false
set_option linter.all false
set_option maxRecDepth 100000
/-! VL22: a dict that changes: made, written, read, locked where it is read as a value. -/
namespace VL
open PySem L2 PyProof.Rows
/-- a dict that is locked from now on, at its old place -/
def fzDA (p : Addr) (l : List (Str × Int)) : OA := ⟨fun F _ => ∃ od, F p = some (.frz od (.dK (dkv l))), fun e ⟨od, h⟩ => ⟨od, e _ _ h⟩⟩
/-- written in its place, or at the end -/
def dput (l : List (Str × Int)) (k : Str) (v : Int) : List (Str × Int) := if (l.any fun p => decide (p.1 = k)) = true then l.map (fun p => if p.1 = k then (p.1, v) else p) else l ++ [(k, v)]
section
variable {T : TC} {Γ : List (Option VA)} {Ω Ω1 Ω2 Ω3 : List OA} {A B C : VA} {ta tb te : TE} {D : Ends} {F0 : Hp} {ts : TS}
/-! written -/
/-- a target that writes a thing -/
def Tgo (g : TG) (A : VA) (Γ : List (Option VA)) (Ω Ω2 : List OA) : Prop := ∀ F σ v H, Env F σ Γ → Holds F Ω H → A.P F v → ∀ Q : L2.St → Hp → Prop, (∀ F' H', Same F F' → Holds F' Ω2 H' → Q σ H') → g v σ H Q
end
/-! != of two dicts, where they are known to be alike -/
def rNeF : R2 := fun x y H Q => ∃ a b oa ob ks ls, x = .ref a ∧ y = .ref b ∧ H a = some (.frz oa (.dK ks)) ∧ H b = some (.frz ob (.dK ls)) ∧ ks.length = ls.length ∧ (∀ p ∈ ks, valV ls p.1 = some p.2 ∧ flatB p.2 = true) ∧ Q (.bl false) H
end VL

set_option Elab.async false
set_option linter.all false
set_option maxRecDepth 100000
/-! VL23: range downwards, one by one; isinstance and len of pairs. -/
namespace VL
open PySem L2 PyProof.Rows
section
variable {T : TC} {Γ : List (Option VA)} {Ω Ω1 Ω2 : List OA} {A B C : VA} {ta tb te : TE}
/-- i, i - 1, .. (n of them) -/
def rngD (i : Int) (n : Nat) : List Int := (List.range n).map fun (k : Nat) => i + (k : Int) * (-1)
theorem ty_pair {α β : Type} [Rp α] [Rp β] {x : α × β} {F H : Hp} {v : V} (hh : Holds F Ω H) (a : (va T x).P F v) : TyX T.K H v (.type "tuple") := by
  obtain ⟨t, y, w, rfl, ht, _⟩ := a
  rcases Same.tup hh.same ht with (h | ⟨o, h⟩) | h
  · exact .base (.tup h)
  · exact .fTuple h
  · obtain ⟨o, _, _, e, c, _⟩ := h
    exact .kTuple e c
end
end VL

set_option Elab.async false
set_option linter.all false
set_option maxRecDepth 100000
/-! VL24: a pair of a dict and a list that both change: made, handed on, its parts; get of a dict that changes. -/
namespace VL
open PySem L2 PyProof.Rows
section
variable {T : TC} {Γ : List (Option VA)} {Ω Ω1 Ω2 Ω3 : List OA} {A B C : VA} {ta tb tc te : TE} {D : Ends} {F0 : Hp} {ts : TS}
/-- dict(d): a new one, from a locked one -/
def rDictD : List V → Hp → VK → Prop := fun xs H Q => ∃ (a : Addr) (kvs : List (Key × V)), xs = [.ref a] ∧ Rd H a (.dK kvs) ∧ ∀ p, H p = none → Q (.ref p) (upd H p (.dK kvs))
end
end VL

set_option Elab.async false
set_option linter.all false
set_option maxRecDepth 100000
set_option maxHeartbeats 2000000
/-! VL25: a lambda with one parameter that has an int for its default, handed to a def that calls it without arguments. -/
namespace VL
open PySem PySem.Spec PyProof.Rows L2 LamX
structure LamSD (N : List Str) (nm : Str) (sc scope : Scope) : Prop where
  kind : scope.kind = .function
  co : scope.isCoroutine = false
  gen : scope.isGenerator = false
  own : ∀ y ∈ scope.names, y.2 ≠ .cell ∧ (y.2 = .local → y.1 ∉ N)
  free : ∀ y ∈ scope.names, y.2 = .free → sc.names.lookup y.1 = some .cell ∨ sc.names.lookup y.1 = some .free
  par : scope.names.lookup nm = some .local
def lamSDB (N : List Str) (nm : Str) (sc scope : Scope) : Bool :=
  decide (scope.kind = .function) && !scope.isCoroutine && !scope.isGenerator && (scope.names.all fun y => !decide (y.2 = .cell) && (!decide (y.2 = .local) || !decide (y.1 ∈ N)) && (!decide (y.2 = .free) || decide (sc.names.lookup y.1 = some .cell) || decide (sc.names.lookup y.1 = some .free))) && decide (scope.names.lookup nm = some .local)
theorem LamSD.has {X : Cx} {N : List Str} {nm : Str} {scope : Scope} (L : LamSD N nm X.env.scope scope) (ok : X.Ok) : ∀ y ∈ scope.names, y.2 = .free → ∃ c, X.env.cells.lookup y.1 = some c := fun y hy e => by
  rcases L.free y hy e with k | k
  · exact ok.has _ (.inl k)
  · exact ok.has _ (.inr k)
section
variable {X : Cx} {pins : List (Addr × Obj)} {σ : L2.St} {H : Hp} {s : Shared}
end
section
variable {X : Cx} {pins : List (Addr × Obj)} {σ : L2.St} {H HZ : Hp} {s s1 : Shared}
theorem lam_start2D {A : Around} {outer : List PySem.Env} {E : XK} {scope : Scope} {nm : Str} {f c' : Addr} {h₁ : Heap} {tk : Nat} {binds : List (Str × Value)} (I : Inv X pins σ H s) (L : LamSD X.N nm X.env.scope scope) (e0 : Env0 X.prog X.w X.K X.mg X.base A outer s1 HZ) (hd : A.handled = none)
    (un : Un (frs X.stack) [] H HZ s.heap s1.heap) (hns : h₁.Ns s1.heap.objs.size fun y => binds.reverse.lookup y) (kp : ∀ b o, s1.heap.get? b = some o → h₁.get? b = some o) :
    Inv (lamCx X A outer s1 HZ E scope f c') [] σ HZ { s1 with heap := h₁, toks := tk } := by
  have hfree := L.has I.ok
  have cm : ∀ {y c}, (cloFrom X.env.cells scope.names []).lookup y = some c → X.env.cells.lookup y = some c := fun {y c} e => by
    rcases cloFrom_mem (PySem.mem_of_lookup e) with hm | ⟨h1, h2⟩
    · cases hm
    · obtain ⟨c1, hc⟩ := hfree _ h1 rfl
      have hc : X.env.cells.lookup y = some c1 := hc
      have e2 : c = c1 := by
        rw [h2, hc] <;> rfl
      rw [e2]
      exact hc
  have look : ∀ {y}, scope.names.lookup y = some .free → ∃ c, (cloFrom X.env.cells scope.names []).lookup y = some c := fun {y} hl => by
    have hy : (y, NameKind.free) ∈ scope.names := PySem.mem_of_lookup hl
    exact mem_lookup (cloFrom_has (cells := X.env.cells) (acc := []) hy)
  have cellK : ∀ {c : Addr} {v : Option Value}, H c = none → s.heap.IsCell c v → h₁.IsCell c v := fun {c v} n ⟨o, ho, hd⟩ => by
    obtain ⟨sl, q⟩ := un.any ho n (by simp)
    exact ⟨_, kp _ _ q, hd⟩
  have noA : ∀ b : Addr, b ∉ (lamCx X A outer s1 HZ E scope f c').ex := fun b z => absurd (show b ∈ ([] : List Addr) from z) (by simp)
  refine ⟨⟨e0.mod, L.kind, rfl, rfl, Nat.le_refl _, fun y z c e1 e2 => I.ok.inj y z c (cm e1) (cm e2), fun y hy => ?_, fun y c z _ => ?_, fun _ => hd, Around.frames_deeper e0.frames, .inr ⟨rfl, rfl⟩, fun b z => absurd z (noA b), e0.bs, e0.bsz, fun b _ _ => noA b,
      fun b z => absurd z (noA b), e0.funs, e0.frf⟩,
    rfl, e0.bare, Un.kept kp, ⟨_, hns, fun i y v e1 e2 e3 => ?_⟩, fun y c e => ?_, e0.hok.fresh (Nat.le_refl _), fun y c e => ?_, fun q hq => absurd (show q ∈ ([] : List (Addr × Obj)) ++ [] from hq) (by simp), e0.hok.kept kp, I.len⟩
  · have hy : scope.names.lookup y = some .cell ∨ scope.names.lookup y = some .free := hy
    rcases hy with hy | hy
    · exact absurd rfl (L.own _ (PySem.mem_of_lookup hy)).1
    · exact look hy
  · have z : false = true := z
    cases z
  · have e3 : Vis scope y := e3
    rcases e3 with k | k | k
    · have hN : y ∈ X.N := List.mem_of_getElem? e1
      exact absurd hN ((L.own _ (PySem.mem_of_lookup k)).2 rfl)
    · exact absurd rfl (L.own _ (PySem.mem_of_lookup k)).1
    · obtain ⟨m, hn, hl⟩ := I.loc
      have hvis : Vis X.env.scope y := (L.free _ (PySem.mem_of_lookup k) rfl).elim (fun k => .inr (.inl k)) (fun k => .inr (.inr k))
      obtain ⟨w', r, q⟩ := hl i y v e1 e2 hvis
      obtain ⟨c2, h2⟩ := look k
      refine ⟨w', r, .inr ⟨.inr k, c2, h2, ?_⟩⟩
      have c1 := cm h2
      rcases q with ⟨k', _⟩ | ⟨_, c3, e', z⟩
      · have k' : X.env.scope.names.lookup y = some .local := k'
        rcases L.free _ (PySem.mem_of_lookup k) rfl with k2 | k2 <;> rw [show X.env.scope.names.lookup y = _ from k2] at k' <;> cases k'
      · rw [c1] at e'
        cases e'
        exact cellK (I.freeC y _ c1) z
  · obtain ⟨w', z⟩ := I.cell y c (cm e)
    exact ⟨w', cellK (I.freeC y c (cm e)) z⟩
  · obtain ⟨v, o, ho, hd⟩ := I.cell y c (cm e)
    exact un.free c o ho (I.freeC y c (cm e)) (by simp)
end
section
variable {X : Cx}
end
section
variable {X : Cx}
end
section
variable {T : TC} {Γ : List (Option VA)} {Ω Ω1 Ω2 : List OA} {ta tb : TE} {i j : Int}
end
end VL

set_option Elab.async false
set_option linter.all false
set_option maxRecDepth 100000
/-! VL26: the first and the last of four. -/
namespace VL
open PySem L2 PyProof.Rows
section
variable {T : TC} {Γ : List (Option VA)} {Ω Ω1 Ω2 : List OA} {te ti : TE}
end
end VL

set_option Elab.async false
set_option linter.all false
set_option maxRecDepth 100000
/-! VL27: == and != of tuples among whose items stand pairs of numbers with an own __eq__; a call with a new thing ahead of arguments that change things. -/
namespace VL
open PySem L2 PyProof.Rows
/-- pair by pair, as WT, or two tuples within -/
def WT2 (K : PySem.W.Frag) (C : Addr) (sp : Sp) : List (V × V) → Hp → (Hp → Prop) → Prop
  | [], H, Q => Q H
  | z :: r, H, Q => WT K C sp [z] H (fun H' => WT2 K C sp r H' Q) ∨
    ∃ p q xs ys, z.1 = .ref p ∧ z.2 = .ref q ∧ SqT K H p xs ∧ SqT K H q ys ∧ xs.length = ys.length ∧ (p = q → WT2 K C sp r H Q) ∧ (p ≠ q → WT K C sp (xs.zip ys) H (fun H' => WT2 K C sp r H' Q))
def rOwnT2 (K : PySem.W.Frag) (C : Addr) (sp : Sp) (b : Bool) : R2 := fun x y H Q => ∃ a c xs ys, x = .ref a ∧ y = .ref c ∧ SqT K H a xs ∧ SqT K H c ys ∧ xs.length = ys.length ∧ WT2 K C sp (xs.zip ys) H (fun H' => Q (.bl b) H')
section
variable {X : Cx} {n : Nat} {C f : Addr} {fd : FuncData} {ps : List Str} {sp : Sp}
def TI2 (X : Cx) (pins : List (Addr × Obj)) (σ : L2.St) (C : Addr) (sp : Sp) (Q : Hp → Prop) (zs : List (Value × Value)) (s : Shared) : Prop :=
  ∃ H, Inv X pins σ H s ∧ ∃ us : List (V × V), us.length = zs.length ∧ (∀ i (h : i < us.length) (h2 : i < zs.length), RelV us[i].1 zs[i].1 ∧ RelV us[i].2 zs[i].2) ∧ WT2 X.K C sp us H Q
end
section
variable {T : TC} {Γ : List (Option VA)} {Ω Ω1 Ω2 : List OA} {ta tb : TE} {Pre : PreT}
def ItE2 (T : TC) (Ω : List OA) (sp : Sp) (A B : VA) : Prop := ∀ F H x y r k, Holds F Ω H → A.P F x → B.P F y → (∀ F' H', Same F F' → Holds F' Ω H' → WT2 T.K (T.C 1) sp r H' k) → WT2 T.K (T.C 1) sp ((x, y) :: r) H k
end
end VL

set_option Elab.async false
set_option linter.all false
set_option maxRecDepth 100000
/-! VL28: a pair of a new list and a value out of one of several defs; such a pair handed on at once; a new list and two values in one assignment. -/
namespace VL
open PySem L2 PyProof.Rows
section
variable {T : TC} {Γ : List (Option VA)} {Ω Ω0 Ω1 Ω2 Ω3 : List OA} {A B C : VA} {As Ks : List VA} {a : FT} {i : Nat} {S : Addr → Sp → Prop} {ta tb te : TE} {D : Ends} {F0 : Hp} {ts : TS}
/-- arguments, among them a pair of a new list at p -/
def XAN (t : TA) (Γ : List (Option VA)) (Ω : List OA) (As : Addr → List VA) (Ω2 : Addr → List OA) : Prop :=
  ∀ F σ H, Env F σ Γ → Holds F Ω H → ∀ Q : List V → Hp → Prop, (∀ F' vs H' p, Same F F' → Holds F' (Ω2 p) H' → AlA F' vs (As p) → Q vs H') → t σ H Q
end
end VL

set_option Elab.async false
set_option linter.all false
set_option maxRecDepth 100000
/-! VL29: == and != of machines, with a new one, with a tuple; a machine made by keywords; in of a dict that changes; new lists told by a machine; a method of a new machine. -/
namespace VL
open PySem L2 PyProof.Rows
section
variable {T : TC} {Γ : List (Option VA)} {Ω Ω0 Ω1 Ω2 Ω3 : List OA} {A B C : VA} {As Ks : List VA} {ta tb te : TE} {D : Ends} {F0 : Hp} {ts : TS} {p p2 : Addr} {k k2 : Nat} {x y s : MS} {r : Bool}
end
/-! ### machine == a tuple -/
def otherT (K : PySem.W.Frag) (C : Addr) : Bool := PySem.W.notFirst K C (.type "tuple") && decide (PySem.W.kitOne K (.type "tuple") (.ref C) = some false)
def rOwnXT (K : PySem.W.Frag) (C : Addr) (sp : Sp) : R2 := fun x y H Q => ∃ a dx fs b xs, x = .ref a ∧ H a = some (.ins C dx fs) ∧ y = .ref b ∧ SqT K H b xs ∧ sp [x, y] H (fun v H' => v = .bl false ∧ Q (.bl false) H') E0
section
variable {X : Cx} {n : Nat} {C f : Addr} {fd : FuncData} {ps : List Str} {sp : Sp}
structure CalEqT (P : Program) (w : World) (K : PySem.W.Frag) (mg : Str → Option Value) (base : Heap) (n : Nat) (C : Addr) (sp : Sp) : Prop where
  ex : ∃ f fd, FnOk P w K mg base CX0 n f fd ["self", "other"] sp ∧ otherT K C = true ∧ Meth K C "__eq__" f ∧ Binds K fd ["self", "other"] []
end
/-- what __eq__ of a machine tells beside a tuple -/
def PreXT (T : TC) : PreT := fun As Ω R => ∃ (k0 : Nat) (p0 : Addr) (x0 : MS) (A : VA), As = [vr p0, A] ∧ Ω[k0]? = some (machA T p0 x0) ∧ (∀ F H v, Holds F Ω H → A.P F v → ∃ b xs, v = .ref b ∧ SqT T.K H b xs) ∧ R = RV (va T false) (stt Ω [] [])
section
variable {T : TC} {Γ : List (Option VA)} {Ω Ω0 Ω1 Ω2 Ω3 : List OA} {A B C : VA} {As Ks : List VA} {ta tb te : TE} {p : Addr} {k : Nat} {x s : MS} {r : Bool}
theorem ty_sqt {H : Hp} {b : Addr} {xs : List V} (h : SqT T.K H b xs) : TyX T.K H (.ref b) (.type "tuple") := by
  rcases h with (h | ⟨o, h⟩) | h
  · exact .base (.tup h)
  · exact .fTuple h
  · obtain ⟨o, _, _, e, c, _⟩ := h
    exact .kTuple e c
def rNoN : R2 := fun x y H Q => y = .non ∧ Q (.bl (!decide (x = .non))) H
/-! ### new lists that a machine tells -/
def Pre_Mach_tallyN (T : TC) : PreT := fun As Ω R => ∃ (k : Nat) (p : Addr) (s : MS), As = [vr p] ∧ Ω[k]? = some (machA T p s) ∧ R = RN Ω (fun q => lstA T q s.tally)
def Pre_Mach_walkN (T : TC) : PreT := fun As Ω R => ∃ (k : Nat) (p : Addr) (s : MS), As = [vr p] ∧ Ω[k]? = some (machA T p s) ∧ R = RN Ω (fun q => lstA T q s.wk)
structure CalCK (P : Program) (w : World) (K : PySem.W.Frag) (mg : Str → Option Value) (base : Heap) (k : Nat) (x : Str) (C : Addr) (ps ks : List Str) (ix : List Nat) (sp : Sp) : Prop where
  ex : ∃ f fd g, FnOk P w K mg base CX0 k f fd ps sp ∧ mg x = some (.ref C) ∧ Mk K C f ∧ KBn K fd ps 1 ks g (fun vs zs => prm ix (vs ++ zs))
end
end VL

set_option Elab.async false
set_option linter.all false
set_option maxRecDepth 100000
/-! VL30: a dict with three numbers, a dict and a list that change (a law's own tally and walk): made, its parts; ways that are never taken; ranges by a step; max of a list. -/
namespace VL
open PySem L2 PyProof.Rows
def wkv (b c B : Int) (d e : Addr) : List (Key × V) := [(Sum.inr ("bits" : Str), .int b), (Sum.inr ("cutoff" : Str), .int c), (Sum.inr ("base" : Str), .int B), (Sum.inr ("counts" : Str), .ref d), (Sum.inr ("walk" : Str), .ref e)]
section
variable {b c B : Int} {d e : Addr}
end
section
variable {T : TC} {Γ : List (Option VA)} {Ω Ω0 Ω1 Ω2 Ω3 : List OA} {A B' C : VA} {ta tb te : TE} {D : Ends} {F0 : Hp} {ts : TS} {b c B : Int} {p : Addr} {k : Nat}
/-- such a dict, new -/
def RNW (T : TC) (Ω2 : List OA) (b c B : Int) : Hp → V → List OA → Prop := fun _ v Ω' => ∃ p d e, v = .ref p ∧ Ω' = Ω2 ++ [rawD p (wkv b c B d e), rawD d (dkv []), lstA T e ([] : List (T3 Str Int Int))]
/-! ### is None -/
def rIsNo : R2 := fun x y H Q => y = .non ∧ Q (.bl (decide (x = .non))) H
def tNo : TE := fun _ _ _ => False
/-! ### max of a list -/
def maxL : List Int → Int
  | [] => 0
  | [a] => a
  | a :: r => max a (maxL r)
end
end VL
namespace VL
open PySem L2 PyProof.Rows
/-! ### range(0, j, c) -/
def rngS (c : Int) (n : Nat) : List Int := (List.range n).map fun (k : Nat) => 0 + (k : Int) * c
def CRg (j c : Int) : Prop := 0 < c ∧ c < 2 ^ 30 ∧ 0 ≤ j ∧ j < 2 ^ 30
section
variable {T : TC} {Γ : List (Option VA)} {Ω Ω1 Ω2 : List OA} {B' : VA} {As : List VA}
end
end VL

set_option Elab.async false
set_option linter.all false
set_option maxRecDepth 100000
/-! VL31: reversed(range(n)). -/
namespace VL
open PySem L2 PyProof.Rows
section
variable {T : TC} {Γ : List (Option VA)} {Ω Ω1 Ω2 : List OA} {A B C : VA} {ta tb te : TE}
end
end VL

set_option Elab.async false
set_option linter.all false
set_option maxRecDepth 100000
/-! VL32: defs with defaults and keyword-only parameters. -/
namespace VL
open PySem L2
open PyProof.Rows (envOfC)
section
variable {P : Program} {w : World} {K : PySem.W.Frag} {mg : Str → Option Value} {base : Heap}
/-- a def that may be called, what is not written filled up -/
structure CalD (P : Program) (w : World) (K : PySem.W.Frag) (mg : Str → Option Value) (base : Heap) (k : Nat) (x : Str) (ps : List Str) (dvs : List V) (sp : Sp) : Prop where
  ex : ∃ f fd ds, FnOk P w K mg base CX0 k f fd ps sp ∧ mg x = some (.ref f) ∧ PySem.W.keepIn K (.ref f) = true ∧ Vals dvs ds ∧ Binds K fd ps ds
structure CalKD (P : Program) (w : World) (K : PySem.W.Frag) (mg : Str → Option Value) (base : Heap) (k : Nat) (x : Str) (ps : List Str) (n : Nat) (ks : List Str) (dvs : List V) (ix : List Nat) (sp : Sp) : Prop where
  ex : ∃ f fd g, FnOk P w K mg base CX0 k f fd ps sp ∧ mg x = some (.ref f) ∧ PySem.W.keepIn K (.ref f) = true ∧ KBn K fd ps n ks g (fun vs zs => prm ix (vs ++ (dvs ++ zs)))
end
section
variable {X : Cx} {k n : Nat} {x : Str} {ps ks : List Str} {dvs : List V} {ix : List Nat} {sp : Sp} {p pos : Pos} {e : Expr} {es : List Expr} {kws : List Keyword} {t tk : TA}
end
section
variable {T : TC} {Γ : List (Option VA)} {Ω Ω1 Ω2 Ω3 : List OA} {A : VA} {As Ks Ds : List VA} {dvs : List V}
end
end VL

set_option Elab.async false
set_option linter.all false
set_option maxRecDepth 100000
/-! VL33: a list of two new machines. -/
namespace VL
open PySem L2
def rawLA (d : Addr) (vs : List V) : OA := ⟨fun _ t => t d = some (.lst vs), fun _ h => h⟩
/-- hands back a list of two new machines -/
abbrev RMM (T : TC) (Ω2 : List OA) (s1 s2 : MS) : Hp → V → List OA → Prop := fun F v Ω' => ∃ p q1 q2, v = .ref p ∧ F p = some (.lst [.ref q1, .ref q2]) ∧ Ω' = Ω2 ++ [machA T q1 s1, machA T q2 s2]
section
variable {T : TC} {Γ : List (Option VA)} {Ω Ω0 Ω1 Ω2 : List OA} {As : List VA} {ta tb te : TE}
variable {F0 : Hp}
end
end VL

set_option Elab.async false
set_option linter.all false
set_option maxRecDepth 100000
/-! VL34: count of a text in a list of texts. -/
namespace VL
open PySem L2
/-- how often -/
def cntStr (k : Str) (l : List Str) : Nat := l.countP (· == k)
def rCntS (K : PySem.W.Frag) : V → List V → Hp → VK → Prop := fun x xs H Q => ∃ (p : Addr) (l : List Str) (k : Str), x = .ref p ∧ xs = [.str k] ∧ SqL K H p (l.map V.str) ∧ Q (.int (cntStr k l : Nat)) H
section
variable {T : TC} {Ω Ω1 Ω2 : List OA}
end
end VL

set_option Elab.async false
set_option linter.all false
set_option maxRecDepth 100000
set_option maxHeartbeats 1000000
/-! VL35: list(reversed(l)) of a list. -/
namespace VLR
open PySem PySem.Spec PyProof.Rows RT
section
variable {prog : Program} {w : World} {A : Around} {E : Value → Shared → Prop} {s : Shared}
end
end VLR
namespace VL
open PySem PySem.Spec PyProof.Rows L2 _root_.RT
section
variable {X : Cx}
def tListRev (K : PySem.W.Frag) (te : TE) : TE := fun σ H Q => te σ H fun v H1 => ∃ (a : Addr) (xs : List V), v = .ref a ∧ SqL K H1 a xs ∧ ∀ q, H1 q = none → Q (.ref q) (upd H1 q (.lst xs.reverse))
end
section
variable {T : TC} {Ω Ω1 : List OA}
end
section
variable {T : TC} {Ω Ω1 Ω2 : List OA}
theorem ty_str {F H : Hp} {v : V} {x : Str} (_ : Holds F Ω H) (a : (va T x).P F v) : TyX T.K H v (.type "str") := by
  have a : v = .str x := a
  subst a
  exact .base (.str x)
/-- a text among texts -/
def inS (k : Str) (l : List Str) : Bool := l.any fun y => y == k
end
end VL

set_option Elab.async false
set_option linter.all false
set_option maxRecDepth 100000
/-! VL36: a tuple of one thing and a pair make a triple. -/
namespace VL
open PySem L2
section
variable {T : TC} {Ω Ω1 Ω2 : List OA}
end
end VL

set_option Elab.async false
set_option linter.all false
set_option maxRecDepth 100000
/-! VL37: a dict that changed, locked within a pair that is handed back; both things of a pair one by one. -/
namespace VL
open PySem L2 PyProof.Rows
/-- some dict is locked for good -/
def tFzA (te : TE) : TE := fun σ H Q => te σ H fun v H1 => ∃ p kvs, H1 p = some (.dK kvs) ∧ ∀ od, Q v (upd H1 p (.frz od (.dK kvs)))
section
variable {T : TC} {Γ : List (Option VA)} {Ω Ω1 Ω2 Ω3 : List OA} {A B C : VA} {ta tb te : TE} {D : Ends} {F0 : Hp} {ts : TS}
end
end VL

set_option Elab.async false
set_option linter.all false
set_option maxRecDepth 100000
set_option maxHeartbeats 2000000
/-! VL38: a lambda with one parameter, handed to a def that calls it with a machine. -/
namespace VL
open PySem PySem.Spec PyProof.Rows L2 LamX
/-- the context of the body of such a lambda: the caller's names and its own -/
def lamCx1 (X : Cx) (nm : Str) (A : Around) (outer : List PySem.Env) (s : Shared) (H : Hp) (E : XK) (scope : Scope) (f c' : Addr) : Cx := { lamCx X A outer s H E scope f c' with N := X.N ++ [nm] }
section
variable {X : Cx} {pins : List (Addr × Obj)} {σ : L2.St} {H HZ : Hp} {s s1 : Shared}
/-- what a call of the name with one value makes -/
def tAct1 (i : Nat) (f c' : Addr) (q : Str) (act : V → Hp → VK → Prop) (te : TE) : TE := fun σ H Q => σ[i]? = some (some (.ref f)) ∧ te σ H fun v H1 => H1 c' = some (CodeO c' q) ∧ act v H1 Q
end
/-! ### a def that is handed such a lambda -/
def ActH1 (P : Program) (w : World) (K : PySem.W.Frag) (mg : Str → Option Value) (base : Heap) (k : Nat) (A : Around) (outer : List PySem.Env) (s : Shared) (H : Hp) (f c' : Addr) (q : Str) (act : V → Hp → VK → Prop) : Prop :=
  ∀ (Ng : List Str) (qg : Str) (sg : Scope) (g : Addr) (cdg : Value) (i : Nat) (a : Str) (p1 p2 : Pos) (e : Expr) (te : TE), Room (k + 1) (A.deeper (envOfC qg sg s.heap.objs.size g cdg)) → Ng[i]? = some a → Vis sg a → (a == ("__debug__" : Str)) = false → (a == ("__classdict__" : Str)) = false →
    PE (cxOf CX0 P w K mg base Ng qg sg g cdg A outer s H E0).nox e te → starEach [e] (envOfC qg sg s.heap.objs.size g cdg) = (false, eval e (envOfC qg sg s.heap.objs.size g cdg)) :: starEach [] (envOfC qg sg s.heap.objs.size g cdg) →
    PE (cxOf CX0 P w K mg base Ng qg sg g cdg A outer s H E0).nox (.Call (.Name a p1) [e] [] p2) (tAct1 i f c' q act te)
abbrev PreLT1 := Addr → Addr → Str → (V → Hp → VK → Prop) → PreT
structure CalL1 (P : Program) (w : World) (K : PySem.W.Frag) (mg : Str → Option Value) (base : Heap) (kl k : Nat) (x : Str) (ps : List Str) (Pre : PreLT1) : Prop where
  ex : ∃ g fd, mg x = some (.ref g) ∧ PySem.W.keepIn K (.ref g) = true ∧ Binds K fd ps [] ∧ (∀ f c' q act As Ω R, Pre f c' q act As Ω R → As.length = ps.length) ∧
    ∀ (A : Around) (outer : List PySem.Env) (s : Shared) (H : Hp) (us : List Value) (vs : List V) (Q : VK) (f c' : Addr) (q : Str) (act : V → Hp → VK → Prop), Room k A → Env0 P w K mg base A outer s H → BindsTo s fd ⟨us, []⟩ (ps.zip us) → Vals vs us →
      ActH1 P w K mg base kl A outer s H f c' q act → mkSp (Pre f c' q act) vs H Q E0 → codeAny (model P w) A (.call (.ref g) ⟨us, []⟩) (CR CX0 outer P w H s Q E0) s
section
variable {P : Program} {w : World} {K : PySem.W.Frag} {mg : Str → Option Value} {base : Heap}
end
def tLam1 (P : Addr) (q : Str) (Pre : PreLT1) (ta tb : TE) : TE := fun σ H Q => ta σ H fun v H0 => (∃ ps : Array Value, H0 P = some (.tbl ps) ∧ TriplesOk ps.toList ∧ ∀ (pos : Pos) (cv : Value), codeAmong pos ps.toList = some cv → ∃ c, cv = .ref c ∧ H0 c = some (CodeO c q)) ∧
  ∀ f c' H1, Grown H0 P q H1 c' → mkSp (Pre f c' q fun u H' Q' => tb (σ ++ [some u]) H' Q') [v, .ref f] H1 Q E0
section
variable {X : Cx}
end
/-- the name's value: the lambda f, which takes the machine at k0, handed over, from m to r.2 and tells r.1 -/
def askA1 (T : TC) {α : Type} [Rp α] (f c' : Addr) (q : Str) (act : V → Hp → VK → Prop) (Ω : List OA) (k0 : Nat) (p0 : Addr) (M : MS → Option (α × MS)) : VA :=
  ⟨fun F v => v = .ref f ∧ F c' = some (CodeO c' q) ∧ ∀ m r, M m = some r → ∀ F1 H1, Same F F1 → Holds F1 (stt Ω [(k0, machA T p0 m)] []) H1 → ∀ Q : VK, (∀ F2 v H2, Same F1 F2 → Holds F2 (stt Ω [(k0, machA T p0 r.2)] []) H2 → (va T r.1).P F2 v → Q v H2) → act (.ref p0) H1 Q,
   fun e ⟨h1, h2, h3⟩ => ⟨h1, e _ _ h2, fun m r hm F1 H1 e1 => h3 m r hm F1 H1 (e.trans e1)⟩⟩
section
variable {T : TC} {Γ : List (Option VA)} {Ω Ω1 Ω2 : List OA} {α : Type} [Rp α]
end
/-! ### a dict with a machine, a list and a dict -/
def wev (m e d : Addr) : List (Key × V) := [(Sum.inr ("engine" : Str), .ref m), (Sum.inr ("walk" : Str), .ref e), (Sum.inr ("counts" : Str), .ref d)]
section
variable {m e d : Addr}
end
section
variable {T : TC} {Γ : List (Option VA)} {Ω Ω0 Ω1 Ω2 Ω3 : List OA} {A B' C : VA} {ta tb te : TE} {D : Ends} {F0 : Hp} {ts : TS} {p m : Addr} {k : Nat}
/-- such a dict, new, about the machine at m -/
def RNE (T : TC) (Ω2 : List OA) (m : Addr) : Hp → V → List OA → Prop := fun _ v Ω' => ∃ p e d, v = .ref p ∧ Ω' = Ω2 ++ [rawD p (wev m e d), lstA T e ([] : List (T3 Str Int Int)), rawD d (dkv [])]
end
end VL

set_option Elab.async false
set_option linter.all false
set_option maxRecDepth 100000
/-! VL39: a list of two machines by its name: kept, taken apart, handed over; a dict with a machine out of a def. -/
namespace VL
open PySem L2 PyProof.Rows
/-- a list of the things at q1 and q2, for good -/
def mmA (q1 q2 : Addr) : VA := ⟨fun F v => ∃ p, v = .ref p ∧ F p = some (.lst [.ref q1, .ref q2]), fun e ⟨p, a, b⟩ => ⟨p, a, e _ _ b⟩⟩
section
variable {T : TC} {Γ : List (Option VA)} {Ω Ω0 Ω1 Ω2 Ω3 : List OA} {A B C : VA} {As : List VA} {ta tb te : TE} {D : Ends} {F0 : Hp} {ts : TS} {p m q1 q2 : Addr}
end
end VL

set_option Elab.async false
set_option linter.all false
set_option maxRecDepth 100000
/-! VL40: x *= e; two names for one value; range(a, j, c). -/
namespace VL
open PySem L2 PyProof.Rows
section
variable {T : TC} {Γ : List (Option VA)} {Ω Ω0 Ω1 Ω2 : List OA} {A B' : VA} {As : List VA} {te : TE} {D : Ends} {F0 : Hp} {ts : TS}
def rngA (a c : Int) (n : Nat) : List Int := (List.range n).map fun (k : Nat) => a + (k : Int) * c
def CRgA (a j c : Int) : Prop := 0 < c ∧ c < 2 ^ 30 ∧ 0 ≤ a ∧ a ≤ j ∧ j < 2 ^ 30
end
end VL

set_option Elab.async false
set_option linter.all false
set_option maxRecDepth 100000
/-! VL41: list(range(a, j, c)); the first part of a triple. -/
namespace VL
open PySem PySem.Spec L2 PyProof.Rows
def rgVC (a c : Int) (n : Nat) : List V := (rngA a c n).map V.int
def tLstRgC (ta : TA) : TE := fun σ H Q => ta σ H fun vs H1 => ∃ (i j c : Int) (n : Nat), vs = [.int i, .int j, .int c] ∧ RgC i j c n ∧ n ≤ 2 ^ 24 ∧ ∀ q, H1 q = none → Q (.ref q) (upd H1 q (.lst (rgVC i c n)))
section
variable {X : Cx}
end
section
variable {T : TC} {Γ : List (Option VA)} {Ω Ω1 : List OA} {te : TE}
end
end VL

set_option Elab.async false
set_option linter.all false
set_option maxRecDepth 100000
/-! VL42: three things that change; a list of two new machines handed to a def; w, x, y, z = values and a new list. -/
namespace VL
open PySem L2 PyProof.Rows
section
variable {T : TC} {Γ : List (Option VA)} {Ω Ω0 Ω1 : List OA} {A B C : VA} {As : List VA} {ta tb tc td : TE} {D : Ends} {F0 : Hp} {ts : TS}
end
end VL

set_option Elab.async false
set_option linter.all false
set_option maxRecDepth 100000
/-! VL43: a pair turned about, p[::-1]; d.get(k) of a key that is there. -/
namespace VL
open PySem PySem.Spec PySem.Calls L2 PyProof.Rows
section
variable {prog : Program} {w : World} {A : Around} {E : Value → Shared → Prop} {s : Shared}
end
def tRevP (K : PySem.W.Frag) (te : TE) : TE := fun σ H Q => te σ H fun x H1 => ∃ a u v, x = .ref a ∧ SqT K H1 a [u, v] ∧ ∀ p, H1 p = none → Q (.ref p) (upd H1 p (.tup [v, u]))
section
variable {X : Cx}
end
section
variable {T : TC} {Γ : List (Option VA)} {Ω Ω1 Ω2 : List OA} {te ta tb : TE}
end
section
variable {T : TC} {Γ : List (Option VA)} {Ω Ω1 Ω2 : List OA} {ta tb : TE}
/-- a number among numbers -/
def inI (k : Int) (l : List Int) : Bool := l.any fun y => y == k
end
end VL

set_option Elab.async false
set_option linter.all false
set_option maxRecDepth 100000
/-! VL44: sum(d.values()). -/
namespace VL
open PySem PySem.Spec PySem.Calls PySem.W L2 PyProof PyProof.Rows
def tSumVals (td : TE) : TE := fun σ H Q => td σ H fun x H1 => ∃ (a : Addr) (kvs : List (Key × V)) (is : List Int), x = V.ref a ∧ Rd H1 a (.dK kvs) ∧ kvs.map (·.2) = is.map V.int ∧ Q (.int (preSum (fun i => is.getD i 0) is.length)) H1
section
variable {X : Cx} {o : Expr} {p pos apos mpos : Pos} {td : TE}
end
section
variable {T : TC} {Γ : List (Option VA)} {Ω Ω1 : List OA} {te : TE}
end
end VL

set_option Elab.async false
set_option linter.all false
set_option maxRecDepth 100000
/-! VL45: defs that raise an own exception without arguments; try .. except X around one statement. -/
namespace VL
open PySem L2
open PyProof.Rows (envOfC)
/-- a promise to raise: of the arguments As in the state Ω -/
abbrev PreXX := List VA → List OA → (Hp → Value → Option Addr → List OA → Prop) → Prop
def mkSpX (Pre : PreXX) : Sp := fun vs H _ E => ∃ F Ω As R, Pre As Ω R ∧ AlA F vs As ∧ Holds F Ω H ∧ ∀ F' c d H' Ω', Same F F' → Holds F' Ω' H' → R F' c d Ω' → E c d H'
/-- an exception of the class at C, the state Ω2 -/
abbrev RX (C : Addr) (Ω2 : List OA) : Hp → Value → Option Addr → List OA → Prop := fun _ c _ Ω' => c = .ref C ∧ Ω' = Ω2
/-- it returns, or it raises -/
def sp2 (Pre : PreT) (PreX : PreXX) : Sp := fun vs H Q E => mkSp Pre vs H Q E ∨ mkSpX PreX vs H Q E
def RTX (F0 : Hp) (R : Hp → Value → Option Addr → List OA → Prop) : XK → Prop := fun E => ∀ F c d H Ω, Same F0 F → Holds F Ω H → R F c d Ω → E c d H
def BodX (X : Cx) (body : List Stmt) (Γ : List (Option VA)) (Ω : List OA) (F0 : Hp) : Prop := ∃ t, PSs X body t ∧ ∀ D : Ends, XS t D F0 Γ Ω
abbrev WXE (E : XK) : WX := fun c d _ H => E c d H
section
variable {P : Program} {w : World} {K : PySem.W.Frag} {mg : Str → Option Value} {base : Heap}
theorem fn_okX {x qual : Str} {st : Stmt} {f : Addr} {fd : FuncData} {N ps : List Str} {k : Nat} {Pre : PreXX} (F : Fun K x qual st f fd) (S : FnScope N ps (defScope st)) (hl : ∀ As Ω R, Pre As Ω R → As.length = ps.length)
    (hb : ∀ (cdv : Value) (A : Around) (outer : List PySem.Env) (s : Shared) (H : Hp) (E : XK), Room k (A.deeper (envOfC qual (defScope st) s.heap.objs.size f cdv)) → ∀ As Ω R F0, Pre As Ω R → RTX F0 R E →
      Takes (cxOf (L2.CX P w) P w K mg base N qual (defScope st) f cdv A outer s H E) (WXE E) →
      BodX (cxOf (L2.CX P w) P w K mg base N qual (defScope st) f cdv A outer s H E) (defBody st) (As.map some ++ List.replicate (N.length - As.length) none) Ω F0) : FnOk P w K mg base (L2.CX P w) (k + 1) f fd ps (mkSpX Pre) := by
  refine F.okX S (fun vs H Q E h => ?_) (fun cdv A outer s H vs Q E hr h => ?_)
  · obtain ⟨F, Ω, As, R, hp, ha, _⟩ := h
    rw [ha.len]; exact hl _ _ _ hp
  · obtain ⟨F0, Ω, As, R, hp, ha, hh, hq⟩ := h
    obtain ⟨t, h1, h2⟩ := hb cdv A outer s H E hr As Ω R F0 hp (fun F c d H Ω e hh r => hq F c d H Ω e hh r) (takes_of rfl rfl rfl rfl)
    exact ⟨t, h1, h2 _ _ _ ⟨F0, Same.refl F0, start_env ha, hh⟩⟩
/-- what never raises may stand where something may be let out -/
theorem FnOk.up {k : Nat} {f : Addr} {fd : FuncData} {ps : List Str} {sp : Sp} (F : FnOk P w K mg base CX0 k f fd ps sp) : FnOk P w K mg base (L2.CX P w) k f fd ps sp :=
  ⟨F.len, fun A outer s H args us vs Q E hr he hb hv hs => codeAny_mono (F.run A outer s H args us vs Q E hr he hb hv hs) fun r s' q => by
    cases r with
    | error e => exact False.elim q
    | ok fl => cases fl <;> exact q⟩
theorem FnOk.or {k : Nat} {f : Addr} {fd : FuncData} {ps : List Str} {Pre : PreT} {PreX : PreXX} (F : FnOk P w K mg base CX0 k f fd ps (mkSp Pre)) (G : FnOk P w K mg base (L2.CX P w) k f fd ps (mkSpX PreX)) : FnOk P w K mg base (L2.CX P w) k f fd ps (sp2 Pre PreX) :=
  ⟨fun vs H Q E h => h.elim (F.len vs H Q E) (G.len vs H Q E), fun A outer s H args us vs Q E hr he hb hv hs => hs.elim (fun h => (FnOk.up F).run A outer s H args us vs Q E hr he hb hv h) (fun h => G.run A outer s H args us vs Q E hr he hb hv h)⟩
/-- a def that may be called, and may raise -/
structure CalX (P : Program) (w : World) (K : PySem.W.Frag) (mg : Str → Option Value) (base : Heap) (k : Nat) (x : Str) (ps : List Str) (sp : Sp) : Prop where
  ex : ∃ f fd, FnOk P w K mg base (L2.CX P w) k f fd ps sp ∧ mg x = some (.ref f) ∧ PySem.W.keepIn K (.ref f) = true ∧ Binds K fd ps []
end
/-! ### an own exception -/
structure ExcC (K : PySem.W.Frag) (mg : Str → Option Value) (x : Str) (C : Addr) : Prop where
  q : PySem.W.excIn K C aeBase "ArithmeticError.__new__" = true
  k : PySem.W.keepIn K (.ref C) = true
  s : PySem.W.subIn K (.ref C) (.type "BaseException") = some true
  t : PySem.W.typeIn K (.ref C) = some (.type "type")
  g : mg x = some (.ref C)
theorem excB_ok {K : PySem.W.Frag} {mg : Str → Option Value} {x : Str} {C : Addr} (h : excB K C = true) (g : mg x = some (.ref C)) : ExcC K mg x C ∧ PySem.W.exmOne K (.ref C) (.ref C) = some true := by
  obtain ⟨h1, h⟩ := Bool.and_eq_true_iff.mp h
  obtain ⟨h2, h⟩ := Bool.and_eq_true_iff.mp h
  obtain ⟨h3, h⟩ := Bool.and_eq_true_iff.mp h
  obtain ⟨h4, h5⟩ := Bool.and_eq_true_iff.mp h
  exact ⟨⟨h1, h2, of_decide_eq_true h3, of_decide_eq_true h4, g⟩, of_decide_eq_true h5⟩
section
variable {X : Cx} {C : Addr} {x : Str} {p pos : Pos} {W : WX}
/-- X() -/
theorem pmk_exc0 (E : ExcC X.K X.mg x C) (hg : Gl X x) (hdb : (x == ("__debug__" : Str)) = false := by decide) : PMk X (.Call (.Name x p) [] [] pos) (fun _ H Q => Q (.ref C) none H) := by
  intro pins s σ H Q I h
  refine PySem.wpAny_Call_Name_kw (ld_glob I hg E.g ?_ hdb)
  refine PySem.W.callWith_K0 I.kIn E.k ?_
  obtain ⟨bm, N, nm, qn, bs, hdct, sn, sub, ab, col, dd, k0, k1, k2, k3, k5, mN, hC, hN, hni, T⟩ := exc_obj I.kIn E.q
  refine PySem.wpAny_call_exc_subT PySem.F.excBase_ArithmeticError T hC hN hni (fun h' e hm => ?_) (Nat.zero_le _)
  exact mk_of I hm (raises_own E.s E.t) h (I.hok.gone hm.new)
/-- raise X() -/
def tRz (c : Value) (W : WX) : TS := fun _ σ H => W c none σ H
theorem ps_raise0 {pos2 : Pos} (hc : X.calm = true) (tk : Takes X W) (E : ExcC X.K X.mg x C) (hg : Gl X x) (hdb : (x == ("__debug__" : Str)) = false := by decide) : PS X (.Raise (some (.Call (.Name x p) [] [] pos)) none pos2) (tRz (.ref C) W) :=
  ps_raise hc tk (pmk_exc0 E hg hdb)
/-- f(..), f may raise -/
theorem pe_calX {k : Nat} {f : Str} {ps : List Str} {sp : Sp} {e : Expr} {es : List Expr} {t : TA} (c : CalX X.prog X.w X.K X.mg X.base k f ps sp) (hr : Room k X.A) (hg : Gl X f) (tk : Takes X W) (ha : PA X (e :: es) t)
    (hdb : (f == ("__debug__" : Str)) = false := by decide) (he : starEach (e :: es) X.env = (false, eval e X.env) :: starEach es X.env := by rfl) (hpl : (backTo pos (starEach es X.env)).any (·.1) = false := by rfl) :
    PE X (.Call (.Name f p) (e :: es) [] pos) (tCallS sp (WE W) t) := by
  obtain ⟨g, fd, F, hm, hk, hb⟩ := c.ex
  exact pe_callS F hr hg hm hk hb (passAt tk) ha hdb he hpl
end
section
variable {T : TC} {Γ Γ' : List (Option VA)} {Ω Ω' Ω1 Ω2 : List OA} {A : VA} {As : List VA} {te : TE} {t : TA} {D : Ends} {F0 : Hp} {W : WX} {C : Addr} {Pre : PreT} {PreX : PreXX} {E : XK} {R : Hp → Value → Option Addr → List OA → Prop}
/-- the wish W takes an exception of the class at C at such slots in such a state -/
def WTk (W : WX) (C : Addr) (F0 : Hp) (Γ : List (Option VA)) (Ω : List OA) : Prop := ∀ d σ H, NX F0 Γ Ω σ H → W (.ref C) d σ H
/-- an expression that raises -/
def XR (te : TE) (F0 : Hp) (Γ : List (Option VA)) (Ω : List OA) : Prop := ∀ σ H, NX F0 Γ Ω σ H → ∀ Q : VK, te σ H Q
theorem xg_callS {R : Hp → V → List OA → Prop} {E : St → XK} (ha : XA t Γ Ω As Ω1) (hp : Pre As Ω1 R) : XG (tCallS (sp2 Pre PreX) E t) Γ Ω R := fun F σ H e hh Q q =>
  ha F σ H e hh _ fun F1 xs H1 e1 hh1 a1 => .inl ⟨F1, Ω1, As, R, hp, a1, hh1, fun F' v H' Ω' e' hh' r => q F' v H' Ω' (e1.trans e') hh' r⟩
theorem xe_callS {E : St → XK} {Ω' : List OA} (ha : XA t Γ Ω As Ω1) (hp : Pre As Ω1 (RV A Ω')) (he : Ω' = Ω2) : XE (tCallS (sp2 Pre PreX) E t) Γ Ω A Ω2 := he ▸ xg_callS ha hp
theorem xs_dropX (h : XR te F0 Γ Ω) : XS (tDrop te) D F0 Γ Ω := fun σ H n => h σ H n _
/-! try: .. except x: .. -/
def tTry (K : PySem.W.Frag) (c : Value) (ts : Addr → Value → Option Addr → TS) (tb : WX → TS) (Wout : WX) : TS := fun D σ H => tb (wOnly K c ts Wout D) D σ H
end
section
variable {X : Cx} {x : Str} {C : Addr} {np pos pos' : Pos} {body suite : List Stmt} {b₀ : Stmt} {tb : WX → TS} {ts : Addr → Value → Option Addr → TS}
theorem takesF : Takes X (fun _ _ _ _ => False) := fun _ _ ⟨_, _, _, _, _, _, _, _, _, _, _, _, _, _, _, _, w⟩ => w.elim
end
/-- a call's way: it raises (the class told by a number), or it returns -/
def onX {β : Type} (o : Option Nat) (s : Nat → Option β) (n : Option β) : Option β := match o with | some k => s k | none => n
end VL
namespace VL
open PySem L2
section
variable {T : TC} {Γ Γ' : List (Option VA)} {Ω Ω' Ω1 Ω2 : List OA} {A : VA} {D : Ends} {F0 : Hp} {C : Addr} {E : XK} {K : PySem.W.Frag} {c : Value} {us : Addr → Value → Option Addr → TS} {te : WX → TE} {Wo : WX} {ts : TS} {R : Hp → V → List OA → Prop}
theorem xs_nxI (h : XS ts D F0 Γ Ω) : ∀ σ H, NX F0 Γ Ω σ H → Ends.nx { D with nx := ts D } σ H := h
end
/-! a value or None, a value or a text -/
inductive EN (α : Type) where
  | ok (a : α)
  | no
inductive ES (α : Type) where
  | ok (a : α)
  | s (t : Str)
instance {α : Type} [Rp α] : Rp (EN α) := ⟨fun T F v x => match x with | .ok a => Rp.rep T F v a | .no => v = .non, fun {T F F' v a} e h => by
  cases a with
  | ok a => exact Rp.mono e h
  | no => exact h⟩
instance {α : Type} [Rp α] : Rp (ES α) := ⟨fun T F v x => match x with | .ok a => Rp.rep T F v a | .s t => v = .str t, fun {T F F' v a} e h => by
  cases a with
  | ok a => exact Rp.mono e h
  | s t => exact h⟩
def EN.get {α : Type} : EN α → Option α
  | .ok a => some a
  | .no => none
def EN.isN {α : Type} : EN α → Bool
  | .ok _ => false
  | .no => true
def ES.get {α : Type} : ES α → Option α
  | .ok a => some a
  | .s _ => none
/-- data that is neither None nor a text -/
class Tupl (α : Type) [Rp α] [Dat α] where
  n1 : ∀ a : α, PyData.eqv (Dat.dat a) .none = false
  n2 : ∀ a : α, PyData.eqv .none (Dat.dat a) = false
  s1 : ∀ (a : α) (t : Str), PyData.eqv (Dat.dat a) (.str t) = false
  s2 : ∀ (a : α) (t : Str), PyData.eqv (.str t) (Dat.dat a) = false
  nn : ∀ {T : TC} {F : Hp} {v : V} {a : α}, Rp.rep T F v a → v ≠ .non
end VL
namespace VL
open PySem L2
instance {α β : Type} [Rp α] [Rp β] [Dat α] [Dat β] : Tupl (α × β) := ⟨fun _ => rfl, fun _ => rfl, fun _ _ => rfl, fun _ _ => rfl, fun ⟨p, _, _, h, _⟩ e => by rw [h] at e; cases e⟩
instance {α β γ : Type} [Rp α] [Rp β] [Rp γ] [Dat α] [Dat β] [Dat γ] : Tupl (T3 α β γ) := ⟨fun _ => rfl, fun _ => rfl, fun _ _ => rfl, fun _ _ => rfl, fun ⟨p, _, _, _, h, _⟩ e => by rw [h] at e; cases e⟩
instance {α : Type} [Rp α] [Dat α] [Tupl α] : Dat (EN α) := ⟨fun x => match x with | .ok a => Dat.dat a | .no => .none, fun x => match x with | .ok a => Dat.ok a | .no => True, Dat.dep α, fun {T F H v a} e h => by
    cases a with
    | ok a => exact Dat.dp e h
    | no => rw [show v = V.non from h]; exact .non, fun {a} h => by
    cases a with
    | ok a => exact Dat.lay h
    | no => rfl, fun {a} => by
    cases a with
    | ok a => exact Dat.depth
    | no => exact Nat.zero_le _, fun {a b} => by
    cases a <;> cases b
    · exact Dat.eqv.trans ⟨fun h => by rw [h], fun h => EN.ok.inj h⟩
    · exact ⟨fun h => (Bool.false_ne_true ((Tupl.n1 _).symm.trans h)).elim, fun h => by cases h⟩
    · exact ⟨fun h => (Bool.false_ne_true ((Tupl.n2 _).symm.trans h)).elim, fun h => by cases h⟩
    · exact ⟨fun _ => rfl, fun _ => rfl⟩⟩
instance {α : Type} [Rp α] [Dat α] [Tupl α] : Dat (ES α) := ⟨fun x => match x with | .ok a => Dat.dat a | .s t => .str t, fun x => match x with | .ok a => Dat.ok a | .s t => Dat.ok t, Dat.dep α, fun {T F H v a} e h => by
    cases a with
    | ok a => exact Dat.dp e h
    | s t => rw [show v = V.str t from h]; exact .str _, fun {a} h => by
    cases a with
    | ok a => exact Dat.lay h
    | s t => exact h, fun {a} => by
    cases a with
    | ok a => exact Dat.depth
    | s t => exact Nat.zero_le _, fun {a b} => by
    cases a <;> cases b
    · exact Dat.eqv.trans ⟨fun h => by rw [h], fun h => ES.ok.inj h⟩
    · exact ⟨fun h => (Bool.false_ne_true ((Tupl.s1 _ _).symm.trans h)).elim, fun h => by cases h⟩
    · exact ⟨fun h => (Bool.false_ne_true ((Tupl.s2 _ _).symm.trans h)).elim, fun h => by cases h⟩
    · exact (Dat.eqv (α := Str)).trans ⟨fun h => by rw [h], fun h => ES.s.inj h⟩⟩
section
variable {T : TC} {Γ : List (Option VA)} {Ω Ω1 Ω2 : List OA} {A B : VA} {ta tb te : TE} {α : Type} [Rp α]
theorem xe_enO {a : α} (h : XE te Γ Ω (va T a) Ω1) : XE te Γ Ω (va T (EN.ok a)) Ω1 := h
theorem xe_enN (h : XE te Γ Ω (va T ()) Ω1) : XE te Γ Ω (va T (EN.no : EN α)) Ω1 := h
theorem xe_neH {α β : Type} [Rp α] [Dat α] [Rp β] [Dat β] {x : α} {y : β} (h : Dat.ok x ∧ Dat.ok y) (hd : Dat.dep α ≤ 64) (hd2 : Dat.dep β ≤ 64) (ha : XE ta Γ Ω A Ω1) (hb : XE tb Γ Ω1 B Ω2) (i1 : IsD T Ω2 A (Dat.dat x)) (i2 : IsD T Ω2 B (Dat.dat y)) :
    XE (tOp (rNeX T.K) ta tb) Γ Ω (va T (!PyData.eqv (Dat.dat x) (Dat.dat y))) Ω2 := xe_op ha hb (ro_neD i1 i2 (shp h.1 hd) (shp h.2 hd2))
end
end VL
namespace VL
open PySem L2
section
variable {T : TC} {Γ : List (Option VA)} {Ω Ω0 Ω1 Ω2 : List OA} {A : VA} {As Ks : List VA} {ta te : TE}
/-- arguments, the last of which is a new thing -/
def XANw (t : TA) (Γ : List (Option VA)) (Ω : List OA) (As : List VA) (Ω2 : List OA) (o : Addr → OA) : Prop :=
  ∀ F σ H, Env F σ Γ → Holds F Ω H → ∀ Q : List V → Hp → Prop, (∀ F' vs H' q, Same F F' → Holds F' (Ω2 ++ [o q]) H' → AlA F' vs (As ++ [vr q]) → Q vs H') → t σ H Q
end
end VL

namespace VL
open PySem PySem.Spec PyProof.Rows L2
section
variable {T : TC} {Γ : List (Option VA)} {Ω Ω1 Ω2 : List OA} {ta tb : TE} {i j : Int}
end
end VL

set_option Elab.async false
set_option linter.all false
set_option maxRecDepth 100000
/-! VL46: a triple of a value, a new thing and a value. -/
namespace VL
open PySem L2
section
variable {T : TC} {Γ : List (Option VA)} {Ω Ω1 Ω2 : List OA} {A B : VA} {te t0 td tl : TE}
def RNT (T : TC) (Ω2 : List OA) (o : Addr → OA) (A B : VA) : Hp → V → List OA → Prop := fun F v Ω' => ∃ p t x w, v = .ref t ∧ SqT T.K F t [x, .ref p, w] ∧ A.P F x ∧ B.P F w ∧ Ω' = Ω2 ++ [o p]
def RNTQ (T : TC) (Ω2 : List OA) (p : Addr) (A B : VA) : Hp → V → List OA → Prop := fun F v Ω' => ∃ t x w, v = .ref t ∧ SqT T.K F t [x, .ref p, w] ∧ A.P F x ∧ B.P F w ∧ Ω' = Ω2
end
end VL

set_option Elab.async false
set_option linter.all false
set_option maxRecDepth 100000
/-! VL47: a dict by numbers; a list made longer by += ; a constant that is a tuple of pairs. -/
namespace VL
open PySem L2 PyProof.Rows
section
variable {T : TC} {α : Type} [Rp α] {F F' : Hp} {r : List (Key × V)} {l : List (Int × α)}
/-- keys that are numbers, values told -/
inductive AlK (T : TC) (F : Hp) : List (Key × V) → List (Int × α) → Prop
  | nil : AlK T F [] []
  | cons {v : V} {i : Int} {a : α} {r : List (Key × V)} {l : List (Int × α)} (h : Rp.rep T F v a) (t : AlK T F r l) : AlK T F ((Sum.inl i, v) :: r) ((i, a) :: l)
theorem AlK.mono (e : Same F F') : ∀ {r : List (Key × V)} {l : List (Int × α)}, AlK T F r l → AlK T F' r l
  | _, _, .nil => .nil
  | _, _, .cons h t => .cons (Rp.mono e h) (AlK.mono e t)
theorem AlK.len : ∀ {r : List (Key × V)} {l : List (Int × α)}, AlK T F r l → r.length = l.length
  | _, _, .nil => rfl
  | _, _, .cons _ t => by rw [List.length_cons, List.length_cons, AlK.len t]
theorem AlK.get {i : Int} {a : α} : ∀ {r : List (Key × V)} {l : List (Int × α)}, AlK T F r l → l.lookup i = some a → ∃ v, valV r (Sum.inl i : Key) = some v ∧ Rp.rep T F v a
  | _, _, .nil, e => by cases e
  | _, _, .cons (i := j) (a := b) h t, e => by
    rw [List.lookup_cons] at e
    by_cases c : i = j
    · subst c
      rw [beq_self_eq_true] at e
      cases e
      exact ⟨_, valV_pos rfl, h⟩
    · rw [show (i == j) = false from by simpa using c] at e
      obtain ⟨v, h1, h2⟩ := AlK.get t e
      exact ⟨v, (valV_neg (fun z => c (Sum.inl.inj z).symm)).trans h1, h2⟩
/-- written in its place, or at the end -/
def iput (l : List (Int × α)) (k : Int) (v : α) : List (Int × α) := if (l.any fun p => decide (p.1 = k)) = true then l.map (fun p => if p.1 = k then (p.1, v) else p) else l ++ [(k, v)]
theorem AlK.any {i : Int} : ∀ {r : List (Key × V)} {l : List (Int × α)}, AlK T F r l → (r.any fun kv => decide (kv.1 = (Sum.inl i : Key))) = (l.any fun p => decide (p.1 = i))
  | _, _, .nil => rfl
  | _, _, .cons (i := j) h t => by
    rw [List.any_cons, List.any_cons, AlK.any t]
    congr 1
    exact decide_eq_decide.mpr ⟨fun z => Sum.inl.inj z, fun z => congrArg Sum.inl z⟩
theorem AlK.sub {i : Int} {v : V} {a : α} (hv : Rp.rep T F v a) : ∀ {r : List (Key × V)} {l : List (Int × α)}, AlK T F r l → AlK T F (r.map fun kv => if kv.1 = (Sum.inl i : Key) then (kv.1, v) else kv) (l.map fun p => if p.1 = i then (p.1, a) else p)
  | _, _, .nil => .nil
  | _, _, .cons (v := w) (i := j) (a := b) h t => by
    rw [List.map_cons, List.map_cons]
    by_cases c : j = i
    · subst c
      rw [if_pos rfl, if_pos rfl]
      exact .cons hv (AlK.sub hv t)
    · rw [if_neg (fun z => c (Sum.inl.inj z)), if_neg c]
      exact .cons h (AlK.sub hv t)
theorem AlK.snoc {i : Int} {v : V} {a : α} (hv : Rp.rep T F v a) : ∀ {r : List (Key × V)} {l : List (Int × α)}, AlK T F r l → AlK T F (r ++ [(Sum.inl i, v)]) (l ++ [(i, a)])
  | _, _, .nil => .cons hv .nil
  | _, _, .cons h t => .cons h (AlK.snoc hv t)
theorem AlK.put {i : Int} {v : V} {a : α} (h : AlK T F r l) (hv : Rp.rep T F v a) : AlK T F (putK r (Sum.inl i : Key) v) (iput l i a) := by
  unfold putK iput
  rw [h.any (i := i)]
  split
  · exact h.sub hv
  · exact h.snoc hv
/-- a dict by numbers that changes -/
def intD (T : TC) {α : Type} [Rp α] (p : Addr) (l : List (Int × α)) : OA := ⟨fun F t => ∃ kvs, t p = some (.dK kvs) ∧ AlK T F kvs l, fun e ⟨kvs, h1, h2⟩ => ⟨kvs, h1, h2.mono e⟩⟩
end
section
variable {T : TC} {Γ : List (Option VA)} {Ω Ω1 Ω2 Ω3 : List OA} {A B C : VA} {ta tb te tk tv : TE} {D : Ends} {F0 : Hp} {ts : TS} {α : Type} [Rp α]
end
section
variable {T : TC} {Γ : List (Option VA)} {Ω Ω1 Ω2 : List OA} {ta tb : TE}
end
end VL

set_option Elab.async false
set_option linter.all false
set_option maxRecDepth 100000
/-! VL48: and, or with a first part that changes a thing. -/
namespace VL
open PySem L2
section
variable {T : TC} {Γ : List (Option VA)} {Ω Ω1 Ω2 : List OA} {ta tb : TE} {b c : Bool}
end
end VL

set_option Elab.async false
set_option linter.all false
set_option maxRecDepth 100000
/-! VL49: the second and the third thing of a triple; the triple without its first thing. -/
namespace VL
open PySem L2
section
variable {T : TC} {Γ : List (Option VA)} {Ω Ω1 Ω2 : List OA} {te ta tb : TE} {α β γ : Type} [Rp α] [Rp β] [Rp γ]
end
end VL

set_option Elab.async false
set_option linter.all false
set_option maxRecDepth 100000
/-! VL50: for over a list of two machines; a test whose first part is known to fail. -/
namespace VL
open PySem L2 PyProof.Rows
section
variable {T : TC} {Γ : List (Option VA)} {Ω Ω1 Ω2 : List OA} {te ta tb : TE} {t u : TT} {q1 q2 : Addr}
/-- the two things, one behind the other -/
def oneOf (q1 q2 : Addr) (b : Bool) : VA := vr (cond b q2 q1)
def tNoT : TT := fun _ _ _ => False
theorem pt_noX {X : Cx} {e : Expr} : PT X e tNoT := ⟨fun _ _ _ _ _ _ h => h.elim⟩
end
end VL

set_option Elab.async false
set_option linter.all false
set_option maxRecDepth 100000
set_option maxHeartbeats 2000000
/-! VL51: the program's own exceptions over ArithmeticError that have an __init__ of their own: C(text), its field read in a clause. -/
namespace VL
open PySem PySem.Spec PyProof.Rows L2
/-- C: the class at C, its __init__ at fI, its field f; the class above it at B0 -/
structure IxC (K : PySem.W.Frag) (C B0 fI : Addr) (f : Str) : Prop where
  ini : PySem.W.excInitIn K C aeBase "ArithmeticError.__new__" = true
  ovr : PySem.W.excOver K C aeBase = true
  hdC : PySem.W.hasDictIn K C = true
  tkr : PySem.W.takerIn K C f = some none
  iC : PySem.W.findIn K (.ref C) "__init__" = some (some (.ref fI))
  tI : PySem.W.typeIn K (.ref fI) = some (.type "function")
  sa : PySem.W.findIn K (.ref C) "__setattr__" = some (some (.builtin "object.__setattr__"))
  exC : PySem.W.subIn K (.ref C) (.type "BaseException") = some true
  tyC : PySem.W.typeIn K (.ref C) = some (.type "type")
  kC : PySem.W.keepIn K (.ref C) = true
  xf : xfB K C = true
  no : PySem.W.findIn K (.ref C) f = some none
  b1 : PySem.W.specialIn K (.ref B0) "__getattribute__" = some (some (.builtin "type.__getattribute__"))
  b2 : PySem.W.readsIn K B0 (.type "type") = true
  b3 : PySem.W.findCls K (.ref B0) (.type "type") "__init__" = some (.val (.builtin "ArithmeticError.__init__"))
  k0 : PySem.W.keepIn K (.ref B0) = true
section
variable {X : Cx} {pins : List (Addr × Obj)} {σ : L2.St} {H : Hp} {s : Shared} {a C B0 fI : Addr} {f : Str} {y : V} {u : Value} {A : Around} {EE : Value → Shared → Prop}
/-- self.f = y on one that has no dict as yet -/
theorem ix_store {Q : Unit → Shared → Prop} (T : IxC X.K C B0 fI f) (I : Inv X pins σ H s) (e : H a = some (exo a C none)) (ry : RelV y u)
    (h : ∀ dx s', H dx = none → dx ≠ a → Inv X pins σ (upd (upd H dx (exd dx [(f, y)])) a (exo a C (some dx))) s' → Q () s') : wpAny (model X.prog X.w) A (setAttr (.ref a) f u) Q EE s := by
  obtain ⟨t1, ho⟩ := exo_at I.hok e
  have hK := I.kIn
  obtain ⟨hp, gg, dd, tt, os⟩ := s
  have hi : PySem.W.InstAt hp a { cls := .ref C, dict := none, data := .fields #[.ref t1, .none, .none, .none, .bool false, .none] } C none := ⟨ho, rfl, rfl, trivial⟩
  refine PySem.W.set_plain hK hi T.sa (PySem.W.osa_openX PySem.F.store_ArithmeticError hK hi T.ovr T.tkr fun b => ?_)
  obtain ⟨cd, hc, hd'⟩ := PySem.W.any_some T.hdC
  have hlt : a < hp.objs.size := Heap.lt_size ho
  have hne : a ≠ hp.objs.size := Nat.ne_of_lt hlt
  refine wpAny_bind (wpAny_pure (wpAny_bind (PySem.W.instanceDict_exc (c2 := .none) ho (PySem.W.looks_clsIn hK hc) hd' ?_)))
  show wpAny _ _ (Builtin.ObjectAttr.storeInDict hp.objs.size (.str f tt) f u) _ _ _
  refine HandSPX.store_in_new ?_ fun h' tk' hn' hs => ?_
  · exact ⟨_, #[], 0, (Heap.get?_update_ne _ _ _ _ hne.symm).trans (Heap.get?_push_at rfl rfl), rfl, fun e he => absurd he (by simp), fun _ => rfl⟩
  have kp : ∀ b o, b ≠ a → hp.get? b = some o → h'.get? b = some o := fun b o hb q =>
    (hs.2 b (Nat.ne_of_lt (Heap.lt_size q))).trans ((Heap.get?_update_ne _ _ _ _ hb).trans (Heap.get?_push_of_some _ q))
  have hx' : h'.get? a = some { cls := .ref C, dict := some hp.objs.size, data := .fields #[.ref t1, .none, .none, .none, .bool false, .none] } :=
    (hs.2 a hne).trans (Heap.get?_update_self _ (Heap.get?_push_of_some _ ho) rfl)
  have dn : H hp.objs.size = none := I.hok.fresh (Nat.le_refl _)
  have da : hp.objs.size ≠ a := hne.symm
  have nd : ∀ {b : Addr} {o : Obj}, hp.get? b = some o → b ≠ hp.objs.size := fun {b o} q => Nat.ne_of_lt (Heap.lt_size q)
  have na : ∀ {b : Addr}, H b = none → b ≠ a := fun {b} n z => by
    subst z
    cases n.symm.trans e
  have un : Un X.fs [] H (upd (upd H hp.objs.size (exd hp.objs.size [(f, y)])) a (exo a C (some hp.objs.size))) hp h' :=
    { keep := fun b o q n _ _ => kp b o (na n) q, slot := fun b o q n _ _ => ⟨o.slots, kp b o (na n) q⟩,
      free := fun b o q n _ => by rw [upd_ne (na n), upd_ne (nd q), n],
      there := fun b o q _ => (Decidable.em (b = a)).elim (fun z => ⟨_, z ▸ hx'⟩) (fun z => ⟨o, kp b o z q⟩),
      tups := fun b xs q => by rw [upd_ne (at_ne e q exo_tup), upd_ne (ne_of_none q dn), q],
      frzs := fun b o v q => by rw [upd_ne (at_ne e q exo_frz), upd_ne (ne_of_none q dn), q],
      tbls := fun b ps q => ⟨#[], by rw [upd_ne (at_ne e q exo_tbl), upd_ne (ne_of_none q dn), q, Array.append_empty]⟩ }
  refine h _ _ dn da (I.un (t' := tk') un fun b o q => ?_)
  by_cases hb : b = a
  · subst hb
    cases upd_same.symm.trans q
    exact exo_ok hx'
  rw [upd_ne hb] at q
  by_cases hd : b = hp.objs.size
  · subst hd
    cases upd_same.symm.trans q
    exact exd_ok hn' (relO_put (fs := []) ry fun _ => True.intro)
  rw [upd_ne hd] at q
  refine (I.hok b o q).stay (fun c v hc z => kp c v (hc.elim (fun z => z ▸ hb) fun z => at_ne e z exo_own) z) (fun c hc => ?_) fun c xs hc => ?_
  · rw [upd_ne (at_ne e hc exo_own), upd_ne (ne_of_none hc dn), hc]
  · rw [upd_ne (at_ne e hc exo_tup), upd_ne (ne_of_none hc dn), hc]
/-- the class above: its __init__, of which nothing is told -/
theorem ix_above {us : List Value} {Q : Value → Shared → Prop} (T : IxC X.K C B0 fI f) (I : Inv X pins σ H s) (e : H a = some (exo a C none)) (hl : us.length ≤ sizeLine) (h : ∀ s', Inv X pins σ H s' → Q .none s') :
    wpAny (model X.prog X.w) A (call (.builtin "ArithmeticError.__init__") (.ref a :: us)) Q EE s := by
  obtain ⟨t1, ho⟩ := exo_at I.hok e
  have hK := I.kIn
  obtain ⟨hp, gg, dd, tt, os⟩ := s
  obtain ⟨nm, N', qn, bs, bm, hdct, sn, sub, ab, col, dd', k0, k1, k2, k3, k5, hC, hT⟩ := PySem.W.excInit_of hK T.ini
  refine wpAny_call (HandSPX.init_base PySem.F.excBase_ArithmeticError hT hC ho hl fun h' t2 kp hx => h _ ?_)
  have J := I.write (t' := tt) (x := a) (e := a) (o := exo a C none) (by rw [e]; exact True.intro) (.inl rfl) kp ⟨_, hx⟩ (exo_ok hx)
  rw [show upd H a (exo a C none) = H from funext fun b => (Decidable.em (b = a)).elim (fun z => by rw [z, upd_same, e]) fun z => upd_ne z] at J
  exact J
end
section
variable {X : Cx} {C B0 fI : Addr} {f xb : Str} {o e : Expr} {es : List Expr} {to te : TE} {ta : TA} {p p' p1 p2 pos : Pos}
/-- B.__init__(self, ..) -/
def tIxI (ta : TA) (C : Addr) : TE := fun σ H Q => ta σ H fun vs H1 => ∃ (a : Addr) (ws : List V), vs = .ref a :: ws ∧ ws.length ≤ 1000 ∧ H1 a = some (exo a C none) ∧ Q .non H1
theorem pe_ixI {pl : Sem Bool} (T : IxC X.K C B0 fI f) (hg : Gl X xb) (hm : X.mg xb = some (.ref B0)) (ha : PA X (e :: es) ta) (hdb : (xb == ("__debug__" : Str)) = false := by decide)
    (hc : eval (.Call (.Attribute (.Name xb p1) "__init__" p2) (e :: es) [] pos) X.env = (do
      let ov ← eval (.Name xb p1) X.env
      standAt p2.atName
      let (fv, first) ← holding [ov] (getMethod ov "__init__" pl)
      callWith pos fv first (backTo pos (starEach (e :: es) X.env)) (backToKw pos (keywordEach [] X.env))) := by rfl)
    (he : starEach (e :: es) X.env = (false, eval e X.env) :: starEach es X.env := by rfl) (hpl : (backTo pos (starEach es X.env)).any (·.1) = false := by rfl) :
    PE X (.Call (.Attribute (.Name xb p1) "__init__" p2) (e :: es) [] pos) (tIxI ta C) := by
  refine ⟨fun pins s σ H Q I h => PySem.W.methodCall_KW (ld_glob I hg hm ?_ hdb) hc⟩
  refine PySem.W.method_cls I.kIn T.b1 (PySem.W.cls_value I.kIn T.b2 T.b3 (by decide +kernel) ?_)
  show wpAny _ _ (callWith pos (Value.builtin "ArithmeticError.__init__") [] (backTo pos (starEach (e :: es) X.env)) []) _ _ _
  refine PyProof.Rows.callWith_method1 (thn (ha.run pos pins _ σ H _ (I.tok _) h) fun us s1 hq => ?_) he hpl
  obtain ⟨vs, H1, I1, r1, a, ws, ev, hl, ea, q⟩ := hq
  subst ev
  cases r1 with
  | @cons _ v0 _ vr ra rw' =>
    obtain rfl : v0 = Value.ref a := ra
    refine ix_above T I1 ea ?_ fun s' J => ⟨.non, H1, J, rfl, q⟩
    rw [← Paired.length rw', sizeLine_eq]
    omega
/-- self.f = e -/
def tIxS (f : Str) (C : Addr) (to te : TE) : TS := fun D σ H => te σ H fun y H1 => to σ H1 fun x H2 => ∃ a : Addr, x = .ref a ∧ H2 a = some (exo a C none) ∧ ∀ dx, H2 dx = none → dx ≠ a → D.nx σ (upd (upd H2 dx (exd dx [(f, y)])) a (exo a C (some dx)))
theorem ps_ixS (T : IxC X.K C B0 fI f) (ho : PE X o to) (he : PE X e te) (hs : swapsWith e (some (.Attribute o f p')) pos.line X.env = pure false := by rfl) : PS X (.Assign [.Attribute o f p'] e pos) (tIxS f C to te) := by
  refine ⟨fun pins s σ H D I h => plainObj_wpAny_Assign_Attribute (thn (he.run pins s σ H _ I h) fun v s1 hv => ?_) hs⟩
  obtain ⟨y, H1, I1, r1, q1⟩ := hv
  refine thn (ho.run pins s1 σ H1 _ I1 q1) fun u s2 hu => ?_
  obtain ⟨x, H2, I2, r2, a, ex, ea, q⟩ := hu
  subst ex
  obtain rfl : u = Value.ref a := r2
  exact ix_store T I2 ea r1 fun dx s' n ne J => ⟨σ, _, J, q dx n ne⟩
/-- what __init__ makes -/
def spIx (C : Addr) (f : Str) : Sp := fun vs H Q _ => ∃ (a : Addr) (x : Str), vs = [.ref a, .str x] ∧ x.length ≤ 100 ∧ H a = some (exo a C none) ∧ ∀ H1 d, Same H H1 → H d = none → d ≠ a → Q .non (upd (upd H1 d (exd d [(f, .str x)])) a (exo a C (some d)))
/-- C(e) -/
def tMkX (C : Addr) (f : Str) (ta : TA) : L2.St → Hp → XK → Prop := fun σ H Q => ta σ H fun vs H1 => ∃ x : Str, vs = [.str x] ∧ x.length ≤ 100 ∧ ∀ H3 d, Same H1 H3 → H1 d = none → H3 d = some (.xd [(f, .str x)]) → Q (.ref C) (some d) H3
theorem pmk_ix {x : Str} {k : Nat} {fd : FuncData} (T : IxC X.K C B0 fI f) (F1 : FnOk X.prog X.w X.K X.mg X.base CX0 k fI fd ["self", f] (spIx C f)) (hr : Room (k + 1) X.A) (hb : Binds X.K fd ["self", f] []) (hg : Gl X x) (hm : X.mg x = some (.ref C)) (ha : PA X [e] ta)
    (hdb : (x == ("__debug__" : Str)) = false := by decide) (hst : starEach [e] X.env = (false, eval e X.env) :: starEach [] X.env := by rfl) : PMk X (.Call (.Name x p) [e] [] pos) (tMkX C f ta) := by
  intro pins s σ H Q I h
  refine wpAny_Call_Name_kw (ld_glob I hg hm ?_ hdb)
  refine PySem.W.callWith_K (h₀ := X.base) I.ok.mod.kin T.kC (thn (ha.run pos pins s σ H _ I h) fun us s1 hq => ?_) hst (by rfl)
  obtain ⟨vs, H1, I1, r1, y, ev, hy, q⟩ := hq
  subst ev
  refine ⟨I1.kIn, ?_⟩
  obtain ⟨v, rfl, rv⟩ : ∃ v, us = [v] ∧ RelV (.str y) v := by
    cases r1 with
    | cons h t => cases t; exact ⟨_, rfl, h⟩
  show wpAny _ _ (call (.ref C) [v]) _ _ _
  obtain ⟨hp, gs, dr, tk, os⟩ := s1
  obtain ⟨nm, N', qn, bs, bm, hdct, sn, sub, ab, col, dd', k0, k1, k2, k3, k5, hC, hT⟩ := PySem.W.excInit_of I1.kIn T.ini
  have hsz : hp.objs.size ≤ hp.objs.size + 1 := Nat.le_succ _
  have hn : H1 (hp.objs.size + 1) = none := I1.hok.fresh hsz
  have kp : ∀ b o, hp.get? b = some o → ((hp.push (PySem.W.kdv_tup [v])).push (HandSPX.excO C hp.objs.size)).get? b = some o := fun b o q => Heap.get?_push_of_some _ (Heap.get?_push_of_some _ q)
  have I2 := I1.laid (t' := tk) (a := hp.objs.size + 1) (o := exo (hp.objs.size + 1) C none) (h' := (hp.push (PySem.W.kdv_tup [v])).push (HandSPX.excO C hp.objs.size)) kp hsz (exo_ok (t1 := hp.objs.size) (by heap_get))
  have hl : (Value.ref (hp.objs.size + 1) :: [v]).length = (["self", f] : List Str).length := rfl
  refine wpAny_call (HandSPX.call_own PySem.F.excBase_ArithmeticError hT hC (PySem.W.looks_findIn I1.kIn T.iC) (fun self => PySem.W.bind_fn I1.kIn self T.tI) (by rw [sizeLine_eq]; exact Nat.le_of_ble_eq_true rfl)
    (codeAny_mono (F1.run _ X.stack _ _ ⟨Value.ref (hp.objs.size + 1) :: [v], []⟩ (Value.ref (hp.objs.size + 1) :: [v]) _ (fun w2 H2 => w2 = .non ∧ ∃ d, H1 d = none ∧ H2 (hp.objs.size + 1) = some (exo (hp.objs.size + 1) C (some d)) ∧ H2 d = some (exd d [(f, .str y)]) ∧ ∃ H3, Same (upd H1 (hp.objs.size + 1) (exo (hp.objs.size + 1) C none)) H3 ∧ H2 = upd (upd H3 d (exd d [(f, .str y)])) (hp.objs.size + 1) (exo (hp.objs.size + 1) C (some d))) (fun _ _ _ => False) (hr.make C [v] []) (I2.env0.make C [v] []) (hb _ _ I2.kIn hl) (.cons (show RelV (.ref (hp.objs.size + 1)) (.ref (hp.objs.size + 1)) from rfl) (.cons rv .nil)) ?_) fun r s' hq' => ?_))
  · refine ⟨hp.objs.size + 1, y, rfl, hy, upd_same, fun H3 d sm dn da => ⟨rfl, d, ?_, upd_same, ?_, H3, sm, rfl⟩⟩
    · rwa [upd_ne da] at dn
    · rw [upd_ne da, upd_same]
  cases r with
  | error er => exact hq'.elim
  | ok fl =>
    cases fl with
    | ret u =>
      obtain ⟨v2, H2, os2, bare2, un2, hok2, rv2, ev, d, hd1, ea, ed, H3, sm, eH⟩ := hq'
      subst ev
      obtain ⟨h2', g2, d2, t2, os'⟩ := s'
      refine ⟨rv2, mk_end (raises_own T.exC T.tyC) I1 hsz kp un2 hok2 os2 bare2 ea ed hd1 (q _ _ (fun b o ho => ?_) hd1 upd_same)⟩
      have hb : b ≠ hp.objs.size + 1 := ne_of_none ho hn
      have hb2 : b ≠ d := ne_of_none ho hd1
      rw [upd_ne hb2, del_ne hb, eH, upd_ne hb, upd_ne hb2]
      exact sm _ _ (by rw [upd_ne hb]; exact ho)
    | next => exact hq'.elim
    | brk => exact hq'.elim
    | cont => exact hq'.elim
end
end VL

set_option Elab.async false
set_option linter.all false
set_option maxRecDepth 100000
set_option maxHeartbeats 2000000
/-! VL52: several except clauses, with and without a name; defs that raise exceptions with a field. -/
namespace VL
open PySem PySem.Spec PyProof.Rows L2
/-- the ends of a suite whose name stands in slot i -/
def Ends.un (D : Ends) : Option Nat → Ends
  | none => D
  | some i => { nx := fun σ' H' => D.nx (σ'.set i none) H', rt := D.rt, bk := fun σ' H' => D.bk (σ'.set i none) H', ct := fun σ' H' => D.ct (σ'.set i none) H' }
def sSet (σ : L2.St) (a : Addr) : Option Nat → L2.St
  | none => σ
  | some i => σ.set i (some (.ref a))
/-- a clause: its class, its name's slot, its suite -/
structure Cla where
  c : Value
  o : Option Nat
  ts : Addr → Value → Option Addr → TS
def wCl (K : PySem.W.Frag) (Wo : WX) (D : Ends) : List Cla → WX
  | [] => Wo
  | k :: r => fun cls d σ H => ∃ b, PySem.W.exmOne K cls k.c = some b ∧ (b = true → ∀ a, H a = none → k.ts a cls d (Ends.un D k.o) (sSet σ a k.o) H) ∧ (b = false → wCl K Wo D r cls d σ H)
/-- the clauses' derivations -/
inductive ClOk (X : Cx) : List ExceptHandler → List Cla → Prop
  | nil : ClOk X [] []
  | plain {x : Str} {k : Value} {ts : Addr → Value → Option Addr → TS} {st : Stmt} {su : List Stmt} {np pp : Pos} {hs : List ExceptHandler} {l : List Cla} (hk : Names X x k)
      (hb : ∀ (a : Addr) (oe : Obj) (cls : Value) (d : Option Addr) (pn : List (Addr × Obj)), Zc cls d oe → (∃ vs, oe.data = .fields vs) → PSs (X.suite a ((a, oe) :: pn)) (st :: su) (ts a cls d)) (r : ClOk X hs l) :
      ClOk X (.ExceptHandler (some (.Name x np)) none (st :: su) pp :: hs) (⟨k, none, ts⟩ :: l)
  | named {x n : Str} {k : Value} {i : Nat} {ts : Addr → Value → Option Addr → TS} {st : Stmt} {su : List Stmt} {np pp : Pos} {hs : List ExceptHandler} {l : List Cla} (hN : X.N.Nodup) (hi : X.N[i]? = some n) (hl : X.env.kindOf n = some .local) (hk : Names X x k)
      (hb : ∀ (a : Addr) (oe : Obj) (cls : Value) (d : Option Addr) (pn : List (Addr × Obj)), Zc cls d oe → (∃ vs, oe.data = .fields vs) → PSs (X.suite a ((a, oe) :: pn)) (st :: su) (ts a cls d)) (r : ClOk X hs l) :
      ClOk X (.ExceptHandler (some (.Name x np)) (some n) (st :: su) pp :: hs) (⟨k, some i, ts⟩ :: l)
section
variable {X : Cx} {body : List Stmt} {g0 : ExceptHandler} {gs : List ExceptHandler} {l : List Cla} {pos : Pos} {tb : WX → TS} {Wo : WX}
theorem ps_tryC (estk : X.stack = X.env :: X.outer) (efr : X.env.frame = some X.env.locals) (tko : Takes X Wo)
    (dbody : ∀ (W : WX) (pn : List (Addr × Obj)) (xe : Value → Shared → Prop), Takes (X.tr pn xe) W → PassesOwn (model X.prog X.w) X.A X.env xe → PSs (X.tr pn xe) body (tb W))
    (dcl : ClOk X (g0 :: gs) l) : PS X (.Try body (g0 :: gs) [] [] pos) (fun D σ H => tb (wCl X.K Wo D l) D σ H) := by
  refine ⟨fun pins s σ H D I hgo => wpAny_Try_except ?_⟩
  have okX := I.ok
  have hfr : X.A.frames = some (X.env :: X.outer) := estk ▸ okX.frames
  let cat : Value → Shared → Prop := fun e s₁ => wpAny (model X.prog X.w) X.A (noteFrame e X.env) (fun _ s₂ => wpAny (model X.prog X.w) X.A (setFlight e none) (fun _ s₃ => wpAny (model X.prog X.w) X.A (handleBy e X.env (g0 :: gs)) (SP X pins D) X.xe s₃) X.xe s₂) X.xe s₁
  refine wpAny_mono ((dbody (wCl X.K Wo D l) (X.pn ++ pins) cat (fun u s' xx => ?caught) PassesOwn.looking).run [] s σ H D (I.toTry _) hgo) (fun fl s1 hsp => ?calm) fun _ _ he => he
  case calm =>
    cases fl with
    | next => obtain ⟨σ', H', J', q⟩ := hsp; exact wpAny_execs_nil ⟨σ', H', J'.ofTry okX, q⟩
    | brk => obtain ⟨σ', H', J', q⟩ := hsp; exact ⟨σ', H', J'.ofTry okX, q⟩
    | cont => obtain ⟨σ', H', J', q⟩ := hsp; exact ⟨σ', H', J'.ofTry okX, q⟩
    | ret u => obtain ⟨v, σ', H', J', rv, q⟩ := hsp; exact ⟨v, σ', H', J'.ofTry okX, rv, q⟩
  obtain ⟨a, B, sI, pins', σ', H', cls, d, rfl, J', nb, up, sky, na, os, ag, wi⟩ := xx
  have J : Inv X pins σ' H' sI := J'.ofTry okX
  have skyE : Sky B (X.env :: X.outer) a (Zc cls d) X.env.locals s'.heap := estk ▸ sky
  show wpAny (model X.prog X.w) X.A (noteFrame (.ref a) X.env) _ _ _
  refine Sky.land Zc.steady hfr efr skyE fun hA flA upA => ?_
  have JA : Inv X pins σ' H' { s' with heap := hA } := J.landed nb flA.1 (up.trans upA) os ag
  obtain ⟨oA, vsA, geA, zcA, dtA⟩ := flA.there
  have out : a ∉ frs (X.env :: X.outer) := fun hm => by
    obtain ⟨_, o', e', hnf⟩ := flA.2.2.1.mem hm
    rw [geA] at e'
    exact hnf vsA (Option.some.inj e' ▸ dtA)
  have aL : a ≠ X.env.locals := fun z => out (List.mem_filterMap.mpr ⟨X.env, .head _, by rw [efr, z]⟩)
  have aF : a ∉ X.fs := fun hm => by
    obtain ⟨en, hen, q⟩ := List.mem_filterMap.mp hm
    exact out (List.mem_filterMap.mpr ⟨en, .tail _ hen, q⟩)
  have SA := JA.suite geA dtA na aL aF
  have LT : PySem.W.Looks (model X.prog X.w) hA (typeOf (.ref a)) cls := fun _ _ _ _ k q => wpAny_typeOf_ref (k _ _ geA) (zcA.1.symm ▸ q)
  suffices go : ∀ {hs : List ExceptHandler} {l' : List Cla}, ClOk X hs l' → wCl X.K Wo D l' cls d σ' H' → wpAny (model X.prog X.w) X.A (handleBy (.ref a) X.env hs) (SP X pins D) X.xe { s' with heap := hA } from go dcl wi
  intro hs l' hk
  induction hk with
  | nil =>
    intro w
    refine wpAny_handleBy_nil ?_
    obtain ⟨_, _, _, oe, vs, Tb, oT, ts', he, _, hd, h1, _⟩ := id flA
    unfold PySem.passOn
    refine wpAny_bind (wpAny_field he hd h1 ?_)
    rw [if_neg (show ¬ ((Value.ref Tb == Value.none) = true) from by simp)]
    have fin : wpAny (model X.prog X.w) X.A (setFlight (.ref a) X.env.frame) (fun _ s4 => wpAny (model X.prog X.w) X.A (throw (.ref a) : Sem Flow) (SP X pins D) X.xe s4) X.xe { s' with heap := hA } :=
      efr ▸ HandSPX.setFlight_upZ flA fun hB fB upB => wpAny_throw (tko _ _ ⟨a, B, sI, pins, σ', H', cls, d, rfl, J, nb, (up.trans upA).trans upB, .inr (.inr (estk.symm ▸ fB)), na, os, ag, w⟩)
    first
      | exact wpAny_bind (wpAny_pure (wpAny_bind fin))
      | exact wpAny_bind fin
  | @plain x c ts st su np pp hs2 l2 hc hb r ih =>
    intro ⟨b, eb, yes, no⟩
    refine wpAny_handleBy_cons (codeAny_handlers_test ?_) fun q => nomatch q
    have test : ∀ {Q E : Value → Shared → Prop}, Q c { s' with heap := hA } → wpAny (model X.prog X.w) (X.A.mark (some (.ref a))) (eval (.Name x np) X.env) Q E { s' with heap := hA } := fun q =>
      hc.2.2.elim (fun hm => ld_glob (X := X.suite a ((a, oA) :: (X.pn ++ pins))) SA hc.1 hm q hc.2.1) fun z => ld_blt (X := X.suite a ((a, oA) :: (X.pn ++ pins))) SA hc.1 z.1 z.2.1 q z.2.2 hc.2.1
    refine test ((PySem.W.exm_one (M := model X.prog X.w) JA.kIn LT eb).here ?_)
    cases b with
    | false => exact ih (no rfl)
    | true =>
      refine codeAny_handlers_suite (HandSPX.lands_againZ flA fun hB fB upB => ?_)
      have JB : Inv X pins σ' H' { s' with heap := hB } := J.landed nb fB.1 ((up.trans upA).trans upB) os ag
      obtain ⟨oB, vsB, geB, zcB, dtB⟩ := fB.there
      have SB := JB.suite geB dtB na aL aF
      refine wpAny_mono ((hb a oB cls d (X.pn ++ pins) zcB ⟨_, dtB⟩).run [] _ _ H' _ SB (yes rfl a na)) (fun fl s6 hsp => ?_) fun _ _ z => z.elim
      cases fl with
      | next => obtain ⟨σ6, H6, S6, q6⟩ := hsp; exact ⟨_, _, S6.unsuite okX, q6⟩
      | brk => obtain ⟨σ6, H6, S6, q6⟩ := hsp; exact ⟨_, _, S6.unsuite okX, q6⟩
      | cont => obtain ⟨σ6, H6, S6, q6⟩ := hsp; exact ⟨_, _, S6.unsuite okX, q6⟩
      | ret u => obtain ⟨v6, σ6, H6, S6, r6, q6⟩ := hsp; exact ⟨_, _, _, S6.unsuite okX, r6, q6⟩
  | @named x n c i ts st su np pp hs2 l2 hN hi hl hc hb r ih =>
    intro ⟨b, eb, yes, no⟩
    refine wpAny_handleBy_cons (codeAny_handlers_test ?_) fun q => nomatch q
    have test : ∀ {Q E : Value → Shared → Prop}, Q c { s' with heap := hA } → wpAny (model X.prog X.w) (X.A.mark (some (.ref a))) (eval (.Name x np) X.env) Q E { s' with heap := hA } := fun q =>
      hc.2.2.elim (fun hm => ld_glob (X := X.suite a ((a, oA) :: (X.pn ++ pins))) SA hc.1 hm q hc.2.1) fun z => ld_blt (X := X.suite a ((a, oA) :: (X.pn ++ pins))) SA hc.1 z.1 z.2.1 q z.2.2 hc.2.1
    refine test ((PySem.W.exm_one (M := model X.prog X.w) JA.kIn LT eb).here ?_)
    cases b with
    | false => exact ih (no rfl)
    | true =>
      refine codeAny_handlers_suite_as (HandSPX.lands_againZ flA fun hB fB upB => ?_)
      have JB : Inv X pins σ' H' { s' with heap := hB } := J.landed nb fB.1 ((up.trans upA).trans upB) os ag
      obtain ⟨oB, vsB, geB, zcB, dtB⟩ := fB.there
      have SB := JB.suite geB dtB na aL aF
      refine store_ok (X := X.suite a ((a, oB) :: (X.pn ++ pins))) (v := .ref a) SB hN hi (Or.inl hl) rfl (fun s5 S5 => ?_) (.inr hl)
      refine wpAny_mono ((hb a oB cls d (X.pn ++ pins) zcB ⟨_, dtB⟩).run [] s5 _ H' _ S5 (yes rfl a na)) (fun fl s6 hsp => ?_) fun _ _ z => z.elim
      have away : ∀ {σ6 : L2.St} {H6 : Hp} {Q : Shared → Prop}, Inv (X.suite a ((a, oB) :: (X.pn ++ pins))) [] σ6 H6 s6 → (∀ s7, Inv X pins (σ6.set i none) H6 s7 → Q s7) →
          wpAny (model X.prog X.w) X.A (do bindName X.env n .none; unbindBehindTheSuite X.env n pp) (fun _ s7 => Q s7) X.xe s6 := fun S6 hq => gone_ok (S6.unsuite okX) hN hi hl hq
      cases fl with
      | next => obtain ⟨σ6, H6, S6, q6⟩ := hsp; exact away S6 fun s7 J7 => ⟨_, _, J7, q6⟩
      | brk => obtain ⟨σ6, H6, S6, q6⟩ := hsp; exact away S6 fun s7 J7 => ⟨_, _, J7, q6⟩
      | cont => obtain ⟨σ6, H6, S6, q6⟩ := hsp; exact away S6 fun s7 J7 => ⟨_, _, J7, q6⟩
      | ret u => obtain ⟨v6, σ6, H6, S6, r6, q6⟩ := hsp; exact away S6 fun s7 J7 => ⟨_, _, _, J7, r6, q6⟩
end
end VL

set_option Elab.async false
set_option linter.all false
set_option maxRecDepth 100000
set_option maxHeartbeats 2000000
/-! VL53: which exception is raised, with its field's text; f-strings of texts; an exception's __init__. -/
namespace VL
open PySem PySem.Spec PyProof.Rows L2
/-- an exception: the class's number, and the field with its text -/
inductive XC where
  | z (k : Nat)
  | f (k : Nat) (fl x : Str)
  | n (k : Nat) (fl : Str) (i : Int)
def XC.k : XC → Nat
  | .z k => k
  | .f k _ _ => k
  | .n k _ _ => k
def RCf (T : TC) (r : XC) (F : Hp) (c : Value) (d : Option Addr) : Prop := c = .ref (T.C (300 + r.k)) ∧ match r with | .z _ => True | .f _ fl x => ∃ a, d = some a ∧ F a = some (.xd [(fl, .str x)]) | .n _ fl i => ∃ a, d = some a ∧ F a = some (.xd [(fl, .int i)])
theorem RCf.mono {T : TC} {r : XC} {F F' : Hp} {c : Value} {d : Option Addr} (e : Same F F') (h : RCf T r F c d) : RCf T r F' c d := by
  cases r with
  | z k => exact h
  | f k fl x => obtain ⟨h1, a, h2, h3⟩ := h; exact ⟨h1, a, h2, e _ _ h3⟩
  | n k fl x => obtain ⟨h1, a, h2, h3⟩ := h; exact ⟨h1, a, h2, e _ _ h3⟩
abbrev RQ (T : TC) (r : XC) (Ω2 : List OA) : Hp → Value → Option Addr → List OA → Prop := fun F c d Ω' => RCf T r F c d ∧ Ω' = Ω2
/-- the wish W takes such an exception at such slots in such a state -/
def WTC (W : WX) (T : TC) (r : XC) (F0 : Hp) (Γ : List (Option VA)) (Ω : List OA) : Prop := ∀ F c d σ H, Same F0 F → Env F σ Γ → Holds F Ω H → RCf T r F c d → W c d σ H
section
variable {T : TC} {Γ Γ' : List (Option VA)} {Ω Ω' Ω1 Ω2 : List OA} {A : VA} {As : List VA} {te : TE} {t ta : TA} {D : Ends} {F0 F1 : Hp} {W Wo : WX} {Pre : PreT} {PreX : PreXX} {E : XK} {r : XC} {K : PySem.W.Frag} {l : List Cla}
theorem WTC.up (e : Same F0 F1) (h : WTC W T r F0 Γ Ω) : WTC W T r F1 Γ Ω := fun F c d σ H f => h F c d σ H (e.trans f)
theorem wtc_EL {L : List OA} (q : RTX F0 (RQ T r Ω) E) : WTC (WXE E) T r F0 Γ (stt Ω [] L) := fun F c d σ H f _ hh hr => q F c d H _ f hh.all ⟨hr, List.append_nil _⟩
theorem xr_callC (ha : XA t Γ Ω As Ω1) (hp : PreX As Ω1 (RQ T r Ω1)) (hw : WTC W T r F0 Γ Ω1) : XR (tCallS (sp2 Pre PreX) (WE W) t) F0 Γ Ω := fun σ H ⟨F, f0, e, hh⟩ Q =>
  ha F σ H e hh _ fun F1 vs H1 e1 hh1 a1 => .inr ⟨F1, Ω1, As, _, hp, a1, hh1, fun F' c d H' Ω' e' hh' ⟨h1, h2⟩ => by
    subst h2
    exact hw F' c d σ H' ((f0.trans e1).trans e') (e.mono (e1.trans e')) hh' h1⟩
/-- a def that always raises -/
theorem xr_callO (ha : XA t Γ Ω As Ω1) (hp : PreX As Ω1 (RQ T r Ω1)) (hw : WTC W T r F0 Γ Ω1) : XR (tCallS (mkSpX PreX) (WE W) t) F0 Γ Ω := fun σ H ⟨F, f0, e, hh⟩ Q =>
  ha F σ H e hh _ fun F1 vs H1 e1 hh1 a1 => ⟨F1, Ω1, As, _, hp, a1, hh1, fun F' c d H' Ω' e' hh' ⟨h1, h2⟩ => by
    subst h2
    exact hw F' c d σ H' ((f0.trans e1).trans e') (e.mono (e1.trans e')) hh' h1⟩
theorem xs_rzC {k : Nat} (hw : WTC W T (.z k) F0 Γ Ω) : XS (tRz (.ref (T.C (300 + k))) W) D F0 Γ Ω := fun σ H ⟨F, f0, e, hh⟩ => hw F _ none σ H f0 e hh ⟨rfl, True.intro⟩
/-! raise C(text) -/
def tRx (C : Addr) (f : Str) (ta : TA) (W : WX) : TS := fun _ σ H => tMkX C f ta σ H fun cls d H' => W cls d σ H'
theorem xs_rzX {k : Nat} {fl x : Str} (ha : XA ta Γ Ω [va T x] Ω) (hx : x.length ≤ 100) (hw : WTC W T (.f k fl x) F0 Γ Ω) : XS (tRx (T.C (300 + k)) fl ta W) D F0 Γ Ω := fun σ H ⟨F, f0, e, hh⟩ =>
  ha F σ H e hh _ fun F1 vs H1 e1 hh1 a1 => by
    obtain ⟨v, rfl, b1⟩ := alA1 a1
    have b1 : v = .str x := b1
    subst b1
    refine ⟨x, rfl, hx, fun H3 d sm dn hd => ?_⟩
    obtain ⟨hh2, e2⟩ := hh1.newF (u := .xd [(fl, .str x)]) dn
    have hh3 : Holds (upd F1 d (.xd [(fl, .str x)])) Ω H3 := hh2.grow fun b u hb => by
      by_cases z : b = d
      · subst z; rw [upd_same] at hb; rw [hd, hb]
      · rw [upd_ne z] at hb; exact sm _ _ hb
    exact hw _ _ _ _ _ ((f0.trans e1).trans e2) (e.mono (e1.trans e2)) hh3 ⟨rfl, d, rfl, upd_same⟩
/-! the clauses -/
theorem cl_no {k : Cla} (hm : PySem.W.exmOne K (.ref (T.C (300 + r.k))) k.c = some false) (h : WTC (wCl K Wo D l) T r F0 Γ Ω) : WTC (wCl K Wo D (k :: l)) T r F0 Γ Ω := fun F c d σ H f e hh hr =>
  ⟨false, by rw [hr.1]; exact hm, fun z => (Bool.false_ne_true z).elim, fun _ => h F c d σ H f e hh hr⟩
theorem cl_yes {c : Value} {ts : Addr → Value → Option Addr → TS} (hm : PySem.W.exmOne K (.ref (T.C (300 + r.k))) c = some true) (h : ∀ a d, XS (ts a (.ref (T.C (300 + r.k))) d) D F0 Γ Ω) : WTC (wCl K Wo D (⟨c, none, ts⟩ :: l)) T r F0 Γ Ω := fun F c' d σ H f e hh hr =>
  ⟨true, by rw [hr.1]; exact hm, fun _ a _ => by rw [hr.1]; exact h a d σ H ⟨F, f, e, hh⟩, fun z => (Bool.false_ne_true z.symm).elim⟩
/-- a caught exception with its field -/
def excA (a dd : Addr) (fl x : Str) : VA := ⟨fun F v => v = .ref a ∧ F dd = some (.xd [(fl, .str x)]), fun e h => ⟨h.1, e _ _ h.2⟩⟩
theorem cl_yesF {c : Value} {i k : Nat} {fl x : Str} {ts : Addr → Value → Option Addr → TS} (hm : PySem.W.exmOne K (.ref (T.C (300 + k))) c = some true)
    (h : ∀ a dd, XS (ts a (.ref (T.C (300 + k))) (some dd)) (Ends.un D (some i)) F0 (Γ.set i (some (excA a dd fl x))) Ω) : WTC (wCl K Wo D (⟨c, some i, ts⟩ :: l)) T (.f k fl x) F0 Γ Ω := fun F c' d σ H f e hh hr => by
  obtain ⟨h1, dd, h2, h3⟩ := hr
  subst h1 h2
  exact ⟨true, hm, fun _ a _ => h a dd _ H ⟨F, f, e.set (A := excA a dd fl x) ⟨rfl, h3⟩, hh⟩, fun z => (Bool.false_ne_true z.symm).elim⟩
theorem nx_un {i : Nat} (h : ∀ σ H, NX F0 (Γ.set i none) Ω σ H → D.nx σ H) : ∀ σ H, NX F0 Γ Ω σ H → (Ends.un D (some i)).nx σ H := fun σ H ⟨F, f, e, hh⟩ => h _ H ⟨F, f, by
  refine ⟨by rw [List.length_set, List.length_set]; exact e.1, fun j A hj => ?_⟩
  by_cases z : i = j
  · subst z
    by_cases lt : i < Γ.length
    · rw [List.getElem?_set_self lt] at hj; cases hj
    · rw [List.getElem?_eq_none (by rw [List.length_set]; omega)] at hj; cases hj
  · rw [List.getElem?_set_ne z] at hj
    obtain ⟨v, h1, h2⟩ := e.2 j A hj
    exact ⟨v, by rw [List.getElem?_set_ne z]; exact h1, h2⟩, hh⟩
/-- try: .. several clauses -/
def tTryC (K : PySem.W.Frag) (l : List Cla) (tb : WX → TS) (Wo : WX) : TS := fun D σ H => tb (wCl K Wo D l) D σ H
theorem xs_tryC {tb : WX → TS} (h : ∀ W, XS (tb W) D F0 Γ Ω) : XS (tTryC K l tb Wo) D F0 Γ Ω := fun σ H n => h _ σ H n
theorem xs_tryCX {tb : WX → TS} (h : ∀ W, WTC W T r F0 Γ' Ω' → XS (tb W) D F0 Γ Ω) (hc : WTC (wCl K Wo D l) T r F0 Γ' Ω') : XS (tTryC K l tb Wo) D F0 Γ Ω := fun σ H n => h _ hc σ H n
/-- e.f -/
theorem xe_xf {a dd C : Addr} {fl x : Str} {te : TE} (h : XE te Γ Ω (excA a dd fl x) Ω) : XE (tXf a (.ref C) (some dd) C fl te) Γ Ω (va T x) Ω := fun F σ H e hh Q q =>
  h F σ H e hh _ fun F1 v H1 Ω' e1 hh1 ⟨⟨a1, a2⟩, o1⟩ => by
    subst o1
    exact ⟨a1, rfl, dd, [(fl, .str x)], .str x, rfl, hh1.same _ _ a2, (lookup_put fl fl _ []).trans (if_pos rfl), q F1 _ H1 _ e1 hh1 ⟨rfl, rfl⟩⟩
/-! f-strings -/
theorem xe_fmtS {x : Str} (h : XE te Γ Ω (va T x) Ω1) (hx : x.length ≤ 100) : XE (tFmt te) Γ Ω (va T x) Ω1 := fun F σ H e hh Q q =>
  h F σ H e hh _ fun F1 v H1 Ω' e1 hh1 ⟨a1, o1⟩ => by
    subst o1
    have a1 : v = .str x := a1
    exact .inl ⟨x, a1, by rw [sizeLine_eq]; omega, q F1 _ H1 _ e1 hh1 ⟨rfl, rfl⟩⟩
theorem str_len (a b : Str) : (a ++ b).length = a.length + b.length := Array.size_append
theorem xe_js2 {t1 t2 : TE} {x y : Str} (h1 : XE t1 Γ Ω (va T x) Ω1) (h2 : XE t2 Γ Ω1 (va T y) Ω2) (hx : x.length ≤ 100) (hy : y.length ≤ 100) : XE (fun σ H Q => tJs [t1, t2] Str.empty σ H fun out H1 => Q (.str out) H1) Γ Ω (va T (Str.empty ++ x ++ y)) Ω2 := fun F σ H e hh Q q => by
  have l0 : (Str.empty ++ x).length ≤ 100 := by rw [str_len, show Str.empty.length = 0 from rfl]; omega
  refine h1 F σ H e hh _ fun F1 v H1 Ω' e1 hh1 ⟨a1, o1⟩ => ?_
  subst o1
  refine ⟨x, a1, by rw [sizeLine_eq]; omega, h2 F1 σ H1 (e.mono e1) hh1 _ fun F2 v2 H2 Ω' e2 hh2 ⟨a2, o2⟩ => ?_⟩
  subst o2
  refine ⟨y, a2, ?_, q F2 _ H2 _ (e1.trans e2) hh2 ⟨rfl, rfl⟩⟩
  rw [str_len, sizeLine_eq]; omega
/-! an exception's __init__: the class above is told a text, the field is stored -/
/-- at a: an exception without a dict -/
def exoA (a C : Addr) : VA := ⟨fun F v => v = .ref a ∧ F a = some (exo a C none), fun e h => ⟨h.1, e _ _ h.2⟩⟩
theorem ix_run {T : TC} {N : List Str} {te : TE} {C : Addr} {f : Str} {vs : List V} {H : Hp} {Q : VK} {E' : XK} (hN : N.length = 2) (h2 : ∀ (a : Addr) (x : Str), x.length ≤ 100 → ∃ B : VA, XE te [some (exoA a C), some (va T x)] [] B []) (hs : spIx C f vs H Q E') :
    tSeq (tDrop (tIxI (tCons (tVar 0) (tCons te tNil)) C)) (tIxS f C (tVar 0) (tVar 1)) { nx := fun _ H' => Q .non H', rt := Q } (L2.start N vs) H := by
  obtain ⟨a, x, rfl, hx, ha, q⟩ := hs
  have st : L2.start N [V.ref a, V.str x] = [some (.ref a), some (.str x)] := by
    unfold L2.start
    rw [hN]
    rfl
  rw [st]
  have e0 : Env H [some (V.ref a), some (V.str x)] [some (exoA a C), some (va T x)] := ⟨rfl, fun i A hA => by
    match i, hA with
    | 0, hA => cases hA; exact ⟨_, rfl, rfl, ha⟩
    | 1, hA => cases hA; exact ⟨_, rfl, rfl⟩⟩
  unfold tSeq tDrop tIxI
  obtain ⟨B, hB⟩ := h2 a x hx
  refine (xa_cons (xe_var (i := 0) rfl) (xa_cons hB xa_nil)) H _ H e0 (.nil (Same.refl H)) _ fun F1 ws H1 e1 hh1 a1 => ?_
  have sm : Same H H1 := e1.trans hh1.same
  obtain ⟨w, ws', rfl, aw⟩ : ∃ w ws', ws = .ref a :: w :: ws' ∧ ws'.length = 0 := by
    cases a1 with
    | cons h1 t => cases t with
      | cons h2 t => cases t; exact ⟨_, [], by rw [h1.1], rfl⟩
  refine ⟨a, w :: ws', rfl, by rw [List.length_cons, aw]; decide, sm _ _ ha, ?_⟩
  refine ⟨.str x, rfl, .ref a, rfl, a, rfl, sm _ _ ha, fun dx hd hda => q H1 dx sm ?_ hda⟩
  exact sm.free hd
end
end VL

set_option Elab.async false
set_option linter.all false
set_option maxRecDepth 100000
set_option maxHeartbeats 2000000
/-! VL54: a lambda as a value; a def that is handed one and calls it within a try. -/
namespace VL
open PySem PySem.Spec PyProof.Rows L2 LamX
/-- an object that stands as it is -/
def LamO (f : Addr) (o : Obj) : HO := .ext fun h => h.get? f = some o
theorem lamO_ok {P : Program} {w : World} {H : Hp} {h : Heap} {f : Addr} {o : Obj} (e : h.get? f = some o) : ObjOk P w H h f (LamO f o) := ⟨e, ⟨_, e⟩, fun h1 h2 z k => k _ z⟩
theorem lamO_at {P : Program} {w : World} {H : Hp} {h : Heap} {f : Addr} {o : Obj} (hok : HOk P w H h) (e : H f = some (LamO f o)) : h.get? f = some o := by
  have x : ObjOk P w H h f (.ext fun h => h.get? f = some o) := hok f _ e
  exact x.1
/-- at f: the lambda with such a body, made in X -/
inductive LamIs (X : Cx) (params : Arguments) (body : Expr) (scope : Scope) (c' f : Addr) (H : Hp) : Prop
  | plain {pm ctv : Value} (h : H f = some (LamO f (PySem.W.kla_obj "<lambda>" (X.env.qual ++ "<lambda>") params body scope (cloFrom X.env.cells scope.names []) pm c' ctv)))
      (L : LamS X.env.scope scope) (hb : ∀ (q : Str) (cl : List (Str × Addr)) (pm cv ctv : Value), bindArgs (PySem.W.kla_fn "<lambda>" q params body scope cl pm cv ctv) ⟨[], []⟩ = pure [])
  | dflt {nm : Str} {T0 : Addr} {doc pm ctv : Value} {iv : Int} {t : Tok} (h : H f = some (LamO f (PySem.W.kdv_obj "<lambda>" (X.env.qual ++ "<lambda>") params (.expr body) scope (cloFrom X.env.cells scope.names []) (.ref T0) doc pm c' ctv)))
      (hT : H T0 = some (LamO T0 (PySem.W.kdv_tup [.int iv t]))) (L : LamSD X.N nm X.env.scope scope)
      (hb : ∀ (q : Str) (cl : List (Str × Addr)) (T0 : Addr) (doc pm cv ctv : Value) (t : Tok) (s : Shared), s.heap.get? T0 = some (PySem.W.kdv_tup [.int iv t]) → BindsTo s (PySem.W.kdv_fn "<lambda>" q params (.expr body) scope cl (.ref T0) doc pm cv ctv) ⟨[], []⟩ [(nm, .int iv t)])
theorem LamIs.mono {X : Cx} {params : Arguments} {body : Expr} {scope : Scope} {c' f : Addr} {H H' : Hp} (e : Same H H') (h : LamIs X params body scope c' f H) : LamIs X params body scope c' f H' := by
  cases h with
  | plain h L hb => exact .plain (e _ _ h) L hb
  | dflt h hT L hb => exact .dflt (e _ _ h) (e _ _ hT) L hb
/-- a lambda's text and reading -/
structure LamPk (X : Cx) (kl : Nat) where
  params : Arguments
  body : Expr
  scope : Scope
  tb : XK → TE
  hbody : ∀ (E : XK) (A : Around) (outer : List PySem.Env) (s : Shared) (H : Hp) (f c' : Addr), Room kl (A.deeper (lamEnv X scope s.heap.objs.size f c')) → PE (lamCx X A outer s H E scope f c') body (tb E)
abbrev lamQ (X : Cx) : Str := X.env.qual ++ "<lambda>"
def LamPk.at {X : Cx} {kl : Nat} (L : LamPk X kl) (c' f : Addr) (H : Hp) : Prop := LamIs X L.params L.body L.scope c' f H ∧ H c' = some (CodeO c' (lamQ X))
/-- what a call makes, at the slots σ of the frame that made the lambda -/
def LamPk.act {X : Cx} {kl : Nat} (L : LamPk X kl) (c' f : Addr) (σ : L2.St) : XK → Hp → VK → Prop := fun E H Q => L.at c' f H ∧ L.tb E σ H Q
def tActX (i : Nat) (f : Addr) (act : XK → Hp → VK → Prop) (W : WX) : TE := fun σ H Q => σ[i]? = some (some (.ref f)) ∧ act (WE W σ) H Q
section
variable {X : Cx} {pins : List (Addr × Obj)} {σ : L2.St} {H : Hp} {s : Shared}
theorem pe_actX {kl : Nat} (Lm : LamPk X kl) {CXg : CXT} {Eg : XK} {Ng : List Str} {qg : Str} {sg : Scope} {g f c' : Addr} {cdg : Value} {i : Nat} {a : Str} {pn : List (Addr × Obj)} {xe : Value → Shared → Prop} {W : WX} {p1 p2 : Pos}
    (I : Inv X pins σ H s) (tk : Takes ((cxOf CXg X.prog X.w X.K X.mg X.base Ng qg sg g cdg X.A X.stack s H Eg).tr pn xe) W) (hr : Room (kl + 1) (X.A.deeper (envOfC qg sg s.heap.objs.size g cdg)))
    (hN : Ng[i]? = some a) (hv : Vis sg a) (hd : (a == ("__debug__" : Str)) = false := by decide) (hcd : (a == ("__classdict__" : Str)) = false := by decide) :
    PE ((cxOf CXg X.prog X.w X.K X.mg X.base Ng qg sg g cdg X.A X.stack s H Eg).tr pn xe) (.Call (.Name a p1) [] [] p2) (tActX i f (Lm.act c' f σ) W) := by
  refine ⟨fun pinsZ sZ σZ HZ Q IZ hz => ?_⟩
  obtain ⟨hs, ⟨hlam, hc⟩, ht⟩ := hz
  refine wpAny_Call_Name_kw (thn ((pe_var (pos := p1) (i := i) hN hv hd hcd).run pinsZ sZ σZ HZ (fun v H1 => v = .ref f ∧ H1 = HZ) IZ ⟨.ref f, hs, rfl, rfl⟩) fun u s1 hu => ?_)
  obtain ⟨_, H1, I1, r1, ev, eH⟩ := hu
  subst ev
  subst eH
  obtain rfl : u = Value.ref f := r1
  have un : Un (frs X.stack) [] H H1 s.heap s1.heap := I1.base
  obtain ⟨⟨oc, cvs, ct, hoc, hdc, hvc⟩, _, _⟩ := I1.hok c' _ hc
  suffices rc : (∃ e1 e2 e3 e4, s1.heap.get? f = some ⟨e1, e2, .func e3, e4⟩) ∧ codeAny (model X.prog X.w) (X.A.deeper (envOfC qg sg s.heap.objs.size g cdg)) (.call (.ref f) ⟨[], []⟩) (CR (L2.CX X.prog X.w) (envOfC qg sg s.heap.objs.size g cdg :: X.stack) X.prog X.w H1 s1 Q (WE W σZ)) s1 by
    refine PySem.W.callWith_F0 rc.1 (wpAny_call (codeAny_mono rc.2 fun r s' hq => ?_))
    cases r with
    | error e => exact passAt tk σZ pinsZ H1 s1 e s' I1 hq
    | ok fl =>
      cases fl with
      | ret u => exact I1.after hq
      | next => exact hq.elim
      | brk => exact hq.elim
      | cont => exact hq.elim
  cases hlam with
  | plain h L hb =>
    have of1 := lamO_at I1.hok h
    refine ⟨⟨_, _, _, _, of1⟩, PySem.W.kla_callFunE hr.depth of1 rfl L.co L.gen rfl ⟨c', oc, cvs, ct, rfl, hoc, hdc, hvc⟩ ?_⟩
    rw [hb]
    refine wpAny_pure (wpAny_newFunctionEnv (fun y hy => (L.own y hy).2) (fun y hy => nomatch hy) (fun hF hns hsb => ⟨I1.nolimit.fresh _ hsb, ?_⟩) L.kind)
    show codeAny _ _ (.expr Lm.body (lamEnv X Lm.scope s1.heap.objs.size f c')) _ _
    have kp : ∀ b o, s1.heap.get? b = some o → hF.get? b = some o := fun b o q => hsb.extBut b o (Nat.ne_of_lt (Heap.lt_size q)) (Heap.get?_push_of_some _ q)
    have J := lam_start2 (A := X.A.deeper (envOfC qg sg s.heap.objs.size g cdg)) (outer := envOfC qg sg s.heap.objs.size g cdg :: X.stack) (E := WE W σZ) (f := f) (c' := c') (tk := s1.toks + ([] : List (Str × Value)).length) I L I1.env0 hr.hd un hns kp
    refine PySem.W.kla_codeExpr (wpAny_mono ((Lm.hbody _ _ _ s1 H1 f c' (hr.deeper _)).run [] _ _ H1 Q J ht) (fun v s' hq => ?_) fun e s' hq => hq)
    obtain ⟨w', H', J', rv, q⟩ := hq
    exact ⟨w', H', J'.os, J'.bare, J'.base, J'.hok, rv, q⟩
  | @dflt nm T0 doc pm ctv iv t h hT L hb =>
    have of1 := lamO_at I1.hok h
    refine ⟨⟨_, _, _, _, of1⟩, PySem.W.kla_callFunE hr.depth of1 rfl L.co L.gen rfl ⟨c', oc, cvs, ct, rfl, hoc, hdc, hvc⟩ ?_⟩
    refine hb _ _ _ _ _ _ _ _ s1 (lamO_at I1.hok hT) _ _ _ _ ?_
    refine wpAny_newFunctionEnv (fun y hy => (L.own y hy).1) (fun y hy => List.mem_singleton.mp hy ▸ L.par) (fun hF hns hsb => ⟨I1.nolimit.fresh _ hsb, ?_⟩) L.kind
    show codeAny _ _ (.expr Lm.body (lamEnv X Lm.scope s1.heap.objs.size f c')) _ _
    have kp : ∀ b o, s1.heap.get? b = some o → hF.get? b = some o := fun b o q => hsb.extBut b o (Nat.ne_of_lt (Heap.lt_size q)) (Heap.get?_push_of_some _ q)
    have J := lam_start2D (A := X.A.deeper (envOfC qg sg s.heap.objs.size g cdg)) (outer := envOfC qg sg s.heap.objs.size g cdg :: X.stack) (E := WE W σZ) (f := f) (c' := c') (tk := s1.toks + ([(nm, .int iv t)] : List (Str × Value)).length) I L I1.env0 hr.hd un hns kp
    refine PySem.W.kla_codeExpr (wpAny_mono ((Lm.hbody _ _ _ s1 H1 f c' (hr.deeper _)).run [] _ _ H1 Q J ht) (fun v s' hq => ?_) fun e s' hq => hq)
    obtain ⟨w', H', J', rv, q⟩ := hq
    exact ⟨w', H', J'.os, J'.bare, J'.base, J'.hok, rv, q⟩
end
/-! ### a def that is handed a lambda, and calls it within a try -/
def ActHX (P : Program) (w : World) (K : PySem.W.Frag) (mg : Str → Option Value) (base : Heap) (k : Nat) (A : Around) (outer : List PySem.Env) (s : Shared) (H : Hp) (f : Addr) (act : XK → Hp → VK → Prop) : Prop :=
  ∀ (Ng : List Str) (qg : Str) (sg : Scope) (g : Addr) (cdg : Value) (i : Nat) (a : Str) (p1 p2 : Pos) (pn : List (Addr × Obj)) (xe : Value → Shared → Prop) (W : WX), Room (k + 1) (A.deeper (envOfC qg sg s.heap.objs.size g cdg)) → Ng[i]? = some a → Vis sg a → (a == ("__debug__" : Str)) = false → (a == ("__classdict__" : Str)) = false →
    Takes ((cxOf CX0 P w K mg base Ng qg sg g cdg A outer s H E0).tr pn xe) W → PE ((cxOf CX0 P w K mg base Ng qg sg g cdg A outer s H E0).tr pn xe) (.Call (.Name a p1) [] [] p2) (tActX i f act W)
abbrev PreLX := Addr → (XK → Hp → VK → Prop) → PreT
structure CalLX (P : Program) (w : World) (K : PySem.W.Frag) (mg : Str → Option Value) (base : Heap) (kl k : Nat) (x : Str) (ps : List Str) (Pre : PreLX) : Prop where
  ex : ∃ g fd, mg x = some (.ref g) ∧ PySem.W.keepIn K (.ref g) = true ∧ Binds K fd ps [] ∧ (∀ f act As Ω R, Pre f act As Ω R → As.length = ps.length) ∧
    ∀ (A : Around) (outer : List PySem.Env) (s : Shared) (H : Hp) (us : List Value) (vs : List V) (Q : VK) (f : Addr) (act : XK → Hp → VK → Prop), Room k A → Env0 P w K mg base A outer s H → BindsTo s fd ⟨us, []⟩ (ps.zip us) → Vals vs us →
      ActHX P w K mg base kl A outer s H f act → mkSp (Pre f act) vs H Q E0 → codeAny (model P w) A (.call (.ref g) ⟨us, []⟩) (CR CX0 outer P w H s Q E0) s
section
variable {P : Program} {w : World} {K : PySem.W.Frag} {mg : Str → Option Value} {base : Heap}
theorem fnLX_ok {x qual : Str} {st : Stmt} {g : Addr} {fd : FuncData} {N ps : List Str} {k kl : Nat} {Pre : PreLX} (F : Fun K x qual st g fd) (S : FnScope N ps (defScope st)) (hl : ∀ f act As Ω R, Pre f act As Ω R → As.length = ps.length) (hk : kl + 1 ≤ k)
    (hb : ∀ (cdv : Value) (A : Around) (outer : List PySem.Env) (s : Shared) (H : Hp) (f : Addr) (act : XK → Hp → VK → Prop), Room k (A.deeper (envOfC qual (defScope st) s.heap.objs.size g cdv)) →
      (∀ (i : Nat) (a : Str) (p1 p2 : Pos) (pn : List (Addr × Obj)) (xe : Value → Shared → Prop) (W : WX), N[i]? = some a → Vis (defScope st) a → (a == ("__debug__" : Str)) = false → (a == ("__classdict__" : Str)) = false →
        Takes ((cxOf CX0 P w K mg base N qual (defScope st) g cdv A outer s H E0).nox.tr pn xe) W → PE ((cxOf CX0 P w K mg base N qual (defScope st) g cdv A outer s H E0).nox.tr pn xe) (.Call (.Name a p1) [] [] p2) (tActX i f act W)) →
      ∀ As Ω R F0, Pre f act As Ω R → Bod (cxOf CX0 P w K mg base N qual (defScope st) g cdv A outer s H E0).nox (defBody st) (As.map some ++ List.replicate (N.length - As.length) none) Ω F0 R)
    (hm : mg x = some (.ref g)) (hbd : Binds K fd ps []) : CalLX P w K mg base kl (k + 1) x ps Pre := by
  refine ⟨g, fd, hm, F.kp, hbd, hl, fun A outer s H us vs Q f act hr e0 hbt rv hact h => ?_⟩
  obtain ⟨F0, Ω, As, R, hp, ha, hh, hq⟩ := h
  obtain ⟨oc, od, kV, doc, pm, an, cdv, ct, osl, rfl, lk, hcd⟩ := F.ex
  refine run_ofS (N := N) (vs := vs) lk hcd S hr e0 hbt rv (by rw [ha.len]; exact hl _ _ _ _ _ hp) fun hr' => ?_
  obtain ⟨t, h1, h2⟩ := hb cdv A outer s H f act hr' (fun i a p1 p2 pn xe W hN hv hd hcd tk => hact N qual (defScope st) g cdv i a p1 p2 pn xe W (hr'.mono hk) hN hv hd hcd tk) As Ω R F0 hp
  exact ⟨t, h1.nox, h2 _ (fun F v H Ω' e hh r => hq F v H Ω' e hh r) (fun F σ H Ω' e hh r => hq F .non H Ω' e hh r) _ _ ⟨F0, Same.refl F0, start_env ha, hh⟩⟩
end
/-- x(e), e's value a lambda of this frame -/
def tCallLX (X : Cx) (kl : Nat) (Pre : PreLX) (ta : TA) : TE := fun σ H Q => ta σ H fun vs H1 => ∃ (Lm : LamPk X kl) (f c' : Addr), vs = [.ref f] ∧ Lm.at c' f H1 ∧ mkSp (Pre f (Lm.act c' f σ)) [.ref f] H1 Q E0
section
variable {X : Cx}
theorem pe_callLX {k kl : Nat} {x : Str} {ps : List Str} {Pre : PreLX} {e : Expr} {ta : TA} {p pos : Pos} (C : CalLX X.prog X.w X.K X.mg X.base kl k x ps Pre) (hr : Room k X.A) (hg : Gl X x) (ha : PA X [e] ta)
    (hdb : (x == ("__debug__" : Str)) = false := by decide) (hst : starEach [e] X.env = (false, eval e X.env) :: starEach [] X.env := by rfl) :
    PE X (.Call (.Name x p) [e] [] pos) (tCallLX X kl Pre ta) := by
  obtain ⟨g, fd, hm, hk, hb, hlen, hrun⟩ := C.ex
  refine ⟨fun pins s σ H Q I h => wpAny_Call_Name_kw (ld_glob I hg hm ?_ hdb)⟩
  refine PySem.W.callWith_K (h₀ := X.base) I.ok.mod.kin hk (thn (ha.run pos pins s σ H _ I h) fun us s1 hq => ?_) hst (by rfl)
  obtain ⟨vs, H1, I1, r1, Lm, f, c', ev, hat, sp⟩ := hq
  subst ev
  refine ⟨I1.kIn, ?_⟩
  obtain ⟨v, rfl, rv⟩ : ∃ v, us = [v] ∧ RelV (.ref f) v := by
    cases r1 with
    | cons h t => cases t; exact ⟨_, rfl, h⟩
  have rc : codeAny (model X.prog X.w) X.A (.call (.ref g) ⟨[v], []⟩) (CR CX0 X.stack X.prog X.w H1 s1 Q E0) s1 := by
    have hls : ps.length = 1 := by
      obtain ⟨F0, Ω, As, R, hp, ha, _⟩ := sp
      rw [← hlen _ _ _ _ _ hp, ← ha.len]; rfl
    refine hrun X.A X.stack s1 H1 [v] [.ref f] Q f _ hr I1.env0 ?_ (.cons rv .nil) (fun Ng qg sg gg cdg i a q1 q2 pn xe W hr' hN hv hd hcd tk => pe_actX Lm I1 tk hr' hN hv hd hcd) sp
    have := hb s1 [v] I1.kIn (by rw [hls]; rfl)
    rwa [List.append_nil] at this
  refine wpAny_call (codeAny_mono rc fun r s2 hq => ?_)
  cases r with
  | error e => exact (show False from hq).elim
  | ok fl =>
    cases fl with
    | ret u => exact I1.after hq
    | next => exact hq.elim
    | brk => exact hq.elim
    | cont => exact hq.elim
end
end VL

set_option Elab.async false
set_option linter.all false
set_option maxRecDepth 100000
set_option maxHeartbeats 2000000
/-! VL55: a lambda's making; what a call of it makes, told by the exception it raises; raise C(text). -/
namespace VL
open PySem PySem.Spec PyProof.Rows L2 LamX
/-- a lambda of X -/
def lamV (X : Cx) {kl : Nat} (Lm : LamPk X kl) : VA := ⟨fun F v => ∃ f c', v = .ref f ∧ Lm.at c' f F, fun e ⟨f, c', h1, h2, h3⟩ => ⟨f, c', h1, h2.mono e, e _ _ h3⟩⟩
/-- a lambda expression: the table at P -/
def tLamV (X : Cx) {kl : Nat} (Lm : LamPk X kl) (P : Addr) : TE := fun σ H Q => (∃ ps : Array Value, H P = some (.tbl ps) ∧ TriplesOk ps.toList ∧ ∀ (pos : Pos) (cv : Value), codeAmong pos ps.toList = some cv → ∃ c, cv = .ref c ∧ H c = some (CodeO c (lamQ X))) ∧
  ∀ (f c' : Addr) (H2 : Hp), (∀ (F : Hp) (Ω : List OA) (l : List (Addr × Str)) (kt : Nat), Holds F Ω H → Ω[kt]? = some (tabA l) → (P, lamQ X) ∈ l → (∀ p ∈ l, p.1 = P → p.2 = lamQ X) → ∃ F2, Same F F2 ∧ Holds F2 Ω H2 ∧ Lm.at c' f F2) → Q (.ref f) H2
section
variable {X : Cx} {kl : Nat}
/-- lambda: .. -/
theorem pe_lamV {c P : Addr} {params : Arguments} {body : Expr} {scope : Scope} {pos : Pos} {tb : XK → TE} (TB : TabB X.base X.mg c P) (hcode : X.env.code = .ref c) (L : LamS X.env.scope scope)
    (hbody : ∀ (E : XK) (A : Around) (outer : List PySem.Env) (s : Shared) (H : Hp) (f c' : Addr), Room kl (A.deeper (lamEnv X scope s.heap.objs.size f c')) → PE (lamCx X A outer s H E scope f c') body (tb E))
    (hdef : defaultsOf params X.env = ([], []) := by rfl)
    (hbind : ∀ (q : Str) (cl : List (Str × Addr)) (pm cv ctv : Value), bindArgs (PySem.W.kla_fn "<lambda>" q params body scope cl pm cv ctv) ⟨[], []⟩ = pure [] := by intros; rfl) :
    PE X (.Lambda params body scope pos) (tLamV X ⟨params, body, scope, tb, hbody⟩ P) := by
  refine ⟨fun pins s σ H Q I hz => PySem.W.kla_eval hdef ?_⟩
  obtain ⟨⟨ps, hP, ht, ha⟩, hq⟩ := hz
  have hfree := L.has I.ok
  have bP : s.heap.BuiltinsAt X.mg P := TB.bm.keeps I.bk
  have oP : s.heap.get? P = some { cls := .none, data := .fields ps } := I.hok P _ hP
  -- the end: the function lies at the heap's end
  have fin : ∀ (c' : Addr) (pm ctv : Value) (h' : Heap) (tk : Nat) (H1 : Hp), Inv X pins σ H1 { s with heap := h', toks := tk } → Grown H P (lamQ X) H1 c' →
      EP X pins σ Q (.ref h'.objs.size) { s with heap := h'.push (PySem.W.kla_obj "<lambda>" (X.env.qual ++ "<lambda>") params body scope (cloFrom X.env.cells scope.names []) pm c' ctv), toks := tk } := fun c' pm ctv h' tk H1 I1 gr => by
    have n1 : H1 h'.objs.size = none := I1.hok.fresh (Nat.le_refl _)
    have I2 := I1.laid (t' := tk) (a := h'.objs.size) (o := LamO h'.objs.size (PySem.W.kla_obj "<lambda>" (X.env.qual ++ "<lambda>") params body scope (cloFrom X.env.cells scope.names []) pm c' ctv)) (h' := h'.push (PySem.W.kla_obj "<lambda>" (X.env.qual ++ "<lambda>") params body scope (cloFrom X.env.cells scope.names []) pm c' ctv))
      (fun b o e => Heap.get?_push_of_some _ e) (Nat.le_refl _) (lamO_ok (Heap.get?_push_size _ rfl))
    refine ⟨.ref h'.objs.size, _, I2, rfl, hq _ c' _ fun F Ω l kt hh hkt hm hu => ?_⟩
    obtain ⟨F1, e1, hh1, hc⟩ := grown_holds hh hkt hm hu gr
    obtain ⟨hh2, e2⟩ := hh1.newF n1
    exact ⟨_, e1.trans e2, hh2, .plain upd_same L hbind, e2 _ _ hc⟩
  cases hc : codeAmong pos ps.toList with
  | some cv =>
    obtain ⟨c', e, hco⟩ := ha pos cv hc
    subst e
    refine PySem.W.kla_makeFunctionHit (mg := X.mg) (c := c) (P := P) (ps := ps) (closure_ok hfree) I.ok.glob (I.mod.glob.keeps I.bk) hcode (TB.code.keeps I.bk) oP ht hc bP fun ctv h' tk hx hsz => ?_
    exact fin c' _ ctv h' tk H (I.kept (t' := tk) (h' := h') hx) (.inl ⟨rfl, ps, pos, hP, hc⟩)
  | none =>
    refine PySem.W.kla_makeFunction (mg := X.mg) (c := c) (P := P) (ps := ps) (closure_ok hfree) I.ok.glob (I.mod.glob.keeps I.bk) hcode (TB.code.keeps I.bk) oP ht hc TB.gP bP fun c' ctv h' tk hx hge hlt hrec htb => ?_
    obtain ⟨c2, oc, vs, t, e2, hoc, hd, hv⟩ := hrec
    cases e2
    have nC : H c' = none := I.hok.fresh hge
    refine fin c' _ ctv h' tk _ (inv_table (t' := tk) (more := #[rawInt pos.line, rawInt pos.col, .ref c']) (h' := h') I hP hx htb hge ⟨oc, vs, t, hoc, hd, hv⟩) (.inr ⟨ps, #[rawInt pos.line, rawInt pos.col, .ref c'], hP, nC, rfl, fun z => ?_, fun pos2 cv z hcv => ?_⟩)
    · rw [Array.toList_append]; exact PySem.TriplesOk_snoc _ _ _ _ z
    · rw [Array.toList_append] at hcv
      exact among_app _ z hcv
end
section
variable {X : Cx} {kl : Nat} {T : TC} {Γ : List (Option VA)} {Ω Ω1 Ω2 Ω' : List OA} {A : VA} {F0 : Hp} {D : Ends} {W : WX}
theorem xe_lamV {Lm : LamPk X kl} {P : Addr} {l : List (Addr × Str)} {kt : Nat} (ht : Ω[kt]? = some (tabA l)) (hm : (P, lamQ X) ∈ l) (hu : ∀ p ∈ l, p.1 = P → p.2 = lamQ X) : XE (tLamV X Lm P) Γ Ω (lamV X Lm) Ω := fun F σ H e hh Q q => by
  obtain ⟨t, h1, h2, _, _⟩ := hh.get ht
  obtain ⟨ps, b1, b2, b3⟩ := h1 _ hm
  refine ⟨⟨ps, h2 _ _ b1, b2, fun pos cv hc => ?_⟩, fun f c' H2 h => ?_⟩
  · obtain ⟨c, d1, d2⟩ := b3 pos cv hc
    exact ⟨c, d1, hh.same _ _ d2⟩
  · obtain ⟨F2, e2, hh2, hat⟩ := h F Ω l kt hh ht hm hu
    exact q F2 _ H2 _ e2 hh2 ⟨⟨f, c', rfl, hat⟩, rfl⟩
/-- the parameter's value: a lambda that raises r, or returns in Ω' -/
def askX (T : TC) (f : Addr) (act : XK → Hp → VK → Prop) (Ω Ω' : List OA) (o : Option XC) : VA :=
  ⟨fun F v => v = .ref f ∧ ∀ F1 H1, Same F F1 → Holds F1 Ω H1 → ∀ (E : XK) (Q : VK),
      (∀ r, o = some r → ∀ F2 c d H2, Same F1 F2 → Holds F2 Ω H2 → RCf T r F2 c d → E c d H2) → (o = none → ∀ F2 v H2, Same F1 F2 → Holds F2 Ω' H2 → Q v H2) → act E H1 Q,
   fun e ⟨h1, h2⟩ => ⟨h1, fun F1 H1 e1 => h2 F1 H1 (e.trans e1)⟩⟩
def anyA : VA := ⟨fun _ _ => True, fun _ _ => True.intro⟩
theorem xe_askX {i : Nat} {f : Addr} {act : XK → Hp → VK → Prop} (h : Γ[i]? = some (some (askX T f act Ω Ω' none))) : XE (tActX i f act W) Γ Ω anyA Ω' := fun F σ H e hh Q q => by
  obtain ⟨v, h1, rfl, h3⟩ := e.2 i _ h
  exact ⟨h1, h3 F H (Same.refl F) hh _ Q (fun _ z => nomatch z) fun _ F2 v H2 e2 hh2 => q F2 v H2 _ e2 hh2 ⟨True.intro, rfl⟩⟩
theorem xr_askX {i : Nat} {f : Addr} {act : XK → Hp → VK → Prop} {r : XC} (h : Γ[i]? = some (some (askX T f act Ω Ω' (some r)))) (hw : WTC W T r F0 Γ Ω) : XR (tActX i f act W) F0 Γ Ω := fun σ H ⟨F, f0, e, hh⟩ Q => by
  obtain ⟨v, h1, rfl, h3⟩ := e.2 i _ h
  refine ⟨h1, h3 F H (Same.refl F) hh _ Q (fun r' z F2 c d H2 e2 hh2 hr => ?_) fun z => nomatch z⟩
  cases z
  exact hw F2 c d σ H2 (f0.trans e2) (e.mono e2) hh2 hr
/-- what a call of the lambda makes -/
def Outc (T : TC) (Γ : List (Option VA)) (Ω Ω' : List OA) (tb : XK → TE) (o : Option XC) : Prop :=
  match o with
  | some r => ∀ (E : XK) (F1 : Hp), (∀ F2 c d H2, Same F1 F2 → Holds F2 Ω H2 → RCf T r F2 c d → E c d H2) → XR (tb E) F1 Γ Ω
  | none => ∀ E : XK, ∃ B : VA, XE (tb E) Γ Ω B Ω'
theorem outc_r {r : XC} {tb : XK → TE} (h : ∀ (E : XK) (F1 : Hp), WTC (WXE E) T r F1 Γ Ω → XR (tb E) F1 Γ Ω) : Outc T Γ Ω Ω' tb (some r) := fun E F1 hE => h E F1 fun F c d σ H f _ hh hr => hE F c d H f hh hr
theorem xg_callLX {Lm : LamPk X kl} {Pre : PreLX} {ta : TA} {o : Option XC} {R : Hp → V → List OA → Prop} (ha : XA ta Γ Ω [lamV X Lm] Ω) (ho : Outc T Γ Ω Ω' Lm.tb o) (hp : ∀ f act, Pre f act [askX T f act (stt Ω [] []) (stt Ω' [] []) o] Ω R) : XG (tCallLX X kl Pre ta) Γ Ω R := fun F σ H e hh Q q => by
  have hp : ∀ f act, Pre f act [askX T f act Ω Ω' o] Ω R := fun f act => by have := hp f act; rwa [cal0', cal0'] at this
  refine ha F σ H e hh _ fun F1 vs H1 e1 hh1 a1 => ?_
  obtain ⟨v, rfl, f, c', rfl, hat⟩ := alA1 a1
  refine ⟨Lm, f, c', rfl, ⟨hat.1.mono hh1.same, hh1.same _ _ hat.2⟩, F1, Ω, _, R, hp f _, .cons ⟨rfl, fun F2 H2 e2 hh2 E Q' hE hQ => ?_⟩ .nil, hh1, fun F' v H' Ω' e' hh' r => q F' v H' Ω' (e1.trans e') hh' r⟩
  refine ⟨⟨hat.1.mono (e2.trans hh2.same), (e2.trans hh2.same) _ _ hat.2⟩, ?_⟩
  have e3 := e.mono (e1.trans e2)
  cases o with
  | some r => exact ho E F2 (hE r rfl) σ H2 ⟨F2, Same.refl F2, e3, hh2⟩ Q'
  | none =>
    obtain ⟨B, hB⟩ := ho E
    exact hB F2 σ H2 e3 hh2 Q' fun F4 v4 H4 Ω4 e4 hh4 ⟨_, o4⟩ => hQ rfl F4 v4 H4 e4 (o4 ▸ hh4)
theorem xe_callLX {Lm : LamPk X kl} {Pre : PreLX} {ta : TA} {o : Option XC} {Ω3 : List OA} (ha : XA ta Γ Ω [lamV X Lm] Ω) (ho : Outc T Γ Ω Ω' Lm.tb o) (hp : ∀ f act, Pre f act [askX T f act (stt Ω [] []) (stt Ω' [] []) o] Ω (RV A Ω3)) (he : Ω3 = Ω2) : XE (tCallLX X kl Pre ta) Γ Ω A Ω2 := he ▸ xg_callLX ha ho hp
end
/-! ### raise C(text) -/
/-- C(text) may be made -/
structure MkC (P : Program) (w : World) (K : PySem.W.Frag) (mg : Str → Option Value) (base : Heap) (k : Nat) (x : Str) (C : Addr) (f : Str) : Prop where
  ex : ∃ B0 fI fd, IxC K C B0 fI f ∧ FnOk P w K mg base CX0 k fI fd ["self", f] (spIx C f) ∧ Binds K fd ["self", f] [] ∧ mg x = some (.ref C)
section
variable {X : Cx} {W : WX}
theorem ps_raiseX {k : Nat} {x f : Str} {C : Addr} {e : Expr} {ta : TA} {p pos pos2 : Pos} (hc : X.calm = true) (tk : Takes X W) (M : MkC X.prog X.w X.K X.mg X.base k x C f) (hr : Room (k + 1) X.A) (hg : Gl X x) (ha : PA X [e] ta)
    (hdb : (x == ("__debug__" : Str)) = false := by decide) (hst : starEach [e] X.env = (false, eval e X.env) :: starEach [] X.env := by rfl) :
    PS X (.Raise (some (.Call (.Name x p) [e] [] pos)) none pos2) (tRx C f ta W) := by
  obtain ⟨B0, fI, fd, T, F1, hb, hm⟩ := M.ex
  exact ps_raise hc tk (pmk_ix T F1 hr hb hg hm ha hdb hst)
end
end VL

set_option Elab.async false
set_option linter.all false
set_option maxRecDepth 100000
set_option maxHeartbeats 2000000
/-! VL56: values of any kind, told by what they are not; lists of them; deep lists. -/
namespace VL
open PySem PySem.Spec PyProof.Rows L2
/-- A's values have the type t -/
def TyA (T : TC) (Ω : List OA) (A : VA) (t : Value) : Prop := ∀ F H v, Holds F Ω H → A.P F v → TyX T.K H v t
/-- A's values are none of the class u -/
def NoC (T : TC) (Ω : List OA) (A : VA) (u : Value) : Prop := ∀ F H v, Holds F Ω H → A.P F v → ∃ t, TyX T.K H v t ∧ PySem.W.kitOne T.K t u = some false
section
variable {T : TC} {Γ : List (Option VA)} {Ω Ω1 Ω2 : List OA} {A B : VA} {u t : Value} {ta tc te : TE}
theorem noC_st {L : List OA} (h : NoC T Ω A u) : NoC T (stt Ω [] L) A u := fun F H v hh a => h F H v (by have := hh.all; rwa [show stt Ω [] [] = Ω from List.append_nil Ω] at this) a
theorem xe_noC {c : V} (ha : XE ta Γ Ω A Ω1) (hb : XE tc Γ Ω1 (vx c) Ω1) (hc : ClsV c u) (h : NoC T Ω1 A u) : XE (tCB (rIsi T.K) (tCons ta (tCons tc tNil))) Γ Ω (va T false) Ω1 := xe_cb (xa_cons ha (xa_cons hb xa_nil)) fun F H vs hh a Q q => by
  obtain ⟨v, w, rfl, a1, a2⟩ := alA2 a
  have a2 : w = c := a2
  subst a2
  obtain ⟨t, h1, h2⟩ := h F H v hh a1
  exact ⟨v, w, t, u, false, rfl, hc, h1, h2, q F _ H (Same.refl F) hh rfl⟩
theorem noC_of (h : TyA T Ω A t) (hk : PySem.W.kitOne T.K t u = some false) : NoC T Ω A u := fun F H v hh a => ⟨t, h F H v hh a, hk⟩
theorem tya_int {i : Int} : TyA T Ω (va T i) (.type "int") := fun _ _ _ hh a => ty_int hh a
theorem tya_bool {b : Bool} : TyA T Ω (va T b) (.type "bool") := fun _ _ _ hh a => ty_bool hh a
theorem tya_str {x : Str} : TyA T Ω (va T x) (.type "str") := fun _ _ _ hh a => ty_str hh a
theorem tya_non : TyA T Ω (va T ()) (.type "NoneType") := fun _ _ v _ a => by
  have a : v = .non := a
  subst a
  exact .base .non
theorem tya_lst {α : Type} [Rp α] {l : List α} : TyA T Ω (va T (LF.mk l)) (.type "list") := fun _ _ _ hh a => ty_lst hh a
theorem tya_pair {α β : Type} [Rp α] [Rp β] {x : α × β} : TyA T Ω (va T x) (.type "tuple") := fun _ _ _ hh a => ty_pair hh a
theorem tya_tup {α : Type} [Rp α] {l : List α} : TyA T Ω (va T (TF.mk l)) (.type "tuple") := fun F H v hh ⟨p, vs, h1, h2, _⟩ => h1 ▸ ty_sqt (Same.tup hh.same h2)
theorem tya_big {x : Bg} (ic : ICls T.K (T.C 1)) : TyA T Ω (va T x) (.ref (T.C 1)) := fun _ _ _ hh a => ty_big ic hh a
theorem tya_mach {p : Addr} {k : Nat} {s : MS} (ic : ICls T.K (T.C 0)) (hk : Ω[k]? = some (machA T p s)) : TyA T Ω (vr p) (.ref (T.C 0)) := fun _ _ _ hh a => ty_mach ic hk hh a
/-! lists of any values -/
def lsA (As : List VA) : VA := ⟨fun F v => ∃ p vs, v = .ref p ∧ F p = some (.lst vs) ∧ AlA F vs As, fun e ⟨p, vs, h1, h2, h3⟩ => ⟨p, vs, h1, e _ _ h2, h3.mono e⟩⟩
theorem tya_ls {As : List VA} : TyA T Ω (lsA As) (.type "list") := fun F H v hh ⟨p, vs, h1, h2, _⟩ => h1 ▸ .base (.lst (hh.same _ _ h2))
theorem xe_lsA {ts : TA} {As : List VA} (h : XA ts Γ Ω As Ω1) (hz : As.length ≤ sizeLine) : XE (tLst ts) Γ Ω (lsA As) Ω1 := fun F σ H e hh Q q =>
  h F σ H e hh _ fun F1 xs H1 e1 hh1 a1 => ⟨by rw [a1.len]; exact hz, fun p hp => by
    obtain ⟨hh2, e2⟩ := hh1.newF (u := .lst xs) hp
    exact q _ _ _ _ (e1.trans e2) hh2 ⟨⟨p, xs, rfl, upd_same, a1.mono e2⟩, rfl⟩⟩
theorem alA_get : ∀ {F : Hp} {vs : List V} {As : List VA} {i : Nat} {A : VA}, AlA F vs As → As[i]? = some A → ∃ v, vs[i]? = some v ∧ A.P F v
  | _, _, _, 0, _, .cons h _, e => by cases e; exact ⟨_, rfl, h⟩
  | _, _, _, i + 1, _, .cons _ t, e => alA_get (i := i) t e
theorem wk_lsA {p : Addr} {vs : List V} {As : List VA} : Wk (Itl T.K p) (fun F => SqL T.K F p vs ∧ AlA F vs As) As (fun A => A) where
  mono := fun F F' e ⟨h1, h2⟩ => ⟨e.seq h1, h2.mono e⟩
  go := fun i F Ω H ⟨h1, h2⟩ hh hi => ⟨vs, vs[i]'(by rw [h2.len]; exact hi), hh.same.seq h1, List.getElem?_eq_getElem _⟩
  stop := fun F Ω H ⟨h1, h2⟩ hh => ⟨vs, hh.same.seq h1, Nat.le_of_eq h2.len⟩
  yld := fun i a F Ω H x H' ⟨h1, h2⟩ hh hx y => by
    obtain ⟨e, y⟩ := y
    subst e
    obtain ⟨v, hv, rv⟩ := alA_get h2 hx
    cases hv.symm.trans (y vs (hh.same.seq h1))
    exact ⟨F, Same.refl F, hh, rv⟩
theorem xi_lsA {As : List VA} (ha : XE te Γ Ω (lsA As) Ω1) : XI (iList T.K te) Γ Ω As (fun A => A) Ω1 := fun F σ H e hh R r => by
  refine ha F σ H e hh _ fun F1 x H1 Ω' e1 hh1 ⟨⟨p, vs, a1, a2, a3⟩, o1⟩ => ?_
  subst o1 a1
  have s1 : SqL T.K F1 p vs := SqL.of a2
  exact ⟨p, rfl, ⟨vs, hh1.same.seq s1⟩, r F1 _ H1 _ e1 hh1 wk_lsA ⟨s1, a3⟩⟩
end
/-- a list of one thing that is not looked at -/
inductive DP where
  | mk
instance : Rp DP := ⟨fun _ F v _ => ∃ p x, v = .ref p ∧ F p = some (.lst [x]), fun e ⟨p, x, h1, h2⟩ => ⟨p, x, h1, e _ _ h2⟩⟩
section
variable {T : TC} {Γ : List (Option VA)} {Ω Ω1 : List OA} {A : VA} {ta : TE}
end
/-- all are done -/
def allN {α β : Type} (b : α → Option β) : List α → Option Unit
  | [] => some ()
  | a :: l => (b a).bind fun _ => allN b l
theorem allN_mem {α β : Type} {b : α → Option β} : ∀ {l : List α} {u : Unit}, allN b l = some u → ∀ a ∈ l, ∃ s, b a = some s
  | [], _, _ => fun a h => nomatch h
  | x :: l, u, h => fun a ha => by
    obtain ⟨s, hs, h⟩ := bnd_some h
    rcases List.mem_cons.mp ha with rfl | ha
    · exact ⟨s, hs⟩
    · exact allN_mem h a ha
theorem allN_of {α β : Type} {b : α → Option β} : ∀ {l : List α}, (∀ a ∈ l, ∃ s, b a = some s) → allN b l = some ()
  | [], _ => rfl
  | x :: l, h => by
    obtain ⟨s, hs⟩ := h x (.head _)
    show (b x).bind _ = _
    rw [hs]
    exact allN_of fun a ha => h a (.tail _ ha)
theorem forM'_nx {α ρ : Type} : ∀ (l : List α), forM' (ρ := ρ) (fun (_ : α) (_ : Unit) => some (Stp.nx ())) l () = some (Stp.nx ())
  | [] => rfl
  | _ :: l => forM'_nx l
theorem allA_nil {P : VA → Prop} : ∀ a ∈ ([] : List VA), P a := fun _ h => nomatch h
theorem allA_cons {P : VA → Prop} {a : VA} {l : List VA} (h : P a) (t : ∀ x ∈ l, P x) : ∀ x ∈ a :: l, P x := fun x hx => by
  rcases List.mem_cons.mp hx with rfl | hx
  · exact h
  · exact t x hx
section
variable {T : TC} {Γ : List (Option VA)} {Ω O : List OA} {D : Ends} {F0 : Hp} {wi : L2.TI} {tb ts : TS} {k : Nat} {As : List VA} {G : List (Option VA)}
/-- what a turn may rely on -/
abbrev Turn (F1 : Hp) (D' : Ends) (G : List (Option VA)) (O : List OA) : Prop := To D' F1 (Stp.nx () : Stp Unit Unit) (fun _ => NX F1 G O) (fun _ => NX F1 G O) (fun _ _ _ _ => False)
/-- an element: of any kind, or an int, a truth, a number -/
def Kin (T : TC) (P : VA → Prop) (QI : Int → Prop) (QB : Bool → Prop) (QG : Bg → Prop) (a : VA) : Prop := P a ∨ (∃ i : Int, a = va T i ∧ QI i) ∨ (∃ b : Bool, a = va T b ∧ QB b) ∨ ∃ x : Bg, a = va T x ∧ QG x
theorem xs_forA {P : VA → Prop} {QI : Int → Prop} {QB : Bool → Prop} {QG : Bg → Prop} (hi : XI wi G Ω As (fun A => A) O) (hall : ∀ a ∈ As, Kin T P QI QB QG a)
    (hA : ∀ A, P A → ∀ F1 D', Same F0 F1 → Turn F1 D' G O → XS tb D' F1 (G.set k (some A)) O) (hI : ∀ i : Int, QI i → ∀ F1 D', Same F0 F1 → Turn F1 D' G O → XS tb D' F1 (G.set k (some (va T i))) O)
    (hB : ∀ b : Bool, QB b → ∀ F1 D', Same F0 F1 → Turn F1 D' G O → XS tb D' F1 (G.set k (some (va T b))) O) (hG : ∀ x : Bg, QG x → ∀ F1 D', Same F0 F1 → Turn F1 D' G O → XS tb D' F1 (G.set k (some (va T x))) O)
    (hn : ∀ σ H, NX F0 G O σ H → D.nx σ H) : XS (tFor wi (gName k) tb) D F0 G Ω :=
  xs_for (bd := fun (_ : VA) (_ : Unit) => some (Stp.nx () : Stp Unit Unit)) (s0 := ()) (st := .nx ()) (f := fun A Γ => Γ.set k (some A)) (fun _ => G) (fun _ => O) (fun _ _ _ _ => False) (forM'_nx As) hi (fun _ => tgt_name)
    (fun a s s' ha hm F1 D' f1 hD => by
      cases Option.some.inj hm
      rcases hall a ha with h | ⟨i, rfl, h⟩ | ⟨b, rfl, h⟩ | ⟨x, rfl, h⟩
      · exact hA a h F1 D' f1 hD
      · exact hI i h F1 D' f1 hD
      · exact hB b h F1 D' f1 hD
      · exact hG x h F1 D' f1 hD) (fun s _ σ H n => hn σ H n) (fun r z => nomatch z)
theorem xs_forAS {P : VA → Prop} {QI : Int → Prop} {QB : Bool → Prop} {QG : Bg → Prop} (hi : XI wi G Ω As (fun A => A) O) (hall : ∀ a ∈ As, Kin T P QI QB QG a)
    (hA : ∀ A, P A → ∀ F1 D', Same F0 F1 → Turn F1 D' G O → XS tb D' F1 (G.set k (some A)) O) (hI : ∀ i : Int, QI i → ∀ F1 D', Same F0 F1 → Turn F1 D' G O → XS tb D' F1 (G.set k (some (va T i))) O)
    (hB : ∀ b : Bool, QB b → ∀ F1 D', Same F0 F1 → Turn F1 D' G O → XS tb D' F1 (G.set k (some (va T b))) O) (hG : ∀ x : Bg, QG x → ∀ F1 D', Same F0 F1 → Turn F1 D' G O → XS tb D' F1 (G.set k (some (va T x))) O)
    (hn : XS ts D F0 G O) : XS (tSeq (tFor wi (gName k) tb) ts) D F0 G Ω := xs_seq (xs_forA hi hall hA hI hB hG hn)
end
end VL

set_option Elab.async false
set_option linter.all false
set_option maxRecDepth 100000
set_option maxHeartbeats 2000000
/-! VL57: which exception, asked in a mirror; a def with several promises; tests known by their first part. -/
namespace VL
open PySem PySem.Spec PyProof.Rows L2
instance : Dat (EN Str) := ⟨fun x => match x with | .ok a => .str a | .no => .none, fun x => match x with | .ok a => (PyData.str a).canLay0 = true | .no => True, 0, fun {T F H v a} e h => by
    cases a with
    | ok a => rw [show v = V.str a from h]; exact .str _
    | no => rw [show v = V.non from h]; exact .non, fun {a} h => by
    cases a with
    | ok a => exact h
    | no => rfl, fun {a} => by
    cases a with
    | ok a => exact Nat.le_refl _
    | no => exact Nat.le_refl _, fun {a b} => by
    cases a <;> cases b
    · exact (Dat.eqv (α := Str)).trans ⟨fun h => by rw [h], fun h => EN.ok.inj h⟩
    · exact ⟨fun h => (Bool.false_ne_true (show false = true from h)).elim, fun h => nomatch h⟩
    · exact ⟨fun h => (Bool.false_ne_true (show false = true from h)).elim, fun h => nomatch h⟩
    · exact ⟨fun _ => rfl, fun _ => rfl⟩⟩
def onC {β : Type} (o : Option XC) (s : XC → Option β) (n : Option β) : Option β := match o with | some r => s r | none => n
theorem onC_s {β : Type} {o : Option XC} {r : XC} {s : XC → Option β} {n : Option β} (h : o = some r) : onC o s n = s r := by rw [h]; rfl
theorem onC_n {β : Type} {o : Option XC} {s : XC → Option β} {n : Option β} (h : o = none) : onC o s n = n := by rw [h]; rfl
/-- the field's text, of an exception of the class c with the field fl -/
def XC.isF (c : Nat) (fl : Str) : XC → Option Str
  | .f k g x => if k = c ∧ g = fl then some x else none
  | .z _ => none
  | .n _ _ _ => none
def XC.isZ (c : Nat) : XC → Bool
  | .f _ _ _ => false
  | .n _ _ _ => false
  | .z k => k == c
theorem isF_some {c : Nat} {fl x : Str} {r : XC} (h : r.isF c fl = some x) : r = .f c fl x := by
  cases r with
  | z k => cases h
  | n k g y => cases h
  | f k g y =>
    unfold XC.isF at h
    by_cases z : k = c ∧ g = fl
    · have h : (if k = c ∧ g = fl then some y else none) = some x := h
      rw [if_pos z] at h
      cases h
      rw [z.1, z.2]
    · have h : (if k = c ∧ g = fl then some y else none) = some x := h
      rw [if_neg z] at h
      cases h
theorem isZ_true {c : Nat} {r : XC} (h : r.isZ c = true) : r = .z c := by
  cases r with
  | f k g y => cases h
  | n k g y => cases h
  | z k => rw [show k = c from beq_iff_eq.mp h]
def onF {β : Type} (o : Option Str) (s : Str → Option β) (n : Option β) : Option β := match o with | some x => s x | none => n
theorem onF_s {β : Type} {o : Option Str} {x : Str} {s : Str → Option β} {n : Option β} (h : o = some x) : onF o s n = s x := by rw [h]; rfl
theorem onF_n {β : Type} {o : Option Str} {s : Str → Option β} {n : Option β} (h : o = none) : onF o s n = n := by rw [h]; rfl
section
variable {T : TC} {Γ : List (Option VA)} {Ω Ω1 Ω2 : List OA} {A : VA} {As : List VA} {t : TA} {tu u : TT} {F0 : Hp} {W : WX} {Pre : PreT} {PreX : PreXX} {E : XK} {r : XC} {sp : Sp}
theorem xr_callU (hs : ∀ vs H Q E, mkSpX PreX vs H Q E → sp vs H Q E) (ha : XA t Γ Ω As Ω1) (hp : PreX As Ω1 (RQ T r Ω1)) (hw : WTC W T r F0 Γ Ω1) : XR (tCallS sp (WE W) t) F0 Γ Ω := fun σ H ⟨F, f0, e, hh⟩ Q =>
  ha F σ H e hh _ fun F1 vs H1 e1 hh1 a1 => hs _ _ _ _ ⟨F1, Ω1, As, _, hp, a1, hh1, fun F' c d H' Ω' e' hh' ⟨h1, h2⟩ => by
    subst h2
    exact hw F' c d σ H' ((f0.trans e1).trans e') (e.mono (e1.trans e')) hh' h1⟩
def tNeverE : TE := fun _ _ _ => False
theorem pe_neverX {X : Cx} {e : Expr} : PE X e tNeverE := ⟨fun _ _ _ _ _ _ h => h.elim⟩
theorem xt_orFst (h1 : XT tu Γ Ω true Ω1) : XT (tOr tu u) Γ Ω true Ω1 := xt_eq (xt_or (b := true) (c := true) h1 (fun z => nomatch z) (fun _ => rfl)) rfl
end
section
variable {P : Program} {w : World} {K : PySem.W.Frag} {mg : Str → Option Value} {base : Heap}
theorem FnOk.or2 {CX : CXT} {k : Nat} {f : Addr} {fd : FuncData} {ps : List Str} {s1 s2 : Sp} (F : FnOk P w K mg base CX k f fd ps s1) (G : FnOk P w K mg base CX k f fd ps s2) : FnOk P w K mg base CX k f fd ps (fun vs H Q E => s1 vs H Q E ∨ s2 vs H Q E) :=
  ⟨fun vs H Q E h => h.elim (F.len vs H Q E) (G.len vs H Q E), fun A outer s H args us vs Q E hr he hb hv hs => hs.elim (fun h => F.run A outer s H args us vs Q E hr he hb hv h) (fun h => G.run A outer s H args us vs Q E hr he hb hv h)⟩
end
section
variable {X : Cx} {body : List Stmt} {g0 : ExceptHandler} {gs : List ExceptHandler} {l : List Cla} {pos : Pos} {tb : WX → TS} {K : PySem.W.Frag}
theorem ps_tryK (hK : X.K = K) (estk : X.stack = X.env :: X.outer) (efr : X.env.frame = some X.env.locals)
    (dbody : ∀ (W : WX) (pn : List (Addr × Obj)) (xe : Value → Shared → Prop), Takes (X.tr pn xe) W → PassesOwn (model X.prog X.w) X.A X.env xe → PSs (X.tr pn xe) body (tb W))
    (dcl : ClOk X (g0 :: gs) l) : PS X (.Try body (g0 :: gs) [] [] pos) (tTryC K l tb (fun _ _ _ _ => False)) := hK ▸ ps_tryC estk efr takesF dbody dcl
end
end VL
namespace VL
open PySem PySem.Spec PyProof.Rows L2
section
variable {X : Cx} {kl : Nat}
/-- x(lambda: ..) -/
theorem pe_callLXl {k : Nat} {x : Str} {ps : List Str} {Pre : PreLX} {c P : Addr} {params : Arguments} {body : Expr} {scope : Scope} {p lpos pos : Pos} {tb : XK → TE} (C : CalLX X.prog X.w X.K X.mg X.base kl k x ps Pre) (hr : Room k X.A) (hg : Gl X x)
    (TB : LamX.TabB X.base X.mg c P) (hcode : X.env.code = .ref c) (L : LamX.LamS X.env.scope scope)
    (hbody : ∀ (E : XK) (A : Around) (outer : List PySem.Env) (s : Shared) (H : Hp) (f c' : Addr), Room kl (A.deeper (LamX.lamEnv X scope s.heap.objs.size f c')) → PE (LamX.lamCx X A outer s H E scope f c') body (tb E))
    (hdef : defaultsOf params X.env = ([], []) := by rfl)
    (hbind : ∀ (q : Str) (cl : List (Str × Addr)) (pm cv ctv : Value), bindArgs (PySem.W.kla_fn "<lambda>" q params body scope cl pm cv ctv) ⟨[], []⟩ = pure [] := by intros; rfl)
    (hdb : (x == ("__debug__" : Str)) = false := by decide) (hst : starEach [.Lambda params body scope lpos] X.env = (false, eval (.Lambda params body scope lpos) X.env) :: starEach [] X.env := by rfl) :
    PE X (.Call (.Name x p) [.Lambda params body scope lpos] [] pos) (tCallLX X kl Pre (tCons (tLamV X ⟨params, body, scope, tb, hbody⟩ P) tNil)) :=
  pe_callLX C hr hg (pa_cons (pe_lamV TB hcode L hbody hdef hbind) pa_nil hst) hdb hst
end
theorem isVal_ok {o : Option PySem.W.CFound} {v : Value} (h : isVal o v = true) : o = some (.val v) := by
  unfold isVal at h
  split at h
  · rw [of_decide_eq_true h]
  · cases h
/-- what the start says of such a class -/
theorem ixB_ok {K : PySem.W.Frag} {C B0 fI : Addr} {f : Str} (h : ixB K C B0 fI f = true) : IxC K C B0 fI f := by
  obtain ⟨h1, h⟩ := Bool.and_eq_true_iff.mp h
  obtain ⟨h2, h⟩ := Bool.and_eq_true_iff.mp h
  obtain ⟨h3, h⟩ := Bool.and_eq_true_iff.mp h
  obtain ⟨h4, h⟩ := Bool.and_eq_true_iff.mp h
  obtain ⟨h5, h⟩ := Bool.and_eq_true_iff.mp h
  obtain ⟨h6, h⟩ := Bool.and_eq_true_iff.mp h
  obtain ⟨h7, h⟩ := Bool.and_eq_true_iff.mp h
  obtain ⟨h8, h⟩ := Bool.and_eq_true_iff.mp h
  obtain ⟨h9, h⟩ := Bool.and_eq_true_iff.mp h
  obtain ⟨h10, h⟩ := Bool.and_eq_true_iff.mp h
  obtain ⟨h11, h⟩ := Bool.and_eq_true_iff.mp h
  obtain ⟨h12, h⟩ := Bool.and_eq_true_iff.mp h
  obtain ⟨h13, h⟩ := Bool.and_eq_true_iff.mp h
  obtain ⟨h14, h⟩ := Bool.and_eq_true_iff.mp h
  obtain ⟨h15, h16⟩ := Bool.and_eq_true_iff.mp h
  exact ⟨h1, h2, h3, of_decide_eq_true h4, of_decide_eq_true h5, of_decide_eq_true h6, of_decide_eq_true h7, of_decide_eq_true h8, of_decide_eq_true h9, h10, h11, of_decide_eq_true h12, of_decide_eq_true h13, h14, isVal_ok h15, h16⟩
end VL

set_option Elab.async false
set_option linter.all false
set_option maxRecDepth 100000
set_option maxHeartbeats 2000000
/-! VL58: a lambda may be called as long as the cells of its frame are kept, whatever runs in between. -/
namespace VL
open PySem PySem.Spec PyProof.Rows L2 LamX
/-- the cells that stood, untracked, stand as they did -/
def Cells (H0 H1 : Hp) (h0 h1 : Heap) : Prop := ∀ (c : Addr) (v : Option Value), H0 c = none → h0.IsCell c v → h1.IsCell c v ∧ H1 c = none
theorem Cells.trans {H0 H1 H2 : Hp} {h0 h1 h2 : Heap} (a : Cells H0 H1 h0 h1) (b : Cells H1 H2 h1 h2) : Cells H0 H2 h0 h2 := fun c v n i => let ⟨i1, n1⟩ := a c v n i; b c v n1 i1
theorem cells_un {fs ex : List Addr} {H H' : Hp} {h h' : Heap} (u : Un fs ex H H' h h') (he : ∀ b ∈ ex, ∀ v, ¬ h.IsCell b v) : Cells H H' h h' := fun c v n ⟨o, ho, hd⟩ => by
  have nx : c ∉ ex := fun z => he c z v ⟨o, ho, hd⟩
  obtain ⟨sl, q⟩ := u.any ho n nx
  exact ⟨⟨_, q, hd⟩, u.free c o ho n nx⟩
section
variable {X : Cx} {pins : List (Addr × Obj)} {σ : L2.St} {H0 HZ : Hp} {s0 s1 : Shared}
/-- the body's start -/
theorem lam_startK {A : Around} {outer : List PySem.Env} {E : XK} {scope : Scope} {f c' : Addr} {hF : Heap} {tk : Nat} {binds : List (Str × Value)} (I : Inv X pins σ H0 s0) (hk : scope.kind = .function) (hown : ∀ y ∈ scope.names, y.2 ≠ .cell ∧ (y.2 = .local → y.1 ∉ X.N))
    (hfree : ∀ y ∈ scope.names, y.2 = .free → X.env.scope.names.lookup y.1 = some .cell ∨ X.env.scope.names.lookup y.1 = some .free) (e0 : Env0 X.prog X.w X.K X.mg X.base A outer s1 HZ) (hd : A.handled = none)
    (kc : Cells H0 HZ s0.heap s1.heap) (hns : hF.Ns s1.heap.objs.size fun y => binds.reverse.lookup y) (kp : ∀ b o, s1.heap.get? b = some o → hF.get? b = some o) :
    Inv (lamCx X A outer s1 HZ E scope f c') [] σ HZ { s1 with heap := hF, toks := tk } := by
  have has : ∀ y ∈ scope.names, y.2 = .free → ∃ c, X.env.cells.lookup y.1 = some c := fun y hy e => (hfree y hy e).elim (fun k => I.ok.has _ (.inl k)) fun k => I.ok.has _ (.inr k)
  have up : ∀ {y c}, (cloFrom X.env.cells scope.names []).lookup y = some c → X.env.cells.lookup y = some c := fun {y c} e => by
    rcases cloFrom_mem (PySem.mem_of_lookup e) with q | ⟨q1, q2⟩
    · exact nomatch q
    · obtain ⟨c1, hc⟩ := has _ q1 rfl
      have hc : X.env.cells.lookup y = some c1 := hc
      rw [hc] at q2
      rw [hc, q2]; rfl
  have down : ∀ {y}, scope.names.lookup y = some .free → ∃ c, (cloFrom X.env.cells scope.names []).lookup y = some c := fun {y} q => mem_lookup (cloFrom_has (cells := X.env.cells) (acc := []) (PySem.mem_of_lookup q))
  have stay : ∀ {c : Addr} {v : Option Value}, H0 c = none → s0.heap.IsCell c v → hF.IsCell c v := fun n i => let ⟨⟨o, ho, hd⟩, _⟩ := kc _ _ n i; ⟨o, kp _ _ ho, hd⟩
  have noex : ∀ b : Addr, b ∉ (lamCx X A outer s1 HZ E scope f c').ex := fun b z => nomatch (show b ∈ ([] : List Addr) from z)
  constructor
  case ok =>
    constructor
    case mod => exact e0.mod
    case kind => exact hk
    case glob => rfl
    case blt => rfl
    case above => exact Nat.le_refl _
    case inj => exact fun y z c q1 q2 => I.ok.inj y z c (up q1) (up q2)
    case has =>
      intro y hy
      rcases (show scope.names.lookup y = some .cell ∨ scope.names.lookup y = some .free from hy) with q | q
      · exact absurd rfl (hown _ (PySem.mem_of_lookup q)).1
      · exact down q
    case cab => exact fun y c z _ => nomatch (show false = true from z)
    case hd => exact fun _ => hd
    case frames => exact Around.frames_deeper e0.frames
    case stk => exact .inr ⟨rfl, rfl⟩
    case exf => exact fun b z => absurd z (noex b)
    case bs => exact e0.bs
    case bsz => exact e0.bsz
    case noex => exact fun b _ _ => noex b
    case exfs => exact fun b z => absurd z (noex b)
    case funs => exact e0.funs
    case frf => exact e0.frf
  case os => rfl
  case bare => exact e0.bare
  case base => exact Un.kept kp
  case loc =>
    refine ⟨_, hns, fun i y v q1 q2 q3 => ?_⟩
    rcases (show Vis scope y from q3) with k | k | k
    · exact absurd (List.mem_of_getElem? (show X.N[i]? = some y from q1)) ((hown _ (PySem.mem_of_lookup k)).2 rfl)
    · exact absurd rfl (hown _ (PySem.mem_of_lookup k)).1
    · obtain ⟨m, hn, hl⟩ := I.loc
      have vis : Vis X.env.scope y := (hfree _ (PySem.mem_of_lookup k) rfl).elim (fun k => .inr (.inl k)) fun k => .inr (.inr k)
      obtain ⟨u, rv, q⟩ := hl i y v q1 q2 vis
      obtain ⟨c2, q4⟩ := down k
      refine ⟨u, rv, .inr ⟨.inr k, c2, q4, ?_⟩⟩
      rcases q with ⟨kl, _⟩ | ⟨_, c3, q5, ic⟩
      · rcases hfree _ (PySem.mem_of_lookup k) rfl with z | z <;> cases (show X.env.scope.names.lookup y = some .local from kl).symm.trans z
      · cases (up q4).symm.trans q5
        exact stay (I.freeC y _ q5) ic
  case cell => exact fun y c e => let ⟨v, ic⟩ := I.cell y c (up e); ⟨v, stay (I.freeC y c (up e)) ic⟩
  case free => exact e0.hok.fresh (Nat.le_refl _)
  case freeC => exact fun y c e => let ⟨v, ic⟩ := I.cell y c (up e); (kc c v (I.freeC y c (up e)) ic).2
  case pin => exact fun q hq => nomatch (show q ∈ ([] : List (Addr × Obj)) ++ [] from hq)
  case hok => exact e0.hok.kept kp
  case len => exact I.len
end
/-- f may be called in any later state that keeps the cells -/
def CanCall (P : Program) (w : World) (K : PySem.W.Frag) (mg : Str → Option Value) (base : Heap) (k : Nat) (H0 : Hp) (h0 : Heap) (f : Addr) (act : XK → Hp → VK → Prop) : Prop :=
  ∀ (A : Around) (outer : List PySem.Env) (s1 : Shared) (H1 : Hp) (E : XK) (Q : VK), Room (k + 1) A → Env0 P w K mg base A outer s1 H1 → Cells H0 H1 h0 s1.heap → act E H1 Q →
    (∃ e1 e2 e3 e4, s1.heap.get? f = some ⟨e1, e2, .func e3, e4⟩) ∧ codeAny (model P w) A (.call (.ref f) ⟨[], []⟩) (CR (L2.CX P w) outer P w H1 s1 Q E) s1
theorem CanCall.later {P : Program} {w : World} {K : PySem.W.Frag} {mg : Str → Option Value} {base : Heap} {k : Nat} {H0 H1 : Hp} {h0 h1 : Heap} {f : Addr} {act : XK → Hp → VK → Prop} (c : CanCall P w K mg base k H0 h0 f act) (kc : Cells H0 H1 h0 h1) : CanCall P w K mg base k H1 h1 f act :=
  fun A outer s1 H E Q hr e0 k2 ha => c A outer s1 H E Q hr e0 (kc.trans k2) ha
section
variable {X : Cx} {pins : List (Addr × Obj)} {σ : L2.St} {H : Hp} {s : Shared}
theorem can_lam {kl : Nat} (Lm : LamPk X kl) {c' f : Addr} (I : Inv X pins σ H s) : CanCall X.prog X.w X.K X.mg X.base kl H s.heap f (Lm.act c' f σ) := fun A outer s1 H1 E Q hr e0 kc ha => by
  obtain ⟨⟨hlam, hc⟩, ht⟩ := ha
  obtain ⟨⟨oc, cvs, ct, hoc, hdc, hvc⟩, _, _⟩ := e0.hok c' _ hc
  have lim : s1.heap.NoLimit := e0.mod.nolimit.keeps fun b o e => (e0.bs b o e).1
  cases hlam with
  | plain h L hb =>
    have of1 := lamO_at e0.hok h
    refine ⟨⟨_, _, _, _, of1⟩, PySem.W.kla_callFunE hr.depth of1 rfl L.co L.gen rfl ⟨c', oc, cvs, ct, rfl, hoc, hdc, hvc⟩ ?_⟩
    rw [hb]
    refine wpAny_pure (wpAny_newFunctionEnv (fun y hy => (L.own y hy).2) (fun y hy => nomatch hy) (fun hF hns hsb => ⟨lim.fresh _ hsb, ?_⟩) L.kind)
    show codeAny _ _ (.expr Lm.body (lamEnv X Lm.scope s1.heap.objs.size f c')) _ _
    have kp : ∀ b o, s1.heap.get? b = some o → hF.get? b = some o := fun b o q => hsb.extBut b o (Nat.ne_of_lt (Heap.lt_size q)) (Heap.get?_push_of_some _ q)
    have J := lam_startK (A := A) (outer := outer) (E := E) (f := f) (c' := c') (tk := s1.toks + ([] : List (Str × Value)).length) I L.kind (fun y hy => ⟨(L.own y hy).2, fun e => absurd e (L.own y hy).1⟩) L.free e0 hr.hd kc hns kp
    refine PySem.W.kla_codeExpr (wpAny_mono ((Lm.hbody _ _ _ s1 H1 f c' (hr.deeper _)).run [] _ _ H1 Q J ht) (fun v s' hq => ?_) fun e s' hq => hq)
    obtain ⟨w', H', J', rv, q⟩ := hq
    exact ⟨w', H', J'.os, J'.bare, J'.base, J'.hok, rv, q⟩
  | @dflt nm T0 doc pm ctv iv t h hT L hb =>
    have of1 := lamO_at e0.hok h
    refine ⟨⟨_, _, _, _, of1⟩, PySem.W.kla_callFunE hr.depth of1 rfl L.co L.gen rfl ⟨c', oc, cvs, ct, rfl, hoc, hdc, hvc⟩ ?_⟩
    refine hb _ _ _ _ _ _ _ _ s1 (lamO_at e0.hok hT) _ _ _ _ ?_
    refine wpAny_newFunctionEnv (fun y hy => (L.own y hy).1) (fun y hy => List.mem_singleton.mp hy ▸ L.par) (fun hF hns hsb => ⟨lim.fresh _ hsb, ?_⟩) L.kind
    show codeAny _ _ (.expr Lm.body (lamEnv X Lm.scope s1.heap.objs.size f c')) _ _
    have kp : ∀ b o, s1.heap.get? b = some o → hF.get? b = some o := fun b o q => hsb.extBut b o (Nat.ne_of_lt (Heap.lt_size q)) (Heap.get?_push_of_some _ q)
    have J := lam_startK (A := A) (outer := outer) (E := E) (f := f) (c' := c') (tk := s1.toks + ([(nm, .int iv t)] : List (Str × Value)).length) I L.kind L.own L.free e0 hr.hd kc hns kp
    refine PySem.W.kla_codeExpr (wpAny_mono ((Lm.hbody _ _ _ s1 H1 f c' (hr.deeper _)).run [] _ _ H1 Q J ht) (fun v s' hq => ?_) fun e s' hq => hq)
    obtain ⟨w', H', J', rv, q⟩ := hq
    exact ⟨w', H', J'.os, J'.bare, J'.base, J'.hok, rv, q⟩
end
/-- a name that holds such a lambda is called, in a def entered behind -/
theorem actHX_of {P : Program} {w : World} {K : PySem.W.Frag} {mg : Str → Option Value} {base : Heap} {k : Nat} {A : Around} {outer : List PySem.Env} {s : Shared} {H : Hp} {f : Addr} {act : XK → Hp → VK → Prop} (c : CanCall P w K mg base k H s.heap f act) : ActHX P w K mg base k A outer s H f act :=
  fun Ng qg sg g cdg i a p1 p2 pn xe W hr hN hv hd hcd tk => by
  refine ⟨fun pinsZ sZ σZ HZ Q IZ hz => ?_⟩
  obtain ⟨hs, ht⟩ := hz
  refine wpAny_Call_Name_kw (thn ((pe_var (pos := p1) (i := i) hN hv hd hcd).run pinsZ sZ σZ HZ (fun v H1 => v = .ref f ∧ H1 = HZ) IZ ⟨.ref f, hs, rfl, rfl⟩) fun u s1 hu => ?_)
  obtain ⟨_, H1, I1, r1, ev, eH⟩ := hu
  subst ev
  subst eH
  obtain rfl : u = Value.ref f := r1
  have un : Un (frs outer) [] H H1 s.heap s1.heap := I1.base
  have rc := c _ _ s1 H1 _ Q hr I1.env0 (cells_un un fun b hb => nomatch hb) ht
  refine PySem.W.callWith_F0 rc.1 (wpAny_call (codeAny_mono rc.2 fun r s' hq => ?_))
  cases r with
  | error e => exact passAt tk σZ pinsZ H1 s1 e s' I1 hq
  | ok fl =>
    cases fl with
    | ret u => exact I1.after hq
    | next => exact hq.elim
    | brk => exact hq.elim
    | cont => exact hq.elim
end VL

set_option Elab.async false
set_option linter.all false
set_option maxRecDepth 100000
set_option maxHeartbeats 2000000
/-! VL59: a list comprehension whose parts may rely on the state of the frame at its start: a lambda of that frame is called in it. -/
namespace VL
open PySem PySem.Spec PyProof.Rows L2 LamX
/-- where the block starts: the frame at s, the iterator's own objects at fp -/
def BlkAt (X : Cx) (σ : L2.St) (s : Shared) (H : Hp) (fp : List Addr) : Prop := (∃ pins, Inv X pins σ H s) ∧ ∀ b ∈ fp, ∀ v, ¬ s.heap.IsCell b v
/-- an expression at slots that agree with σ but for vs -/
def PEr (X : Cx) (vs : List Nat) (σ : L2.St) (e : Expr) (t : TE) : Prop := ∀ (pins : List (Addr × Obj)) (s : Shared) (τ : L2.St) (H : Hp) (Q : VK), wipe τ vs = wipe σ vs → Inv X pins τ H s → t τ H Q → wpAny (model X.prog X.w) X.A (eval e X.env) (EP X pins τ Q) X.xe s
def PTr (X : Cx) (vs : List Nat) (σ : L2.St) (ifs : List Expr) (t : TT) : Prop := ∀ (pins : List (Addr × Obj)) (s : Shared) (τ : L2.St) (H : Hp) (Q : Bool → Hp → Prop), wipe τ vs = wipe σ vs → Inv X pins τ H s → t τ H Q →
  wpAny (model X.prog X.w) X.A (forIn ifs true fun c r => if r = true then do let ok ← isTrue c X.env (eval c X.env); pure (ForInStep.yield ok) else pure (ForInStep.yield r)) (TP X pins τ Q) X.xe s
theorem PTr.of {X : Cx} {vs : List Nat} {σ : L2.St} {ifs : List Expr} {t : TT} (h : PTs X ifs t) : PTr X vs σ ifs t := fun pins s τ H Q _ I ht => h.run pins s τ H Q I ht
theorem PEr.of {X : Cx} {vs : List Nat} {σ : L2.St} {e : Expr} {t : TE} (h : PE X e t) : PEr X vs σ e t := fun pins s τ H Q _ I ht => h.run pins s τ H Q I ht
section
variable {X : Cx}
theorem lc_frame {pins : List (Addr × Obj)} {s : Shared} {σ : L2.St} {H : Hp} {Q : VK} {elt tg iter : Expr} {ifs : List Expr} {scope : Scope} {own : List (Str × Nat)} {pos pos' : Pos} {wi : L2.TI} {g : TG} {tt : TT} {te : TE} {use : Option (Value → Sem Unit)} {Qf : Value → Shared → Prop}
    (calm : X.calm = true) (nd : X.N.Nodup) (I0 : Inv X pins σ H s) (dit : PI X tg iter wi) (okb : BlkOk X.N X.env.scope scope own)
    (dg : ∀ (s : Shared) (H : Hp) (C : Addr) (cl : List (Str × Addr)) (fp : List Addr), PG (X.blk s H scope (compEnvC scope cl C X.env) fp) tg g)
    (dt : ∀ (s : Shared) (H : Hp) (C : Addr) (cl : List (Str × Addr)) (fp : List Addr), BlkAt X σ s H fp → PTr (X.blk s H scope (compEnvC scope cl C X.env) fp) (own.map (·.2)) σ ifs tt)
    (de : ∀ (s : Shared) (H : Hp) (C : Addr) (cl : List (Str × Addr)) (fp : List Addr), BlkAt X σ s H fp → PEr (X.blk s H scope (compEnvC scope cl C X.env) fp) (own.map (·.2)) σ elt te) (nf : ∀ x, foldedSetIterable iter X.env x = pure x)
    (hw : tLc wi g tt te (own.map (·.2)) σ H Q)
    (back : ∀ D C s' m H', Inv X pins σ H' s' → Q (.ref D) H' → s'.heap.Ns C m → FpOk X pins H' C → compPost (model X.prog X.w) X.A X.xe use Qf (.ref D) C (.ok .next) s') :
    wpAny (model X.prog X.w) X.A (comprehension (.ListComp elt [⟨tg, iter, ifs, 0⟩] scope pos) scope X.env pos' (newList []) false (eval iter X.env) use) Qf X.xe s := by
  have clo : ∀ y ∈ scope.names, y.2 = .free → ∃ c, X.env.cells.lookup y.1 = some c := fun y hy e => (okb.free y hy e).elim (fun k => I0.ok.has _ (.inl k)) fun k => I0.ok.has _ (.inr k)
  refine wpAny_comprehension_free (use := use) rfl nf (closure_ok clo) okb.kind (fun y hy e => by rw [okb.uniq y hy, e]) (thn (dit.run pins s σ H _ I0 hw) fun vx s1 q1 => thn q1 fun vi s2 q2 => ?_)
  obtain ⟨it, fp, tn, J, H2, e2, J2, Tn, now2, fp2, hq⟩ := q2
  subst e2
  refine wpAny_newObj_type (newEnv_comp ?_) (by show 0 ≤ sizeLine; decide)
  generalize hDe : s2.heap.objs.size = D
  have freshD : H2 D = none := J2.hok.fresh (Nat.le_of_eq hDe)
  obtain ⟨Wd, ⟨m0, start⟩, turn⟩ := hq D freshD
  generalize hS : ({ s2 with heap := s2.heap.push { cls := .type "list", data := .seq ([] : List Value).toArray } } : Shared) = s3
  have heapS : s3.heap = s2.heap.push { cls := .type "list", data := .seq ([] : List Value).toArray } := by rw [← hS]
  have J3 : Inv X pins σ (upd H2 D (.lst [])) s3 := hS ▸ J2.laid (t' := s2.toks) (fun b o q => Heap.get?_push_of_some _ q) (Nat.le_of_eq hDe) ⟨Nat.zero_le _, [], 0, .nil, hDe ▸ Heap.get?_push_size _ rfl⟩
  have below : ∀ b ∈ fp, b < s2.heap.objs.size := fun b hb => let ⟨_, q, _⟩ := Tn.obj _ _ now2 b hb; Heap.lt_size q
  have fp3 : ∀ b ∈ fp, FpOk X pins (upd H2 D (.lst [])) b ∧ b < s3.heap.objs.size := fun b hb =>
    ⟨⟨(upd_ne (hDe ▸ Nat.ne_of_lt (below b hb))).trans (fp2 b hb).1, (fp2 b hb).2⟩, by rw [heapS, Heap.size_push]; exact Nat.lt_succ_of_lt (below b hb)⟩
  have now3 : tn 0 s3.heap := Tn.keep _ _ _ now2 fun b _ o q => heapS ▸ Heap.get?_push_of_some _ q
  have at3 : BlkAt X σ s3 (upd H2 D (.lst [])) fp := ⟨⟨pins, J3⟩, fun b hb v ⟨o, ho, hd⟩ => by
    obtain ⟨o', ho', hn⟩ := Tn.obj _ _ now3 b hb
    cases ho.symm.trans ho'
    exact hn v hd⟩
  have J4 := block_start J3 okb nd fp3
  have ig := dg s3 (upd H2 D (.lst [])) s3.heap.objs.size (cellsFrom (s3.heap.objs.size + 1) scope.names (cloFrom X.env.cells scope.names [])) fp
  have itt := dt s3 (upd H2 D (.lst [])) s3.heap.objs.size (cellsFrom (s3.heap.objs.size + 1) scope.names (cloFrom X.env.cells scope.names [])) fp at3
  have ie := de s3 (upd H2 D (.lst [])) s3.heap.objs.size (cellsFrom (s3.heap.objs.size + 1) scope.names (cloFrom X.env.cells scope.names [])) fp at3
  show codeAny _ _ (.compStart (.ListComp elt [⟨tg, iter, ifs, 0⟩] scope pos) 0 (.ref it) (.ref D) (compEnvC scope (cellsFrom (s3.heap.objs.size + 1) scope.names (cloFrom X.env.cells scope.names [])) s3.heap.objs.size X.env))
    (compPost (model X.prog X.w) X.A X.xe use Qf (.ref D) s3.heap.objs.size) { s3 with heap := pushCells (s3.heap.push { cls := .type "dict", data := .dict #[] }) scope.names }
  have out3 : ∀ b ∈ fp, (upd H2 D (.lst [])) b = none := fun b hb => (fp3 b hb).1.1
  generalize hEnv : compEnvC scope (cellsFrom (s3.heap.objs.size + 1) scope.names (cloFrom X.env.cells scope.names [])) s3.heap.objs.size X.env = en at J4 ig itt ie ⊢
  have locE : en.locals = s3.heap.objs.size := hEnv ▸ rfl
  generalize hHm : upd H2 D (.lst []) = H3 at J3 J4 ig itt ie start out3 fp3
  generalize hS4 : ({ s3 with heap := pushCells (s3.heap.push { cls := .type "dict", data := .dict #[] }) scope.names } : Shared) = s4 at J4 ⊢
  have now4 : tn 0 s4.heap := Tn.keep _ _ _ now3 fun b _ o q => hS4 ▸ pushCells_keeps _ _ _ _ (Heap.get?_push_of_some _ q)
  have static : ∀ {τ : L2.St} {H' : Hp} {s' : Shared}, Inv (X.blk s3 H3 scope en fp) [] τ H' s' → (∀ b ∈ fp, H' b = none) → ∀ b ∈ fp, FpOk (X.blk s3 H3 scope en fp) [] H' b := fun {τ H' s'} J' hn b hb =>
    ⟨hn b hb, (J'.ok.exf b hb).1, J'.ok.exfs b hb, .inl hb, fun x c q => (J'.ok.exf b hb).2 x c q, fun p hp => nomatch (show p ∈ ([] : List (Addr × Obj)) ++ [] from hp)⟩
  suffices loop : codeAny (model X.prog X.w) X.A (.compLoop (.ListComp elt [⟨tg, iter, ifs, 0⟩] scope pos) 0 (.ref it) (.ref D) en) (compPost (model X.prog X.w) X.A X.xe use Qf (.ref D) s3.heap.objs.size) s4 from codeAny_compStart_list loop (Tn.self X.A 0 _ _ _ now4 loop)
  refine compLoop_any (fun n s' => ∃ i H', Inv (X.blk s3 H3 scope en fp) [] (wipe σ (own.map (·.2))) H' s' ∧ tn i s'.heap ∧ (∀ b ∈ fp, H' b = none) ∧ Wd i n H') (fun n s5 hinv => ?_) m0 ⟨0, H3, J4, now4, out3, start⟩
  obtain ⟨i, H5, J5, now5, out5, w5⟩ := hinv
  rcases turn i n H5 w5 with ⟨stop, fin⟩ | ⟨go, Nx, nxt', step⟩
  · refine thnF (Tn.done (X.blk s3 H3 scope en fp) rfl rfl rfl calm i [] s5 _ H5 (fun _ _ => False) J5 (static J5 out5) now5 stop) fun r s6 hr6 => ?_
    obtain ⟨hr, J6⟩ := hr6
    subst hr
    have J7 : Inv X pins σ H5 s6 := J3.call' (ch := fp) J6.os J6.base J6.hok J6.bare fun b hb => let z := (fp3 b hb).1; ⟨z.2.2.2.1, z.2.1, z.2.2.2.2.1, z.2.2.2.2.2⟩
    have outC : H5 s3.heap.objs.size = none := locE ▸ (show H5 en.locals = none from J6.free)
    obtain ⟨m, nsC, _⟩ := J6.loc
    have nsC : s6.heap.Ns s3.heap.objs.size m := locE ▸ (show s6.heap.Ns en.locals m from nsC)
    exact back D s3.heap.objs.size s6 m H5 J7 fin nsC (J3.fpOk (Nat.le_refl _) outC)
  · refine thnF (Tn.item (X.blk s3 H3 scope en fp) rfl rfl rfl calm i [] s5 _ H5 (fun _ _ => False) J5 (static J5 out5) now5 go) fun r s6 hr6 => ?_
    obtain ⟨u, hr, q6⟩ := hr6
    subst hr
    refine thnF q6 fun _ s7 h7 => ?_
    obtain ⟨x, H7, J7, rx, yx, now7, out7⟩ := h7
    refine thnF (ig.run _ s7 _ H7 x u _ (J7.pinned (static J7 out7) (Tn.obj _ _ now7)) rx (step x H7 yx)) fun _ s8 h8 => ?_
    obtain ⟨τ, H8, J8, same8, q8⟩ := h8
    refine thnF (itt _ s8 τ H8 _ same8 J8 q8) fun b s9 h9 => ?_
    obtain ⟨H9, J9, q9⟩ := h9
    have fin : ∀ {s' : Shared} {H' : Hp}, Inv (X.blk s3 H3 scope en fp) ([] ++ pinsAt fp s7.heap) τ H' s' → Nx H' → ∃ m, m < n ∧ ∃ i H', Inv (X.blk s3 H3 scope en fp) [] (wipe σ (own.map (·.2))) H' s' ∧ tn i s'.heap ∧ (∀ b ∈ fp, H' b = none) ∧ Wd i m H' := fun {s' H'} J' nx => by
      obtain ⟨m', lt', w'⟩ := nxt' H' nx
      have held : ∀ b ∈ fp, ∀ o, s7.heap.get? b = some o → s'.heap.get? b = some o ∧ H' b = none := fun b hb o q =>
        let z := J'.pin (b, o) (List.mem_append_right _ (List.mem_append_right _ (mem_pinsAt hb q))); ⟨z.1, z.2.1⟩
      refine ⟨m', lt', i + 1, H', (J'.unpinned (pins := [])).weak (by rw [← same8, wipe_length]) (fun j v q => (wipe_some (same8 ▸ q)).1), Tn.keep _ _ _ now7 fun b hb o q => (held b hb o q).1, fun b hb => ?_, w'⟩
      obtain ⟨o, q, _⟩ := Tn.obj _ _ now7 b hb
      exact (held b hb o q).2
    cases b with
    | false =>
      rw [if_neg Bool.false_ne_true] at q9
      simp only [Bool.false_eq_true, if_false]
      exact fin J9 q9
    | true =>
      rw [if_pos rfl] at q9
      simp only [if_true]
      refine thnF (ie _ s9 τ H9 _ same8 J9 q9) fun z s10 h10 => ?_
      obtain ⟨yv, H10, J10, r10, acc, hD10, hz10, nx⟩ := h10
      exact app_ok (X := X.blk s3 H3 scope en fp) J10 hD10 hz10 r10 fun s11 J11 => fin J11 nx
theorem pe_lcF {elt tg iter : Expr} {ifs : List Expr} {scope : Scope} {own : List (Str × Nat)} {pos : Pos} {wi : L2.TI} {g : TG} {tt : TT} {te : TE} (calm : X.calm = true) (nd : X.N.Nodup) (dit : PI X tg iter wi) (okb : BlkOk X.N X.env.scope scope own)
    (dg : ∀ (s : Shared) (H : Hp) (C : Addr) (cl : List (Str × Addr)) (fp : List Addr), PG (X.blk s H scope (compEnvC scope cl C X.env) fp) tg g)
    (dt : ∀ (σ : L2.St) (s : Shared) (H : Hp) (C : Addr) (cl : List (Str × Addr)) (fp : List Addr), BlkAt X σ s H fp → PTr (X.blk s H scope (compEnvC scope cl C X.env) fp) (own.map (·.2)) σ ifs tt)
    (de : ∀ (σ : L2.St) (s : Shared) (H : Hp) (C : Addr) (cl : List (Str × Addr)) (fp : List Addr), BlkAt X σ s H fp → PEr (X.blk s H scope (compEnvC scope cl C X.env) fp) (own.map (·.2)) σ elt te)
    (nf : ∀ x, foldedSetIterable iter X.env x = pure x := by intro _; rfl) : PE X (.ListComp elt [⟨tg, iter, ifs, 0⟩] scope pos) (tLc wi g tt te (own.map (·.2))) := by
  refine ⟨fun pins s σ H Q I h => ?_⟩
  rw [eval_ListComp]
  refine lc_frame calm nd I dit okb dg (dt σ) (de σ) nf h fun D C s' m H' I' q hn f => ⟨m, hn, fun h'' sb => ?_⟩
  obtain ⟨f0, f1, f2, f3, f4, f5⟩ := f
  exact ⟨.ref D, H', I'.turned (t' := s'.toks) (fun b o hb e => (sb.2 b hb).trans e) f0 f1 f3 f4 f5, rfl, q⟩
end
/-- f(x) in a block: x's value a lambda of the frame ahead -/
def tCallBX (X : Cx) (kl : Nat) (vs : List Nat) (Pre : PreLX) (i : Nat) : TE := fun τ H Q => ∃ (Lm : LamPk X kl) (f c' : Addr), τ[i]? = some (some (.ref f)) ∧ Lm.at c' f H ∧ mkSp (Pre f (Lm.act c' f (wipe τ vs))) [.ref f] H Q E0
section
variable {X : Cx}
theorem per_callBX {k kl : Nat} {x a : Str} {i : Nat} {ps : List Str} {Pre : PreLX} {p q pos : Pos} {s : Shared} {H : Hp} {scope : Scope} {cl : List (Str × Addr)} {C : Addr} {fp : List Addr} {own : List (Str × Nat)} {σ : L2.St} (CL : CalLX X.prog X.w X.K X.mg X.base kl k x ps Pre) (hr : Room k X.A) (hat : BlkAt X σ s H fp)
    (hg : Gl (X.blk s H scope (compEnvC scope cl C X.env) fp) x) (hN : X.N[i]? = some a) (hv : Vis (compEnvC scope cl C X.env).scope a) (hda : (a == ("__debug__" : Str)) = false := by decide) (hcd : (a == ("__classdict__" : Str)) = false := by decide) (hdb : (x == ("__debug__" : Str)) = false := by decide)
    (hst : starEach [.Name a q] (compEnvC scope cl C X.env) = (false, eval (.Name a q) (compEnvC scope cl C X.env)) :: starEach [] (compEnvC scope cl C X.env) := by rfl) :
    PEr (X.blk s H scope (compEnvC scope cl C X.env) fp) (own.map (·.2)) σ (.Call (.Name x p) [.Name a q] [] pos) (tCallBX X kl (own.map (·.2)) Pre i) := by
  obtain ⟨g, fd, hm, hk, hb, hlen, hrun⟩ := CL.ex
  intro pins s5 τ H5 Q same I5 ⟨Lm, f, c', hi, hlat, sp⟩
  refine wpAny_Call_Name_kw (ld_glob I5 hg hm ?_ hdb)
  have ha : PA (X.blk s H scope (compEnvC scope cl C X.env) fp) [.Name a q] (tCons (tVar i) tNil) := pa_cons (pe_var hN hv hda hcd) pa_nil hst
  refine PySem.W.callWith_K (h₀ := X.base) I5.ok.mod.kin hk (thn (ha.run pos pins s5 τ H5 (fun vs H1 => vs = [.ref f] ∧ H1 = H5) I5 ⟨.ref f, hi, rfl, rfl⟩) fun us s6 hq => ?_) hst (by rfl)
  obtain ⟨vs, H6, I6, r6, ev, eH⟩ := hq
  subst ev
  subst eH
  refine ⟨I6.kIn, ?_⟩
  obtain ⟨v, rfl, rv⟩ : ∃ v, us = [v] ∧ RelV (.ref f) v := by
    cases r6 with
    | cons h t => cases t; exact ⟨_, rfl, h⟩
  obtain ⟨⟨pins0, I0⟩, nocell⟩ := hat
  have I0' : Inv X pins0 (wipe τ (own.map (·.2))) H s := I0.weak (by rw [same, wipe_length]) fun j v e => (wipe_some (same ▸ e)).1
  have kc : Cells H H6 s.heap s6.heap := cells_un (show Un (frs X.stack) fp H H6 s.heap s6.heap from I6.base) nocell
  have can := (can_lam (c' := c') (f := f) Lm I0').later kc
  have rc : codeAny (model X.prog X.w) X.A (.call (.ref g) ⟨[v], []⟩) (CR CX0 X.stack X.prog X.w H6 s6 Q E0) s6 := by
    have hls : ps.length = 1 := by
      obtain ⟨F0, Ω, As, R, hp, ha, _⟩ := sp
      rw [← hlen _ _ _ _ _ hp, ← ha.len]; rfl
    refine hrun X.A X.stack s6 H6 [v] [.ref f] Q f _ hr I6.env0 ?_ (.cons rv .nil) (actHX_of can) sp
    have := hb s6 [v] I6.kIn (by rw [hls]; rfl)
    rwa [List.append_nil] at this
  refine wpAny_call (codeAny_mono rc fun r s2 hq => ?_)
  cases r with
  | error e => exact (show False from hq).elim
  | ok fl =>
    cases fl with
    | ret u => exact I6.after hq
    | next => exact hq.elim
    | brk => exact hq.elim
    | cont => exact hq.elim
end
end VL

set_option Elab.async false
set_option linter.all false
set_option maxRecDepth 100000
set_option maxHeartbeats 2000000
/-! VL60: a lambda with a default as a value; lists of lambdas, walked by a comprehension that tries each. -/
namespace VL
open PySem PySem.Spec PyProof.Rows L2 LamX
section
variable {X : Cx} {kl : Nat}
end
/-! lists of any values: joined -/
section
variable {T : TC} {Γ : List (Option VA)} {Ω Ω1 Ω2 Ω0 Ω' : List OA} {A B : VA} {u : Value} {ta tb te : TE} {As Bs : List VA} {D : Ends} {F0 : Hp}
theorem xe_catA (ha : XE ta Γ Ω (lsA As) Ω1) (hb : XE tb Γ Ω1 (lsA Bs) Ω2) (hz : As.length + Bs.length ≤ sizeLine) : XE (tOp rAddQ ta tb) Γ Ω (lsA (As ++ Bs)) Ω2 := xe_op ha hb (ro_or2 fun F H x y hh a1 a2 Q q => by
  obtain ⟨p, vs, rfl, hp, al⟩ := a1
  obtain ⟨p2, vs2, rfl, hp2, al2⟩ := a2
  refine ⟨p, p2, vs, vs2, rfl, rfl, hh.same _ _ hp, hh.same _ _ hp2, by rw [al.len, al2.len]; exact hz, fun d hd => ?_⟩
  obtain ⟨hh2, e2⟩ := hh.newF (u := .lst (vs ++ vs2)) hd
  exact q _ _ _ e2 hh2 ⟨d, _, rfl, upd_same, (AlA.app al al2).mono e2⟩)
theorem noC_X {ks : List (Nat × OA)} {L : List OA} {X : OA} (h : NoC T (stt Ω ks L) A u) : NoC T (stt Ω ks (L ++ [X])) A u := fun F H v hh a => h F H v (by rw [← stt_app] at hh; exact hh.drop) a
/-- element by element -/
inductive Pw {γ : Type} (P : VA → γ → Prop) : List VA → List γ → Prop
  | nil : Pw P [] []
  | cons {A : VA} {y : γ} {As : List VA} {ys : List γ} (h : P A y) (t : Pw P As ys) : Pw P (A :: As) (y :: ys)
theorem Pw.len {γ : Type} {P : VA → γ → Prop} : ∀ {As : List VA} {ys : List γ}, Pw P As ys → As.length = ys.length
  | _, _, .nil => rfl
  | _, _, .cons _ t => by rw [List.length_cons, List.length_cons, t.len]
theorem Pw.zip {γ : Type} {P : VA → γ → Prop} : ∀ {As : List VA} {ys : List γ}, Pw P As ys → (As.zip ys).map (·.1) = As ∧ (As.zip ys).map (·.2) = ys ∧ ∀ z ∈ As.zip ys, P z.1 z.2
  | _, _, .nil => ⟨rfl, rfl, fun z h => nomatch h⟩
  | _, _, .cons h t => by
    obtain ⟨h1, h2, h3⟩ := t.zip
    refine ⟨by rw [List.zip_cons_cons, List.map_cons, h1], by rw [List.zip_cons_cons, List.map_cons, h2], fun z hz => ?_⟩
    rcases List.mem_cons.mp hz with rfl | hz
    · exact h
    · exact h3 z hz
theorem lcM_zip {γ : Type} : ∀ zs : List (VA × γ), lcM (fun (z : VA × γ) (_ : Unit) => some (some z.2, ())) zs () = some (zs.map (·.2), ())
  | [] => rfl
  | z :: zs => by
    show (lcM _ zs ()).bind _ = _
    rw [lcM_zip zs]; rfl
theorem xi_zip1 {γ : Type} {wi : L2.TI} {zs : List (VA × γ)} (h : XI wi Γ Ω (zs.map (·.1)) (fun A => A) Ω1) : XI wi Γ Ω zs (fun z => z.1) Ω1 := fun F σ H e hh R r =>
  h F σ H e hh R fun F' J H' Sx e' hh' W sx => r F' J H' Sx e' hh' ⟨W.mono, fun i F Ω H q hh hi => W.go i F Ω H q hh (by rw [List.length_map]; exact hi), fun F Ω H q hh => by have := W.stop F Ω H q hh; rwa [List.length_map] at this,
    fun i a F Ω H x H' q hh hx y => W.yld i a.1 F Ω H x H' q hh (by rw [List.getElem?_map, hx]; rfl) y⟩ sx
/-- [f(x) for x in a list of any values] -/
theorem xn_lcA {γ : Type} [Rp γ] {ys : List γ} {wi : L2.TI} {i : Nat} {vs : List Nat} {ks : List (Nat × OA)} {L : List OA} (hi : XI wi Γ Ω0 As (fun A => A) (stt Ω ks L)) (hj : i ∈ vs) (hz : As.length ≤ sizeLine)
    (hb : ∀ X : OA, Pw (fun A y => XE te ((wip Γ vs).set i (some A)) (stt Ω ks (L ++ [X])) (va T y) (stt Ω ks (L ++ [X]))) As ys) : XG (tLc wi (gName i) tYes te vs) Γ Ω0 (RN (stt Ω ks L) fun p => lstA T p ys) := by
  obtain ⟨z1, z2, _⟩ := (hb (lstA T 0 ys)).zip
  have hm := lcM_zip (As.zip ys)
  rw [z2] at hm
  refine xn_lcS (f := fun (z : VA × γ) Γ => Γ.set i (some z.1)) (js := [i]) (fun _ : Unit => ks) (fun _ => L) hm (xi_zip1 (by rw [z1]; exact hi)) (fun a => tgt_name) (fun j hj' => by rw [List.mem_singleton.mp hj']; exact hj) (by rw [← List.length_map (f := Prod.fst), z1]; exact hz) fun a s o s' ha h X => ?_
  obtain ⟨rfl, rfl⟩ := Prod.mk.inj (Option.some.inj h)
  refine ⟨(fun z => nomatch z), fun y e => ?_⟩
  cases e
  exact ⟨xt_yes, (hb X).zip.2.2 a ha⟩
end
section
variable {X : Cx} {kl : Nat} {T : TC} {Γ : List (Option VA)} {Ω Ω2 Ω' : List OA} {A : VA}
/-- f(x), x's value a lambda of the frame ahead; Γ the slots with the block's own ones wiped -/
theorem xe_callBX {Lm : LamPk X kl} {Pre : PreLX} {o : Option XC} {i : Nat} {vs : List Nat} {Ω3 : List OA} (hi : i < Γ.length) (hv : wip Γ vs = Γ) (hv2 : i ∈ vs) (ho : Outc T Γ Ω Ω' Lm.tb o) (hp : ∀ f act, Pre f act [askX T f act (stt Ω [] []) (stt Ω' [] []) o] Ω (RV A Ω3)) (he : Ω3 = Ω2) :
    XE (tCallBX X kl vs Pre i) (Γ.set i (some (lamV X Lm))) Ω A Ω2 := fun F σ H e hh Q q => by
  have hp : ∀ f act, Pre f act [askX T f act Ω Ω' o] Ω (RV A Ω3) := fun f act => by have := hp f act; rwa [cal0', cal0'] at this
  subst he
  obtain ⟨v, hv1, f, c', rfl, hat⟩ := e.2 i _ (List.getElem?_set_self hi)
  have eW : Env F (wipe σ vs) Γ := by
    have lw : ∀ (σ : L2.St) (vs : List Nat), (wipe σ vs).length = σ.length := wipe_length
    refine ⟨by rw [lw, e.1, List.length_set], fun j B hB => ?_⟩
    have nj : j ∉ vs := fun hj => by
      have wn : ∀ (vs : List Nat) (Γ : List (Option VA)), j ∈ vs → (wip Γ vs)[j]? ≠ some (some B) := fun vs => by
        induction vs with
        | nil => intro Γ hj; exact nomatch hj
        | cons a r ih =>
          intro Γ hj hc
          have hc : ((wip Γ r).set a none)[j]? = some (some B) := hc
          by_cases z : a = j
          · subst z
            by_cases lt : a < (wip Γ r).length
            · rw [List.getElem?_set_self lt] at hc; cases hc
            · rw [List.getElem?_eq_none (by rw [List.length_set]; omega)] at hc; cases hc
          · rw [List.getElem?_set_ne z] at hc
            rcases List.mem_cons.mp hj with h | h
            · exact z h.symm
            · exact ih Γ h hc
      exact wn vs Γ hj (by rw [hv]; exact hB)
    have ji : i ≠ j := fun z => nj (z ▸ hv2)
    obtain ⟨w, h1, h2⟩ := e.2 j B (by rw [List.getElem?_set_ne ji]; exact hB)
    refine ⟨w, ?_, h2⟩
    have keep : ∀ (vs : List Nat) (σ : L2.St), j ∉ vs → (wipe σ vs)[j]? = σ[j]? := fun vs => by
      induction vs with
      | nil => intro σ _; rfl
      | cons a r ih =>
        intro σ hn
        show ((wipe σ r).set a none)[j]? = _
        rw [List.getElem?_set_ne (fun z => hn (by rw [z]; exact .head _)), ih σ fun z => hn (.tail _ z)]
    rw [keep vs σ nj]; exact h1
  refine ⟨Lm, f, c', hv1, ⟨hat.1.mono hh.same, hh.same _ _ hat.2⟩, F, Ω, _, _, hp f _, .cons ⟨rfl, fun F2 H2 e2 hh2 E Q' hE hQ => ?_⟩ .nil, hh, fun F' v H' Ω4 e' hh' r => q F' v H' Ω4 e' hh' r⟩
  refine ⟨⟨hat.1.mono (e2.trans hh2.same), (e2.trans hh2.same) _ _ hat.2⟩, ?_⟩
  have e3 := eW.mono e2
  cases o with
  | some r => exact ho E F2 (hE r rfl) _ H2 ⟨F2, Same.refl F2, e3, hh2⟩ Q'
  | none =>
    obtain ⟨B, hB⟩ := ho E
    exact hB F2 _ H2 e3 hh2 Q' fun F4 v4 H4 Ω4 e4 hh4 ⟨_, o4⟩ => hQ rfl F4 v4 H4 e4 (o4 ▸ hh4)
end
end VL

set_option Elab.async false
set_option linter.all false
set_option maxRecDepth 100000
set_option maxHeartbeats 2000000
/-! VL61: tuples of any values; deep lists or tuples; lists of a value or None. -/
namespace VL
open PySem PySem.Spec PyProof.Rows L2 LamX
section
variable {T : TC} {Γ : List (Option VA)} {Ω Ω1 Ω2 : List OA} {A B : VA} {u t : Value} {ta : TA} {te : TE}
def tpA (T : TC) (As : List VA) : VA := ⟨fun F v => ∃ p vs, v = .ref p ∧ SqT T.K F p vs ∧ AlA F vs As, fun e ⟨p, vs, h1, h2, h3⟩ => ⟨p, vs, h1, Same.tup e h2, h3.mono e⟩⟩
theorem xe_tpA {As : List VA} (h : XA ta Γ Ω As Ω1) (hz : As.length ≤ sizeLine) : XE (tTup ta) Γ Ω (tpA T As) Ω1 := fun F σ H e hh Q q =>
  h F σ H e hh _ fun F1 xs H1 e1 hh1 a1 => ⟨by rw [a1.len]; exact hz, fun p hp => by
    obtain ⟨hh2, e2⟩ := hh1.newF (u := .tup xs) hp
    exact q _ _ _ _ (e1.trans e2) hh2 ⟨⟨p, xs, rfl, SqT.of upd_same, a1.mono e2⟩, rfl⟩⟩
theorem wk_tpA {p : Addr} {vs : List V} {As : List VA} : Wk (Itt T.K p) (fun F => SqT T.K F p vs ∧ AlA F vs As) As (fun A => A) where
  mono := fun F F' e ⟨h1, h2⟩ => ⟨Same.tup e h1, h2.mono e⟩
  go := fun i F Ω H ⟨h1, h2⟩ hh hi => ⟨vs, vs[i]'(by rw [h2.len]; exact hi), Same.tup hh.same h1, List.getElem?_eq_getElem _⟩
  stop := fun F Ω H ⟨h1, h2⟩ hh => ⟨vs, Same.tup hh.same h1, Nat.le_of_eq h2.len⟩
  yld := fun i a F Ω H x H' ⟨h1, h2⟩ hh hx y => by
    obtain ⟨e, y⟩ := y
    subst e
    obtain ⟨v, hv, rv⟩ := alA_get h2 hx
    cases hv.symm.trans (y vs (Same.tup hh.same h1))
    exact ⟨F, Same.refl F, hh, rv⟩
theorem xi_tpA {As : List VA} (ha : XE te Γ Ω (tpA T As) Ω1) : XI (iTup T.K te) Γ Ω As (fun A => A) Ω1 := fun F σ H e hh R r => by
  refine ha F σ H e hh _ fun F1 x H1 Ω' e1 hh1 ⟨⟨p, vs, a1, a2, a3⟩, o1⟩ => ?_
  subst o1 a1
  exact ⟨p, rfl, ⟨vs, Same.tup hh1.same a2⟩, r F1 _ H1 _ e1 hh1 wk_tpA ⟨a2, a3⟩⟩
theorem tya_dct {d : DF} : TyA T Ω (va T d) (.type "dict") := fun F H v hh ⟨p, od, h1, h2⟩ => h1 ▸ .fDict (hh.same _ _ h2)
end
/-- a list or a tuple of things that are not looked at -/
inductive DX where
  | mk
instance : Rp DX := ⟨fun T F v _ => ∃ p vs, v = .ref p ∧ (F p = some (.lst vs) ∨ SqT T.K F p vs), fun e ⟨p, vs, h1, h2⟩ => ⟨p, vs, h1, h2.elim (fun h => .inl (e _ _ h)) fun h => .inr (Same.tup e h)⟩⟩
section
variable {T : TC} {Γ : List (Option VA)} {Ω Ω1 : List OA} {A : VA} {u : Value} {ta : TA} {te : TE}
end
section
variable {T : TC} {Γ : List (Option VA)} {Ω Ω1 : List OA} {te : TE} {α : Type} [Rp α]
theorem al_en {F : Hp} : ∀ {vs : List V} {l : List α}, Al T F vs l → Al T F vs (l.map EN.ok)
  | _, _, .nil => .nil
  | _, _, .cons h t => .cons h (al_en t)
theorem xe_enL {l : List α} (h : XE te Γ Ω (va T (LF.mk l)) Ω1) : XE te Γ Ω (va T (LF.mk (l.map EN.ok))) Ω1 := fun F σ H e hh Q q =>
  h F σ H e hh _ fun F1 v H1 Ω' e1 hh1 ⟨⟨p, vs, h1, h2, h3⟩, o1⟩ => q F1 v H1 Ω' e1 hh1 ⟨⟨p, vs, h1, h2, al_en h3⟩, o1⟩
end
section
variable {T : TC} {Γ : List (Option VA)} {Ω Ω1 Ω2 : List OA} {A : VA} {As : List VA} {t : TA} {sp : Sp} {Pre : PreT}
end
end VL

set_option Elab.async false
set_option linter.all false
set_option maxRecDepth 100000
set_option maxHeartbeats 2000000
/-! VL62: isinstance of a caught exception, with or without a dict; a raising call with a new machine ahead. -/
namespace VL
open PySem PySem.Spec PyProof.Rows L2 LamX
/-- what the class D of an exception must be -/
structure ExI (K : PySem.W.Frag) (D : Addr) : Prop where
  hc : (PySem.W.clsIn K D).isSome = true
  hg : PySem.W.findIn K (.ref D) "__getattribute__" = some (some (.builtin "BaseException.__getattribute__"))
  hk : PySem.W.findIn K (.ref D) "__getattr__" = some none
  hs : PySem.W.subIn K (.ref D) (.type "BaseException") = some true
  ha : PySem.W.findIn K (.ref D) "__class__" = some (some (.builtin "object.__class__"))
  hn : PySem.W.specialIn K (.builtin "object.__class__") "__get__" = some (some (.builtin "getset_descriptor.__get__"))
  ht : PySem.W.takesIn K (.builtin "object.__class__") = some true
  hm : PySem.W.mroIn K D (.type "object") = some true
/-- isinstance(e, c), e the exception caught: its class and its dict told by the wish -/
def rIsX (K : PySem.W.Frag) (cls : Value) (d : Option Addr) (a : Addr) : List V → Hp → VK → Prop := fun xs H Q =>
  ∃ (D : Addr) (c : V) (cv : Value) (b : Bool), cls = .ref D ∧ ExI K D ∧ xs = [.ref a, c] ∧ (∀ u, RelV c u → u = cv) ∧ PySem.W.kitOne K (.ref D) cv = some b ∧ (∀ dd, d = some dd → ∃ fs, H dd = some (.xd fs)) ∧ Q (.bl b) H
section
variable {X : Cx}
end
section
variable {T : TC} {Γ : List (Option VA)} {Ω Ω1 : List OA} {te tc : TE}
end
/-! a raising call with a new machine ahead -/
section
variable {T : TC} {Γ : List (Option VA)} {Ω Ω0 Ω1 : List OA} {sp : Sp} {PreX : PreXX} {t : TA} {ta : TE} {W : WX} {As : List VA} {r : XC} {F0 : Hp}
end
end VL

set_option Elab.async false
set_option linter.all false
set_option maxRecDepth 100000
set_option maxHeartbeats 2000000
/-! VL63: a dict of the program by numbers, read only. -/
namespace VL
open PySem PySem.Spec PyProof.Rows L2 LamX
/-- the written dict at d: these numbers, each with its value -/
structure IDict (K : PySem.W.Frag) (d : Addr) (kvs : List (Int × Int)) : Prop where
  ex : ∃ es n, K.lookup d = some ⟨.type "dict", none, .dict es n, #[]⟩ ∧ entB es.toList kvs = true
  low : (d == sysModules) = false
theorem ent_keys (P : Program) (w : World) : ∀ {l : List DictEntry} {kvs : List (Int × Int)}, entB l kvs = true → ∀ e ∈ l, ∃ k, (intKind P w).is k e.key = true ∧ e.hash = (intKind P w).hash k
  | [], _, _, _, m => nomatch m
  | e :: r, [], h, _, _ => nomatch h
  | e :: r, p :: q, h, x, m => by
    obtain ⟨h1, h⟩ := Bool.and_eq_true_iff.mp h
    obtain ⟨h2, h⟩ := Bool.and_eq_true_iff.mp h
    obtain ⟨h3, h4⟩ := Bool.and_eq_true_iff.mp h
    rcases List.mem_cons.mp m with rfl | m
    · obtain ⟨hash, key, val⟩ := x
      cases key with
      | int a t =>
        obtain rfl := of_decide_eq_true h1
        exact ⟨p.1, intKind_is P w p.1 t, of_decide_eq_true h3⟩
      | _ => cases h1
    · exact ent_keys P w h4 x m
def GetsI (o : Option Value) : Option Int → Prop
  | some v => ∃ t, o = some (.int v t)
  | none => o = none
theorem ent_find : ∀ {l : List DictEntry} {kvs : List (Int × Int)} (k : Int), entB l kvs = true → GetsI ((l.find? fun e => Value.isInt k e.key).map (·.val)) (kvs.lookup k)
  | [], [], k, _ => rfl
  | [], _ :: _, _, h => nomatch h
  | e :: r, [], _, h => nomatch h
  | e :: r, p :: q, k, h => by
    obtain ⟨h1, h⟩ := Bool.and_eq_true_iff.mp h
    obtain ⟨h2, h⟩ := Bool.and_eq_true_iff.mp h
    obtain ⟨h3, h4⟩ := Bool.and_eq_true_iff.mp h
    obtain ⟨hash, key, val⟩ := e
    obtain ⟨pk, pv⟩ := p
    cases key with
    | int a t =>
      obtain rfl : a = pk := of_decide_eq_true h1
      cases val with
      | int b u =>
        obtain rfl : b = pv := of_decide_eq_true h2
        by_cases z : k = a
        · subst z
          rw [List.lookup_cons, show (k == k) = true from beq_self_eq_true k]
          refine ⟨u, ?_⟩
          rw [List.find?_cons_of_pos (by simp [Value.isInt])]
          rfl
        · rw [List.lookup_cons, show (k == a) = false from beq_false_of_ne z]
          rw [List.find?_cons_of_neg (by simp [Value.isInt]; exact fun e => z e.symm)]
          exact ent_find k h4
      | _ => cases h2
    | _ => cases h1
section
variable {X : Cx} {d : Addr} {kvs : List (Int × Int)}
theorem IDict.map (D : IDict X.K d kvs) {h : Heap} (I : X.K.In h) : ∃ f, h.MapOf (intKind X.prog X.w) d f ∧ ∀ k, GetsI (f k) (kvs.lookup k) := by
  obtain ⟨es, n, hl, he⟩ := D.ex
  refine ⟨fun k => findBy Value.isInt es k, ⟨_, es, n, I _ _ hl, ⟨rfl, rfl, rfl⟩, rfl, fun e m => ent_keys _ _ he e (Array.mem_toList_iff.mpr m), fun _ => rfl⟩, fun k => ?_⟩
  have := ent_find k he
  obtain ⟨l⟩ := es
  show GetsI (findBy Value.isInt ⟨l⟩ k) _
  unfold findBy
  rw [List.find?_toArray]
  exact this
def rInID (d : Addr) (kvs : List (Int × Int)) (g : Bool → Bool) : R2 := fun x y H Q => ∃ i : Int, x = .int i ∧ y = .ref d ∧ Q (.bl (g (kvs.lookup i).isSome)) H
end
section
variable {T : TC} {Γ : List (Option VA)} {Ω Ω1 Ω2 : List OA} {te tc : TE} {i : Int} {d : Addr} {kvs : List (Int × Int)} {g : Bool → Bool}
end
end VL

set_option Elab.async false
set_option linter.all false
set_option maxRecDepth 100000
set_option maxHeartbeats 2000000
/-! VL64: one of several values, not known which; a lambda that asks with it raises the same for each. -/
namespace VL
open PySem PySem.Spec PyProof.Rows L2 LamX
def orA (As : List VA) : VA := ⟨fun F v => ∃ A ∈ As, A.P F v, fun e ⟨A, h, p⟩ => ⟨A, h, A.mono e p⟩⟩
section
variable {T : TC} {Γ : List (Option VA)} {Ω Ω' Ω1 Ω2 : List OA} {As : List VA} {A B : VA} {u : Value} {i : Nat} {tb : XK → TE} {r : XC}
end
/-- all tell the same -/
def allX {α : Type} (f : α → Option XC) (l : List α) (r : XC) : Prop := ∀ a ∈ l, f a = some r
end VL

set_option Elab.async false
set_option linter.all false
set_option maxRecDepth 100000
set_option maxHeartbeats 2000000
/-! VL65: a list of any values that grows by append, then stands. -/
namespace VL
open PySem PySem.Spec PyProof.Rows L2 LamX
def lstV (p : Addr) (As : List VA) : OA := ⟨fun F t => ∃ vs, t p = some (.lst vs) ∧ AlA F vs As, fun e ⟨vs, h1, h2⟩ => ⟨vs, h1, h2.mono e⟩⟩
theorem env_put {F : Hp} {σ : L2.St} {Γ : List (Option VA)} {k : Nat} {v : V} {A : VA} (e : Env F σ Γ) (h : σ[k]? = some (some v)) (a : A.P F v) : Env F σ (Γ.set k (some A)) := by
  refine ⟨by rw [List.length_set]; exact e.1, fun j B hB => ?_⟩
  by_cases z : k = j
  · subst z
    have hl : k < Γ.length := by rw [← e.1]; exact (List.getElem?_eq_some_iff.mp h).1
    rw [List.getElem?_set_self hl] at hB
    cases hB
    exact ⟨v, h, a⟩
  · rw [List.getElem?_set_ne z] at hB
    exact e.2 j B hB
section
variable {T : TC} {Γ : List (Option VA)} {Ω Ω1 Ω2 : List OA} {As : List VA} {A : VA} {ta tb : TE} {t : TA} {D : Ends} {F0 : Hp} {ts : TS} {p : Addr}
theorem xn_lstV (h : XA t Γ Ω As Ω1) (hz : As.length ≤ sizeLine) : XG (tLst t) Γ Ω (RN Ω1 fun p => lstV p As) := fun F σ H e hh Q q => by
  refine h F σ H e hh _ fun F1 xs H1 e1 hh1 al => ?_
  refine ⟨by rw [al.len]; exact hz, fun p hp => ?_⟩
  exact q F1 _ _ _ e1 (hh1.newL (o := lstV p As) hp ⟨xs, upd_same, al⟩) ⟨p, rfl, rfl⟩
theorem xe_appV {ks : List (Nat × OA)} {L : List OA} (ha : XE ta Γ (stt Ω ks (L ++ [lstV p As])) (vr p) (stt Ω ks (L ++ [lstV p As]))) (hb : XE tb Γ (stt Ω ks (L ++ [lstV p As])) A (stt Ω ks (L ++ [lstV p As]))) (hz : As.length < sizeLine) :
    XE (tBM T.K "list" rAppend ta (tCons tb tNil)) Γ (stt Ω ks (L ++ [lstV p As])) (va T ()) (stt Ω ks (L ++ [lstV p (As ++ [A])])) := fun F σ H e hh Q q => by
  have hk : (stt Ω ks (L ++ [lstV p As]))[(stt Ω ks L).length]? = some (lstV p As) := by rw [← stt_app]; exact app_at
  refine ha F σ H e hh _ fun F1 x H1 Ω' e1 hh1 ⟨a1, o1⟩ => ?_
  subst o1
  have a1 : x = .ref p := a1
  subst a1
  obtain ⟨t0, ⟨vs0, h0, _⟩, st0, _, _⟩ := hh1.get hk
  refine ⟨.inl ⟨rfl, _, SqL.of (st0 _ _ h0)⟩, ?_⟩
  refine hb F1 σ H1 (e.mono e1) hh1 _ fun F2 y H2 Ω'' e2 hh2 ⟨a2, o2⟩ => ?_
  subst o2
  obtain ⟨t, ⟨vs, h1, al⟩, st, _, wr⟩ := hh2.get hk
  refine ⟨p, vs, y, rfl, rfl, st _ _ h1, by rw [al.len]; exact hz, ?_⟩
  have w := wr (lstV p (As ++ [A])) p _ _ h1 ⟨_, upd_same, AlA.app al (.cons a2 .nil)⟩
  refine q F2 _ _ _ (e1.trans e2) w ⟨rfl, ?_⟩
  rw [← stt_app, ← stt_app, List.set_append_right _ _ (Nat.le_refl _), Nat.sub_self]
  rfl
theorem xs_fzV {k : Nat} {ks : List (Nat × OA)} {L : List OA} (hk : Γ[k]? = some (some (vr p))) (q : XS ts D F0 (Γ.set k (some (lsA As))) (stt Ω ks L)) : XS ts D F0 Γ (stt Ω ks (L ++ [lstV p As])) := fun σ H ⟨F, f0, e, hh⟩ => by
  rw [← stt_app] at hh
  obtain ⟨F', t, s1, s2, ⟨vs, ht, al⟩, hh'⟩ := hh.freeze
  obtain ⟨v, hv, av⟩ := e.2 k _ hk
  have av : v = .ref p := av
  subst av
  exact q σ H ⟨F', f0.trans s1, env_put (e.mono s1) hv ⟨p, vs, rfl, s2 _ _ ht, al.mono s1⟩, hh'⟩
end
end VL

set_option Elab.async false
set_option linter.all false
set_option maxRecDepth 100000
set_option maxHeartbeats 2000000
/-! VL66: a, b = x, y of any values. -/
namespace VL
open PySem PySem.Spec PyProof.Rows L2 LamX
section
variable {T : TC} {A B : VA} {k l : Nat} {Γ : List (Option VA)} {Ω Ω1 : List OA} {ta : TA} {ts : TS} {D : Ends} {F0 : Hp}
end
end VL

set_option Elab.async false
set_option linter.all false
set_option maxRecDepth 100000
set_option maxHeartbeats 2000000
/-! VL67: a call by keywords that raises. -/
namespace VL
open PySem PySem.Spec PyProof.Rows L2 LamX
/-- f(.., k = v, ..), its errors at the slots -/
def tCallNS (n m : Nat) (sp : Sp) (gV : List V → List V → List V) (E : L2.St → XK) (t tk : TA) : TE := fun σ H Q => t σ H fun vs H1 => tk σ H1 fun zs H2 => vs.length = n ∧ zs.length = m ∧ sp (gV vs zs) H2 Q (E σ)
structure CalXK (P : Program) (w : World) (K : PySem.W.Frag) (mg : Str → Option Value) (base : Heap) (k : Nat) (x : Str) (ps : List Str) (n : Nat) (ks : List Str) (dvs : List V) (ix : List Nat) (sp : Sp) : Prop where
  ex : ∃ f fd g, FnOk P w K mg base (L2.CX P w) k f fd ps sp ∧ mg x = some (.ref f) ∧ PySem.W.keepIn K (.ref f) = true ∧ KBn K fd ps n ks g (fun vs zs => prm ix (vs ++ (dvs ++ zs)))
section
variable {X : Cx} {k n : Nat} {x : Str} {ps ks : List Str} {dvs : List V} {ix : List Nat} {sp : Sp} {p pos : Pos} {e : Expr} {es : List Expr} {kws : List Keyword} {t tk : TA} {W : WX}
end
section
variable {T : TC} {Γ : List (Option VA)} {Ω Ω1 Ω2 : List OA} {sp : Sp} {PreX : PreXX} {t tk : TA} {W : WX} {As Ks Ds : List VA} {dvs : List V} {ix : List Nat} {r : XC} {F0 : Hp} {n m : Nat}
end
end VL

set_option Elab.async false
set_option linter.all false
set_option maxRecDepth 100000
/-! VL68: a name for a pair of a new list and a value; for over four. -/
namespace VL
open PySem L2 PyProof.Rows
section
variable {T : TC} {Γ : List (Option VA)} {Ω Ω0 Ω1 Ω2 : List OA} {B : VA} {te : TE} {D : Ends} {F0 : Hp} {ts : TS}
end
end VL
namespace VL
open PySem PySem.Spec L2 PyProof.Rows
/-- some dict, locked for good -/
def dicA : VA := ⟨fun F v => ∃ p od kvs, v = .ref p ∧ F p = some (.frz od (.dK kvs)), fun e ⟨p, od, kvs, h1, h2⟩ => ⟨p, od, kvs, h1, e _ _ h2⟩⟩
def rawFz (p : Addr) (u : HO) : OA := ⟨fun _ t => t p = some u, fun _ h => h⟩
section
variable {T : TC} {Γ : List (Option VA)} {Ω Ω0 Ω1 Ω2 : List OA} {te : TE}
end
end VL

set_option Elab.async false
set_option linter.all false
set_option maxRecDepth 100000
set_option maxHeartbeats 2000000
/-! VL69: defs with keyword-only parameters that raise; a pick that tells which; None and values of any kind. -/
namespace VL
open PySem PySem.Spec PyProof.Rows L2 LamX
section
variable {P : Program} {w : World} {K : PySem.W.Frag} {mg : Str → Option Value} {base : Heap}
end
section
variable {T : TC} {Γ : List (Option VA)} {Ω Ω1 Ω2 : List OA} {A : VA} {As : List VA} {ta tb te : TE} {i : Int}
/-- one of some values, the i-th -/
def pkA (As : List VA) (i : Int) : VA := ⟨fun F v => ∃ A, As[i.toNat]? = some A ∧ A.P F v, fun e ⟨A, h, p⟩ => ⟨A, h, A.mono e p⟩⟩
theorem xe_ixP {j : Int} (ha : XE ta Γ Ω (lsA As) Ω1) (hb : XE tb Γ Ω1 (va T j) Ω2) (h0 : 0 ≤ j) (h1 : j < As.length) : XE (tOp (rIx T.K) ta tb) Γ Ω (pkA As j) Ω2 := xe_op ha hb fun F H x y hh a1 a2 Q q => by
  obtain ⟨p, ws, rfl, hs, al⟩ := a1
  obtain ⟨n, rfl⟩ := Int.eq_ofNat_of_zero_le h0
  have hn : n < As.length := by omega
  obtain ⟨v, hv, pv⟩ := alA_get al (List.getElem?_eq_getElem hn)
  refine .inl ⟨p, ws, _, v, rfl, a2, hh.same.seq (SqL.of hs), ?_, q F v H (Same.refl F) hh ⟨_, List.getElem?_eq_getElem hn, pv⟩⟩
  have hw : n < ws.length := by rw [al.len]; exact hn
  have e : ixN ws.length (n : Int) = some n := by
    unfold ixN
    simp
    omega
  show (ixN ws.length (n : Int)).bind (fun k => ws[k]?) = some v
  rw [e]
  exact hv
theorem xe_appER {α : Type} [Rp α] {k : Nat} {p : Addr} {a : α} {l l2 : List α} {Ω2 : List OA} (h0 : Ω[k]? = some (lstA T p l2)) (hk : Ω1[k]? = some (lstA T p l)) (ha : XE ta Γ Ω (vr p) Ω) (hb : XE tb Γ Ω (va T a) Ω1) (hz : l.length < sizeLine) (he : Ω1.set k (lstA T p (l ++ [a])) = Ω2) :
    XE (tBM T.K "list" rAppend ta (tCons tb tNil)) Γ Ω (va T ()) Ω2 := he ▸ xe_app h0 hk ha hb hz
end
end VL

set_option Elab.async false
set_option linter.all false
set_option maxRecDepth 100000
set_option maxHeartbeats 2000000
/-! VL70: a target of two pairs; dict(pairs) whose keys come several times. -/
namespace VL
open PySem PySem.Spec PyProof.Rows L2
section
variable {T : TC} {Γ : List (Option VA)} {Ω Ω1 Ω2 : List OA} {A : VA} {te : TE}
/-- max of three ints -/
def rMax3 : List V → Hp → VK → Prop := L2.rNuC3 L2.nuMax3
/-- a dict of pairs, one behind another -/
def mrgS (l : List (Str × Int)) : List (Str × Int) := l.foldl (fun d q => dput d q.1 q.2) []
end
end VL

set_option Elab.async false
set_option linter.all false
set_option maxRecDepth 100000
set_option maxHeartbeats 2000000
/-! VL71: min and index of a list; a list behind which None is put, all but the last of it. -/
namespace VL
open PySem PySem.Spec PyProof.Rows L2
def minL : List Int → Int
  | [] => 0
  | [a] => a
  | a :: r => min a (minL r)
section
variable {T : TC} {Γ : List (Option VA)} {Ω Ω1 Ω2 : List OA} {A : VA} {te ta tb : TE} {p : Addr}
/-- a list behind which None stands -/
def lnA (T : TC) {α : Type} [Rp α] (p : Addr) (l : List α) : OA := ⟨fun F t => ∃ vs, t p = some (.lst (vs ++ [.non])) ∧ Al T F vs l, fun e ⟨vs, h1, h2⟩ => ⟨vs, h1, h2.mono e⟩⟩
end
end VL

set_option Elab.async false
set_option linter.all false
set_option maxRecDepth 100000
set_option maxHeartbeats 2000000
/-! VL72: a law's own dict with a machine, a list, a dict and, put in later, a number. -/
namespace VL
open PySem PySem.Spec PyProof.Rows L2
def wevM (m e d : Addr) (n : Int) : List (Key × V) := wev m e d ++ [(Sum.inr ("most" : Str), V.int n)]
section
variable {m e d : Addr} {n : Int}
end
section
variable {T : TC} {Γ : List (Option VA)} {Ω Ω1 Ω2 : List OA} {A : VA} {p m e d : Addr}
end
end VL

set_option Elab.async false
set_option linter.all false
set_option maxRecDepth 100000
set_option maxHeartbeats 2000000
/-! VL73: values of several kinds as elements of a plain list (type 'MV'): an integer, a truth, something else. -/
namespace VL
open PySem PySem.Spec PyProof.Rows L2
inductive MV where
  | i (n : Int)
  | b (x : Bool)
  | o
/-- v is none of the class int, wherever what F holds stands -/
def NoI (T : TC) (F : Hp) (v : V) : Prop := ∀ H, Same F H → ∃ t, TyX T.K H v t ∧ PySem.W.kitOne T.K t (.type "int") = some false
def mvP (T : TC) (F : Hp) (v : V) : MV → Prop
  | .i n => v = .int n
  | .b x => v = .bl x
  | .o => NoI T F v
theorem mvP_mono {T : TC} {F F' : Hp} (e : Same F F') {v : V} : ∀ {m : MV}, mvP T F v m → mvP T F' v m
  | .i _, h => h
  | .b _, h => h
  | .o, h => fun H e2 => h H (e.trans e2)
instance : Rp MV := ⟨fun T F v m => mvP T F v m, fun e h => mvP_mono e h⟩
/-- what is_between tells of it -/
def MV.btw (lo hi : Int) : MV → Bool
  | .i n => decide (lo ≤ n) && decide (n ≤ hi)
  | _ => false
section
variable {T : TC} {Γ : List (Option VA)} {Ω Ω0 Ω1 Ω2 : List OA} {A B : VA} {te : TE} {ts : TS} {D : Ends} {F0 : Hp} {k : Nat}
theorem xe_weak (h : XE te Γ Ω A Ω1) (hs : ∀ F v, A.P F v → B.P F v) : XE te Γ Ω B Ω1 := fun F σ H e hh Q q =>
  h F σ H e hh Q fun F1 v H1 Ω' e1 hh1 ⟨a1, o1⟩ => q F1 v H1 Ω' e1 hh1 ⟨hs F1 v a1, o1⟩
theorem mv_no : NoC T Ω (va T MV.o) (.type "int") := fun F H v hh h => (show NoI T F v from h) H hh.same
theorem to_i (n : Int) : ∀ F v, (va T n).P F v → (va T (MV.i n)).P F v := fun _ _ h => h
theorem to_b (x : Bool) : ∀ F v, (va T x).P F v → (va T (MV.b x)).P F v := fun _ _ h => h
theorem to_o {t : Value} (h : ∀ F H v, Same F H → A.P F v → TyX T.K H v t) (hk : PySem.W.kitOne T.K t (.type "int") = some false) : ∀ F v, A.P F v → (va T MV.o).P F v := fun F v a H e => ⟨t, h F H v e a, hk⟩
theorem tf_none : ∀ F H v, Same F H → (va T ()).P F v → TyX T.K H v (.type "NoneType") := fun F H v _ h => (show v = .non from h) ▸ .base .non
theorem tf_str {x : Str} : ∀ F H v, Same F H → (va T x).P F v → TyX T.K H v (.type "str") := fun F H v _ h => (show v = .str x from h) ▸ .base (.str x)
theorem tf_lf {α : Type} [Rp α] {l : List α} : ∀ F H v, Same F H → (va T (LF.mk l)).P F v → TyX T.K H v (.type "list") := fun F H v e ⟨p, vs, h1, h2, _⟩ => h1 ▸ .base (.lst (e _ _ h2))
/-! a weaker reading of a slot -/
theorem nx_weak {A B : VA} {σ : L2.St} {H : Hp} (hs : ∀ F v, A.P F v → B.P F v) (n : NX F0 (Γ.set k (some A)) Ω σ H) : NX F0 (Γ.set k (some B)) Ω σ H := by
  obtain ⟨F, f0, ⟨e1, e2⟩, hh⟩ := n
  refine ⟨F, f0, ⟨e1.trans (by rw [List.length_set, List.length_set]), fun i C hi => ?_⟩, hh⟩
  by_cases q : k = i
  · subst q
    have lt : k < Γ.length := by have := getlt hi; rwa [List.length_set] at this
    rw [List.getElem?_set_self lt] at hi
    cases hi
    obtain ⟨v, h1, h2⟩ := e2 k A (by rw [List.getElem?_set_self lt])
    exact ⟨v, h1, hs F v h2⟩
  · rw [List.getElem?_set_ne q] at hi
    exact e2 i C (by rw [List.getElem?_set_ne q]; exact hi)
theorem xs_weak {A B : VA} (hs : ∀ F v, A.P F v → B.P F v) (h : XS ts D F0 (Γ.set k (some B)) Ω) : XS ts D F0 (Γ.set k (some A)) Ω := fun σ H n => h σ H (nx_weak hs n)
/-! a list literal whose elements are of several kinds -/
theorem al_mv {F : Hp} : ∀ {vs : List V} {As : List VA} {l : List MV}, AlA F vs As → Pw (fun A m => ∀ F v, A.P F v → (va T m).P F v) As l → Al T F vs l
  | _, _, _, .nil, .nil => .nil
  | _, _, _, .cons h t, .cons r s => .cons (r _ _ h) (al_mv t s)
theorem xe_lmv {ta : TA} {As : List VA} {l : List MV} (h : XA ta Γ Ω As Ω1) (hz : As.length ≤ sizeLine) (hp : Pw (fun A m => ∀ F v, A.P F v → (va T m).P F v) As l) : XE (tLst ta) Γ Ω (va T (LF.mk l)) Ω1 :=
  xe_weak (xe_lsA h hz) fun F v ⟨p, vs, h1, h2, h3⟩ => ⟨p, vs, h1, h2, al_mv h3 hp⟩
end
/-! deep lists whose depth is told -/
/-- a list in lists, so many of them about [an int] -/
structure DPn where
  d : Nat
def dpv (F : Hp) : Nat → V → Prop
  | 0, v => ∃ p n, v = .ref p ∧ F p = some (.lst [.int n])
  | d + 1, v => ∃ p x, v = .ref p ∧ F p = some (.lst [x]) ∧ dpv F d x
theorem dpv_mono {F F' : Hp} (e : Same F F') : ∀ {d : Nat} {v : V}, dpv F d v → dpv F' d v
  | 0, _, ⟨p, n, h1, h2⟩ => ⟨p, n, h1, e _ _ h2⟩
  | _ + 1, _, ⟨p, x, h1, h2, h3⟩ => ⟨p, x, h1, e _ _ h2, dpv_mono e h3⟩
instance : Rp DPn := ⟨fun _ F v a => dpv F a.d v, fun e h => dpv_mono e h⟩
section
variable {T : TC} {Γ : List (Option VA)} {Ω Ω1 : List OA} {ta : TE}
theorem xe_dpn0 {n : Int} (ha : XE ta Γ Ω (va T n) Ω1) : XE (tLst (tCons ta tNil)) Γ Ω (va T (DPn.mk 0)) Ω1 := fun F σ H e hh Q q =>
  ha F σ H e hh _ fun F1 x H1 Ω' e1 hh1 ⟨a1, o1⟩ => by
    subst o1
    have a1 : x = .int n := a1
    subst a1
    refine ⟨by show 1 ≤ sizeLine; rw [sizeLine_eq]; exact Nat.le_of_ble_eq_true rfl, fun p hp => ?_⟩
    obtain ⟨hh2, e2⟩ := hh1.newF (u := .lst [.int n]) hp
    exact q _ _ _ _ (e1.trans e2) hh2 ⟨⟨p, n, rfl, upd_same⟩, rfl⟩
theorem xe_dpnS {a : DPn} (ha : XE ta Γ Ω (va T a) Ω1) : XE (tLst (tCons ta tNil)) Γ Ω (va T (DPn.mk (a.d + 1))) Ω1 := fun F σ H e hh Q q =>
  ha F σ H e hh _ fun F1 x H1 Ω' e1 hh1 ⟨a1, o1⟩ => by
    subst o1
    refine ⟨by show 1 ≤ sizeLine; rw [sizeLine_eq]; exact Nat.le_of_ble_eq_true rfl, fun p hp => ?_⟩
    obtain ⟨hh2, e2⟩ := hh1.newF (u := .lst [x]) hp
    exact q _ _ _ _ (e1.trans e2) hh2 ⟨⟨p, x, rfl, upd_same, dpv_mono e2 a1⟩, rfl⟩
theorem tf_dpn {a : DPn} : ∀ F H v, Same F H → (va T a).P F v → TyX T.K H v (.type "list") := fun F H v e h => by
  have h : dpv F a.d v := h
  cases q : a.d with
  | zero => rw [q] at h; obtain ⟨p, n, h1, h2⟩ := h; exact h1 ▸ .base (.lst (e _ _ h2))
  | succ d => rw [q] at h; obtain ⟨p, x, h1, h2, _⟩ := h; exact h1 ▸ .base (.lst (e _ _ h2))
/-- a deep list is a list of one list -/
theorem dpn_mv {d : Nat} (hk : PySem.W.kitOne T.K (.type "list") (.type "int") = some false) : ∀ F v, (va T (DPn.mk (d + 1))).P F v → (va T (LF.mk [MV.o])).P F v := fun F v ⟨p, x, h1, h2, h3⟩ =>
  ⟨p, [x], h1, h2, .cons (fun H e => ⟨_, tf_dpn (T := T) (a := DPn.mk d) F H x e h3, hk⟩) .nil⟩
end
end VL

set_option Elab.async false
set_option linter.all false
set_option maxRecDepth 100000
set_option maxHeartbeats 2000000
/-! VL74: a lambda handed over that raises or returns a value that is kept. -/
namespace VL
open PySem PySem.Spec PyProof.Rows L2
section
variable {X : Cx} {kl : Nat} {T : TC} {Γ : List (Option VA)} {Ω Ω1 Ω2 Ω' : List OA} {A : VA} {F0 : Hp} {D : Ends} {W : WX}
/-- as askX; what it returns is A -/
def askV (T : TC) (f : Addr) (act : XK → Hp → VK → Prop) (Ω Ω' : List OA) (o : Option XC) (A : VA) : VA :=
  ⟨fun F v => v = .ref f ∧ ∀ F1 H1, Same F F1 → Holds F1 Ω H1 → ∀ (E : XK) (Q : VK),
      (∀ r, o = some r → ∀ F2 c d H2, Same F1 F2 → Holds F2 Ω H2 → RCf T r F2 c d → E c d H2) → (o = none → ∀ F2 v H2, Same F1 F2 → Holds F2 Ω' H2 → A.P F2 v → Q v H2) → act E H1 Q,
   fun e ⟨h1, h2⟩ => ⟨h1, fun F1 H1 e1 => h2 F1 H1 (e.trans e1)⟩⟩
/-- what a call of such a lambda makes -/
def OutcV (T : TC) (Γ : List (Option VA)) (Ω Ω' : List OA) (tb : XK → TE) (o : Option XC) (A : VA) : Prop :=
  match o with
  | some r => ∀ (E : XK) (F1 : Hp), (∀ F2 c d H2, Same F1 F2 → Holds F2 Ω H2 → RCf T r F2 c d → E c d H2) → XR (tb E) F1 Γ Ω
  | none => ∀ E : XK, XE (tb E) Γ Ω A Ω'
end
end VL

set_option Elab.async false
set_option linter.all false
set_option maxRecDepth 100000
set_option maxHeartbeats 2000000
/-! VL75: lambdas of a frame, called in that frame; three by a tuple, the second one new. -/
namespace VL
open PySem PySem.Spec PyProof.Rows L2 LamX
def EN0 : XK := fun _ _ _ => False
/-- x(), x's value a lambda of this frame -/
def tSelf (X : Cx) (kl i : Nat) : TE := fun σ H Q => ∃ (Lm : LamPk X kl) (f c' : Addr), σ[i]? = some (some (.ref f)) ∧ Lm.at c' f H ∧ Lm.tb EN0 σ H Q
section
variable {X : Cx}
end
section
variable {X : Cx} {kl : Nat} {T : TC} {Γ : List (Option VA)} {Ω Ω1 Ω2 Ω' : List OA} {A B C : VA} {As : List VA} {te ta tb tc : TE} {ts : TS} {F0 : Hp} {D : Ends}
end
end VL

set_option Elab.async false
set_option linter.all false
set_option maxRecDepth 100000
set_option maxHeartbeats 2000000
/-! VL76: texts: joined, repeated, one sign, parts, lengths, numbers written and read. -/
namespace VL
open PySem PySem.Spec PyProof.Rows L2
/-- a text of code points -/
abbrev SS (l : List Nat) : Str := ⟨l.toArray⟩
def Str.tl' (x : Str) : List Nat := x.cps.toList
/-- one sign -/
def sAt (x : Str) (i : Int) : Option Str := (atI x.cps.toList i).map fun c => SS [c]
def sRep (x : Str) (k : Int) : Str := SS (List.replicate k.toNat x.cps.toList).flatten
/-! written by a base -/
def fmB (b : Nat) (a : Int) : Str := SS ((if a < 0 then [45] else []) ++ (Nat.toDigits b a.natAbs).map Char.toNat)
def fmD (b : Nat) (a : Int) : List Nat := (Nat.toDigits b a.natAbs).map fun c => c.toNat
def fmSg (a : Int) : List Nat := if (decide (a < 0)) = true then [45] else []
def fmDs (b : Nat) (a : Int) : List Nat := if (fmD b a).isEmpty = true then [] else List.replicate ((0 : Int).toNat - (fmD b a).length) 48 ++ fmD b a
def fmR (b : Nat) (a : Int) : Str := SS (List.replicate ((-1 : Int) - (((fmSg a).length : Int) + (([] : List Nat).length : Int) + (([] : List Nat).length : Int)) - ((fmDs b a).length : Int)).toNat 32 ++ fmSg a ++ [] ++ List.replicate 0 32 ++ fmDs b a ++ [] ++ List.replicate 0 32)
end VL
namespace PySem
open Sem (wp)
open Builtin Builtin.Str Builtin.Int Builtin.Float
end PySem
namespace VL
open PySem PySem.Spec PyProof.Rows L2
/-- s * n -/
def rRepS : R2 := fun x y H Q => ∃ a k, x = .str a ∧ y = .int k ∧ -(2 ^ 63) ≤ k ∧ k < 2 ^ 63 ∧ a.length * k.toNat ≤ sizeLine ∧ Q (.str (sRep a k)) H
section
variable {X : Cx}
def tFsp (b : Nat) (te : TE) : TE := fun σ H Q => te σ H fun x H1 => ∃ i : Int, x = .int i ∧ (fmB b i).length ≤ sizeLine ∧ Q (.str (fmB b i)) H1
end
section
variable {T : TC} {Γ : List (Option VA)} {Ω Ω1 Ω2 : List OA} {ta tb te : TE} {x y z : Str} {i n : Int} {F0 : Hp} {D : Ends}
def rLenS : List V → Hp → VK → Prop := fun xs H Q => ∃ z, xs = [.str z] ∧ z.length ≤ sizeLine ∧ Q (.int z.length) H
def rIntS : List V → Hp → VK → Prop := fun xs H Q => ∃ a n, xs = [.str a] ∧ PySem.intText? a = some n ∧ a.length ≤ 640 ∧ Q (.int n) H
/-- str(i) -/
def sStr (i : Int) : Str := toString i
def rStrI : List V → Hp → VK → Prop := fun xs H Q => ∃ i, xs = [.int i] ∧ i.natAbs.log2 < 1920 ∧ Q (.str (toString i)) H
/-! methods -/
def rZf : V → List V → Hp → VK → Prop := fun x xs H Q => ∃ (a : Str) (i : Int), x = .str a ∧ xs = [.int i] ∧ PadOk i = true ∧ Q (.str (Txt.zfill a i)) H
/-- a method with one text: what it tells -/
def rM1 (C : Str → Str → Prop) (g : Str → Str → V) : V → List V → Hp → VK → Prop := fun x xs H Q => ∃ a b, x = .str a ∧ xs = [.str b] ∧ C a b ∧ Q (g a b) H
def rFi : V → List V → Hp → VK → Prop := fun x xs H Q => ∃ a b, x = .str a ∧ xs = [.str b] ∧ Q (.int (Txt.find a b)) H
/-- a method without arguments -/
def rM0 (C : Str → Prop) (g : Str → V) : V → List V → Hp → VK → Prop := fun x xs H Q => ∃ a, x = .str a ∧ xs = [] ∧ C a ∧ Q (g a) H
end
end VL
namespace VL
open PySem PySem.Spec PyProof.Rows L2
end VL

set_option Elab.async false
set_option linter.all false
set_option maxRecDepth 100000
set_option maxHeartbeats 2000000
/-! VL77: texts read: a sign in a text, the program's dicts by texts, a written dict read at once. -/
namespace VL
open PySem PySem.Spec PyProof.Rows L2
/-! ### a sign in a text -/
def sIn (x y : Str) : Bool := decide (x.cps.toList.headD 0 ∈ y.cps.toList)
section
variable {T : TC} {Γ : List (Option VA)} {Ω Ω1 Ω2 Ω3 : List OA} {ta tb tc te : TE} {x y : Str}
end
/-! ### "and" whose second part draws -/
section
variable {T : TC} {Γ : List (Option VA)} {Ω : List OA} {ta tb : TE} {b : Bool}
end
/-! ### the program's dicts -/
section
variable {X : Cx} {d : Addr} {kvs : List (Int × Int)}
def rIxID (d : Addr) (kvs : List (Int × Int)) : R2 := fun x y H Q => ∃ i v, x = .ref d ∧ y = .int i ∧ kvs.lookup i = some v ∧ Q (.int v) H
end
section
variable {T : TC} {Γ : List (Option VA)} {Ω Ω1 Ω2 Ω3 : List OA} {te tc td : TE} {i v : Int} {d : Addr} {kvs : List (Int × Int)}
end
/-- the written dict at d: these texts, each with its value -/
structure SDict (K : PySem.W.Frag) (w : World) (d : Addr) (kvs : List (Str × Int)) : Prop where
  ex : ∃ es n, KDict K w d es n ∧ sentB es.toList kvs = true
theorem sent_find : ∀ {l : List DictEntry} {kvs : List (Str × Int)} (k : Str), sentB l kvs = true → GetsI ((l.find? fun e => Value.isStrOf k e.key).map (·.val)) (kvs.lookup k)
  | [], [], k, _ => rfl
  | [], _ :: _, _, h => nomatch h
  | e :: r, [], _, h => nomatch h
  | e :: r, p :: q, k, h => by
    obtain ⟨h1, h⟩ := Bool.and_eq_true_iff.mp h
    obtain ⟨h2, h4⟩ := Bool.and_eq_true_iff.mp h
    obtain ⟨hash, key, val⟩ := e
    obtain ⟨pk, pv⟩ := p
    cases key with
    | str a t =>
      obtain rfl : a = pk := of_decide_eq_true h1
      cases val with
      | int b u =>
        obtain rfl : b = pv := of_decide_eq_true h2
        by_cases z : k = a
        · subst z
          rw [List.lookup_cons, show (k == k) = true from beq_self_eq_true k]
          refine ⟨u, ?_⟩
          rw [List.find?_cons_of_pos (by simp [Value.isStrOf])]
          rfl
        · rw [List.lookup_cons, show (k == a) = false from beq_false_of_ne z]
          rw [List.find?_cons_of_neg (by simp [Value.isStrOf]; exact fun e => z e.symm)]
          exact sent_find k h4
      | _ => cases h2
    | _ => cases h1
/-- d.get(k, i) -/
def tGetSD (d : Addr) (kvs : List (Str × Int)) (td ty tx : TE) : TE := fun σ H Q => td σ H fun x H1 => x = .ref d ∧ ty σ H1 fun y H2 => tx σ H2 fun z H3 => ∃ k i, y = .str k ∧ z = .int i ∧ Q (.int ((kvs.lookup k).getD i)) H3
section
variable {X : Cx} {o e f : Expr} {apos cpos : Pos} {td ty tx : TE} {d : Addr} {kvs : List (Str × Int)}
theorem SDict.map (D : SDict X.K X.w d kvs) {h : Heap} (I : X.K.In h) : ∃ f, h.MapOf (strKind X.prog X.w) d f ∧ ∀ k, GetsI (f k) (kvs.lookup k) := by
  obtain ⟨es, n, D, he⟩ := D.ex
  refine ⟨_, PySem.W.mapOf_K (prog := X.prog) I D.at_ D.lit, fun k => ?_⟩
  have := sent_find k he
  obtain ⟨l⟩ := es
  show GetsI (findBy Value.isStrOf ⟨l⟩ k) _
  unfold findBy
  rw [List.find?_toArray]
  exact this
theorem SDict.low (D : SDict X.K X.w d kvs) : (d == sysModules) = false := by
  obtain ⟨es, n, D, he⟩ := D.ex
  exact D.low
end
section
variable {T : TC} {Γ : List (Option VA)} {Ω Ω1 Ω2 Ω3 : List OA} {ta tb tc : TE} {d : Addr} {kvs : List (Str × Int)} {k : Str} {i : Int}
end
end VL

set_option Elab.async false
set_option linter.all false
set_option maxRecDepth 100000
set_option maxHeartbeats 2000000
/-! VL78: the program's own exceptions whose field is a number: C(i), its field read in a clause. -/
namespace VL
open PySem PySem.Spec PyProof.Rows L2
section
variable {X : Cx} {C B0 fI : Addr} {f xb : Str} {o e : Expr} {es : List Expr} {to te : TE} {ta : TA} {p p' p1 p2 pos : Pos}
def spIxI (C : Addr) (f : Str) : Sp := fun vs H Q _ => ∃ (a : Addr) (x : Int), vs = [.ref a, .int x] ∧ x.natAbs < 2 ^ 64 ∧ H a = some (exo a C none) ∧ ∀ H1 d, Same H H1 → H d = none → d ≠ a → Q .non (upd (upd H1 d (exd d [(f, .int x)])) a (exo a C (some d)))
def tMkXI (C : Addr) (f : Str) (ta : TA) : L2.St → Hp → XK → Prop := fun σ H Q => ta σ H fun vs H1 => ∃ x : Int, vs = [.int x] ∧ x.natAbs < 2 ^ 64 ∧ ∀ H3 d, Same H1 H3 → H1 d = none → H3 d = some (.xd [(f, .int x)]) → Q (.ref C) (some d) H3
end
def tRxI (C : Addr) (f : Str) (ta : TA) (W : WX) : TS := fun _ σ H => tMkXI C f ta σ H fun cls d H' => W cls d σ H'
section
variable {X : Cx} {kl : Nat} {T : TC} {Γ : List (Option VA)} {Ω Ω1 Ω2 Ω' : List OA} {A : VA} {F0 : Hp} {D : Ends} {W : WX}
structure MkCI (P : Program) (w : World) (K : PySem.W.Frag) (mg : Str → Option Value) (base : Heap) (k : Nat) (x : Str) (C : Addr) (f : Str) : Prop where
  ex : ∃ B0 fI fd, IxC K C B0 fI f ∧ FnOk P w K mg base CX0 k fI fd ["self", f] (spIxI C f) ∧ Binds K fd ["self", f] [] ∧ mg x = some (.ref C)
end
section
variable {X : Cx} {W : WX}
end
section
variable {T : TC} {Γ Γ' : List (Option VA)} {Ω Ω' Ω1 Ω2 : List OA} {A : VA} {As : List VA} {te : TE} {t ta : TA} {D : Ends} {F0 F1 : Hp} {W Wo : WX} {Pre : PreT} {PreX : PreXX} {E : XK} {r : XC} {K : PySem.W.Frag} {l : List Cla}
def excN (a dd : Addr) (fl : Str) (x : Int) : VA := ⟨fun F v => v = .ref a ∧ F dd = some (.xd [(fl, .int x)]), fun e h => ⟨h.1, e _ _ h.2⟩⟩
end
section
variable {T : TC} {Γ Γ' : List (Option VA)} {Ω Ω' Ω1 Ω2 : List OA} {A : VA} {As : List VA} {te : TE} {t ta : TA} {D : Ends} {F0 F1 : Hp} {W Wo : WX} {Pre : PreT} {PreX : PreXX} {E : XK} {r : XC} {K : PySem.W.Frag} {l : List Cla}
end
section
variable {T : TC} {Γ : List (Option VA)} {Ω Ω1 : List OA} {te tc : TE}
end
section
variable {T : TC} {Γ Γ' : List (Option VA)} {Ω Ω' Ω1 Ω2 : List OA} {A : VA} {As : List VA} {te : TE} {t ta : TA} {D : Ends} {F0 F1 : Hp} {W Wo : WX} {Pre : PreT} {PreX : PreXX} {E : XK} {r : XC} {K : PySem.W.Frag} {l : List Cla}
end
end VL
namespace VL
open PySem PySem.Spec PyProof.Rows L2
instance : Dat (ES Int) := ⟨fun x => match x with | .ok a => .int a | .s t => .str t, fun x => match x with | .ok _ => True | .s t => (PyData.str t).canLay0 = true, 0, fun {T F H v a} e h => by
    cases a with
    | ok a => rw [show v = V.int a from h]; exact .int _
    | s t => rw [show v = V.str t from h]; exact .str _, fun {a} h => by
    cases a with
    | ok a => rfl
    | s t => exact h, fun {a} => by
    cases a with
    | ok a => exact Nat.le_refl _
    | s t => exact Nat.le_refl _, fun {a b} => by
    cases a <;> cases b
    · exact (Dat.eqv (α := Int)).trans ⟨fun h => by rw [h], fun h => ES.ok.inj h⟩
    · exact ⟨fun h => (Bool.false_ne_true (show false = true from h)).elim, fun h => nomatch h⟩
    · exact ⟨fun h => (Bool.false_ne_true (show false = true from h)).elim, fun h => nomatch h⟩
    · exact (Dat.eqv (α := Str)).trans ⟨fun h => by rw [h], fun h => ES.s.inj h⟩⟩
/-- the field's number, of an exception of the class c with the field fl -/
def XC.isN (c : Nat) (fl : Str) : XC → Option Int
  | .n k g x => if k = c ∧ g = fl then some x else none
  | .z _ => none
  | .f _ _ _ => none
def onI {β : Type} (o : Option Int) (s : Int → Option β) (n : Option β) : Option β := match o with | some x => s x | none => n
end VL

set_option Elab.async false
set_option linter.all false
set_option maxRecDepth 100000
set_option maxHeartbeats 2000000
/-! VL79: loops over values of several kinds, lists of several kinds among them; one of several such values. -/
namespace VL
open PySem PySem.Spec PyProof.Rows L2 LamX
/-- an element: of any kind, or an int, a truth, a number, or a list that may be read as a list of several kinds -/
def Kin5 (T : TC) (P : VA → Prop) (QI : Int → Prop) (QB : Bool → Prop) (QG : Bg → Prop) (QM : List MV → Prop) (a : VA) : Prop := Kin T P QI QB QG a ∨ ∃ l : List MV, (∀ F v, a.P F v → (va T (LF.mk l)).P F v) ∧ QM l
section
variable {T : TC} {Γ : List (Option VA)} {Ω O Ω' : List OA} {D : Ends} {F0 : Hp} {wi : L2.TI} {tb ts : TS} {k : Nat} {As : List VA} {G : List (Option VA)} {te : XK → TE} {r : XC} {i : Nat}
theorem xs_forM {P : VA → Prop} {QI : Int → Prop} {QB : Bool → Prop} {QG : Bg → Prop} {QM : List MV → Prop} (hi : XI wi G Ω As (fun A => A) O) (hall : ∀ a ∈ As, Kin5 T P QI QB QG QM a)
    (hA : ∀ A, P A → ∀ F1 D', Same F0 F1 → Turn F1 D' G O → XS tb D' F1 (G.set k (some A)) O) (hI : ∀ i : Int, QI i → ∀ F1 D', Same F0 F1 → Turn F1 D' G O → XS tb D' F1 (G.set k (some (va T i))) O)
    (hB : ∀ b : Bool, QB b → ∀ F1 D', Same F0 F1 → Turn F1 D' G O → XS tb D' F1 (G.set k (some (va T b))) O) (hG : ∀ x : Bg, QG x → ∀ F1 D', Same F0 F1 → Turn F1 D' G O → XS tb D' F1 (G.set k (some (va T x))) O)
    (hM : ∀ l : List MV, QM l → ∀ F1 D', Same F0 F1 → Turn F1 D' G O → XS tb D' F1 (G.set k (some (va T (LF.mk l)))) O)
    (hn : ∀ σ H, NX F0 G O σ H → D.nx σ H) : XS (tFor wi (gName k) tb) D F0 G Ω :=
  xs_for (bd := fun (_ : VA) (_ : Unit) => some (Stp.nx () : Stp Unit Unit)) (s0 := ()) (st := .nx ()) (f := fun A Γ => Γ.set k (some A)) (fun _ => G) (fun _ => O) (fun _ _ _ _ => False) (forM'_nx As) hi (fun _ => tgt_name)
    (fun a s s' ha hm F1 D' f1 hD => by
      cases Option.some.inj hm
      rcases hall a ha with (h | ⟨i, rfl, h⟩ | ⟨b, rfl, h⟩ | ⟨x, rfl, h⟩) | ⟨l, hw, h⟩
      · exact hA a h F1 D' f1 hD
      · exact hI i h F1 D' f1 hD
      · exact hB b h F1 D' f1 hD
      · exact hG x h F1 D' f1 hD
      · exact xs_weak hw (hM l h F1 D' f1 hD)) (fun s _ σ H n => hn σ H n) (fun r z => nomatch z)
theorem xs_forMS {P : VA → Prop} {QI : Int → Prop} {QB : Bool → Prop} {QG : Bg → Prop} {QM : List MV → Prop} (hi : XI wi G Ω As (fun A => A) O) (hall : ∀ a ∈ As, Kin5 T P QI QB QG QM a)
    (hA : ∀ A, P A → ∀ F1 D', Same F0 F1 → Turn F1 D' G O → XS tb D' F1 (G.set k (some A)) O) (hI : ∀ i : Int, QI i → ∀ F1 D', Same F0 F1 → Turn F1 D' G O → XS tb D' F1 (G.set k (some (va T i))) O)
    (hB : ∀ b : Bool, QB b → ∀ F1 D', Same F0 F1 → Turn F1 D' G O → XS tb D' F1 (G.set k (some (va T b))) O) (hG : ∀ x : Bg, QG x → ∀ F1 D', Same F0 F1 → Turn F1 D' G O → XS tb D' F1 (G.set k (some (va T x))) O)
    (hM : ∀ l : List MV, QM l → ∀ F1 D', Same F0 F1 → Turn F1 D' G O → XS tb D' F1 (G.set k (some (va T (LF.mk l)))) O)
    (hn : XS ts D F0 G O) : XS (tSeq (tFor wi (gName k) tb) ts) D F0 G Ω := xs_seq (xs_forM hi hall hA hI hB hG hM hn)
end
end VL

set_option Elab.async false
set_option linter.all false
set_option maxRecDepth 100000
set_option maxHeartbeats 2000000
/-! VL80: a def that is handed a list of lambdas, and hands each to a def that tries it. -/
namespace VL
open PySem PySem.Spec PyProof.Rows L2 LamX
abbrev ActF := XK → Hp → VK → Prop
abbrev PreLXs := List (Addr × ActF) → PreT
structure CalLXs (P : Program) (w : World) (K : PySem.W.Frag) (mg : Str → Option Value) (base : Heap) (kl k : Nat) (x : Str) (ps : List Str) (Pre : PreLXs) : Prop where
  ex : ∃ g fd, mg x = some (.ref g) ∧ PySem.W.keepIn K (.ref g) = true ∧ Binds K fd ps [] ∧ (∀ fs As Ω R, Pre fs As Ω R → As.length = ps.length) ∧
    ∀ (A : Around) (outer : List PySem.Env) (s : Shared) (H : Hp) (us : List Value) (vs : List V) (Q : VK) (fs : List (Addr × ActF)), Room k A → Env0 P w K mg base A outer s H → BindsTo s fd ⟨us, []⟩ (ps.zip us) → Vals vs us →
      (∀ p ∈ fs, CanCall P w K mg base kl H s.heap p.1 p.2) → mkSp (Pre fs) vs H Q E0 → codeAny (model P w) A (.call (.ref g) ⟨us, []⟩) (CR CX0 outer P w H s Q E0) s
section
variable {P : Program} {w : World} {K : PySem.W.Frag} {mg : Str → Option Value} {base : Heap}
end
/-! ### f(x), x's value one of the lambdas that were handed in -/
def tCallAX (fs : List (Addr × ActF)) (Pre : PreLX) (i : Nat) : TE := fun τ H Q => ∃ p ∈ fs, τ[i]? = some (some (.ref p.1)) ∧ mkSp (Pre p.1 p.2) [.ref p.1] H Q E0
section
variable {X : Cx}
end
section
variable {T : TC} {Γ : List (Option VA)} {Ω Ω2 Ω3 : List OA} {A : VA} {i : Nat}
/-- a lambda that may be asked while one thing more is held -/
def askB (T : TC) (f : Addr) (act : ActF) (Ω : List OA) (o : Option XC) : VA := ⟨fun F v => v = .ref f ∧ ∀ X : OA, (askX T f act (Ω ++ [X]) (Ω ++ [X]) o).P F v, fun e ⟨h1, h2⟩ => ⟨h1, fun X => (askX T f act (Ω ++ [X]) (Ω ++ [X]) o).mono e (h2 X)⟩⟩
end
/-! ### x(list, ..): the list's elements lambdas of this frame -/
def tCallLXs (X : Cx) (kl : Nat) (Pre : PreLXs) (ta : TA) : TE := fun σ H Q => ta σ H fun vs H1 => ∃ fs : List (Addr × ActF), (∀ p ∈ fs, ∃ (Lm : LamPk X kl) (c' : Addr), p.2 = Lm.act c' p.1 σ) ∧ mkSp (Pre fs) vs H1 Q E0
section
variable {X : Cx}
end
section
variable {X : Cx} {kl : Nat} {T : TC} {Γ : List (Option VA)} {Ω Ω2 Ω3 : List OA} {A : VA} {ta : TA}
end
end VL

set_option Elab.async false
set_option linter.all false
set_option maxRecDepth 100000
set_option maxHeartbeats 2000000
/-! VL81: a loop over a written list, each turn with a state of its own. -/
namespace VL
open PySem PySem.Spec PyProof.Rows L2 LamX
section
variable {T : TC} {Ω : List OA} {D : Ends} {F0 : Hp} {wi : L2.TI} {tb ts : TS} {k : Nat} {As : List VA}
/-- what the turn i may rely on -/
abbrev TurnL (F1 : Hp) (D' : Ends) (Gs : Nat → List (Option VA)) (Os : Nat → List OA) (i : Nat) : Prop := To D' F1 (Stp.nx (i + 1) : Stp Nat Unit) (fun s => NX F1 (Gs s) (Os s)) (fun s => NX F1 (Gs s) (Os s)) (fun _ _ _ _ => False)
end
section
variable {T : TC} {Ω : List OA}
theorem dpn_mvS {a : DPn} (hk : PySem.W.kitOne T.K (.type "list") (.type "int") = some false) (h : 1 ≤ a.d) : ∀ F v, (va T a).P F v → (va T (LF.mk [MV.o])).P F v := by
  obtain ⟨d⟩ := a
  cases d with
  | zero => exact absurd h (by decide)
  | succ d => exact dpn_mv hk
theorem tya_dpn {a : DPn} : TyA T Ω (va T a) (.type "list") := fun F H v hh h => tf_dpn (T := T) F H v hh.same h
end
end VL

set_option Elab.async false
set_option linter.all false
set_option maxRecDepth 100000
set_option maxHeartbeats 2000000
/-! VL82: a loop over a written list of pairs whose first part is a thing, each turn with a state of its own. -/
namespace VL
open PySem PySem.Spec PyProof.Rows L2 LamX
section
variable {T : TC} {Γ : List (Option VA)} {Ω Ω1 : List OA} {D : Ends} {F0 : Hp} {wi : L2.TI} {tb ts : TS} {k l : Nat}
theorem xi_mapE {β : Type} {zs : List β} {g : β → VA} (h : XI wi Γ Ω (zs.map g) (fun A => A) Ω1) : XI wi Γ Ω zs g Ω1 := fun F σ H e hh R r =>
  h F σ H e hh R fun F' J H' Sx e' hh' W sx => r F' J H' Sx e' hh' ⟨W.mono, fun i F Ω H q hh hi => W.go i F Ω H q hh (by rw [List.length_map]; exact hi), fun F Ω H q hh => by have := W.stop F Ω H q hh; rwa [List.length_map] at this,
    fun i a F Ω H x H' q hh hx y => W.yld i (g a) F Ω H x H' q hh (by rw [List.getElem?_map, hx]; rfl) y⟩ sx
end
end VL

set_option Elab.async false
set_option linter.all false
set_option maxRecDepth 100000
set_option maxHeartbeats 2000000
/-! VL83: a loop over a list one of whose things is made while the list is written: its place is known only then. -/
namespace VL
open PySem PySem.Spec PyProof.Rows L2 LamX
section
variable {T : TC} {Γ : List (Option VA)} {Ω Ω1 : List OA} {D : Ends} {F0 : Hp} {wi : L2.TI} {tb ts : TS} {k l : Nat}
def XIN {α : Type} (wi : L2.TI) (Γ : List (Option VA)) (Ω : List OA) (xs : List α) (A : Addr → α → VA) (Ω2 : Addr → List OA) : Prop :=
  ∀ F σ H, Env F σ Γ → Holds F Ω H → ∀ R : It → Hp → Prop, (∀ p F' J H' Sx, Same F F' → Holds F' (Ω2 p) H' → Wk J Sx xs (A p) → Sx F' → R J H') → wi σ H R
/-- the pairs of two machines, the other way about, and a new one with the first -/
def psMOM (pm po : Addr) (p : Addr) : Nat → Addr × VA | 0 => (pm, vr po) | 1 => (po, vr pm) | _ => (p, vr pm)
def pick3 {β : Type} : Nat → β → β → β → β | 0, a, _, _ => a | 1, _, b, _ => b | _, _, _, c => c
end
end VL

set_option Elab.async false
set_option linter.all false
set_option maxRecDepth 100000
set_option maxHeartbeats 2000000
/-! VL84: a lambda within a comprehension over defs of the program: the block's own name is what the lambda calls. -/
namespace VL
open PySem PySem.Spec PyProof.Rows L2 LamX
structure HeldFX (P : Program) (w : World) (K : PySem.W.Frag) (mg : Str → Option Value) (base : Heap) (k : Nat) (f : Addr) (sp : Sp) : Prop where
  ex : ∃ (fd : FuncData) (ps : List Str), FnOk P w K mg base (L2.CX P w) k f fd ps sp ∧ PySem.W.keepIn K (.ref f) = true ∧ Binds K fd ps []
section
variable {P : Program} {w : World} {K : PySem.W.Frag} {mg : Str → Option Value} {base : Heap} {j k : Nat} {x : Str} {ps : List Str} {sp : Sp} {f : Addr}
theorem held_of (c : CalX P w K mg base j x ps sp) (g : ∃ u, mg x = some u ∧ RelV (.ref f) u) (h : j ≤ k) : HeldFX P w K mg base k f sp := by
  obtain ⟨f', fd, F, hm, hk, hb⟩ := c.ex
  obtain ⟨u, hu, r⟩ := g
  cases r
  rw [hm] at hu
  cases hu
  exact ⟨fd, ps, F.mono h, hk, hb⟩
theorem held_nil : ∀ (f : Addr) (sp : Sp), False → HeldFX P w K mg base k f sp := fun _ _ h => h.elim
theorem held_or {S : Addr → Sp → Prop} (h1 : HeldFX P w K mg base k f sp) (t : ∀ g q, S g q → HeldFX P w K mg base k g q) : ∀ g q, ((g = f ∧ q = sp) ∨ S g q) → HeldFX P w K mg base k g q := fun g q h => by
  rcases h with ⟨rfl, rfl⟩ | h
  · exact h1
  · exact t g q h
end
/-- x(..), x a name of the frame that holds one of several defs, which may raise -/
def tCallFS (i : Nat) (S : Addr → Sp → Prop) (W : WX) (t : TA) : TE := fun σ H Q => ∃ f sp, σ[i]? = some (some (.ref f)) ∧ S f sp ∧ tCallS sp (WE W) t σ H Q
section
variable {X : Cx} {k i : Nat} {S : Addr → Sp → Prop} {x : Str} {p pos : Pos} {e : Expr} {es : List Expr} {t : TA} {W : WX}
theorem pe_callFS (A : ∀ f sp, S f sp → HeldFX X.prog X.w X.K X.mg X.base k f sp) (hr : Room k X.A) (tk : Takes X W) (hN : X.N[i]? = some x) (hv : Vis X.env.scope x) (ha : PA X (e :: es) t)
    (hdb : (x == ("__debug__" : Str)) = false := by decide) (hcd : (x == ("__classdict__" : Str)) = false := by decide)
    (he : starEach (e :: es) X.env = (false, eval e X.env) :: starEach es X.env := by rfl) (hpl : (backTo pos (starEach es X.env)).any (·.1) = false := by rfl) :
    PE X (.Call (.Name x p) (e :: es) [] pos) (tCallFS i S W t) := ⟨fun pins s σ H Q I h => by
  obtain ⟨f, sp, hs, hS, ht⟩ := h
  obtain ⟨fd, ps, F, hk, hb⟩ := (A f sp hS).ex
  refine wpAny_Call_Name_kw (thn ((pe_var (pos := p) hN hv hdb hcd).run pins s σ H (fun v H1 => v = .ref f ∧ H1 = H) I ⟨.ref f, hs, rfl, rfl⟩) fun u s1 ⟨v, H1, I1, r1, q1⟩ => ?_)
  obtain ⟨rfl, rfl⟩ := q1
  cases r1
  refine PySem.W.callWith_K (h₀ := X.base) I.ok.mod.kin hk (thn (ha.run pos pins s1 σ _ _ I1 ht) fun us s2 ⟨vs, H2, I2, r, q⟩ => ⟨I2.kIn, ?_⟩) he hpl
  exact run_fnS F hr hb (passAt tk σ) I2 r q⟩
end
section
variable {T : TC} {Γ : List (Option VA)} {Ω Ω1 Ω2 : List OA} {A : VA} {As : List VA} {t : TA} {F0 : Hp} {W : WX} {i : Nat} {a : FT} {S : Addr → Sp → Prop} {sp : Sp} {PreX : PreXX} {r : XC}
theorem xr_callFS (hs : Γ[i]? = some (some (va T a))) (hS : S (T.C (200 + a.i)) sp) (hsub : ∀ vs H Q E, mkSpX PreX vs H Q E → sp vs H Q E) (ha : XA t Γ Ω As Ω1) (hp : PreX As Ω1 (RQ T r Ω1)) (hw : WTC W T r F0 Γ Ω1) : XR (tCallFS i S W t) F0 Γ Ω := fun σ H n Q => by
  obtain ⟨F, f0, e, hh⟩ := n
  obtain ⟨v, h1, h2⟩ := e.2 i _ hs
  have h2 : v = .ref (T.C (200 + a.i)) := h2
  subst h2
  exact ⟨_, _, h1, hS, xr_callU hsub ha hp hw σ H ⟨F, f0, e, hh⟩ Q⟩
end
/-! ### a comprehension whose element's meaning goes with its block -/
def tAllB (te : Shared → Hp → Addr → List (Str × Addr) → List Addr → TE) : TE := fun σ H Q => ∀ s H1 C cl fp, te s H1 C cl fp σ H Q
theorem xe_allB {te : Shared → Hp → Addr → List (Str × Addr) → List Addr → TE} {Γ : List (Option VA)} {Ω Ω1 : List OA} {A : VA} (h : ∀ s H1 C cl fp, XE (te s H1 C cl fp) Γ Ω A Ω1) : XE (tAllB te) Γ Ω A Ω1 := fun F σ H e hh Q q s H1 C cl fp => h s H1 C cl fp F σ H e hh Q q
theorem pe_lcB {X : Cx} {elt tg iter : Expr} {scope : Scope} {own : List (Str × Nat)} {pos : Pos} {wi : L2.TI} {g : TG} {te : Shared → Hp → Addr → List (Str × Addr) → List Addr → TE} (calm : X.calm = true) (nd : X.N.Nodup) (dit : PI X tg iter wi) (okb : BlkOk X.N X.env.scope scope own)
    (dg : ∀ (s : Shared) (H : Hp) (C : Addr) (cl : List (Str × Addr)) (fp : List Addr), PG (X.blk s H scope (compEnvC scope cl C X.env) fp) tg g)
    (de : ∀ (s : Shared) (H : Hp) (C : Addr) (cl : List (Str × Addr)) (fp : List Addr), PE (X.blk s H scope (compEnvC scope cl C X.env) fp) elt (te s H C cl fp))
    (nf : ∀ x, foldedSetIterable iter X.env x = pure x := by intro _; rfl) : PE X (.ListComp elt [⟨tg, iter, [], 0⟩] scope pos) (tLc wi g tYes (tAllB te) (own.map (·.2))) :=
  pe_lcF calm nd dit okb dg (fun _ _ _ _ _ _ _ => PTr.of pts_nil) (fun σ s H C cl fp _ => PEr.of ⟨fun pins s1 τ H1 Q I h => (de s H C cl fp).run pins s1 τ H1 Q I (h s H C cl fp)⟩) nf
theorem lamS_blk {scope lscope sc : Scope} {cl : List (Str × Addr)} {C : Addr} {E : PySem.Env} (hs : E.scope = sc) (h : lamSB (relS scope sc) lscope = true) : LamS (compEnvC scope cl C E).scope lscope := by
  subst hs
  exact lamS_by h
section
variable {T : TC} {Γ : List (Option VA)} {Ω Ω1 Ω2 : List OA} {ta tb : TE}
end
theorem outc_n {T : TC} {Γ : List (Option VA)} {Ω Ω' : List OA} {tb : XK → TE} (h : ∀ E : XK, ∃ B : VA, XE (tb E) Γ Ω B Ω') : Outc T Γ Ω Ω' tb none := h
end VL

set_option Elab.async false
set_option linter.all false
set_option maxRecDepth 100000
set_option maxHeartbeats 2000000
/-! VL85: deep tuples, a list of two values; a comprehension over lambdas each of which changes the state. -/
namespace VL
open PySem PySem.Spec PyProof.Rows L2 LamX
/-- a tuple whose things are not looked at -/
inductive DT where
  | mk
instance : Rp DT := ⟨fun T F v _ => ∃ p vs, v = .ref p ∧ SqT T.K F p vs, fun e ⟨p, vs, h1, h2⟩ => ⟨p, vs, h1, Same.tup e h2⟩⟩
/-- a list of two values -/
structure LP (α β : Type) where
  a : α
  b : β
instance {α β : Type} [Rp α] [Rp β] : Rp (LP α β) := ⟨fun T F v x => ∃ p u w, v = .ref p ∧ F p = some (.lst [u, w]) ∧ Rp.rep T F u x.a ∧ Rp.rep T F w x.b, fun e ⟨p, u, w, h1, h2, h3, h4⟩ => ⟨p, u, w, h1, e _ _ h2, Rp.mono e h3, Rp.mono e h4⟩⟩
section
variable {T : TC} {Γ : List (Option VA)} {Ω Ω0 Ω1 Ω2 : List OA} {A B : VA} {As : List VA} {ta : TA} {te : TE} {α β : Type} [Rp α] [Rp β]
theorem xe_dt (ha : XA ta Γ Ω As Ω1) (hz : As.length ≤ sizeLine) : XE (tTup ta) Γ Ω (va T DT.mk) Ω1 := xe_weak (xe_tpA (T := T) ha hz) fun F v ⟨p, vs, h1, h2, _⟩ => ⟨p, vs, h1, h2⟩
theorem tf_dt : ∀ F H v, Same F H → (va T DT.mk).P F v → TyX T.K H v (.type "tuple") := fun F H v e ⟨p, vs, h1, h2⟩ => h1 ▸ ty_sqt (Same.tup e h2)
theorem tya_dt : TyA T Ω (va T DT.mk) (.type "tuple") := fun F H v hh h => tf_dt F H v hh.same h
theorem xe_lp {x : α} {y : β} (h : XA ta Γ Ω [va T x, va T y] Ω1) : XE (tLst ta) Γ Ω (va T (LP.mk x y)) Ω1 := xe_weak (xe_lsA h (by rw [sizeLine_eq]; exact Nat.le_of_ble_eq_true rfl)) fun F v ⟨p, vs, h1, h2, h3⟩ => by
  cases h3 with
  | cons a t => cases t with
    | cons b t => cases t; exact ⟨p, _, _, h1, h2, a, b⟩
theorem xe_unlp {x : LP α β} (h : XE te Γ Ω (va T x) Ω1) : XE te Γ Ω (lsA [va T x.a, va T x.b]) Ω1 := xe_weak h fun F v ⟨p, u, w, h1, h2, h3, h4⟩ => ⟨p, [u, w], h1, h2, .cons h3 (.cons h4 .nil)⟩
theorem xe_lpB {x : LP α β} {tb : TE} (h : XE te Γ Ω (va T x) Ω1) (hb : XE tb Γ Ω1 (va T (1 : Int)) Ω2) : XE (tOp (rIx T.K) te tb) Γ Ω (va T x.b) Ω2 := xe_weak (xe_ixP (xe_unlp h) hb (by decide) (by show (1 : Int) < 2; decide)) fun F v ⟨B, hB, p⟩ => by
  cases (show some (va T x.b) = some B from hB)
  exact p
theorem al_mapg {g : α → β} (hg : ∀ x F v, (va T x).P F v → (va T (g x)).P F v) {F : Hp} : ∀ {vs : List V} {l : List α}, Al T F vs l → Al T F vs (l.map g)
  | _, _, .nil => .nil
  | _, _, .cons h t => .cons (hg _ _ _ h) (al_mapg hg t)
theorem xe_enNL {l : List Unit} (h : XE te Γ Ω (va T (LF.mk l)) Ω1) : XE te Γ Ω (va T (LF.mk (l.map fun _ => (EN.no : EN α)))) Ω1 := xe_weak h fun F v ⟨p, vs, h1, h2, h3⟩ => ⟨p, vs, h1, h2, al_mapg (T := T) (g := fun (_ : Unit) => (EN.no : EN α)) (fun _ _ v h => (show v = .non from h)) h3⟩
end
/-! a chain of states -/
inductive PwS {γ S : Type} (P : VA → γ → S → S → Prop) : S → List VA → List γ → S → Prop
  | nil {s : S} : PwS P s [] [] s
  | cons {A : VA} {y : γ} {As : List VA} {ys : List γ} {s s1 s2 : S} (h : P A y s s1) (t : PwS P s1 As ys s2) : PwS P s (A :: As) (y :: ys) s2
structure Zs (γ S : Type) where
  A : VA
  y : γ
  s : S
  t : S
open Classical in
noncomputable def zsB {γ S : Type} (z : Zs γ S) (s : S) : Option (Option γ × S) := if s = z.s then some (some z.y, z.t) else none
theorem PwS.zs {γ S : Type} {P : VA → γ → S → S → Prop} : ∀ {As : List VA} {ys : List γ} {s s1 : S}, PwS P s As ys s1 → ∃ zs : List (Zs γ S), zs.map (·.A) = As ∧ lcM zsB zs s = some (ys, s1) ∧ ∀ z ∈ zs, P z.A z.y z.s z.t
  | _, _, _, _, .nil => ⟨[], rfl, rfl, fun z h => nomatch h⟩
  | _, _, s, _, .cons (A := A) (y := y) (s1 := s1) h t => by
    obtain ⟨zs, h1, h2, h3⟩ := t.zs
    refine ⟨⟨A, y, s, s1⟩ :: zs, by rw [List.map_cons, h1], ?_, fun z hz => ?_⟩
    · show (zsB ⟨A, y, s, s1⟩ s).bind _ = _
      rw [show zsB ⟨A, y, s, s1⟩ s = some (some y, s1) from if_pos rfl]
      show (lcM zsB zs s1).bind _ = _
      rw [h2]
      rfl
    · rcases List.mem_cons.mp hz with rfl | hz
      · exact h
      · exact h3 z hz
section
variable {T : TC} {Γ : List (Option VA)} {Ω Ω0 Ω1 Ω2 : List OA} {As : List VA} {te : TE}
theorem xi_zs {γ S : Type} {wi : L2.TI} {zs : List (Zs γ S)} (h : XI wi Γ Ω (zs.map (·.A)) (fun A => A) Ω1) : XI wi Γ Ω zs (fun z => z.A) Ω1 := xi_mapE h
/-- [f(x) for x in a list of any values], each call of which may change the state -/
theorem xn_lcAS {γ : Type} [Rp γ] {ys : List γ} {wi : L2.TI} {i : Nat} {vs : List Nat} {s0 s1 : List (Nat × OA) × List OA} (hi : XI wi Γ Ω0 As (fun A => A) (stt Ω s0.1 s0.2)) (hj : i ∈ vs) (hz : As.length ≤ sizeLine)
    (hb : PwS (fun A y s s' => ∀ X : OA, XE te ((wip Γ vs).set i (some A)) (stt Ω s.1 (s.2 ++ [X])) (va T y) (stt Ω s'.1 (s'.2 ++ [X]))) s0 As ys s1) : XG (tLc wi (gName i) tYes te vs) Γ Ω0 (RN (stt Ω s1.1 s1.2) fun p => lstA T p ys) := by
  obtain ⟨zs, z1, z2, z3⟩ := hb.zs
  refine xn_lcS (f := fun (z : Zs γ (List (Nat × OA) × List OA)) Γ => Γ.set i (some z.A)) (js := [i]) (fun s => s.1) (fun s => s.2) z2 (xi_zs (by rw [z1]; exact hi)) (fun a => tgt_name) (fun j hj' => by rw [List.mem_singleton.mp hj']; exact hj) (by rw [← List.length_map (f := Zs.A), z1]; exact hz) fun a s o s' ha h X => ?_
  unfold zsB at h
  by_cases q : s = a.s
  · rw [if_pos q] at h
    obtain ⟨rfl, rfl⟩ := Prod.mk.inj (Option.some.inj h)
    refine ⟨(fun z => nomatch z), fun y e => ?_⟩
    cases e
    exact ⟨xt_yes, q ▸ z3 a ha X⟩
  · rw [if_neg q] at h
    cases h
end
end VL

set_option Elab.async false
set_option linter.all false
/-! the mathematics: loops by invariants, digits, bits -/
namespace VL
open PySem L2
theorem chkP_eq {p : Prop} (h : p) : chkP p = some () := by unfold chkP; exact if_pos h
theorem bnd_of {α β : Type} {o : Option α} {a : α} {f : α → Option β} {r : Option β} (h : o = some a) (k : f a = r) : o.bind f = r := by rw [h]; exact k
/-! ### loops -/
section
variable {α S ρ : Type} {b : α → S → Option (Stp S ρ)}
theorem forM_cons {x : α} {r : List α} {s s' : S} (h : b x s = some (.nx s')) : forM' b (x :: r) s = forM' b r s' := by
  show (b x s).bind _ = _
  rw [h]
  rfl
theorem forM_ind (I : Nat → S → Prop) : ∀ (xs : List α) (k : Nat) (s : S), (∀ i x s, xs[i]? = some x → I (k + i) s → ∃ s', b x s = some (.nx s') ∧ I (k + i + 1) s') → I k s → ∃ s', forM' b xs s = some (.nx s') ∧ I (k + xs.length) s'
  | [], k, s, _, h => ⟨s, rfl, h⟩
  | x :: r, k, s, hs, h => by
    obtain ⟨s1, e1, i1⟩ := hs 0 x s rfl h
    obtain ⟨s2, e2, i2⟩ := forM_ind I r (k + 1) s1 (fun i y t hy ht => by
      obtain ⟨t', e, q⟩ := hs (i + 1) y t hy (by rw [show k + (i + 1) = k + 1 + i from by omega]; exact ht)
      exact ⟨t', e, by rw [show k + 1 + i + 1 = k + (i + 1) + 1 from by omega]; exact q⟩) i1
    exact ⟨s2, by rw [forM_cons e1, e2], by rw [List.length_cons, show k + (r.length + 1) = k + 1 + r.length from by omega]; exact i2⟩
end
theorem lcM_mapU {β γ : Type} {b : β → Unit → Option (Option γ × Unit)} {f : β → γ} : ∀ {xs : List β}, (∀ x ∈ xs, b x () = some (some (f x), ())) → lcM b xs () = some (xs.map f, ())
  | [], _ => rfl
  | x :: r, h => by
    show (b x ()).bind _ = _
    rw [h x List.mem_cons_self]
    show (lcM b r ()).bind _ = _
    rw [lcM_mapU fun y hy => h y (List.mem_cons_of_mem _ hy)]
    rfl
/-! ### bits -/
def bl (a : Nat) : Nat := if a = 0 then 0 else a.log2 + 1
theorem intBits_nat (a : Nat) : Builtin.Int.intBits (a : Int) = bl a := by
  unfold Builtin.Int.intBits bl
  by_cases h : a = 0
  · subst h; rfl
  · rw [if_neg h, if_neg (by simpa using h), Int.natAbs_natCast]
def pc (a : Nat) : Nat := if h : a = 0 then 0 else a % 2 + pc (a / 2)
termination_by a
decreasing_by omega
/-! ### digits -/
def dg (w a : Nat) : List Int := if h : a = 0 ∨ w = 0 then [] else ((a % 2 ^ w : Nat) : Int) :: dg w (a / 2 ^ w)
termination_by a
decreasing_by
  have h1 : a ≠ 0 := fun e => h (.inl e)
  have h2 : w ≠ 0 := fun e => h (.inr e)
  exact Nat.div_lt_self (by omega) (Nat.one_lt_two_pow h2)
theorem dg_zero (w : Nat) : dg w 0 = [] := by unfold dg; rfl
theorem dg_pos {w a : Nat} (hw : w ≠ 0) (h : a ≠ 0) : dg w a = ((a % 2 ^ w : Nat) : Int) :: dg w (a / 2 ^ w) := by
  rw [dg, dif_neg (fun e => e.elim h hw)]
theorem dg_ind {w : Nat} (hw : w ≠ 0) {p : Nat → Prop} (h0 : p 0) (hs : ∀ a, a ≠ 0 → p (a / 2 ^ w) → p a) : ∀ a, p a := fun a => by
  induction a using Nat.strongRecOn with
  | ind a ih =>
    by_cases h : a = 0
    · subst h; exact h0
    · exact hs a h (ih _ (Nat.div_lt_self (by omega) (Nat.one_lt_two_pow hw)))
section
variable {w : Nat} (hw : w ≠ 0)
include hw
theorem dg_mem : ∀ a, ∀ x ∈ dg w a, ∃ d : Nat, x = (d : Int) ∧ d < 2 ^ w := by
  refine dg_ind hw (fun x hx => by rw [dg_zero] at hx; cases hx) fun a h ih x hx => ?_
  rw [dg_pos hw h] at hx
  rcases List.mem_cons.mp hx with e | e
  · exact ⟨_, e, Nat.mod_lt _ (Nat.two_pow_pos w)⟩
  · exact ih x e
theorem dg_len : ∀ a m, a < 2 ^ (w * m) → (dg w a).length ≤ m := by
  refine dg_ind hw (fun m _ => by rw [dg_zero]; exact Nat.zero_le _) fun a h ih m hm => ?_
  rw [dg_pos hw h, List.length_cons]
  cases m with
  | zero => rw [Nat.mul_zero, Nat.pow_zero] at hm; omega
  | succ m =>
    have := ih m (by
      rw [Nat.div_lt_iff_lt_mul (Nat.two_pow_pos w), ← Nat.pow_add, show w * m + w = w * (m + 1) from by rw [Nat.mul_succ]]
      exact hm)
    omega
end
/-! ### rows from the last digit on, compared -/
def vm (B : Int) : List Int → Int
  | [] => 0
  | d :: r => d * B ^ r.length + vm B r
theorem vm_snoc {B : Int} : ∀ {r : List Int} {d : Int}, vm B (r ++ [d]) = vm B r * B + d
  | [], d => by show d * B ^ 0 + 0 = 0 * B + d; simp
  | e :: r, d => by
    show e * B ^ (r ++ [d]).length + vm B (r ++ [d]) = (e * B ^ r.length + vm B r) * B + d
    rw [vm_snoc (r := r), List.length_append, show [d].length = 1 from rfl, Int.pow_succ, Int.add_mul, ← Int.mul_assoc, Int.add_assoc]
theorem vm_bound {B : Int} (hB : 0 < B) : ∀ {r : List Int}, (∀ x ∈ r, 0 ≤ x ∧ x < B) → 0 ≤ vm B r ∧ vm B r < B ^ r.length
  | [], _ => ⟨Int.le_refl _, by show (0 : Int) < B ^ 0; rw [Int.pow_zero]; decide⟩
  | d :: r, h => by
    obtain ⟨i0, i1⟩ := vm_bound hB (r := r) fun x hx => h x (List.mem_cons_of_mem _ hx)
    obtain ⟨d0, d1⟩ := h d List.mem_cons_self
    have hp : 0 < B ^ r.length := Int.pow_pos hB
    have h0 : 0 ≤ d * B ^ r.length := Int.mul_nonneg d0 (by omega)
    have h1 : (d + 1) * B ^ r.length ≤ B * B ^ r.length := Int.mul_le_mul_of_nonneg_right (by omega) (by omega)
    rw [Int.add_mul, Int.one_mul] at h1
    show 0 ≤ d * B ^ r.length + vm B r ∧ d * B ^ r.length + vm B r < B ^ (r.length + 1)
    rw [Int.pow_succ, Int.mul_comm (B ^ r.length) B]
    omega
theorem vm_dg {w : Nat} (hw : w ≠ 0) : ∀ a : Nat, vm (2 ^ w) (dg w a).reverse = (a : Int) := by
  refine dg_ind hw (by rw [dg_zero]; rfl) fun a h ih => ?_
  rw [dg_pos hw h, List.reverse_cons, vm_snoc, ih]
  have := Nat.div_add_mod a (2 ^ w)
  have q : (a : Int) = ((2 ^ w * (a / 2 ^ w) + a % 2 ^ w : Nat) : Int) := by rw [this]
  conv => rhs; rw [q]
  push_cast
  rw [Int.mul_comm]
theorem dg_bound {w : Nat} (hw : w ≠ 0) (a : Nat) : a < 2 ^ (w * (dg w a).length) := by
  have h := (vm_bound (B := 2 ^ w) (Int.pow_pos (by decide)) (r := (dg w a).reverse) fun x hx => by
    obtain ⟨d, rfl, lt⟩ := dg_mem hw a x (List.mem_reverse.mp hx)
    have : ((d : Nat) : Int) < ((2 ^ w : Nat) : Int) := Int.ofNat_lt.mpr lt
    rw [Int.natCast_pow] at this
    exact ⟨by omega, this⟩).2
  rw [vm_dg hw, List.length_reverse] at h
  have e : (((2 ^ w) ^ (dg w a).length : Nat) : Int) = ((2 : Int) ^ w) ^ (dg w a).length := by rw [Int.natCast_pow, Int.natCast_pow]; rfl
  rw [← e] at h
  rw [Nat.pow_mul]
  exact Int.ofNat_lt.mp h
def cp : List Int → List Int → Nat
  | x :: r, y :: t => if x = y then cp r t + 1 else 0
  | _, _ => 0
end VL

set_option Elab.async false
set_option linter.all false
/-! rows from the first digit on; masks of any number -/
namespace VL
open PySem L2
theorem mod_neg (t : Nat) {M : Nat} (hM : 0 < M) : (-(t : Int) - 1) % (M : Int) = (M : Int) - 1 - ((t % M : Nat) : Int) := by
  have h := Nat.div_add_mod t M
  have lt := Nat.mod_lt t hM
  have e : (-(t : Int) - 1) = ((M : Int) - 1 - ((t % M : Nat) : Int)) + (M : Int) * (-((t / M : Nat) : Int) - 1) := by
    have q : (t : Int) = ((M * (t / M) + t % M : Nat) : Int) := by rw [h]
    rw [q, Int.mul_sub, Int.mul_neg, Int.mul_one]
    push_cast
    omega
  rw [e, Int.add_mul_emod_self_left, Int.emod_eq_of_lt (by omega) (by omega)]
theorem and_low (x : Int) (W : Nat) : Builtin.bitAnd x ((2 ^ W - 1 : Nat) : Int) = x % 2 ^ W := by
  have hp : 0 < 2 ^ W := Nat.two_pow_pos W
  have e2 : ((2 : Int) ^ W) = ((2 ^ W : Nat) : Int) := by rw [Int.natCast_pow]; rfl
  rw [e2]
  by_cases h : 0 ≤ x
  · obtain ⟨a, rfl⟩ := Int.eq_ofNat_of_zero_le h
    rw [PySem.W.os_band, Nat.and_two_pow_sub_one_eq_mod]
    exact Int.natCast_emod _ _
  · obtain ⟨t, ht⟩ := Int.eq_ofNat_of_zero_le (a := -x - 1) (by omega)
    have ex : x = -(t : Int) - 1 := by omega
    have en : Builtin.bitNot x = (t : Int) := by show -x - 1 = (t : Int); exact ht
    unfold Builtin.bitAnd
    rw [decide_eq_false h, decide_eq_true (show (0 : Int) ≤ ((2 ^ W - 1 : Nat) : Int) from by omega)]
    show ((2 ^ W - 1 : Nat) : Int) - (((((2 ^ W - 1 : Nat) : Int)).toNat &&& (Builtin.bitNot x).toNat : Nat) : Int) = _
    rw [en, Int.toNat_natCast, Int.toNat_natCast, Nat.and_comm, Nat.and_two_pow_sub_one_eq_mod, ex, mod_neg t hp]
    omega
def lv (B : Int) : List Int → Int
  | [] => 0
  | d :: r => d + B * lv B r
theorem lv_bound {B : Int} (hB : 0 < B) : ∀ {r : List Int}, (∀ x ∈ r, 0 ≤ x ∧ x < B) → 0 ≤ lv B r ∧ lv B r < B ^ r.length
  | [], _ => ⟨Int.le_refl _, by show (0 : Int) < B ^ 0; rw [Int.pow_zero]; decide⟩
  | d :: r, h => by
    obtain ⟨i0, i1⟩ := lv_bound hB (r := r) fun x hx => h x (List.mem_cons_of_mem _ hx)
    obtain ⟨d0, d1⟩ := h d List.mem_cons_self
    have h0 : 0 ≤ B * lv B r := Int.mul_nonneg (by omega) i0
    have h1 : B * (lv B r + 1) ≤ B * B ^ r.length := Int.mul_le_mul_of_nonneg_left (by omega) (by omega)
    rw [Int.mul_add, Int.mul_one] at h1
    show 0 ≤ d + B * lv B r ∧ d + B * lv B r < B ^ (r.length + 1)
    rw [Int.pow_succ, Int.mul_comm (B ^ r.length) B]
    omega
theorem lv_split {B : Int} : ∀ (m : Nat) (l : List Int), m ≤ l.length → lv B l = lv B (l.take m) + B ^ m * lv B (l.drop m)
  | 0, l, _ => by rw [List.take_zero, List.drop_zero, Int.pow_zero, Int.one_mul]; show lv B l = 0 + lv B l; omega
  | m + 1, [], h => absurd h (by rw [List.length_nil]; omega)
  | m + 1, d :: r, h => by
    rw [List.take_succ_cons, List.drop_succ_cons]
    show d + B * lv B r = (d + B * lv B (r.take m)) + B ^ (m + 1) * lv B (r.drop m)
    rw [lv_split m r (by rw [List.length_cons] at h; omega), Int.mul_add, Int.pow_succ, Int.mul_comm (B ^ m) B, Int.mul_assoc]
    omega
end VL

set_option Elab.async false
set_option linter.all false
/-! sizes; rows of so many digits; differences -/
namespace VL
open PySem L2
theorem intBits_abs (n : Int) : Builtin.Int.intBits n = bl n.natAbs := by
  rw [← intBits_nat]
  unfold Builtin.Int.intBits
  rw [Int.natAbs_natCast]
  by_cases h : n = 0
  · subst h; rfl
  · rw [if_neg (by simpa using h), if_neg (by simpa using h)]
theorem bl_lt (a : Nat) : a < 2 ^ bl a := by
  unfold bl
  by_cases h : a = 0
  · subst h; decide
  · rw [if_neg h]; exact Nat.lt_log2_self
theorem bl_le {a k : Nat} : bl a ≤ k ↔ a < 2 ^ k := by
  constructor
  · intro h
    exact Nat.lt_of_lt_of_le (bl_lt a) (Nat.pow_le_pow_right (by decide) h)
  · intro h
    unfold bl
    by_cases e : a = 0
    · rw [if_pos e]; exact Nat.zero_le _
    · rw [if_neg e]
      have := (Nat.log2_lt e).mpr h
      omega
/-- how many digits -/
def sz (W a : Nat) : Nat := (bl a + W - 1) / W
theorem sz_le {W : Nat} (hw : W ≠ 0) {a k : Nat} : sz W a ≤ k ↔ a < 2 ^ (W * k) := by
  rw [← bl_le]
  unfold sz
  constructor
  · intro h
    have h1 := Nat.div_add_mod (bl a + W - 1) W
    have h2 := Nat.mod_lt (bl a + W - 1) (Nat.pos_of_ne_zero hw)
    have h3 : W * ((bl a + W - 1) / W) ≤ W * k := Nat.mul_le_mul_left W h
    omega
  · intro h
    have : bl a + W - 1 < W * (k + 1) := by rw [Nat.mul_succ]; omega
    have := (Nat.div_lt_iff_lt_mul (Nat.pos_of_ne_zero hw)).mpr (by rw [Nat.mul_comm]; exact this : bl a + W - 1 < (k + 1) * W)
    omega
theorem eq_of_le {x y : Nat} (h : ∀ k, x ≤ k ↔ y ≤ k) : x = y := by
  have h1 := (h y).mpr (Nat.le_refl _)
  have h2 := (h x).mp (Nat.le_refl _)
  omega
theorem dg_size {W : Nat} (hw : W ≠ 0) (a : Nat) : (dg W a).length = sz W a := eq_of_le fun k => by
  rw [sz_le hw]
  exact ⟨fun h => Nat.lt_of_lt_of_le (dg_bound hw a) (Nat.pow_le_pow_right (by decide) (Nat.mul_le_mul_left W h)), fun h => dg_len hw a k h⟩
theorem sz_zero {W : Nat} (hw : W ≠ 0) {a : Nat} : sz W a = 0 ↔ a = 0 := by
  have h := sz_le hw (a := a) (k := 0)
  rw [Nat.mul_zero, Nat.pow_zero] at h
  omega
theorem sz_one {W : Nat} (hw : W ≠ 0) {a : Nat} : sz W a ≤ 1 ↔ bl a ≤ W := by
  rw [sz_le hw, Nat.mul_one, ← bl_le]
/-! rows of so many digits -/
def rw_ (W : Nat) (n : Int) : Nat → List Int
  | 0 => []
  | k + 1 => (n % 2 ^ W) :: rw_ W (n / 2 ^ W) k
theorem pp (W k : Nat) : (2 : Int) ^ (W * k) = ((2 ^ (W * k) : Nat) : Int) := by rw [Int.natCast_pow]; rfl
theorem p2 (k : Nat) : (2 : Int) ^ k = ((2 ^ k : Nat) : Int) := by rw [Int.natCast_pow]; rfl
theorem ppos (k : Nat) : (0 : Int) < 2 ^ k := Int.pow_pos (by decide)
theorem rw_len (W : Nat) : ∀ (k : Nat) (n : Int), (rw_ W n k).length = k
  | 0, _ => rfl
  | k + 1, n => by show (rw_ W (n / 2 ^ W) k).length + 1 = _; rw [rw_len W k]
theorem ediv_pow (n : Int) (a b : Nat) : n / 2 ^ a / 2 ^ b = n / 2 ^ (a + b) := by
  rw [Int.pow_add, Int.ediv_ediv_of_nonneg (Int.le_of_lt (ppos a))]
theorem rw_app (W : Nat) : ∀ (k : Nat) (n : Int) (m : Nat), rw_ W n (k + m) = rw_ W n k ++ rw_ W (n / 2 ^ (k * W)) m
  | 0, n, m => by rw [Nat.zero_mul, Int.pow_zero, Int.ediv_one, Nat.zero_add]; rfl
  | k + 1, n, m => by
    rw [show k + 1 + m = (k + m) + 1 from by omega]
    show (n % 2 ^ W) :: rw_ W (n / 2 ^ W) (k + m) = _
    rw [rw_app W k, ediv_pow, show W + k * W = (k + 1) * W from by rw [Nat.succ_mul]; omega]
    rfl
theorem mod_div_pow (n : Int) (a b : Nat) : n % 2 ^ (a + b) / 2 ^ a = n / 2 ^ a % 2 ^ b := by
  have ha := ppos a
  have hb := ppos b
  have e : n % 2 ^ (a + b) = n - 2 ^ (a + b) * (n / 2 ^ (a + b)) := Int.emod_def ..
  rw [e, ← ediv_pow, Int.pow_add, Int.mul_assoc, Int.sub_eq_add_neg, ← Int.mul_neg, Int.add_mul_ediv_left _ _ (by omega), Int.emod_def]
  omega
theorem mod_mod_pow (n : Int) (a b : Nat) : n % 2 ^ (a + b) % 2 ^ a = n % 2 ^ a := by
  rw [Int.pow_add]
  exact Int.emod_emod_of_dvd n (Int.dvd_mul_right _ _)
theorem rw_mod (W : Nat) : ∀ (k : Nat) (n : Int), rw_ W (n % 2 ^ (k * W)) k = rw_ W n k
  | 0, _ => rfl
  | k + 1, n => by
    show ((n % 2 ^ ((k + 1) * W)) % 2 ^ W) :: rw_ W (n % 2 ^ ((k + 1) * W) / 2 ^ W) k = (n % 2 ^ W) :: rw_ W (n / 2 ^ W) k
    rw [show (k + 1) * W = W + k * W from by rw [Nat.succ_mul]; omega, mod_mod_pow, mod_div_pow, rw_mod W k]
theorem rw_dg {W : Nat} (hw : W ≠ 0) (a : Nat) : rw_ W (a : Int) (sz W a) = dg W a := by
  rw [← dg_size hw]
  revert a
  refine dg_ind hw (by rw [dg_zero]; rfl) fun a h ih => ?_
  rw [dg_pos hw h]
  show ((a : Int) % 2 ^ W) :: rw_ W ((a : Int) / 2 ^ W) (dg W (a / 2 ^ W)).length = _
  rw [p2, ← Int.natCast_emod, ← Int.natCast_ediv, ih]
theorem nat_of {n : Int} {k : Nat} (h0 : 0 ≤ n) (h : n < 2 ^ k) : n.natAbs < 2 ^ k := by
  rw [p2] at h
  omega
theorem int_of {n : Int} {k : Nat} (h : n.natAbs < 2 ^ k) : -(2 ^ k) < n ∧ n < 2 ^ k := by
  rw [p2]
  omega
theorem shl_ok {n i : Int} {k : Nat} (h : n.natAbs < 2 ^ k) (h0 : 0 ≤ i) (h2 : (k : Int) + i ≤ 2 ^ 27) : CShl n i := ⟨h0, by
  rw [intBits_abs]
  have := bl_le.mpr h
  omega⟩
theorem mul_small {a b : Int} (h : a.natAbs < 2 ^ 64) : IntMulOk a b := by
  have h := int_of h
  exact .of_left (PySem.intBits_le_64 h.1 h.2)
theorem mul_small' {a b : Int} (h : b.natAbs < 2 ^ 64) : IntMulOk a b := by
  have h := int_of h
  exact .of_right (PySem.intBits_le_64 h.1 h.2)
end VL
/-! ### a value that is there, and of which something holds -/
namespace VL
open PySem L2
def Sat {α : Type} (o : Option α) (P : α → Prop) : Prop := ∃ r, o = some r ∧ P r
section
variable {α β S ρ : Type} {o : Option α} {P : α → Prop} {Q : β → Prop} {f : α → Option β} {a : α}
theorem sat_bind (h : Sat o P) (k : ∀ r, P r → Sat (f r) Q) : Sat (o.bind f) Q := by
  obtain ⟨r, e, p⟩ := h
  rw [e]
  exact k r p
theorem sat_eq (h : o = some a) (k : Sat (f a) Q) : Sat (o.bind f) Q := by rw [h]; exact k
theorem sat_let (k : Sat (f a) Q) : Sat ((some a).bind f) Q := k
theorem sat_chk {p : Prop} {f : Unit → Option β} (h : p) (k : Sat (f ()) Q) : Sat ((chkP p).bind f) Q := by rw [chkP_eq h]; exact k
theorem sat_some {a : β} (h : Q a) : Sat (some a) Q := ⟨a, rfl, h⟩
theorem sat_get (h : Sat o (fun r => r = a)) : o = some a := by
  obtain ⟨r, e, p⟩ := h
  rw [e, p]
variable {γ : Type}
theorem sat_for {b : γ → S → Option (Stp S ρ)} {xs : List γ} {s0 : S} {g : Stp S ρ → Option β} (I : Nat → S → Prop)
    (h : ∀ i x s, xs[i]? = some x → I i s → Sat (b x s) (fun st => ∃ s', st = .nx s' ∧ I (i + 1) s')) (h0 : I 0 s0) (k : ∀ s, I xs.length s → Sat (g (.nx s)) Q) : Sat ((forM' b xs s0).bind g) Q := by
  obtain ⟨s', e, i⟩ := forM_ind (b := b) I xs 0 s0 (fun i x s hx hi => by
    rw [Nat.zero_add] at hi
    obtain ⟨st, e, s', e2, q⟩ := h i x s hx hi
    exact ⟨s', by rw [e, e2], by rw [Nat.zero_add]; exact q⟩) h0
  rw [e]
  rw [Nat.zero_add] at i
  exact k s' i
theorem sat_forA {b : γ → S → Option (Stp S ρ)} {xs : List γ} {s0 : S} {g : Stp S ρ → Option β} (I : S → Prop)
    (h : ∀ x ∈ xs, ∀ s, I s → Sat (b x s) (fun st => ∃ s', st = .nx s' ∧ I s')) (h0 : I s0) (k : ∀ s, I s → Sat (g (.nx s)) Q) : Sat ((forM' b xs s0).bind g) Q :=
  sat_for (fun _ => I) (fun i x s hx hi => h x (List.mem_of_getElem? hx) s hi) h0 fun s hi => k s hi
theorem sat_nx {s : S} {g : S → Option β} (k : Sat (g s) Q) : Sat ((nxt (Stp.nx (ρ := ρ) s)).bind g) Q := k
theorem sat_end {s : S} {I : S → Prop} (h : I s) : Sat (some (Stp.nx (ρ := ρ) s)) (fun st => ∃ s', st = .nx s' ∧ I s') := ⟨_, rfl, s, rfl, h⟩
end
theorem rng_len (lo : Int) (n : Nat) : (rng lo n).length = n := by unfold rng; rw [List.length_map, List.length_range]
theorem cdiv_s {i j : Int} (h : 0 < j) (h2 : j < 2 ^ 64) : CDivW i j := ⟨h, by
  have : j.natAbs < 2 ^ 64 := by omega
  have h0 : j.natAbs ≠ 0 := by omega
  have := (Nat.log2_lt h0 (k := 64)).mpr this
  omega⟩
theorem size_lt {n m : Nat} (h : n ≤ m) (hm : m < 16777216) : n < sizeLine := Nat.lt_of_le_of_lt h (by show m < 2 ^ 24; exact hm)
theorem size_le {n m : Nat} (h : n ≤ m) (hm : m ≤ 16777216) : n ≤ sizeLine := Nat.le_trans h (by show m ≤ 2 ^ 24; exact hm)
/-- the words with numbers above 0 -/
def posL (l : List (Str × Int)) : List (Str × Int) := l.filter fun p => decide (0 < p.2)
theorem mem_lookup {l : List (Str × Int)} {k : Str} {v : Int} (h : l.lookup k = some v) : (k, v) ∈ l := by
  induction l with
  | nil => cases h
  | cons a r ih =>
    rw [show (a :: r) = ((a.1, a.2) :: r) from rfl, List.lookup_cons] at h
    cases q : k == a.1 with
    | true =>
      rw [q] at h
      have h := Option.some.inj h
      rw [beq_iff_eq.mp q, ← h]
      exact List.mem_cons_self
    | false => rw [q] at h; exact List.mem_cons_of_mem _ (ih h)
theorem mem_tally {S : MS} {x : Str × Int} : x ∈ S.tally ↔ x.1 ∈ mwords ∧ x.2 = S.cnt x.1 := by
  unfold MS.tally
  constructor
  · intro h
    obtain ⟨w, hw, rfl⟩ := List.mem_map.mp h
    exact ⟨hw, rfl⟩
  · rintro ⟨h1, h2⟩
    exact List.mem_map.mpr ⟨x.1, h1, by rw [← h2]⟩
/-- the same above 0 -/
def Cnt (S : MS) (l : List (Str × Int)) : Prop := (l.map (·.1)).Nodup ∧ (∀ x ∈ l, x.1 ∈ mwords) ∧ ∀ w ∈ mwords, (∀ n, l.lookup w = some n → 0 < n → S.cnt w = n) ∧ (0 < S.cnt w → l.lookup w = some (S.cnt w))
end VL
namespace VL
open PySem L2
theorem bxor_nat (a b : Nat) : Builtin.bitXor (a : Int) (b : Int) = ((a ^^^ b : Nat) : Int) := by
  rw [Bits.bitXor_pp (Int.natCast_nonneg a) (Int.natCast_nonneg b), Int.toNat_natCast, Int.toNat_natCast]
end VL
namespace VL
open PySem L2
end VL
namespace VL
open PySem L2
def WkOk (l : List (T3 Str Int Int)) : Prop := ∀ x ∈ l, (PyData.str x.a).canLay0 = true
theorem wkok_dat {l : List (T3 Str Int Int)} (h : WkOk l) : Dat.ok (LF.mk l) := fun x hx => ⟨h x hx, trivial, trivial⟩
theorem wkok_nil : WkOk [] := fun x h => (by cases h)
theorem wkok_enter {S : MS} {w : Str} {m n : Int} (h : WkOk S.wk) (hw : (PyData.str w).canLay0 = true := by decide +kernel) : WkOk (S.enter w m n).wk := by
  unfold MS.enter
  show WkOk (if S.wk.length < 1000 then S.wk ++ [T3.mk w m n] else S.wk)
  split
  · intro x hx
    rcases List.mem_append.mp hx with z | z
    · exact h x z
    · rw [List.mem_singleton.mp z]; exact hw
  · exact h
end VL
namespace VL
open PySem L2
end VL

set_option Elab.async false
set_option linter.all false
/-! bits of any integers -/
namespace VL
open PySem L2 PyProof.Rows
abbrev band := Builtin.bitAnd
theorem half (x y : Int) : band x y = 2 * band (x / 2) (y / 2) + (if x % 2 = 1 ∧ y % 2 = 1 then 1 else 0) := PySem.W.kbt_halves x y
/-! one bit -/
def bit (x : Int) (i : Nat) : Int := x / 2 ^ i % 2
end VL

set_option Elab.async false
set_option linter.all false
set_option maxRecDepth 100000
/-! VD: long division digit by digit, by numbers: the guess, how often it is corrected, what each place finds. -/
namespace VL
open PySem L2
section
variable {B E b r : Nat}
variable {h v1 v2 : Nat}
end
/-! ### the steps, by the two numbers that are divided: b has all its digits, E stands behind its last two -/
/-- what is divided at place i: the rest so far and the next digit -/
def dvR (B A b i : Nat) : Nat := A / B ^ (i + 1) % b * B + A / B ^ i % B
def dvS (B E A b i : Nat) : T4 Int Int Bool Int :=
  ⟨((dvR B A b i / E / B / (b / E / B) : Nat) : Int), ((dvR B A b i / E / B / (b / E / B) : Nat) : Int) - ((dvR B A b i / E / (b / E) : Nat) : Int), decide (dvR B A b i / b < dvR B A b i / E / (b / E)), ((dvR B A b i / b : Nat) : Int)⟩
/-- the steps of k places, from the top -/
def dvSteps (B E A b : Nat) : Nat → List (T4 Int Int Bool Int)
  | 0 => []
  | k + 1 => dvS B E A b k :: dvSteps B E A b k
end VL

set_option Elab.async false
set_option linter.all false
set_option maxRecDepth 100000
set_option maxHeartbeats 4000000
namespace P
open PySem L2 VL
section
variable {P : Program} {w : World} {mg : Str → Option Value} {base : Heap} {T : TC}

abbrev qual__law_numbers_right : Str := (("_law_numbers_right" : Str) ++ ".<locals>.") ++ "<lambda>"
abbrev qual__law_rows_right : Str := (("_law_rows_right" : Str) ++ ".<locals>.") ++ "<lambda>"
abbrev qual_law : Str := (("law" : Str) ++ ".<locals>.") ++ "<lambda>"
def tbs (T : TC) : List (Addr × Str) := [(T.C 100, qual__law_numbers_right), (T.C 101, qual__law_rows_right), (T.C 102, qual_law)]
theorem mem__law_numbers_right (T : TC) : (T.C 100, qual__law_numbers_right) ∈ tbs T := by simp [tbs]
theorem mem__law_rows_right (T : TC) : (T.C 101, qual__law_rows_right) ∈ tbs T := by simp [tbs]
theorem mem_law (T : TC) : (T.C 102, qual_law) ∈ tbs T := by simp [tbs]
noncomputable def M_shown (x0 : Str) : Option Str :=
  some x0
def Pre_shown (T : TC) : PreT := fun As Ω R => ∃ (x0 : Str) (r : Str), As = [va T x0] ∧ M_shown x0 = some r ∧ R = RV (va T r) (stt Ω [] [])
theorem sc_shown : FnScope ["field"] ["field"] (defScope s_shown) := ⟨rfl, rfl, rfl, by decide +kernel, rfl, by decide +kernel, by decide +kernel⟩
theorem ok_shown {f : Addr} {fd : FuncData} (F : Fun T.K "shown" "shown" s_shown f fd) (z_isinstance : mg "isinstance" = none) (z_str : mg "str" = none) : FnOk P w T.K mg base CX0 2 f fd ["field"] (mkSp (Pre_shown T)) := by
  refine fn_ok F sc_shown (fun As Ω R h => ?_) (fun cdv A outer s H E hr As Ω R F0 h => ?_)
  · obtain ⟨x0, r, rfl, _⟩ := h
    rfl
  obtain ⟨x0, r, rfl, hm, rfl⟩ := h
  refine ⟨_, (pss_cons (ps_if (pt_val (pe_callB (cr_isiK (K := T.K) rfl) (by rfl) z_isinstance (by decide +kernel) (pa_cons (pv 0) (pa_cons (pe_bltn (v := .ty "str") (by rfl) z_str (by decide +kernel) rfl) pa_nil)))) (pss_one (ps_ret (pv 0))) pss_never) pss_never), fun D hrt hnx => ?_⟩
  have ok : Okk Ω [] := okk0
  suffices hx : XS _ D F0 [some (va T x0)] (stt Ω [] []) by
    rw [show (stt Ω [] []) = Ω from stt_self (by simp)] at hx
    exact hx
  unfold M_shown at hm
  refine xs_ifT (xt_tB (T := T) (xe_isi (xe_var (i := 0) rfl) xe_vx (.ty _) (fun F H v hh a => ty_str hh a) (kit_ty (by decide +kernel)))) ?_
  obtain rfl := Option.some.inj hm
  refine xs_ret (xe_var (i := 0) rfl) hrt.all
theorem sc_ix_InvalidBound : FnScope ["self", "argument"] ["self", "argument"] (defScope s_ix_InvalidBound) := ⟨rfl, rfl, rfl, by decide +kernel, rfl, by decide +kernel, by decide +kernel⟩
theorem ok_ix_InvalidBound {f : Addr} {fd : FuncData} {fI : Addr} (F : Fun T.K "__init__" "InvalidBound.__init__" s_ix_InvalidBound f fd) (T0 : IxC T.K (T.C 300) (T.C 301) fI "argument") (g0 : mg "BitsError" = some (.ref (T.C 301))) (c_shown : Cal P w T.K mg base 2 "shown" ["field"] (mkSp (Pre_shown T))) : FnOk P w T.K mg base CX0 3 f fd ["self", "argument"] (spIx (T.C 300) "argument") := by
  refine F.ok sc_ix_InvalidBound (fun vs H Q E h => ?_) (fun cdv A outer s H vs Q E hr h => ⟨_, (pss_cons (ps_expr (pe_ixI T0 (by rfl) g0 (pa_cons (pv 0) (pa_cons (pe_joined (.cons pe_str (.cons (pe_fmt (pe_cal c_shown (hr.mono (by decide)) (by rfl) (pa_cons (pv 1) pa_nil))) .nil))) pa_nil)))) (pss_one (ps_ixS T0 (pv 0) (pv 1)))), ?_⟩)
  · obtain ⟨a, x, rfl, _⟩ := h
    rfl
  · refine ix_run (T := T) rfl (fun a x hx => ⟨va T (Str.empty ++ ("wrong argument: " : Str) ++ x), ?_⟩) h
    refine xe_js2 (T := T) (x := "wrong argument: ") (y := x) xe_str (xe_fmtS (x := x) ?_ hx) (by decide) hx
    exact xe_call (xa_cons (xe_var (i := 1) rfl) xa_nil) ⟨x, x, rfl, (by rfl : M_shown x = some x), rfl⟩ cal0'
noncomputable def M_is_integer (x0 : Int) : Option Bool :=
  some (true && (!false))
def Pre_is_integer (T : TC) : PreT := fun As Ω R => ∃ (x0 : Int) (r : Bool), As = [va T x0] ∧ M_is_integer x0 = some r ∧ R = RV (va T r) (stt Ω [] [])
theorem sc_is_integer : FnScope ["value"] ["value"] (defScope s_is_integer) := ⟨rfl, rfl, rfl, by decide +kernel, rfl, by decide +kernel, by decide +kernel⟩
theorem ok_is_integer {f : Addr} {fd : FuncData} (F : Fun T.K "is_integer" "is_integer" s_is_integer f fd) (z_isinstance : mg "isinstance" = none) (z_int : mg "int" = none) (z_bool : mg "bool" = none) : FnOk P w T.K mg base CX0 1 f fd ["value"] (mkSp (Pre_is_integer T)) := by
  refine fn_ok F sc_is_integer (fun As Ω R h => ?_) (fun cdv A outer s H E hr As Ω R F0 h => ?_)
  · obtain ⟨x0, r, rfl, _⟩ := h
    rfl
  obtain ⟨x0, r, rfl, hm, rfl⟩ := h
  refine ⟨_, (pss_one (ps_ret (pe_and (pe_callB (cr_isiK (K := T.K) rfl) (by rfl) z_isinstance (by decide +kernel) (pa_cons (pv 0) (pa_cons (pe_bltn (v := .ty "int") (by rfl) z_int (by decide +kernel) rfl) pa_nil))) (pe_one (pe_not (pe_callB (cr_isiK (K := T.K) rfl) (by rfl) z_isinstance (by decide +kernel) (pa_cons (pv 0) (pa_cons (pe_bltn (v := .ty "bool") (by rfl) z_bool (by decide +kernel) rfl) pa_nil)))))))), fun D hrt hnx => ?_⟩
  have ok : Okk Ω [] := okk0
  suffices hx : XS _ D F0 [some (va T x0)] (stt Ω [] []) by
    rw [show (stt Ω [] []) = Ω from stt_self (by simp)] at hx
    exact hx
  unfold M_is_integer at hm
  obtain rfl := Option.some.inj hm
  refine xs_ret (xe_andV (xe_isi (xe_var (i := 0) rfl) xe_vx (.ty _) (fun F H v hh a => ty_int hh a) (kit_ty (by decide +kernel))) (fun _ => (xe_notV (xe_noC (xe_var (i := 0) rfl) xe_vx (.ty _) (noC_of tya_int (kit_ty (by decide +kernel))))))) hrt.all
noncomputable def M_is_between (x0 : Int) (x1 : Int) (x2 : Int) : Option Bool :=
  (M_is_integer x0).bind fun z1 => some (z1 && (decide (x1 ≤ x0) && decide (x0 ≤ x2)))
def Pre_is_between (T : TC) : PreT := fun As Ω R => ∃ (x0 : Int) (x1 : Int) (x2 : Int) (r : Bool), As = [va T x0, va T x1, va T x2] ∧ M_is_between x0 x1 x2 = some r ∧ R = RV (va T r) (stt Ω [] [])
theorem sc_is_between : FnScope ["value", "low", "high"] ["value", "low", "high"] (defScope s_is_between) := ⟨rfl, rfl, rfl, by decide +kernel, rfl, by decide +kernel, by decide +kernel⟩
theorem ok_is_between {f : Addr} {fd : FuncData} (F : Fun T.K "is_between" "is_between" s_is_between f fd) (c_is_integer : Cal P w T.K mg base 1 "is_integer" ["value"] (mkSp (Pre_is_integer T))) : FnOk P w T.K mg base CX0 2 f fd ["value", "low", "high"] (mkSp (Pre_is_between T)) := by
  refine fn_ok F sc_is_between (fun As Ω R h => ?_) (fun cdv A outer s H E hr As Ω R F0 h => ?_)
  · obtain ⟨x0, x1, x2, r, rfl, _⟩ := h
    rfl
  obtain ⟨x0, x1, x2, r, rfl, hm, rfl⟩ := h
  refine ⟨_, (pss_one (ps_ret (pe_and (pe_cal c_is_integer (hr.mono (by decide)) (by rfl) (pa_cons (pv 0) pa_nil)) (pe_one (pe_chain op_le op_le (pv 1) (pv 0) (pv 2)))))), fun D hrt hnx => ?_⟩
  have ok : Okk Ω [] := okk0
  suffices hx : XS _ D F0 [some (va T x0), some (va T x1), some (va T x2)] (stt Ω [] []) by
    rw [show (stt Ω [] []) = Ω from stt_self (by simp)] at hx
    exact hx
  unfold M_is_between at hm
  obtain ⟨z1, hz1, hm⟩ := bnd_some hm
  obtain rfl := Option.some.inj hm
  refine xs_ret (xe_andV (xe_call (xa_cons (xe_var (i := 0) rfl) xa_nil) ⟨x0, z1, rfl, hz1, rfl⟩ cal0) (fun _ => (xe_chain (xe_var (i := 1) rfl) (xe_var (i := 0) rfl) ro_bl (fun _ => (xe_var (i := 2) rfl)) (fun _ => ro_bl)))) hrt.all
theorem sc_Mach_step : FnScope ["self", "word", "many"] ["self", "word", "many"] (defScope s_Mach_step) := ⟨rfl, rfl, rfl, by decide +kernel, rfl, by decide +kernel, by decide +kernel⟩
theorem ok_Mach_step {f : Addr} {fd : FuncData} (F : Fun T.K "step" "Machine.step" s_Mach_step f fd) (mc : MCls T.K (T.C 0))  : FnOk P w T.K mg base CX0 1 f fd ["self", "word", "many"] (mkSp (Pre_Mach_step T)) := by
  refine fn_ok F sc_Mach_step (fun As Ω R h => ?_) (fun cdv A outer s H E hr As Ω R F0 h => ?_)
  · obtain ⟨k, p, x, wd, n, rfl, _⟩ := h; rfl
  obtain ⟨k, p, x, wd, n, rfl, hk, hw, rfl⟩ := h
  refine ⟨_, pss_one (ps_daug (hu_of hr) (pe_fld (pv 0) (by rfl)) (pv 1) (pv 2) in_add (fun _ _ _ => rfl)), fun D hrt hnx => ?_⟩
  exact xs_step mc rfl rfl rfl hk hw fun σ H ⟨F, f0, e, hh⟩ => hnx F σ H _ f0 hh ⟨rfl, stt_one.symm⟩
theorem sc_Mach_enter : FnScope ["self", "word", "m", "n"] ["self", "word", "m", "n"] (defScope s_Mach_enter) := ⟨rfl, rfl, rfl, by decide +kernel, rfl, by decide +kernel, by decide +kernel⟩
theorem ok_Mach_enter {f : Addr} {fd : FuncData} (F : Fun T.K "enter" "Machine.enter" s_Mach_enter f fd) (mc : MCls T.K (T.C 0)) (z_len : mg "len" = none) (g_LONGEST_WALK : ∃ u, mg "LONGEST_WALK" = some u ∧ RelV (.int 1000) u) : FnOk P w T.K mg base CX0 1 f fd ["self", "word", "m", "n"] (mkSp (Pre_Mach_enter T)) := by
  refine fn_ok F sc_Mach_enter (fun As Ω R h => ?_) (fun cdv A outer s H E hr As Ω R F0 h => ?_)
  · obtain ⟨k, p, x, wd, m, n, rfl, _⟩ := h; rfl
  obtain ⟨k, p, x, wd, m, n, rfl, hk, rfl⟩ := h
  refine ⟨_, pss_one (ps_if (pt_cmpR op_lt (pe_callB cr_len (by rfl) z_len PySem.boot_len (pa_cons (pe_fld (pv 0) (by rfl)) pa_nil)) (pe_gl rfl g_LONGEST_WALK) (nomark _)) (pss_one (ps_expr (pe_bm PySem.F.plainAttrs_list PySem.F.slot_list_append PySem.F.type_list_append mt_append (pe_fld (pv 0) (by rfl)) (pa_cons (pe_tup (pa_cons (pv 1) (pa_cons (pv 2) (pa_cons (pv 3) pa_nil)))) pa_nil)))) pss_nil), fun D hrt hnx => ?_⟩
  exact xs_enter mc rfl rfl rfl rfl hk fun σ H ⟨F, f0, e, hh⟩ => hnx F σ H _ f0 hh ⟨rfl, stt_one.symm⟩
theorem sc_Mach_tally : FnScope ["self", "word"] ["self"] (defScope s_Mach_tally) := ⟨rfl, rfl, rfl, by decide +kernel, rfl, by decide +kernel, by decide +kernel⟩
theorem ok_Mach_tally {f : Addr} {fd : FuncData} (F : Fun T.K "tally" "Machine.tally" s_Mach_tally f fd) (mc : MCls T.K (T.C 0)) {aW : Addr} (g_WORDS : ∃ u, mg "WORDS" = some u ∧ RelV (.ref aW) u) (hW : ∀ H, SqT T.K H aW (mwords.map V.str)) : FnOk P w T.K mg base CX0 1 f fd ["self"] (mkSp (Pre_Mach_tally T)) := by
  refine fn_ok F sc_Mach_tally (fun As Ω R h => ?_) (fun cdv A outer s H E hr As Ω R F0 h => ?_)
  · obtain ⟨k, p, x, rfl, _⟩ := h; rfl
  obtain ⟨k, p, x, rfl, hk, rfl⟩ := h
  refine ⟨_, pss_one (ps_ret (pe_lc (own := [("word", 1)]) rfl sc_Mach_tally.nd (pi_tup (pe_gl rfl g_WORDS)) (blkOk_by (N := ["self", "word"]) (sc := defScope s_Mach_tally) (by decide +kernel)) (fun _ _ _ _ _ => pg_name (i := 1) sc_Mach_tally.nd rfl (.inl rfl)) (fun _ _ _ _ _ => pts_nil) (fun _ _ _ _ _ => pe_tup (pa_cons (pv 1) (pa_cons (pe_dget (by exact hu_of hr) (pe_fldK (K := T.K) (pv 0) (by rfl) rfl) (pv 1) (by intro _ _; rfl)) pa_nil))))), fun D hrt hnx => ?_⟩
  exact xs_ret (xe_tally mc hW (by simp) rfl (by simp [wip]) hk) hrt
theorem sc_Mach_walk : FnScope ["self"] ["self"] (defScope s_Mach_walk) := ⟨rfl, rfl, rfl, by decide +kernel, rfl, by decide +kernel, by decide +kernel⟩
theorem ok_Mach_walk {f : Addr} {fd : FuncData} (F : Fun T.K "walk" "Machine.walk" s_Mach_walk f fd) (mc : MCls T.K (T.C 0)) (z_list : mg "list" = none) : FnOk P w T.K mg base CX0 1 f fd ["self"] (mkSp (Pre_Mach_walk T)) := by
  refine fn_ok F sc_Mach_walk (fun As Ω R h => ?_) (fun cdv A outer s H E hr As Ω R F0 h => ?_)
  · obtain ⟨k, p, x, rfl, _⟩ := h; rfl
  obtain ⟨k, p, x, rfl, hk, rfl⟩ := h
  refine ⟨_, pss_one (ps_ret (pe_callTy cr_list (by rfl) z_list (by decide +kernel) (pa_cons (pe_fld (pv 0) (by rfl)) pa_nil))), fun D hrt hnx => ?_⟩
  exact xs_ret (xe_walk mc rfl hk) hrt
theorem sc_Mach_parts : FnScope ["self"] ["self"] (defScope s_Mach_parts) := ⟨rfl, rfl, rfl, by decide +kernel, rfl, by decide +kernel, by decide +kernel⟩
theorem ok_Mach_parts {f : Addr} {fd : FuncData} (F : Fun T.K "parts" "Machine.parts" s_Mach_parts f fd) (mc : MCls T.K (T.C 0))  : FnOk P w T.K mg base CX0 1 f fd ["self"] (mkSp (Pre_Mach_parts T)) := by
  refine fn_ok F sc_Mach_parts (fun As Ω R h => ?_) (fun cdv A outer s H E hr As Ω R F0 h => ?_)
  · obtain ⟨k, p, x, rfl, _⟩ := h; rfl
  obtain ⟨k, p, x, rfl, hk, rfl⟩ := h
  refine ⟨_, pss_one (ps_ret (pe_tup (pa_cons (pe_fld (pv 0) (by rfl)) (pa_cons (pe_fld (pv 0) (by rfl)) pa_nil)))), fun D hrt hnx => ?_⟩
  exact xs_ret (xe_tup2 (xa_cons (xe_mw mc.cl mc.nw (xe_var (i := 0) rfl) hk) (xa_cons (xe_mc mc.cl mc.nc (xe_var (i := 0) rfl) hk) xa_nil))) hrt
theorem sc_Mach_init : FnScope ["self", "bits", "cutoff", "word"] ["self", "bits", "cutoff"] (defScope s_Mach_init) := ⟨rfl, rfl, rfl, by decide +kernel, rfl, by decide +kernel, by decide +kernel⟩
theorem ok_Mach_init {f : Addr} {fd : FuncData} (F : FunD T.K "__init__" "Machine.__init__" (defArgs s_Mach_init) (defBody s_Mach_init) (defScope s_Mach_init) [.int 30, .int 70] [] f fd) (mc : MCls T.K (T.C 0)) {aW : Addr} (g_WORDS : ∃ u, mg "WORDS" = some u ∧ RelV (.ref aW) u) (hW : ∀ H, SqT T.K H aW (mwords.map V.str)) (c_is_between : Cal P w T.K mg base 2 "is_between" ["value", "low", "high"] (mkSp (Pre_is_between T))) : FnOk P w T.K mg base CX0 3 f fd ["self", "bits", "cutoff"] (mkSp (Pre_Machine T)) := by
  refine fn_okD F sc_Mach_init (fun As Ω R h => ?_) (fun cdv A outer s H E hr As Ω R F0 h => ?_)
  · obtain ⟨Ω0, p, w, c, rfl, _⟩ := h; rfl
  obtain ⟨Ω0, p, w, c, rfl, hc, rfl, rfl⟩ := h
  refine ⟨_, pss_cons (ps_if (pt_not (pt_val (pe_cal c_is_between (hr.mono (by decide)) (by rfl) (pa_cons (pv 1) (pa_cons pe_int (pa_cons pe_int pa_nil)))))) pss_never pss_nil) (pss_cons (ps_if (pt_not (pt_val (pe_cal c_is_between (hr.mono (by decide)) (by rfl) (pa_cons (pv 2) (pa_cons pe_int (pa_cons pe_int pa_nil)))))) pss_never pss_nil) (pss_cons (ps_fld (pv 0) (pv 1) rfl) (pss_cons (ps_fld (pv 0) (pv 2) rfl) (pss_cons (ps_fld (pv 0) (pe_dc (own := [("word", 3)]) rfl sc_Mach_init.nd (pi_tup (pe_gl rfl g_WORDS)) (blkOk_by (N := ["self", "bits", "cutoff", "word"]) (sc := defScope s_Mach_init) (by decide +kernel)) (fun _ _ _ _ _ => pg_name (i := 3) sc_Mach_init.nd rfl (.inl rfl)) (fun _ _ _ _ _ => pts_nil) (fun _ _ _ _ _ => pv 3) (fun _ _ _ _ _ => pe_int)) rfl) (pss_one (ps_fld (pv 0) (pe_lst pa_nil) rfl)))))), fun D hrt hnx => ?_⟩
  have m1 : M_is_between w 8 30 = some true := by simp [M_is_between, M_is_integer, hc.1.1, hc.1.2]
  have m2 : M_is_between c 2 1000 = some true := by simp [M_is_between, M_is_integer, hc.2.1, hc.2.2]
  show XS _ D F0 [some (vr p), some (va T w), some (va T c), none] _
  refine xs_ifN (xt_notF (xt_tB (T := T) (xe_call (xa_cons (xe_var (i := 1) rfl) (xa_cons xe_int (xa_cons xe_int xa_nil))) ⟨w, 8, 30, true, rfl, m1, rfl⟩ (List.append_nil _)))) ?_
  show XS _ D F0 [some (vr p), some (va T w), some (va T c), none] _
  refine xs_ifN (xt_notF (xt_tB (T := T) (xe_call (xa_cons (xe_var (i := 2) rfl) (xa_cons xe_int (xa_cons xe_int xa_nil))) ⟨c, 2, 1000, true, rfl, m2, rfl⟩ (List.append_nil _)))) ?_
  show XS _ D F0 [some (vr p), some (va T w), some (va T c), none] _
  exact xs_minit (k := Ω0.length) mc hW (by simp) (by simp) rfl rfl rfl app_at fun σ H ⟨F, f0, e, hh⟩ => hnx F σ H _ f0 hh ⟨rfl, set_last⟩
noncomputable def M_Big_eq (x0 : Bg) (x1 : Bg) : Option Bool :=
  some (true && ((decide (x0.w = x1.w)) && (decide (x0.v = x1.v))))
def Pre_Big_eq (T : TC) : PreT := fun As Ω R => ∃ (x0 : Bg) (x1 : Bg) (r : Bool), As = [va T x0, va T x1] ∧ M_Big_eq x0 x1 = some r ∧ R = RV (va T r) (stt Ω [] [])
theorem sc_Big_eq : FnScope ["self", "other"] ["self", "other"] (defScope s_Big_eq) := ⟨rfl, rfl, rfl, by decide +kernel, rfl, by decide +kernel, by decide +kernel⟩
theorem ok_Big_eq {f : Addr} {fd : FuncData} (F : Fun T.K "__eq__" "Big.__eq__" s_Big_eq f fd) (icb : ICls T.K (T.C 1)) (z_isinstance : mg "isinstance" = none) (g_Big : ∃ u, mg "Big" = some u ∧ RelV (.ref (T.C 1)) u) (bc : BCls T.K (T.C 1)) : FnOk P w T.K mg base CX0 1 f fd ["self", "other"] (mkSp (Pre_Big_eq T)) := by
  refine fn_ok F sc_Big_eq (fun As Ω R h => ?_) (fun cdv A outer s H E hr As Ω R F0 h => ?_)
  · obtain ⟨x0, x1, r, rfl, _⟩ := h
    rfl
  obtain ⟨x0, x1, r, rfl, hm, rfl⟩ := h
  refine ⟨_, (pss_one (ps_ret (pe_and (pe_callB (cr_isiK (K := T.K) rfl) (by rfl) z_isinstance (by decide +kernel) (pa_cons (pv 1) (pa_cons (pe_gl rfl g_Big) pa_nil))) (pe_and (pe_cmpR (op_eqXK (K := T.K) (by exact hr.units) rfl) (pe_fldK (K := T.K) (pv 0) (by rfl) rfl) (pe_fldK (K := T.K) (pv 1) (by rfl) rfl) (nomark _)) (pe_one (pe_cmpR (op_eqXK (K := T.K) (by exact hr.units) rfl) (pe_fldK (K := T.K) (pv 0) (by rfl) rfl) (pe_fldK (K := T.K) (pv 1) (by rfl) rfl) (nomark _))))))), fun D hrt hnx => ?_⟩
  have ok : Okk Ω [] := okk0
  suffices hx : XS _ D F0 [some (va T x0), some (va T x1)] (stt Ω [] []) by
    rw [show (stt Ω [] []) = Ω from stt_self (by simp)] at hx
    exact hx
  unfold M_Big_eq at hm
  obtain rfl := Option.some.inj hm
  refine xs_ret (xe_andV (xe_isi (xe_var (i := 1) rfl) xe_vx (.own _) (fun F H v hh a => ty_big icb hh a) icb.kit) (fun _ => (xe_andV (xe_eqI (xe_bw bc.cl bc.nw (xe_var (i := 0) rfl)) (xe_bw bc.cl bc.nw (xe_var (i := 1) rfl))) (fun _ => (xe_eqI (xe_bv bc.cl bc.nv (xe_var (i := 0) rfl)) (xe_bv bc.cl bc.nv (xe_var (i := 1) rfl))))))) hrt.all
noncomputable def M_Big_digits (x0 : Bg) : Option (List Int) :=
  some x0.row
def Pre_Big_digits (T : TC) : PreT := fun As Ω R => ∃ (x0 : Bg) (r : List Int), As = [va T x0] ∧ M_Big_digits x0 = some r ∧ R = RV (va T (LF.mk r)) (stt Ω [] [])
theorem sc_Big_digits : FnScope ["self"] ["self"] (defScope s_Big_digits) := ⟨rfl, rfl, rfl, by decide +kernel, rfl, by decide +kernel, by decide +kernel⟩
theorem ok_Big_digits {f : Addr} {fd : FuncData} (F : Fun T.K "digits" "Big.digits" s_Big_digits f fd) (bc : BCls T.K (T.C 1)) (z_list : mg "list" = none) : FnOk P w T.K mg base CX0 1 f fd ["self"] (mkSp (Pre_Big_digits T)) := by
  refine fn_ok F sc_Big_digits (fun As Ω R h => ?_) (fun cdv A outer s H E hr As Ω R F0 h => ?_)
  · obtain ⟨x0, r, rfl, _⟩ := h
    rfl
  obtain ⟨x0, r, rfl, hm, rfl⟩ := h
  refine ⟨_, (pss_one (ps_ret (pe_callTy (cr_listK (K := T.K) rfl) (by rfl) z_list (by decide +kernel) (pa_cons (pe_fldK (K := T.K) (pv 0) (by rfl) rfl) pa_nil)))), fun D hrt hnx => ?_⟩
  have ok : Okk Ω [] := okk0
  suffices hx : XS _ D F0 [some (va T x0)] (stt Ω [] []) by
    rw [show (stt Ω [] []) = Ω from stt_self (by simp)] at hx
    exact hx
  unfold M_Big_digits at hm
  obtain rfl := Option.some.inj hm
  refine xs_ret (xe_listT (xe_br bc.cl bc.nr (xe_var (i := 0) rfl)) isT_TF) hrt.all
noncomputable def M_Big_sign (x0 : Bg) : Option Int :=
  some (sgn x0.v)
def Pre_Big_sign (T : TC) : PreT := fun As Ω R => ∃ (x0 : Bg) (r : Int), As = [va T x0] ∧ M_Big_sign x0 = some r ∧ R = RV (va T r) (stt Ω [] [])
theorem sc_Big_sign : FnScope ["self"] ["self"] (defScope s_Big_sign) := ⟨rfl, rfl, rfl, by decide +kernel, rfl, by decide +kernel, by decide +kernel⟩
theorem ok_Big_sign {f : Addr} {fd : FuncData} (F : Fun T.K "sign" "Big.sign" s_Big_sign f fd) (bc : BCls T.K (T.C 1)) : FnOk P w T.K mg base CX0 1 f fd ["self"] (mkSp (Pre_Big_sign T)) := by
  refine fn_ok F sc_Big_sign (fun As Ω R h => ?_) (fun cdv A outer s H E hr As Ω R F0 h => ?_)
  · obtain ⟨x0, r, rfl, _⟩ := h
    rfl
  obtain ⟨x0, r, rfl, hm, rfl⟩ := h
  refine ⟨_, (pss_one (ps_ret (pe_fldK (K := T.K) (pv 0) (by rfl) rfl))), fun D hrt hnx => ?_⟩
  have ok : Okk Ω [] := okk0
  suffices hx : XS _ D F0 [some (va T x0)] (stt Ω [] []) by
    rw [show (stt Ω [] []) = Ω from stt_self (by simp)] at hx
    exact hx
  unfold M_Big_sign at hm
  obtain rfl := Option.some.inj hm
  refine xs_ret (xe_bs bc.cl bc.ns (xe_var (i := 0) rfl)) hrt.all
noncomputable def M_Big_bits (x0 : Bg) : Option Int :=
  some x0.w
def Pre_Big_bits (T : TC) : PreT := fun As Ω R => ∃ (x0 : Bg) (r : Int), As = [va T x0] ∧ M_Big_bits x0 = some r ∧ R = RV (va T r) (stt Ω [] [])
theorem sc_Big_bits : FnScope ["self"] ["self"] (defScope s_Big_bits) := ⟨rfl, rfl, rfl, by decide +kernel, rfl, by decide +kernel, by decide +kernel⟩
theorem ok_Big_bits {f : Addr} {fd : FuncData} (F : Fun T.K "bits" "Big.bits" s_Big_bits f fd) (bc : BCls T.K (T.C 1)) : FnOk P w T.K mg base CX0 1 f fd ["self"] (mkSp (Pre_Big_bits T)) := by
  refine fn_ok F sc_Big_bits (fun As Ω R h => ?_) (fun cdv A outer s H E hr As Ω R F0 h => ?_)
  · obtain ⟨x0, r, rfl, _⟩ := h
    rfl
  obtain ⟨x0, r, rfl, hm, rfl⟩ := h
  refine ⟨_, (pss_one (ps_ret (pe_fldK (K := T.K) (pv 0) (by rfl) rfl))), fun D hrt hnx => ?_⟩
  have ok : Okk Ω [] := okk0
  suffices hx : XS _ D F0 [some (va T x0)] (stt Ω [] []) by
    rw [show (stt Ω [] []) = Ω from stt_self (by simp)] at hx
    exact hx
  unfold M_Big_bits at hm
  obtain rfl := Option.some.inj hm
  refine xs_ret (xe_bw bc.cl bc.nw (xe_var (i := 0) rfl)) hrt.all
noncomputable def M_order_of (x0 : Int) (x1 : Int) : Option Int :=
  if (decide (x0 < x1)) = true then some (-(1 : Int)) else some (if (decide (x0 = x1)) = true then (0 : Int) else (1 : Int))
def Pre_order_of (T : TC) : PreT := fun As Ω R => ∃ (x0 : Int) (x1 : Int) (r : Int), As = [va T x0, va T x1] ∧ M_order_of x0 x1 = some r ∧ R = RV (va T r) (stt Ω [] [])
theorem sc_order_of : FnScope ["a", "b"] ["a", "b"] (defScope s_order_of) := ⟨rfl, rfl, rfl, by decide +kernel, rfl, by decide +kernel, by decide +kernel⟩
theorem ok_order_of {f : Addr} {fd : FuncData} (F : Fun T.K "order_of" "order_of" s_order_of f fd)  : FnOk P w T.K mg base CX0 1 f fd ["a", "b"] (mkSp (Pre_order_of T)) := by
  refine fn_ok F sc_order_of (fun As Ω R h => ?_) (fun cdv A outer s H E hr As Ω R F0 h => ?_)
  · obtain ⟨x0, x1, r, rfl, _⟩ := h
    rfl
  obtain ⟨x0, x1, r, rfl, hm, rfl⟩ := h
  refine ⟨_, (pss_cons (ps_if (pt_cmpR op_lt (pv 0) (pv 1) (nomark _)) (pss_one (ps_ret (pe_un un_neg pe_int))) pss_nil) (pss_one (ps_ret (pe_ifExp (pt_cmpR (op_eqXK (K := T.K) (by exact hr.units) rfl) (pv 0) (pv 1) (nomark _)) pe_int pe_int)))), fun D hrt hnx => ?_⟩
  have ok : Okk Ω [] := okk0
  suffices hx : XS _ D F0 [some (va T x0), some (va T x1)] (stt Ω [] []) by
    rw [show (stt Ω [] []) = Ω from stt_self (by simp)] at hx
    exact hx
  unfold M_order_of at hm
  by_cases hc : (decide (x0 < x1)) = true
  · rw [if_pos hc] at hm
    refine xs_ifT (xt_eq (xt_test (T := T) (xe_lt (xe_var (i := 0) rfl) (xe_var (i := 1) rfl))) hc) ?_
    obtain rfl := Option.some.inj hm
    refine xs_ret (xe_neg xe_int) hrt.all
  · rw [if_neg hc] at hm
    refine xs_ifN (xt_eq (xt_test (T := T) (xe_lt (xe_var (i := 0) rfl) (xe_var (i := 1) rfl))) (nt hc)) ?_
    show XS (tRet _) _ _ [some (va T x0), some (va T x1)] (stt Ω [] [])
    obtain rfl := Option.some.inj hm
    refine xs_ret (xe_ite (xt_test (T := T) (xe_eqI (xe_var (i := 0) rfl) (xe_var (i := 1) rfl))) xe_int xe_int) hrt.all
theorem sc_Big_init : FnScope ["self", "width", "value", "row"] ["self", "width", "value", "row"] (defScope s_Big_init) := ⟨rfl, rfl, rfl, by decide +kernel, rfl, by decide +kernel, by decide +kernel⟩
theorem order_sgn (v : Int) : M_order_of v 0 = some (sgn v) := by
  unfold M_order_of sgn
  by_cases h : v < 0
  · rw [if_pos (decide_eq_true h), if_pos h]
  · rw [if_neg (by simpa using h), if_neg h]
    by_cases e : v = 0
    · rw [if_pos (decide_eq_true e), if_pos e]
    · rw [if_neg (by simpa using e), if_neg e]
theorem ok_Big_init {f : Addr} {fd : FuncData} (F : Fun T.K "__init__" "Big.__init__" s_Big_init f fd) (bc : BCls T.K (T.C 1)) (z_tuple : mg "tuple" = none) (c_order_of : Cal P w T.K mg base 1 "order_of" ["a", "b"] (mkSp (Pre_order_of T))) : FnOk P w T.K mg base CX0 2 f fd ["self", "width", "value", "row"] (mkSp (Pre_Big T)) := by
  refine fn_ok F sc_Big_init (fun As Ω R h => ?_) (fun cdv A outer s H E hr As Ω R F0 h => ?_)
  · obtain ⟨Ω0, p, w, sd, row, B, _, rfl, _⟩ := h; rfl
  obtain ⟨Ω0, p, w, sd, row, B, hB, rfl, rfl, rfl⟩ := h
  refine ⟨_, pss_cons (ps_fld (pv 0) (pv 1) rfl) (pss_cons (ps_fld (pv 0) (pe_cal c_order_of (hr.mono (by decide)) (by rfl) (pa_cons (pv 2) (pa_cons pe_int pa_nil))) rfl) (pss_cons (ps_fld (pv 0) (pe_callTy cr_tuple (by rfl) z_tuple (by decide +kernel) (pa_cons (pv 3) pa_nil)) rfl) (pss_one (ps_fld (pv 0) (pv 2) rfl)))), fun D hrt hnx => ?_⟩
  show XS _ D F0 [some (vr p), some (va T w), some (va T sd), some B] _
  refine xs_binit (k := Ω0.length) (row := row) bc rfl rfl rfl (fun Ω' => xe_call (xa_cons (xe_var (i := 2) rfl) (xa_cons xe_int xa_nil)) ⟨sd, 0, sgn sd, rfl, order_sgn sd, rfl⟩ cal0') (fun Ω' => ?_) app_at fun σ H ⟨F, f0, e, hh⟩ => hnx F σ H _ f0 hh ⟨rfl, set_last⟩
  rcases hB with rfl | rfl
  · exact xe_tupleL (xe_var (i := 3) rfl) isL_LF
  · exact xe_tupleT (xe_var (i := 3) rfl)
noncomputable def M_check_machine (x0 : MS) : Option Unit :=
  (chkP (true = true)).bind fun z1 => some ()
def Pre_check_machine (T : TC) : PreT := fun As Ω R => ∃ (k0 : Nat) (p0 : Addr) (x0 : MS) (r : Unit), As = [vr p0] ∧ Ω[k0]? = some (machA T p0 x0) ∧ M_check_machine x0 = some r ∧ R = RV (va T r) (stt Ω [] [])
theorem sc_check_machine : FnScope ["machine"] ["machine"] (defScope s_check_machine) := ⟨rfl, rfl, rfl, by decide +kernel, rfl, by decide +kernel, by decide +kernel⟩
theorem ok_check_machine {f : Addr} {fd : FuncData} (F : Fun T.K "check_machine" "check_machine" s_check_machine f fd) (icm : ICls T.K (T.C 0)) (z_isinstance : mg "isinstance" = none) (g_Machine : ∃ u, mg "Machine" = some u ∧ RelV (.ref (T.C 0)) u) : FnOk P w T.K mg base CX0 5 f fd ["machine"] (mkSp (Pre_check_machine T)) := by
  refine fn_ok F sc_check_machine (fun As Ω R h => ?_) (fun cdv A outer s H E hr As Ω R F0 h => ?_)
  · obtain ⟨k0, p0, x0, r, rfl, _⟩ := h
    rfl
  obtain ⟨k0, p0, x0, r, rfl, hk0, hm, rfl⟩ := h
  refine ⟨_, (pss_one (ps_if (pt_not (pt_val (pe_callB (cr_isiK (K := T.K) rfl) (by rfl) z_isinstance (by decide +kernel) (pa_cons (pv 0) (pa_cons (pe_gl rfl g_Machine) pa_nil))))) pss_never pss_nil)), fun D hrt hnx => ?_⟩
  have ok : Okk Ω [] := okk0
  suffices hx : XS _ D F0 [some (vr p0)] (stt Ω [] []) by
    rw [show (stt Ω [] []) = Ω from stt_self (by simp)] at hx
    exact hx
  unfold M_check_machine at hm
  obtain ⟨z1, hz1, hm⟩ := bnd_some hm
  refine xs_ifF1 (xt_notF (xt_eq (xt_tB (T := T) (xe_isi (xe_var (i := 0) rfl) xe_vx (.own _) (fun F H v hh a => ty_mach icm (stt_getU hk0) hh a) icm.kit)) (chkP_some hz1))) ?_
  obtain rfl := Option.some.inj hm
  exact fun σ H ⟨F, f0, e, hh⟩ => hnx F σ H _ f0 hh.all ⟨rfl, rfl⟩
noncomputable def M_top_digit (x0 : Int) : Option Int :=
  (chkP (CShl (1 : Int) x0)).bind fun z1 => some (((1 : Int) * 2 ^ (x0).toNat) - (1 : Int))
def Pre_top_digit (T : TC) : PreT := fun As Ω R => ∃ (x0 : Int) (r : Int), As = [va T x0] ∧ M_top_digit x0 = some r ∧ R = RV (va T r) (stt Ω [] [])
theorem sc_top_digit : FnScope ["width"] ["width"] (defScope s_top_digit) := ⟨rfl, rfl, rfl, by decide +kernel, rfl, by decide +kernel, by decide +kernel⟩
theorem ok_top_digit {f : Addr} {fd : FuncData} (F : Fun T.K "top_digit" "top_digit" s_top_digit f fd)  : FnOk P w T.K mg base CX0 1 f fd ["width"] (mkSp (Pre_top_digit T)) := by
  refine fn_ok F sc_top_digit (fun As Ω R h => ?_) (fun cdv A outer s H E hr As Ω R F0 h => ?_)
  · obtain ⟨x0, r, rfl, _⟩ := h
    rfl
  obtain ⟨x0, r, rfl, hm, rfl⟩ := h
  refine ⟨_, (pss_one (ps_ret (pe_op op_sub (pe_op op_shlW pe_int (pv 0)) pe_int))), fun D hrt hnx => ?_⟩
  have ok : Okk Ω [] := okk0
  suffices hx : XS _ D F0 [some (va T x0)] (stt Ω [] []) by
    rw [show (stt Ω [] []) = Ω from stt_self (by simp)] at hx
    exact hx
  unfold M_top_digit at hm
  obtain ⟨z1, hz1, hm⟩ := bnd_some hm
  obtain rfl := Option.some.inj hm
  refine xs_ret (xe_sub (xe_shl (chkP_some hz1) xe_int (xe_var (i := 0) rfl)) xe_int) hrt.all
noncomputable def M_check_row (x0 : MS) (x1 : List Int) (x2 : Str) : Option Unit :=
  (chkP (true = true)).bind fun z1 => (M_top_digit x0.w).bind fun z2 => (chkP (x1.length ≤ sizeLine)).bind fun z3 => (lcM (fun (a5 : Int) (s4 : Unit) => (M_is_between a5 (0 : Int) z2).bind fun z6 => some (some z6, ())) x1 ()).bind fun z7 => (chkP ((z7.1.all id) = true)).bind fun z9 => some ()
def Pre_check_row (T : TC) : PreT := fun As Ω R => ∃ (k0 : Nat) (p0 : Addr) (x0 : MS) (x1 : List Int) (x2 : Str) (r : Unit), As = [vr p0, va T (LF.mk x1), va T x2] ∧ Ω[k0]? = some (machA T p0 x0) ∧ M_check_row x0 x1 x2 = some r ∧ R = RV (va T r) (stt Ω [] [])
theorem sc_check_row : FnScope ["machine", "value", "name", "top", "digit"] ["machine", "value", "name"] (defScope s_check_row) := ⟨rfl, rfl, rfl, by decide +kernel, rfl, by decide +kernel, by decide +kernel⟩
theorem ok_check_row {f : Addr} {fd : FuncData} (F : Fun T.K "check_row" "check_row" s_check_row f fd) (z_isinstance : mg "isinstance" = none) (z_list : mg "list" = none) (mc : MCls T.K (T.C 0)) (c_top_digit : Cal P w T.K mg base 1 "top_digit" ["width"] (mkSp (Pre_top_digit T))) (c_is_between : Cal P w T.K mg base 2 "is_between" ["value", "low", "high"] (mkSp (Pre_is_between T))) (z_all : mg "all" = none) : FnOk P w T.K mg base CX0 5 f fd ["machine", "value", "name"] (mkSp (Pre_check_row T)) := by
  refine fn_ok F sc_check_row (fun As Ω R h => ?_) (fun cdv A outer s H E hr As Ω R F0 h => ?_)
  · obtain ⟨k0, p0, x0, x1, x2, r, rfl, _⟩ := h
    rfl
  obtain ⟨k0, p0, x0, x1, x2, r, rfl, hk0, hm, rfl⟩ := h
  refine ⟨_, (pss_cons (ps_if (pt_not (pt_val (pe_callB (cr_isiK (K := T.K) rfl) (by rfl) z_isinstance (by decide +kernel) (pa_cons (pv 1) (pa_cons (pe_bltn (v := .ty "list") (by rfl) z_list (by decide +kernel) rfl) pa_nil))))) pss_never pss_nil) (pss_cons (ps_set (i := 3) sc_check_row.nd rfl (.inr rfl) (pe_cal c_top_digit (hr.mono (by decide)) (by rfl) (pa_cons (pe_fldK (K := T.K) (pv 0) (by rfl) rfl) pa_nil))) (pss_one (ps_if (pt_not (pt_val (pe_callB (cr_allK (K := T.K) rfl rfl) (by rfl) z_all (by decide +kernel) (pa_cons (pe_lc (own := [("digit", 4)]) rfl sc_check_row.nd (pi_listK (K := T.K) (pv 1) rfl) (blkOk_by (N := ["machine", "value", "name", "top", "digit"]) (sc := defScope s_check_row) (by decide +kernel)) (fun _ _ _ _ _ => (pg_name (i := 4) sc_check_row.nd rfl (.inl rfl))) (fun _ _ _ _ _ => pts_nil) (fun _ _ _ _ _ => (pe_cal c_is_between (hr.mono (by decide)) (by rfl) (pa_cons (pv 4) (pa_cons pe_int (pa_cons (pv 3) pa_nil)))))) pa_nil)))) pss_never pss_nil)))), fun D hrt hnx => ?_⟩
  have ok : Okk Ω [] := okk0
  suffices hx : XS _ D F0 [some (vr p0), some (va T (LF.mk x1)), some (va T x2), none, none] (stt Ω [] []) by
    rw [show (stt Ω [] []) = Ω from stt_self (by simp)] at hx
    exact hx
  unfold M_check_row at hm
  obtain ⟨z1, hz1, hm⟩ := bnd_some hm
  refine xs_ifN (xt_notF (xt_eq (xt_tB (T := T) (xe_isi (xe_var (i := 1) rfl) xe_vx (.ty _) (fun F H v hh a => ty_lst hh a) (kit_ty (by decide +kernel)))) (chkP_some hz1))) ?_
  show XS (tSeq _ _) _ _ [some (vr p0), some (va T (LF.mk x1)), some (va T x2), none, none] (stt Ω [] [])
  obtain ⟨z2, hz2, hm⟩ := bnd_some hm
  refine xs_set (A := va T z2) (xe_call (xa_cons (xe_mw mc.cl mc.nw (xe_var (i := 0) rfl) (stt_getU hk0)) xa_nil) ⟨x0.w, z2, rfl, hz2, rfl⟩ cal0) ?_
  show XS (tIfS _ _ _) _ _ [some (vr p0), some (va T (LF.mk x1)), some (va T x2), some (va T z2), none] (stt Ω [] [])
  obtain ⟨z3, hz3, hm⟩ := bnd_some hm
  obtain ⟨z7, hz7, hm⟩ := bnd_some hm
  obtain ⟨z9, hz9, hm⟩ := bnd_some hm
  refine xs_ifF1 (xt_notF (xt_eq (xt_tB (T := T) (xe_all (xe_fz (xn_lcS (T := T) (fun (s4 : Unit) => []) (fun (s4 : Unit) => []) hz7 (xi_LF (xe_var (i := 1) rfl)) (fun _ => tgt_name) (by simp) (chkP_some hz3) ?q8)) isL_LF)) (chkP_some hz9))) ?_
  case q8 =>
    exact (fun a5 s4 o s2 ha hm X => by
      obtain ⟨z6, hz6, hm⟩ := bnd_some hm
      obtain ⟨rfl, rfl⟩ := Prod.mk.inj (Option.some.inj hm)
      refine ⟨(fun e => nomatch e), fun y e => ?_⟩
      obtain rfl := Option.some.inj e
      refine ⟨xt_yes, (xe_call (xa_cons (xe_var (i := 4) rfl) (xa_cons xe_int (xa_cons (xe_var (i := 3) rfl) xa_nil))) ⟨a5, (0 : Int), z2, z6, rfl, hz6, rfl⟩ cal0)⟩)
  obtain rfl := Option.some.inj hm
  exact fun σ H ⟨F, f0, e, hh⟩ => hnx F σ H _ f0 hh.all ⟨rfl, rfl⟩
noncomputable def M_size_of (x0 : Int) (x1 : Int) : Option Int :=
  (chkP (CDivW ((((Builtin.Int.intBits x1 : Nat) : Int) + x0) - (1 : Int)) x0)).bind fun z1 => some (((((Builtin.Int.intBits x1 : Nat) : Int) + x0) - (1 : Int)) / x0)
def Pre_size_of (T : TC) : PreT := fun As Ω R => ∃ (x0 : Int) (x1 : Int) (r : Int), As = [va T x0, va T x1] ∧ M_size_of x0 x1 = some r ∧ R = RV (va T r) (stt Ω [] [])
theorem sc_size_of : FnScope ["width", "n"] ["width", "n"] (defScope s_size_of) := ⟨rfl, rfl, rfl, by decide +kernel, rfl, by decide +kernel, by decide +kernel⟩
theorem ok_size_of {f : Addr} {fd : FuncData} (F : Fun T.K "size_of" "size_of" s_size_of f fd)  : FnOk P w T.K mg base CX0 2 f fd ["width", "n"] (mkSp (Pre_size_of T)) := by
  refine fn_ok F sc_size_of (fun As Ω R h => ?_) (fun cdv A outer s H E hr As Ω R F0 h => ?_)
  · obtain ⟨x0, x1, r, rfl, _⟩ := h
    rfl
  obtain ⟨x0, x1, r, rfl, hm, rfl⟩ := h
  refine ⟨_, (pss_one (ps_ret (pe_op op_fdivW (pe_op op_sub (pe_op op_addQ (pe_bits (pv 1)) (pv 0)) pe_int) (pv 0)))), fun D hrt hnx => ?_⟩
  have ok : Okk Ω [] := okk0
  suffices hx : XS _ D F0 [some (va T x0), some (va T x1)] (stt Ω [] []) by
    rw [show (stt Ω [] []) = Ω from stt_self (by simp)] at hx
    exact hx
  unfold M_size_of at hm
  obtain ⟨z1, hz1, hm⟩ := bnd_some hm
  obtain rfl := Option.some.inj hm
  refine xs_ret (xe_fdiv (chkP_some hz1) (xe_sub (xe_add (xe_bits (xe_var (i := 1) rfl)) (xe_var (i := 0) rfl)) xe_int) (xe_var (i := 0) rfl)) hrt.all
noncomputable def M_number_of : Nat → Int → (List Int) → Option Int
  | 0, _, _ => none
  | kf + 1, x0, x1 => (some (x1.length : Int)).bind fun y1 => if (decide ((32 : Int) < y1)) = true then (chkP (CDivW y1 (2 : Int))).bind fun z2 => (some (y1 / (2 : Int))).bind fun y3 => (M_number_of kf x0 (cut x1 none (some y3))).bind fun z4 => (M_number_of kf x0 (cut x1 (some y3) none)).bind fun z5 => (chkP (IntMulOk y3 x0)).bind fun z6 => (chkP (CShl z5 (y3 * x0))).bind fun z7 => some (z4 + (z5 * 2 ^ ((y3 * x0)).toNat)) else (forM' (ρ := Unit) (fun (a9 : Int) (s8 : Int) => (chkP (CShl s8 x0)).bind fun z10 => (some ((s8 * 2 ^ (x0).toNat) + a9)).bind fun y11 => some (Stp.nx y11)) ((x1).reverse) (0 : Int)).bind fun z12 => (nxt z12).bind fun s13 => some s13
theorem M_number_of_succ (kf : Nat) (x0 : Int) (x1 : List Int) : M_number_of (kf + 1) x0 x1 = ((some (x1.length : Int)).bind fun y1 => if (decide ((32 : Int) < y1)) = true then (chkP (CDivW y1 (2 : Int))).bind fun z2 => (some (y1 / (2 : Int))).bind fun y3 => (M_number_of kf x0 (cut x1 none (some y3))).bind fun z4 => (M_number_of kf x0 (cut x1 (some y3) none)).bind fun z5 => (chkP (IntMulOk y3 x0)).bind fun z6 => (chkP (CShl z5 (y3 * x0))).bind fun z7 => some (z4 + (z5 * 2 ^ ((y3 * x0)).toNat)) else (forM' (ρ := Unit) (fun (a9 : Int) (s8 : Int) => (chkP (CShl s8 x0)).bind fun z10 => (some ((s8 * 2 ^ (x0).toNat) + a9)).bind fun y11 => some (Stp.nx y11)) ((x1).reverse) (0 : Int)).bind fun z12 => (nxt z12).bind fun s13 => some s13) := by rw [M_number_of]
theorem M_number_of_zero (x0 : Int) (x1 : List Int) : M_number_of 0 x0 x1 = none := by rw [M_number_of]
def Pre_number_of (kf : Nat) (T : TC) : PreT := fun As Ω R => ∃ (x0 : Int) (x1 : List Int) (r : Int), As = [va T x0, va T (LF.mk x1)] ∧ M_number_of kf x0 x1 = some r ∧ R = RV (va T r) (stt Ω [] [])
theorem sc_number_of : FnScope ["width", "row", "size", "half", "number", "digit"] ["width", "row"] (defScope s_number_of) := ⟨rfl, rfl, rfl, by decide +kernel, rfl, by decide +kernel, by decide +kernel⟩
theorem ok0_number_of {f : Addr} {fd : FuncData} (F : Fun T.K "number_of" "number_of" s_number_of f fd) : FnOk P w T.K mg base CX0 1 f fd ["width", "row"] (mkSp (Pre_number_of 0 T)) := by
  refine fn_ok (k := 0) F sc_number_of (fun As Ω R h => ?_) (fun cdv A outer s H E hr As Ω R F0 h => ?_)
  · obtain ⟨x0, x1, r, rfl, _⟩ := h
    rfl
  obtain ⟨x0, x1, r, rfl, hm, rfl⟩ := h
  rw [M_number_of_zero] at hm
  cases hm
theorem ok_number_of (kf : Nat) {f : Addr} {fd : FuncData} (F : Fun T.K "number_of" "number_of" s_number_of f fd) (z_len : mg "len" = none) (g_LONGEST_LOOP : ∃ u, mg "LONGEST_LOOP" = some u ∧ RelV (.int 32) u) (c_number_of : Cal P w T.K mg base (1 + kf) "number_of" ["width", "row"] (mkSp (Pre_number_of kf T))) (z_reversed : mg "reversed" = none) : FnOk P w T.K mg base CX0 (1 + kf + 1) f fd ["width", "row"] (mkSp (Pre_number_of (kf + 1) T)) := by
  refine fn_ok F sc_number_of (fun As Ω R h => ?_) (fun cdv A outer s H E hr As Ω R F0 h => ?_)
  · obtain ⟨x0, x1, r, rfl, _⟩ := h
    rfl
  obtain ⟨x0, x1, r, rfl, hm, rfl⟩ := h
  refine ⟨_, (pss_cons (ps_set (i := 2) sc_number_of.nd rfl (.inl rfl) (pe_callB (cr_lenK (K := T.K) rfl) (by rfl) z_len PySem.boot_len (pa_cons (pv 1) pa_nil))) (pss_cons (ps_if (pt_cmpR op_gt (pv 2) (pe_gl rfl g_LONGEST_LOOP) (nomark _)) (pss_cons (ps_set (i := 3) sc_number_of.nd rfl (.inl rfl) (pe_op op_fdivW (pv 2) pe_int)) (pss_one (ps_ret (pe_op op_addQ (pe_cal c_number_of (hr.mono (by omega)) (by rfl) (pa_cons (pv 0) (pa_cons (pe_slice (sl_listK (K := T.K) rfl) (pv 1) po_none (po_some (pv 3))) pa_nil))) (pe_op op_shlW (pe_cal c_number_of (hr.mono (by omega)) (by rfl) (pa_cons (pv 0) (pa_cons (pe_slice (sl_listK (K := T.K) rfl) (pv 1) (po_some (pv 3)) po_none) pa_nil))) (pe_op op_mulQ (pv 3) (pv 0))))))) pss_nil) (pss_cons (ps_set (i := 4) sc_number_of.nd rfl (.inl rfl) pe_int) (pss_cons (ps_for PassesOwn.never rfl (RT.pi_revA (by rfl) z_reversed (pv 1)) (pg_name (i := 5) sc_number_of.nd rfl (.inl rfl)) (pss_one (ps_set (i := 4) sc_number_of.nd rfl (.inl rfl) (pe_op op_addQ (pe_op op_shlW (pv 4) (pv 0)) (pv 5))))) (pss_one (ps_ret (pv 4))))))), fun D hrt hnx => ?_⟩
  have ok : Okk Ω [] := okk0
  suffices hx : XS _ D F0 [some (va T x0), some (va T (LF.mk x1)), none, none, none, none] (stt Ω [] []) by
    rw [show (stt Ω [] []) = Ω from stt_self (by simp)] at hx
    exact hx
  rw [M_number_of_succ] at hm
  obtain ⟨y1, hy1, hm⟩ := bnd_some hm
  refine xs_set (A := va T y1) (xe_eq (xe_lenL (xe_var (i := 1) rfl) isL_LF) (Option.some.inj hy1)) ?_
  show XS (tSeq _ _) _ _ [some (va T x0), some (va T (LF.mk x1)), some (va T y1), none, none, none] (stt Ω [] [])
  by_cases hc : (decide ((32 : Int) < y1)) = true
  · rw [if_pos hc] at hm
    refine xs_ifT (xt_eq (xt_test (T := T) (xe_gt (xe_var (i := 2) rfl) xe_int)) hc) ?_
    obtain ⟨z2, hz2, hm⟩ := bnd_some hm
    obtain ⟨y3, hy3, hm⟩ := bnd_some hm
    refine xs_set (A := va T y3) (xe_eq (xe_fdiv (chkP_some hz2) (xe_var (i := 2) rfl) xe_int) (Option.some.inj hy3)) ?_
    show XS (tRet _) _ _ [some (va T x0), some (va T (LF.mk x1)), some (va T y1), some (va T y3), none, none] (stt Ω [] [])
    obtain ⟨z4, hz4, hm⟩ := bnd_some hm
    obtain ⟨z5, hz5, hm⟩ := bnd_some hm
    obtain ⟨z6, hz6, hm⟩ := bnd_some hm
    obtain ⟨z7, hz7, hm⟩ := bnd_some hm
    obtain rfl := Option.some.inj hm
    refine xs_ret (xe_add (xe_call (xa_cons (xe_var (i := 0) rfl) (xa_cons (xe_sliceL (xe_var (i := 1) rfl) xo_none (xo_some (T := T) (xe_var (i := 3) rfl)) isL_LF) xa_nil)) ⟨x0, (cut x1 none (some y3)), z4, rfl, hz4, rfl⟩ cal0) (xe_shl (chkP_some hz7) (xe_call (xa_cons (xe_var (i := 0) rfl) (xa_cons (xe_sliceL (xe_var (i := 1) rfl) (xo_some (T := T) (xe_var (i := 3) rfl)) xo_none isL_LF) xa_nil)) ⟨x0, (cut x1 (some y3) none), z5, rfl, hz5, rfl⟩ cal0) (xe_mul (chkP_some hz6) (xe_var (i := 3) rfl) (xe_var (i := 0) rfl)))) hrt.all
  · rw [if_neg hc] at hm
    refine xs_ifN (xt_eq (xt_test (T := T) (xe_gt (xe_var (i := 2) rfl) xe_int)) (nt hc)) ?_
    show XS (tSeq _ _) _ _ [some (va T x0), some (va T (LF.mk x1)), some (va T y1), none, none, none] (stt Ω [] [])
    refine xs_set (A := va T (0 : Int)) xe_int ?_
    show XS (tSeq _ _) _ _ [some (va T x0), some (va T (LF.mk x1)), some (va T y1), none, some (va T (0 : Int)), none] (stt Ω [] [])
    obtain ⟨z12, hz12, hm⟩ := bnd_some hm
    refine xs_forS (fun (s8 : Int) => [some (va T x0), some (va T (LF.mk x1)), some (va T y1), none, some (va T s8), none]) (fun (s8 : Int) => (stt Ω [] [])) (fun (_ : Unit) _ _ _ => False) hz12 (xi_revL (xe_var (i := 1) rfl)) (fun _ => tgt_name) (fun a9 s8 s' ha hm F1 D1 e1 hD => ?_) (fun s13 es => ?_) (fun r1 es => ?_)
    · show XS (tAsg _ _) _ _ [some (va T x0), some (va T (LF.mk x1)), some (va T y1), none, some (va T s8), some (va T a9)] (stt Ω [] [])
      obtain ⟨z10, hz10, hm⟩ := bnd_some hm
      obtain ⟨y11, hy11, hm⟩ := bnd_some hm
      refine xs_set1 (A := va T y11) (xe_eq (xe_add (xe_shl (chkP_some hz10) (xe_var (i := 4) rfl) (xe_var (i := 0) rfl)) (xe_var (i := 5) rfl)) (Option.some.inj hy11)) ?_
      obtain rfl := Option.some.inj hm
      exact fun σ H n => hD.nx _ rfl σ H (n.forget 5)
    · subst es
      obtain ⟨s2, hs2, hm⟩ := bnd_some hm
      cases hs2
      show XS (tRet _) _ _ [some (va T x0), some (va T (LF.mk x1)), some (va T y1), none, some (va T s13), none] (stt Ω [] [])
      obtain rfl := Option.some.inj hm
      refine xs_ret (xe_var (i := 4) rfl) hrt.all
    · subst es
      cases hm
noncomputable def M_low_part (x0 : Int) (x1 : Int) (x2 : Int) : Option Int :=
  (chkP (IntMulOk x2 x0)).bind fun z1 => (chkP (CShl (1 : Int) (x2 * x0))).bind fun z2 => some (Builtin.bitAnd x1 (((1 : Int) * 2 ^ ((x2 * x0)).toNat) - (1 : Int)))
def Pre_low_part (T : TC) : PreT := fun As Ω R => ∃ (x0 : Int) (x1 : Int) (x2 : Int) (r : Int), As = [va T x0, va T x1, va T x2] ∧ M_low_part x0 x1 x2 = some r ∧ R = RV (va T r) (stt Ω [] [])
theorem sc_low_part : FnScope ["width", "n", "size"] ["width", "n", "size"] (defScope s_low_part) := ⟨rfl, rfl, rfl, by decide +kernel, rfl, by decide +kernel, by decide +kernel⟩
theorem ok_low_part {f : Addr} {fd : FuncData} (F : Fun T.K "low_part" "low_part" s_low_part f fd)  : FnOk P w T.K mg base CX0 1 f fd ["width", "n", "size"] (mkSp (Pre_low_part T)) := by
  refine fn_ok F sc_low_part (fun As Ω R h => ?_) (fun cdv A outer s H E hr As Ω R F0 h => ?_)
  · obtain ⟨x0, x1, x2, r, rfl, _⟩ := h
    rfl
  obtain ⟨x0, x1, x2, r, rfl, hm, rfl⟩ := h
  refine ⟨_, (pss_one (ps_ret (pe_op op_and (pv 1) (pe_op op_sub (pe_op op_shlW pe_int (pe_op op_mulQ (pv 2) (pv 0))) pe_int)))), fun D hrt hnx => ?_⟩
  have ok : Okk Ω [] := okk0
  suffices hx : XS _ D F0 [some (va T x0), some (va T x1), some (va T x2)] (stt Ω [] []) by
    rw [show (stt Ω [] []) = Ω from stt_self (by simp)] at hx
    exact hx
  unfold M_low_part at hm
  obtain ⟨z1, hz1, hm⟩ := bnd_some hm
  obtain ⟨z2, hz2, hm⟩ := bnd_some hm
  obtain rfl := Option.some.inj hm
  refine xs_ret (xe_band (xe_var (i := 1) rfl) (xe_sub (xe_shl (chkP_some hz2) xe_int (xe_mul (chkP_some hz1) (xe_var (i := 2) rfl) (xe_var (i := 0) rfl))) xe_int)) hrt.all
noncomputable def M_row_of : Nat → Int → Int → Int → Option (List Int)
  | 0, _, _, _ => none
  | kf + 1, x0, x1, x2 => if (decide ((32 : Int) < x2)) = true then (chkP (CDivW x2 (2 : Int))).bind fun z1 => (some (x2 / (2 : Int))).bind fun y2 => (M_low_part x0 x1 y2).bind fun z3 => (M_row_of kf x0 z3 y2).bind fun z4 => (chkP (IntMulOk y2 x0)).bind fun z5 => (chkP (0 ≤ (y2 * x0))).bind fun z6 => (M_row_of kf x0 (x1 / 2 ^ ((y2 * x0)).toNat) (x2 - y2)).bind fun z7 => (chkP (z4.length + z7.length ≤ sizeLine)).bind fun z8 => some (z4 ++ z7) else (M_top_digit x0).bind fun z9 => (some ([] : List Int)).bind fun y10 => (chkP (-(2 ^ 62) ≤ x2 ∧ x2 < 2 ^ 62)).bind fun z13 => (forM' (ρ := Unit) (fun (a15 : Int) (s14 : Int × (List Int)) => (chkP (s14.2.length < sizeLine)).bind fun z16 => (chkP (0 ≤ x0)).bind fun z17 => (some (s14.1 / 2 ^ (x0).toNat)).bind fun y18 => some (Stp.nx (y18, (s14.2 ++ [(Builtin.bitAnd s14.1 z9)])))) (rng 0 (x2).toNat) (x1, y10)).bind fun z19 => (nxt z19).bind fun s20 => some s20.2
theorem M_row_of_succ (kf : Nat) (x0 : Int) (x1 : Int) (x2 : Int) : M_row_of (kf + 1) x0 x1 x2 = (if (decide ((32 : Int) < x2)) = true then (chkP (CDivW x2 (2 : Int))).bind fun z1 => (some (x2 / (2 : Int))).bind fun y2 => (M_low_part x0 x1 y2).bind fun z3 => (M_row_of kf x0 z3 y2).bind fun z4 => (chkP (IntMulOk y2 x0)).bind fun z5 => (chkP (0 ≤ (y2 * x0))).bind fun z6 => (M_row_of kf x0 (x1 / 2 ^ ((y2 * x0)).toNat) (x2 - y2)).bind fun z7 => (chkP (z4.length + z7.length ≤ sizeLine)).bind fun z8 => some (z4 ++ z7) else (M_top_digit x0).bind fun z9 => (some ([] : List Int)).bind fun y10 => (chkP (-(2 ^ 62) ≤ x2 ∧ x2 < 2 ^ 62)).bind fun z13 => (forM' (ρ := Unit) (fun (a15 : Int) (s14 : Int × (List Int)) => (chkP (s14.2.length < sizeLine)).bind fun z16 => (chkP (0 ≤ x0)).bind fun z17 => (some (s14.1 / 2 ^ (x0).toNat)).bind fun y18 => some (Stp.nx (y18, (s14.2 ++ [(Builtin.bitAnd s14.1 z9)])))) (rng 0 (x2).toNat) (x1, y10)).bind fun z19 => (nxt z19).bind fun s20 => some s20.2) := by rw [M_row_of]
theorem M_row_of_zero (x0 : Int) (x1 : Int) (x2 : Int) : M_row_of 0 x0 x1 x2 = none := by rw [M_row_of]
def Pre_row_of (kf : Nat) (T : TC) : PreT := fun As Ω R => ∃ (x0 : Int) (x1 : Int) (x2 : Int) (r : List Int), As = [va T x0, va T x1, va T x2] ∧ M_row_of kf x0 x1 x2 = some r ∧ R = RV (va T (LF.mk r)) (stt Ω [] [])
theorem sc_row_of : FnScope ["width", "n", "size", "half", "top", "row", "place"] ["width", "n", "size"] (defScope s_row_of) := ⟨rfl, rfl, rfl, by decide +kernel, rfl, by decide +kernel, by decide +kernel⟩
theorem ok0_row_of {f : Addr} {fd : FuncData} (F : Fun T.K "row_of" "row_of" s_row_of f fd) : FnOk P w T.K mg base CX0 1 f fd ["width", "n", "size"] (mkSp (Pre_row_of 0 T)) := by
  refine fn_ok (k := 0) F sc_row_of (fun As Ω R h => ?_) (fun cdv A outer s H E hr As Ω R F0 h => ?_)
  · obtain ⟨x0, x1, x2, r, rfl, _⟩ := h
    rfl
  obtain ⟨x0, x1, x2, r, rfl, hm, rfl⟩ := h
  rw [M_row_of_zero] at hm
  cases hm
theorem ok_row_of (kf : Nat) {f : Addr} {fd : FuncData} (F : Fun T.K "row_of" "row_of" s_row_of f fd) (g_LONGEST_LOOP : ∃ u, mg "LONGEST_LOOP" = some u ∧ RelV (.int 32) u) (c_low_part : Cal P w T.K mg base 1 "low_part" ["width", "n", "size"] (mkSp (Pre_low_part T))) (c_row_of : Cal P w T.K mg base (1 + kf) "row_of" ["width", "n", "size"] (mkSp (Pre_row_of kf T))) (c_top_digit : Cal P w T.K mg base 1 "top_digit" ["width"] (mkSp (Pre_top_digit T))) (z_range : mg "range" = none) : FnOk P w T.K mg base CX0 (1 + kf + 1) f fd ["width", "n", "size"] (mkSp (Pre_row_of (kf + 1) T)) := by
  refine fn_ok F sc_row_of (fun As Ω R h => ?_) (fun cdv A outer s H E hr As Ω R F0 h => ?_)
  · obtain ⟨x0, x1, x2, r, rfl, _⟩ := h
    rfl
  obtain ⟨x0, x1, x2, r, rfl, hm, rfl⟩ := h
  refine ⟨_, (pss_cons (ps_if (pt_cmpR op_gt (pv 2) (pe_gl rfl g_LONGEST_LOOP) (nomark _)) (pss_cons (ps_set (i := 3) sc_row_of.nd rfl (.inl rfl) (pe_op op_fdivW (pv 2) pe_int)) (pss_one (ps_ret (pe_op op_addQ (pe_cal c_row_of (hr.mono (by omega)) (by rfl) (pa_cons (pv 0) (pa_cons (pe_cal c_low_part (hr.mono (by omega)) (by rfl) (pa_cons (pv 0) (pa_cons (pv 1) (pa_cons (pv 3) pa_nil)))) (pa_cons (pv 3) pa_nil)))) (pe_cal c_row_of (hr.mono (by omega)) (by rfl) (pa_cons (pv 0) (pa_cons (pe_op op_shr (pv 1) (pe_op op_mulQ (pv 3) (pv 0))) (pa_cons (pe_op op_sub (pv 2) (pv 3)) pa_nil)))))))) pss_nil) (pss_cons (ps_set (i := 4) sc_row_of.nd rfl (.inl rfl) (pe_cal c_top_digit (hr.mono (by omega)) (by rfl) (pa_cons (pv 0) pa_nil))) (pss_cons (ps_set (i := 5) sc_row_of.nd rfl (.inl rfl) (pe_lst pa_nil)) (pss_cons (ps_for PassesOwn.never rfl (pi_range1 rfl z_range (pa_cons (pv 2) pa_nil)) (pg_name (i := 6) sc_row_of.nd rfl (.inl rfl)) (pss_cons (ps_expr (pe_bm PySem.F.plainAttrs_list PySem.F.slot_list_append PySem.F.type_list_append mt_append (pv 5) (pa_cons (pe_op op_and (pv 1) (pv 4)) pa_nil))) (pss_one (ps_aug (i := 1) sc_row_of.nd rfl (.inl rfl) (pv 0) (ip_of iop_shr))))) (pss_one (ps_ret (pv 5))))))), fun D hrt hnx => ?_⟩
  have ok : Okk Ω [] := okk0
  suffices hx : XS _ D F0 [some (va T x0), some (va T x1), some (va T x2), none, none, none, none] (stt Ω [] []) by
    rw [show (stt Ω [] []) = Ω from stt_self (by simp)] at hx
    exact hx
  rw [M_row_of_succ] at hm
  by_cases hc : (decide ((32 : Int) < x2)) = true
  · rw [if_pos hc] at hm
    refine xs_ifT (xt_eq (xt_test (T := T) (xe_gt (xe_var (i := 2) rfl) xe_int)) hc) ?_
    obtain ⟨z1, hz1, hm⟩ := bnd_some hm
    obtain ⟨y2, hy2, hm⟩ := bnd_some hm
    refine xs_set (A := va T y2) (xe_eq (xe_fdiv (chkP_some hz1) (xe_var (i := 2) rfl) xe_int) (Option.some.inj hy2)) ?_
    show XS (tRet _) _ _ [some (va T x0), some (va T x1), some (va T x2), some (va T y2), none, none, none] (stt Ω [] [])
    obtain ⟨z3, hz3, hm⟩ := bnd_some hm
    obtain ⟨z4, hz4, hm⟩ := bnd_some hm
    obtain ⟨z5, hz5, hm⟩ := bnd_some hm
    obtain ⟨z6, hz6, hm⟩ := bnd_some hm
    obtain ⟨z7, hz7, hm⟩ := bnd_some hm
    obtain ⟨z8, hz8, hm⟩ := bnd_some hm
    obtain rfl := Option.some.inj hm
    refine xs_ret (xe_cat (xe_call (xa_cons (xe_var (i := 0) rfl) (xa_cons (xe_call (xa_cons (xe_var (i := 0) rfl) (xa_cons (xe_var (i := 1) rfl) (xa_cons (xe_var (i := 3) rfl) xa_nil))) ⟨x0, x1, y2, z3, rfl, hz3, rfl⟩ cal0) (xa_cons (xe_var (i := 3) rfl) xa_nil))) ⟨x0, z3, y2, z4, rfl, hz4, rfl⟩ cal0) (xe_call (xa_cons (xe_var (i := 0) rfl) (xa_cons (xe_shr (chkP_some hz6) (xe_var (i := 1) rfl) (xe_mul (chkP_some hz5) (xe_var (i := 3) rfl) (xe_var (i := 0) rfl))) (xa_cons (xe_sub (xe_var (i := 2) rfl) (xe_var (i := 3) rfl)) xa_nil))) ⟨x0, (x1 / 2 ^ ((y2 * x0)).toNat), (x2 - y2), z7, rfl, hz7, rfl⟩ cal0) isLs_LF isLs_LF (chkP_some hz8)) hrt.all
  · rw [if_neg hc] at hm
    refine xs_ifN (xt_eq (xt_test (T := T) (xe_gt (xe_var (i := 2) rfl) xe_int)) (nt hc)) ?_
    show XS (tSeq _ _) _ _ [some (va T x0), some (va T x1), some (va T x2), none, none, none, none] (stt Ω [] [])
    obtain ⟨z9, hz9, hm⟩ := bnd_some hm
    refine xs_set (A := va T z9) (xe_call (xa_cons (xe_var (i := 0) rfl) xa_nil) ⟨x0, z9, rfl, hz9, rfl⟩ cal0) ?_
    show XS (tSeq _ _) _ _ [some (va T x0), some (va T x1), some (va T x2), none, some (va T z9), none, none] (stt Ω [] [])
    obtain ⟨y10, hy10, hm⟩ := bnd_some hm
    obtain rfl := Option.some.inj hy10
    refine xs_setO ((xn_lst (T := T) (l := ([] : List Int)) xa_nil (Nat.zero_le _))) (fun pp11 => ?_)
    show XS (tSeq _ _) _ _ [some (va T x0), some (va T x1), some (va T x2), none, some (va T z9), some (vr pp11), none] (stt Ω [] [lstA T pp11 (([] : List Int) : List Int)])
    obtain ⟨z13, hz13, hm⟩ := bnd_some hm
    obtain ⟨z19, hz19, hm⟩ := bnd_some hm
    refine xs_forS (fun (s14 : Int × (List Int)) => [some (va T x0), some (va T s14.1), some (va T x2), none, some (va T z9), some (vr pp11), none]) (fun (s14 : Int × (List Int)) => (stt Ω [] [lstA T pp11 (s14.2 : List Int)])) (fun (_ : Unit) _ _ _ => False) hz19 (xi_range1 (T := T) (xa_cons (xe_var (i := 2) rfl) xa_nil) (chkP_some hz13).1 (chkP_some hz13).2) (fun _ => tgt_name) (fun a15 s14 s' ha hm F1 D1 e1 hD => ?_) (fun s20 es => ?_) (fun r1 es => ?_)
    · show XS (tSeq _ _) _ _ [some (va T x0), some (va T s14.1), some (va T x2), none, some (va T z9), some (vr pp11), some (va T a15)] (stt Ω [] [lstA T pp11 (s14.2 : List Int)])
      obtain ⟨z16, hz16, hm⟩ := bnd_some hm
      refine xs_drop (xe_appER (stt_getL (j := 0) rfl) (stt_getL (j := 0) rfl) (xe_var (i := 5) rfl) (xe_band (xe_var (i := 1) rfl) (xe_var (i := 4) rfl)) (chkP_some hz16) (stt_setL (j := 0))) ?_
      show XS (tAug _ _ _) _ _ [some (va T x0), some (va T s14.1), some (va T x2), none, some (va T z9), some (vr pp11), some (va T a15)] (stt Ω [] [lstA T pp11 ((s14.2 ++ [(Builtin.bitAnd s14.1 z9)]) : List Int)])
      obtain ⟨z17, hz17, hm⟩ := bnd_some hm
      obtain ⟨y18, hy18, hm⟩ := bnd_some hm
      refine xs_augD1 (T := T) rfl (chkP_some hz17) (xe_var (i := 0) rfl) (Option.some.inj hy18) ?_
      obtain rfl := Option.some.inj hm
      exact fun σ H n => hD.nx _ rfl σ H (n.forget 6)
    · subst es
      obtain ⟨s2, hs2, hm⟩ := bnd_some hm
      cases hs2
      show XS (tRet _) _ _ [some (va T x0), some (va T s20.1), some (va T x2), none, some (va T z9), some (vr pp11), none] (stt Ω [] [lstA T pp11 (s20.2 : List Int)])
      obtain rfl := Option.some.inj hm
      refine xs_fzJ (k := 5) (j := 0) rfl rfl ?_
      show XS _ _ _ [some (va T x0), some (va T s20.1), some (va T x2), none, some (va T z9), some (va T (LF.mk s20.2)), none] (stt Ω [] [nilA])
      exact xs_ret (xe_var (i := 5) rfl) hrt.all
    · subst es
      cases hm
noncomputable def M_last_difference (x0 : MS) (x1 : Int) (x2 : Int) : Option (Int × MS) :=
  (M_size_of x0.w x1).bind fun z1 => (M_size_of x0.w (Builtin.bitXor x1 x2)).bind fun z2 => (some (z2 - (1 : Int))).bind fun y3 => (chkP (("looked" : Str) ∈ mwords)).bind fun z4 => some (y3, (x0.step ("looked" : Str) (z1 - (max y3 (0 : Int)))))
def Pre_last_difference (T : TC) : PreT := fun As Ω R => ∃ (k0 : Nat) (p0 : Addr) (x0 : MS) (x1 : Int) (x2 : Int) (r : Int × MS), As = [vr p0, va T x1, va T x2] ∧ Ω[k0]? = some (machA T p0 x0) ∧ M_last_difference x0 x1 x2 = some r ∧ R = RV (va T r.1) (stt Ω [(k0, machA T p0 r.2)] [])
theorem sc_last_difference : FnScope ["machine", "a", "b", "size", "place"] ["machine", "a", "b"] (defScope s_last_difference) := ⟨rfl, rfl, rfl, by decide +kernel, rfl, by decide +kernel, by decide +kernel⟩
theorem ok_last_difference {f : Addr} {fd : FuncData} (F : Fun T.K "last_difference" "last_difference" s_last_difference f fd) (mc : MCls T.K (T.C 0)) (c_size_of : Cal P w T.K mg base 2 "size_of" ["width", "n"] (mkSp (Pre_size_of T))) (z_max : mg "max" = none) (c_Mach_step : CalM P w T.K mg base 1 (T.C 0) "step" ["self", "word", "many"] (mkSp (Pre_Mach_step T))) : FnOk P w T.K mg base CX0 3 f fd ["machine", "a", "b"] (mkSp (Pre_last_difference T)) := by
  refine fn_ok F sc_last_difference (fun As Ω R h => ?_) (fun cdv A outer s H E hr As Ω R F0 h => ?_)
  · obtain ⟨k0, p0, x0, x1, x2, r, rfl, _⟩ := h
    rfl
  obtain ⟨k0, p0, x0, x1, x2, r, rfl, hk0, hm, rfl⟩ := h
  refine ⟨_, (pss_cons (ps_set (i := 3) sc_last_difference.nd rfl (.inl rfl) (pe_cal c_size_of (hr.mono (by decide)) (by rfl) (pa_cons (pe_fldK (K := T.K) (pv 0) (by rfl) rfl) (pa_cons (pv 1) pa_nil)))) (pss_cons (ps_set (i := 4) sc_last_difference.nd rfl (.inl rfl) (pe_op op_sub (pe_cal c_size_of (hr.mono (by decide)) (by rfl) (pa_cons (pe_fldK (K := T.K) (pv 0) (by rfl) rfl) (pa_cons (pe_op op_xor (pv 1) (pv 2)) pa_nil))) pe_int)) (pss_cons (ps_expr (pe_calM (pv 0) c_Mach_step (hr.mono (by decide)) (pa_cons pe_str (pa_cons (pe_op op_sub (pv 3) (pe_callB (cr_max2 rfl) (by rfl) z_max (by decide +kernel) (pa_cons (pv 4) (pa_cons pe_int pa_nil)))) pa_nil)))) (pss_one (ps_ret (pv 4)))))), fun D hrt hnx => ?_⟩
  have ok := okk1 hk0
  suffices hx : XS _ D F0 [some (vr p0), some (va T x1), some (va T x2), none, none] (stt Ω [(k0, machA T p0 x0)] []) by
    rw [show (stt Ω [(k0, machA T p0 x0)] []) = Ω from stt_self (by simp [hk0])] at hx
    exact hx
  unfold M_last_difference at hm
  obtain ⟨z1, hz1, hm⟩ := bnd_some hm
  refine xs_set (A := va T z1) (xe_call (xa_cons (xe_mw mc.cl mc.nw (xe_var (i := 0) rfl) (stt_get ok (i := 0) rfl)) (xa_cons (xe_var (i := 1) rfl) xa_nil)) ⟨x0.w, x1, z1, rfl, hz1, rfl⟩ cal0) ?_
  show XS (tSeq _ _) _ _ [some (vr p0), some (va T x1), some (va T x2), some (va T z1), none] (stt Ω [(k0, machA T p0 x0)] [])
  obtain ⟨z2, hz2, hm⟩ := bnd_some hm
  obtain ⟨y3, hy3, hm⟩ := bnd_some hm
  refine xs_set (A := va T y3) (xe_eq (xe_sub (xe_call (xa_cons (xe_mw mc.cl mc.nw (xe_var (i := 0) rfl) (stt_get ok (i := 0) rfl)) (xa_cons (xe_bxor (xe_var (i := 1) rfl) (xe_var (i := 2) rfl)) xa_nil)) ⟨x0.w, (Builtin.bitXor x1 x2), z2, rfl, hz2, rfl⟩ cal0) xe_int) (Option.some.inj hy3)) ?_
  show XS (tSeq _ _) _ _ [some (vr p0), some (va T x1), some (va T x2), some (va T z1), some (va T y3)] (stt Ω [(k0, machA T p0 x0)] [])
  obtain ⟨z4, hz4, hm⟩ := bnd_some hm
  refine xs_drop (xe_mcall (xe_var (i := 0) rfl) (stt_get ok (i := 0) rfl) (xa_cons xe_str (xa_cons (xe_sub (xe_var (i := 3) rfl) (xe_max2 (xe_var (i := 4) rfl) xe_int)) xa_nil)) ⟨k0, p0, x0, ("looked" : Str), (z1 - (max y3 (0 : Int))), rfl, (stt_get ok (i := 0) rfl), chkP_some hz4, rfl⟩ (cal1 ok (i := 0) rfl)) ?_
  show XS (tRet _) _ _ [some (vr p0), some (va T x1), some (va T x2), some (va T z1), some (va T y3)] (stt Ω [(k0, machA T p0 (x0.step ("looked" : Str) (z1 - (max y3 (0 : Int)))))] [])
  obtain rfl := Option.some.inj hm
  refine xs_ret (xe_var (i := 4) rfl) hrt.all
noncomputable def M_check_big (x0 : Bg) (x1 : Str) : Option Unit :=
  (chkP (true = true)).bind fun z1 => some ()
def Pre_check_big (T : TC) : PreT := fun As Ω R => ∃ (x0 : Bg) (x1 : Str) (r : Unit), As = [va T x0, va T x1] ∧ M_check_big x0 x1 = some r ∧ R = RV (va T r) (stt Ω [] [])
theorem sc_check_big : FnScope ["value", "name"] ["value", "name"] (defScope s_check_big) := ⟨rfl, rfl, rfl, by decide +kernel, rfl, by decide +kernel, by decide +kernel⟩
theorem ok_check_big {f : Addr} {fd : FuncData} (F : Fun T.K "check_big" "check_big" s_check_big f fd) (icb : ICls T.K (T.C 1)) (z_isinstance : mg "isinstance" = none) (g_Big : ∃ u, mg "Big" = some u ∧ RelV (.ref (T.C 1)) u) : FnOk P w T.K mg base CX0 5 f fd ["value", "name"] (mkSp (Pre_check_big T)) := by
  refine fn_ok F sc_check_big (fun As Ω R h => ?_) (fun cdv A outer s H E hr As Ω R F0 h => ?_)
  · obtain ⟨x0, x1, r, rfl, _⟩ := h
    rfl
  obtain ⟨x0, x1, r, rfl, hm, rfl⟩ := h
  refine ⟨_, (pss_one (ps_if (pt_not (pt_val (pe_callB (cr_isiK (K := T.K) rfl) (by rfl) z_isinstance (by decide +kernel) (pa_cons (pv 0) (pa_cons (pe_gl rfl g_Big) pa_nil))))) pss_never pss_nil)), fun D hrt hnx => ?_⟩
  have ok : Okk Ω [] := okk0
  suffices hx : XS _ D F0 [some (va T x0), some (va T x1)] (stt Ω [] []) by
    rw [show (stt Ω [] []) = Ω from stt_self (by simp)] at hx
    exact hx
  unfold M_check_big at hm
  obtain ⟨z1, hz1, hm⟩ := bnd_some hm
  refine xs_ifF1 (xt_notF (xt_eq (xt_tB (T := T) (xe_isi (xe_var (i := 0) rfl) xe_vx (.own _) (fun F H v hh a => ty_big icb hh a) icb.kit)) (chkP_some hz1))) ?_
  obtain rfl := Option.some.inj hm
  exact fun σ H ⟨F, f0, e, hh⟩ => hnx F σ H _ f0 hh.all ⟨rfl, rfl⟩
noncomputable def M_check_fit (x0 : MS) (x1 : Bg) (x2 : Str) : Option Unit :=
  (M_check_big x1 x2).bind fun z1 => (chkP (x1.w = x0.w)).bind fun z2 => some ()
def Pre_check_fit (T : TC) : PreT := fun As Ω R => ∃ (k0 : Nat) (p0 : Addr) (x0 : MS) (x1 : Bg) (x2 : Str) (r : Unit), As = [vr p0, va T x1, va T x2] ∧ Ω[k0]? = some (machA T p0 x0) ∧ M_check_fit x0 x1 x2 = some r ∧ R = RV (va T r) (stt Ω [] [])
theorem sc_check_fit : FnScope ["machine", "value", "name"] ["machine", "value", "name"] (defScope s_check_fit) := ⟨rfl, rfl, rfl, by decide +kernel, rfl, by decide +kernel, by decide +kernel⟩
theorem ok_check_fit {f : Addr} {fd : FuncData} (F : Fun T.K "check_fit" "check_fit" s_check_fit f fd) (c_check_big : Cal P w T.K mg base 5 "check_big" ["value", "name"] (mkSp (Pre_check_big T))) (bc : BCls T.K (T.C 1)) (mc : MCls T.K (T.C 0)) : FnOk P w T.K mg base CX0 6 f fd ["machine", "value", "name"] (mkSp (Pre_check_fit T)) := by
  refine fn_ok F sc_check_fit (fun As Ω R h => ?_) (fun cdv A outer s H E hr As Ω R F0 h => ?_)
  · obtain ⟨k0, p0, x0, x1, x2, r, rfl, _⟩ := h
    rfl
  obtain ⟨k0, p0, x0, x1, x2, r, rfl, hk0, hm, rfl⟩ := h
  refine ⟨_, (pss_cons (ps_expr (pe_cal c_check_big (hr.mono (by decide)) (by rfl) (pa_cons (pv 1) (pa_cons (pv 2) pa_nil)))) (pss_one (ps_if (pt_cmpR (op_neXK (K := T.K) (by exact hr.units) rfl) (pe_fldK (K := T.K) (pv 1) (by rfl) rfl) (pe_fldK (K := T.K) (pv 0) (by rfl) rfl) (nomark _)) pss_never pss_nil))), fun D hrt hnx => ?_⟩
  have ok : Okk Ω [] := okk0
  suffices hx : XS _ D F0 [some (vr p0), some (va T x1), some (va T x2)] (stt Ω [] []) by
    rw [show (stt Ω [] []) = Ω from stt_self (by simp)] at hx
    exact hx
  unfold M_check_fit at hm
  obtain ⟨z1, hz1, hm⟩ := bnd_some hm
  refine xs_drop (xe_call (xa_cons (xe_var (i := 1) rfl) (xa_cons (xe_var (i := 2) rfl) xa_nil)) ⟨x1, x2, z1, rfl, hz1, rfl⟩ cal0) ?_
  show XS (tIfS _ _ _) _ _ [some (vr p0), some (va T x1), some (va T x2)] (stt Ω [] [])
  obtain ⟨z2, hz2, hm⟩ := bnd_some hm
  refine xs_ifF1 (xt_test (T := T) (xe_eq (xe_neI (xe_bw bc.cl bc.nw (xe_var (i := 1) rfl)) (xe_mw mc.cl mc.nw (xe_var (i := 0) rfl) (stt_getU hk0))) (neK_ (chkP_some hz2)))) ?_
  obtain rfl := Option.some.inj hm
  exact fun σ H ⟨F, f0, e, hh⟩ => hnx F σ H _ f0 hh.all ⟨rfl, rfl⟩
noncomputable def M_check_one (x0 : MS) (x1 : Bg) : Option Unit :=
  (M_check_machine x0).bind fun z1 => (M_check_fit x0 x1 ("x" : Str)).bind fun z2 => some ()
def Pre_check_one (T : TC) : PreT := fun As Ω R => ∃ (k0 : Nat) (p0 : Addr) (x0 : MS) (x1 : Bg) (r : Unit), As = [vr p0, va T x1] ∧ Ω[k0]? = some (machA T p0 x0) ∧ M_check_one x0 x1 = some r ∧ R = RV (va T r) (stt Ω [] [])
theorem sc_check_one : FnScope ["machine", "x"] ["machine", "x"] (defScope s_check_one) := ⟨rfl, rfl, rfl, by decide +kernel, rfl, by decide +kernel, by decide +kernel⟩
theorem ok_check_one {f : Addr} {fd : FuncData} (F : Fun T.K "check_one" "check_one" s_check_one f fd) (c_check_machine : Cal P w T.K mg base 5 "check_machine" ["machine"] (mkSp (Pre_check_machine T))) (c_check_fit : Cal P w T.K mg base 6 "check_fit" ["machine", "value", "name"] (mkSp (Pre_check_fit T))) : FnOk P w T.K mg base CX0 7 f fd ["machine", "x"] (mkSp (Pre_check_one T)) := by
  refine fn_ok F sc_check_one (fun As Ω R h => ?_) (fun cdv A outer s H E hr As Ω R F0 h => ?_)
  · obtain ⟨k0, p0, x0, x1, r, rfl, _⟩ := h
    rfl
  obtain ⟨k0, p0, x0, x1, r, rfl, hk0, hm, rfl⟩ := h
  refine ⟨_, (pss_cons (ps_expr (pe_cal c_check_machine (hr.mono (by decide)) (by rfl) (pa_cons (pv 0) pa_nil))) (pss_one (ps_expr (pe_cal c_check_fit (hr.mono (by decide)) (by rfl) (pa_cons (pv 0) (pa_cons (pv 1) (pa_cons pe_str pa_nil))))))), fun D hrt hnx => ?_⟩
  have ok : Okk Ω [] := okk0
  suffices hx : XS _ D F0 [some (vr p0), some (va T x1)] (stt Ω [] []) by
    rw [show (stt Ω [] []) = Ω from stt_self (by simp)] at hx
    exact hx
  unfold M_check_one at hm
  obtain ⟨z1, hz1, hm⟩ := bnd_some hm
  refine xs_drop (xe_call (xa_cons (xe_var (i := 0) rfl) xa_nil) ⟨k0, p0, x0, z1, rfl, (stt_getU hk0), hz1, rfl⟩ cal0) ?_
  show XS (tDrop _) _ _ [some (vr p0), some (va T x1)] (stt Ω [] [])
  obtain ⟨z2, hz2, hm⟩ := bnd_some hm
  refine xs_drop1 (xe_call (xa_cons (xe_var (i := 0) rfl) (xa_cons (xe_var (i := 1) rfl) (xa_cons xe_str xa_nil))) ⟨k0, p0, x0, x1, ("x" : Str), z2, rfl, (stt_getU hk0), hz2, rfl⟩ cal0) ?_
  obtain rfl := Option.some.inj hm
  exact fun σ H ⟨F, f0, e, hh⟩ => hnx F σ H _ f0 hh.all ⟨rfl, rfl⟩
noncomputable def M_check_two (x0 : MS) (x1 : Bg) (x2 : Bg) : Option Unit :=
  (M_check_one x0 x1).bind fun z1 => (M_check_fit x0 x2 ("y" : Str)).bind fun z2 => some ()
def Pre_check_two (T : TC) : PreT := fun As Ω R => ∃ (k0 : Nat) (p0 : Addr) (x0 : MS) (x1 : Bg) (x2 : Bg) (r : Unit), As = [vr p0, va T x1, va T x2] ∧ Ω[k0]? = some (machA T p0 x0) ∧ M_check_two x0 x1 x2 = some r ∧ R = RV (va T r) (stt Ω [] [])
theorem sc_check_two : FnScope ["machine", "x", "y"] ["machine", "x", "y"] (defScope s_check_two) := ⟨rfl, rfl, rfl, by decide +kernel, rfl, by decide +kernel, by decide +kernel⟩
theorem ok_check_two {f : Addr} {fd : FuncData} (F : Fun T.K "check_two" "check_two" s_check_two f fd) (c_check_one : Cal P w T.K mg base 7 "check_one" ["machine", "x"] (mkSp (Pre_check_one T))) (c_check_fit : Cal P w T.K mg base 6 "check_fit" ["machine", "value", "name"] (mkSp (Pre_check_fit T))) : FnOk P w T.K mg base CX0 8 f fd ["machine", "x", "y"] (mkSp (Pre_check_two T)) := by
  refine fn_ok F sc_check_two (fun As Ω R h => ?_) (fun cdv A outer s H E hr As Ω R F0 h => ?_)
  · obtain ⟨k0, p0, x0, x1, x2, r, rfl, _⟩ := h
    rfl
  obtain ⟨k0, p0, x0, x1, x2, r, rfl, hk0, hm, rfl⟩ := h
  refine ⟨_, (pss_cons (ps_expr (pe_cal c_check_one (hr.mono (by decide)) (by rfl) (pa_cons (pv 0) (pa_cons (pv 1) pa_nil)))) (pss_one (ps_expr (pe_cal c_check_fit (hr.mono (by decide)) (by rfl) (pa_cons (pv 0) (pa_cons (pv 2) (pa_cons pe_str pa_nil))))))), fun D hrt hnx => ?_⟩
  have ok : Okk Ω [] := okk0
  suffices hx : XS _ D F0 [some (vr p0), some (va T x1), some (va T x2)] (stt Ω [] []) by
    rw [show (stt Ω [] []) = Ω from stt_self (by simp)] at hx
    exact hx
  unfold M_check_two at hm
  obtain ⟨z1, hz1, hm⟩ := bnd_some hm
  refine xs_drop (xe_call (xa_cons (xe_var (i := 0) rfl) (xa_cons (xe_var (i := 1) rfl) xa_nil)) ⟨k0, p0, x0, x1, z1, rfl, (stt_getU hk0), hz1, rfl⟩ cal0) ?_
  show XS (tDrop _) _ _ [some (vr p0), some (va T x1), some (va T x2)] (stt Ω [] [])
  obtain ⟨z2, hz2, hm⟩ := bnd_some hm
  refine xs_drop1 (xe_call (xa_cons (xe_var (i := 0) rfl) (xa_cons (xe_var (i := 2) rfl) (xa_cons xe_str xa_nil))) ⟨k0, p0, x0, x2, ("y" : Str), z2, rfl, (stt_getU hk0), hz2, rfl⟩ cal0) ?_
  obtain rfl := Option.some.inj hm
  exact fun σ H ⟨F, f0, e, hh⟩ => hnx F σ H _ f0 hh.all ⟨rfl, rfl⟩
noncomputable def M_big_of (x0 : MS) (x1 : Int) : Option Bg :=
  (M_size_of x0.w x1).bind fun z1 => (M_row_of 20 x0.w ((x1.natAbs : Nat) : Int) z1).bind fun z2 => some (Bg.mk x0.w z2 x1)
def Pre_big_of (T : TC) : PreT := fun As Ω R => ∃ (k0 : Nat) (p0 : Addr) (x0 : MS) (x1 : Int) (r : Bg), As = [vr p0, va T x1] ∧ Ω[k0]? = some (machA T p0 x0) ∧ M_big_of x0 x1 = some r ∧ R = RV (va T r) (stt Ω [] [])
theorem sc_big_of : FnScope ["machine", "value"] ["machine", "value"] (defScope s_big_of) := ⟨rfl, rfl, rfl, by decide +kernel, rfl, by decide +kernel, by decide +kernel⟩
theorem ok_big_of {f : Addr} {fd : FuncData} (F : Fun T.K "big_of" "big_of" s_big_of f fd) (mc : MCls T.K (T.C 0)) (z_abs : mg "abs" = none) (c_size_of : Cal P w T.K mg base 2 "size_of" ["width", "n"] (mkSp (Pre_size_of T))) (c_row_of : Cal P w T.K mg base 21 "row_of" ["width", "n", "size"] (mkSp (Pre_row_of 20 T))) (c_Big : CalC P w T.K mg base 2 "Big" (T.C 1) ["self", "width", "value", "row"] [] (mkSp (Pre_Big T))) : FnOk P w T.K mg base CX0 22 f fd ["machine", "value"] (mkSp (Pre_big_of T)) := by
  refine fn_ok F sc_big_of (fun As Ω R h => ?_) (fun cdv A outer s H E hr As Ω R F0 h => ?_)
  · obtain ⟨k0, p0, x0, x1, r, rfl, _⟩ := h
    rfl
  obtain ⟨k0, p0, x0, x1, r, rfl, hk0, hm, rfl⟩ := h
  refine ⟨_, (pss_one (ps_ret (pe_calC c_Big (hr.mono (by decide)) (by rfl) (pa_cons (pe_fldK (K := T.K) (pv 0) (by rfl) rfl) (pa_cons (pv 1) (pa_cons (pe_cal c_row_of (hr.mono (by decide)) (by rfl) (pa_cons (pe_fldK (K := T.K) (pv 0) (by rfl) rfl) (pa_cons (pe_callB cr_abs (by rfl) z_abs (by decide +kernel) (pa_cons (pv 1) pa_nil)) (pa_cons (pe_cal c_size_of (hr.mono (by decide)) (by rfl) (pa_cons (pe_fldK (K := T.K) (pv 0) (by rfl) rfl) (pa_cons (pv 1) pa_nil))) pa_nil)))) pa_nil)))))), fun D hrt hnx => ?_⟩
  have ok : Okk Ω [] := okk0
  suffices hx : XS _ D F0 [some (vr p0), some (va T x1)] (stt Ω [] []) by
    rw [show (stt Ω [] []) = Ω from stt_self (by simp)] at hx
    exact hx
  unfold M_big_of at hm
  obtain ⟨z1, hz1, hm⟩ := bnd_some hm
  obtain ⟨z2, hz2, hm⟩ := bnd_some hm
  obtain rfl := Option.some.inj hm
  refine xs_ret (xe_fzB (xn_make (Ds := []) (xa_cons (xe_mw mc.cl mc.nw (xe_var (i := 0) rfl) (stt_getU hk0)) (xa_cons (xe_var (i := 1) rfl) (xa_cons (xe_call (xa_cons (xe_mw mc.cl mc.nw (xe_var (i := 0) rfl) (stt_getU hk0)) (xa_cons (xe_abs (xe_var (i := 1) rfl)) (xa_cons (xe_call (xa_cons (xe_mw mc.cl mc.nw (xe_var (i := 0) rfl) (stt_getU hk0)) (xa_cons (xe_var (i := 1) rfl) xa_nil)) ⟨x0.w, x1, z1, rfl, hz1, rfl⟩ cal0) xa_nil))) ⟨x0.w, ((x1.natAbs : Nat) : Int), z1, z2, rfl, hz2, rfl⟩ cal0) xa_nil))) (fun _ => .nil) (fun q => ⟨_, q, x0.w, x1, z2, _, .inl rfl, rfl, rfl, rfl⟩))) hrt.all
noncomputable def M_are_compact (x0 : MS) (x1 : Int) (x2 : Int) : Option Bool :=
  some ((decide (((Builtin.Int.intBits x1 : Nat) : Int) ≤ x0.w)) && (decide (((Builtin.Int.intBits x2 : Nat) : Int) ≤ x0.w)))
def Pre_are_compact (T : TC) : PreT := fun As Ω R => ∃ (k0 : Nat) (p0 : Addr) (x0 : MS) (x1 : Int) (x2 : Int) (r : Bool), As = [vr p0, va T x1, va T x2] ∧ Ω[k0]? = some (machA T p0 x0) ∧ M_are_compact x0 x1 x2 = some r ∧ R = RV (va T r) (stt Ω [] [])
theorem sc_are_compact : FnScope ["machine", "x", "y"] ["machine", "x", "y"] (defScope s_are_compact) := ⟨rfl, rfl, rfl, by decide +kernel, rfl, by decide +kernel, by decide +kernel⟩
theorem ok_are_compact {f : Addr} {fd : FuncData} (F : Fun T.K "are_compact" "are_compact" s_are_compact f fd) (mc : MCls T.K (T.C 0)) : FnOk P w T.K mg base CX0 2 f fd ["machine", "x", "y"] (mkSp (Pre_are_compact T)) := by
  refine fn_ok F sc_are_compact (fun As Ω R h => ?_) (fun cdv A outer s H E hr As Ω R F0 h => ?_)
  · obtain ⟨k0, p0, x0, x1, x2, r, rfl, _⟩ := h
    rfl
  obtain ⟨k0, p0, x0, x1, x2, r, rfl, hk0, hm, rfl⟩ := h
  refine ⟨_, (pss_one (ps_ret (pe_and (pe_cmpR op_le (pe_bits (pv 1)) (pe_fldK (K := T.K) (pv 0) (by rfl) rfl) (nomark _)) (pe_one (pe_cmpR op_le (pe_bits (pv 2)) (pe_fldK (K := T.K) (pv 0) (by rfl) rfl) (nomark _)))))), fun D hrt hnx => ?_⟩
  have ok : Okk Ω [] := okk0
  suffices hx : XS _ D F0 [some (vr p0), some (va T x1), some (va T x2)] (stt Ω [] []) by
    rw [show (stt Ω [] []) = Ω from stt_self (by simp)] at hx
    exact hx
  unfold M_are_compact at hm
  obtain rfl := Option.some.inj hm
  refine xs_ret (xe_andV (xe_le (xe_bits (xe_var (i := 1) rfl)) (xe_mw mc.cl mc.nw (xe_var (i := 0) rfl) (stt_getU hk0))) (fun _ => (xe_le (xe_bits (xe_var (i := 2) rfl)) (xe_mw mc.cl mc.nw (xe_var (i := 0) rfl) (stt_getU hk0))))) hrt.all
noncomputable def M_big (x0 : MS) (x1 : Int) : Option Bg :=
  (M_check_machine x0).bind fun z1 => (M_is_integer x1).bind fun z2 => (chkP (z2 = true)).bind fun z3 => (M_big_of x0 x1).bind fun z4 => some z4
def Pre_big (T : TC) : PreT := fun As Ω R => ∃ (k0 : Nat) (p0 : Addr) (x0 : MS) (x1 : Int) (r : Bg), As = [vr p0, va T x1] ∧ Ω[k0]? = some (machA T p0 x0) ∧ M_big x0 x1 = some r ∧ R = RV (va T r) (stt Ω [] [])
theorem sc_big : FnScope ["machine", "n"] ["machine", "n"] (defScope s_big) := ⟨rfl, rfl, rfl, by decide +kernel, rfl, by decide +kernel, by decide +kernel⟩
theorem ok_big {f : Addr} {fd : FuncData} (F : Fun T.K "big" "big" s_big f fd) (c_check_machine : Cal P w T.K mg base 5 "check_machine" ["machine"] (mkSp (Pre_check_machine T))) (c_is_integer : Cal P w T.K mg base 1 "is_integer" ["value"] (mkSp (Pre_is_integer T))) (c_big_of : Cal P w T.K mg base 22 "big_of" ["machine", "value"] (mkSp (Pre_big_of T))) : FnOk P w T.K mg base CX0 23 f fd ["machine", "n"] (mkSp (Pre_big T)) := by
  refine fn_ok F sc_big (fun As Ω R h => ?_) (fun cdv A outer s H E hr As Ω R F0 h => ?_)
  · obtain ⟨k0, p0, x0, x1, r, rfl, _⟩ := h
    rfl
  obtain ⟨k0, p0, x0, x1, r, rfl, hk0, hm, rfl⟩ := h
  refine ⟨_, (pss_cons (ps_expr (pe_cal c_check_machine (hr.mono (by decide)) (by rfl) (pa_cons (pv 0) pa_nil))) (pss_cons (ps_if (pt_not (pt_val (pe_cal c_is_integer (hr.mono (by decide)) (by rfl) (pa_cons (pv 1) pa_nil)))) pss_never pss_nil) (pss_one (ps_ret (pe_cal c_big_of (hr.mono (by decide)) (by rfl) (pa_cons (pv 0) (pa_cons (pv 1) pa_nil))))))), fun D hrt hnx => ?_⟩
  have ok : Okk Ω [] := okk0
  suffices hx : XS _ D F0 [some (vr p0), some (va T x1)] (stt Ω [] []) by
    rw [show (stt Ω [] []) = Ω from stt_self (by simp)] at hx
    exact hx
  unfold M_big at hm
  obtain ⟨z1, hz1, hm⟩ := bnd_some hm
  refine xs_drop (xe_call (xa_cons (xe_var (i := 0) rfl) xa_nil) ⟨k0, p0, x0, z1, rfl, (stt_getU hk0), hz1, rfl⟩ cal0) ?_
  show XS (tSeq _ _) _ _ [some (vr p0), some (va T x1)] (stt Ω [] [])
  obtain ⟨z2, hz2, hm⟩ := bnd_some hm
  obtain ⟨z3, hz3, hm⟩ := bnd_some hm
  refine xs_ifN (xt_notF (xt_eq (xt_tB (T := T) (xe_call (xa_cons (xe_var (i := 1) rfl) xa_nil) ⟨x1, z2, rfl, hz2, rfl⟩ cal0)) (chkP_some hz3))) ?_
  show XS (tRet _) _ _ [some (vr p0), some (va T x1)] (stt Ω [] [])
  obtain ⟨z4, hz4, hm⟩ := bnd_some hm
  obtain rfl := Option.some.inj hm
  refine xs_ret (xe_call (xa_cons (xe_var (i := 0) rfl) (xa_cons (xe_var (i := 1) rfl) xa_nil)) ⟨k0, p0, x0, x1, z4, rfl, (stt_getU hk0), hz4, rfl⟩ cal0) hrt.all
noncomputable def M_check_shift (x0 : MS) (x1 : Bg) (x2 : Int) : Option Unit :=
  (M_check_one x0 x1).bind fun z1 => (M_is_integer x2).bind fun z2 => (chkP (z2 = true)).bind fun z3 => (chkP ((decide (x2 < (0 : Int))) = false)).bind fun z4 => some ()
def Pre_check_shift (T : TC) : PreT := fun As Ω R => ∃ (k0 : Nat) (p0 : Addr) (x0 : MS) (x1 : Bg) (x2 : Int) (r : Unit), As = [vr p0, va T x1, va T x2] ∧ Ω[k0]? = some (machA T p0 x0) ∧ M_check_shift x0 x1 x2 = some r ∧ R = RV (va T r) (stt Ω [] [])
theorem sc_check_shift : FnScope ["machine", "x", "count"] ["machine", "x", "count"] (defScope s_check_shift) := ⟨rfl, rfl, rfl, by decide +kernel, rfl, by decide +kernel, by decide +kernel⟩
theorem ok_check_shift {f : Addr} {fd : FuncData} (F : Fun T.K "check_shift" "check_shift" s_check_shift f fd) (c_check_one : Cal P w T.K mg base 7 "check_one" ["machine", "x"] (mkSp (Pre_check_one T))) (c_is_integer : Cal P w T.K mg base 1 "is_integer" ["value"] (mkSp (Pre_is_integer T))) : FnOk P w T.K mg base CX0 8 f fd ["machine", "x", "count"] (mkSp (Pre_check_shift T)) := by
  refine fn_ok F sc_check_shift (fun As Ω R h => ?_) (fun cdv A outer s H E hr As Ω R F0 h => ?_)
  · obtain ⟨k0, p0, x0, x1, x2, r, rfl, _⟩ := h
    rfl
  obtain ⟨k0, p0, x0, x1, x2, r, rfl, hk0, hm, rfl⟩ := h
  refine ⟨_, (pss_cons (ps_expr (pe_cal c_check_one (hr.mono (by decide)) (by rfl) (pa_cons (pv 0) (pa_cons (pv 1) pa_nil)))) (pss_one (ps_if (PW.pt (pw_or (pt_not (pt_val (pe_cal c_is_integer (hr.mono (by decide)) (by rfl) (pa_cons (pv 2) pa_nil)))) (pw_or1 (pt_cmpR op_lt (pv 2) pe_int (nomark _))))) pss_never pss_nil))), fun D hrt hnx => ?_⟩
  have ok : Okk Ω [] := okk0
  suffices hx : XS _ D F0 [some (vr p0), some (va T x1), some (va T x2)] (stt Ω [] []) by
    rw [show (stt Ω [] []) = Ω from stt_self (by simp)] at hx
    exact hx
  unfold M_check_shift at hm
  obtain ⟨z1, hz1, hm⟩ := bnd_some hm
  refine xs_drop (xe_call (xa_cons (xe_var (i := 0) rfl) (xa_cons (xe_var (i := 1) rfl) xa_nil)) ⟨k0, p0, x0, x1, z1, rfl, (stt_getU hk0), hz1, rfl⟩ cal0) ?_
  show XS (tIfS _ _ _) _ _ [some (vr p0), some (va T x1), some (va T x2)] (stt Ω [] [])
  obtain ⟨z2, hz2, hm⟩ := bnd_some hm
  obtain ⟨z3, hz3, hm⟩ := bnd_some hm
  obtain ⟨z4, hz4, hm⟩ := bnd_some hm
  refine xs_ifF1 (xt_orF (xt_notF (xt_eq (xt_tB (T := T) (xe_call (xa_cons (xe_var (i := 2) rfl) xa_nil) ⟨x2, z2, rfl, hz2, rfl⟩ cal0)) (chkP_some hz3))) (xt_eq (xt_test (T := T) (xe_lt (xe_var (i := 2) rfl) xe_int)) (chkP_some hz4))) ?_
  obtain rfl := Option.some.inj hm
  exact fun σ H ⟨F, f0, e, hh⟩ => hnx F σ H _ f0 hh.all ⟨rfl, rfl⟩
noncomputable def M_shifted_left (x0 : MS) (x1 : Int) (x2 : Int) : Option (Int × MS) :=
  if (decide (x1 = (0 : Int))) = true then some ((0 : Int), x0) else (M_size_of x0.w x1).bind fun z1 => (if ((decide (z1 = (1 : Int))) && (decide (x2 < x0.w))) = true then (chkP (("short" : Str) ∈ mwords)).bind fun z2 => some (x0.step ("short" : Str) (1 : Int)) else (chkP (("shifted" : Str) ∈ mwords)).bind fun z4 => some ((x0.enter ("left" : Str) z1 x2).step ("shifted" : Str) z1)).bind fun z6 => (chkP (CShl x1 x2)).bind fun z7 => some ((x1 * 2 ^ (x2).toNat), z6)
def Pre_shifted_left (T : TC) : PreT := fun As Ω R => ∃ (k0 : Nat) (p0 : Addr) (x0 : MS) (x1 : Int) (x2 : Int) (r : Int × MS), As = [vr p0, va T x1, va T x2] ∧ Ω[k0]? = some (machA T p0 x0) ∧ M_shifted_left x0 x1 x2 = some r ∧ R = RV (va T r.1) (stt Ω [(k0, machA T p0 r.2)] [])
theorem sc_shifted_left : FnScope ["machine", "x", "count", "size"] ["machine", "x", "count"] (defScope s_shifted_left) := ⟨rfl, rfl, rfl, by decide +kernel, rfl, by decide +kernel, by decide +kernel⟩
theorem ok_shifted_left {f : Addr} {fd : FuncData} (F : Fun T.K "shifted_left" "shifted_left" s_shifted_left f fd) (mc : MCls T.K (T.C 0)) (c_size_of : Cal P w T.K mg base 2 "size_of" ["width", "n"] (mkSp (Pre_size_of T))) (c_Mach_step : CalM P w T.K mg base 1 (T.C 0) "step" ["self", "word", "many"] (mkSp (Pre_Mach_step T))) (c_Mach_enter : CalM P w T.K mg base 1 (T.C 0) "enter" ["self", "word", "m", "n"] (mkSp (Pre_Mach_enter T))) : FnOk P w T.K mg base CX0 3 f fd ["machine", "x", "count"] (mkSp (Pre_shifted_left T)) := by
  refine fn_ok F sc_shifted_left (fun As Ω R h => ?_) (fun cdv A outer s H E hr As Ω R F0 h => ?_)
  · obtain ⟨k0, p0, x0, x1, x2, r, rfl, _⟩ := h
    rfl
  obtain ⟨k0, p0, x0, x1, x2, r, rfl, hk0, hm, rfl⟩ := h
  refine ⟨_, (pss_cons (ps_if (pt_cmpR (op_eqXK (K := T.K) (by exact hr.units) rfl) (pv 1) pe_int (nomark _)) (pss_one (ps_ret pe_int)) pss_nil) (pss_cons (ps_set (i := 3) sc_shifted_left.nd rfl (.inl rfl) (pe_cal c_size_of (hr.mono (by decide)) (by rfl) (pa_cons (pe_fldK (K := T.K) (pv 0) (by rfl) rfl) (pa_cons (pv 1) pa_nil)))) (Evl.pss_cut (ps_if (PW.pt (pw_and (pt_cmpR (op_eqXK (K := T.K) (by exact hr.units) rfl) (pv 3) pe_int (nomark _)) (pw_and1 (pt_cmpR op_lt (pv 2) (pe_fldK (K := T.K) (pv 0) (by rfl) rfl) (nomark _))))) (pss_one (ps_expr (pe_calM (pv 0) c_Mach_step (hr.mono (by decide)) (pa_cons pe_str (pa_cons pe_int pa_nil))))) (pss_cons (ps_expr (pe_calM (pv 0) c_Mach_enter (hr.mono (by decide)) (pa_cons pe_str (pa_cons (pv 3) (pa_cons (pv 2) pa_nil))))) (pss_one (ps_expr (pe_calM (pv 0) c_Mach_step (hr.mono (by decide)) (pa_cons pe_str (pa_cons (pv 3) pa_nil))))))) (pss_one (ps_ret (pe_op op_shlW (pv 1) (pv 2))))))), fun D hrt hnx => ?_⟩
  have ok := okk1 hk0
  suffices hx : XS _ D F0 [some (vr p0), some (va T x1), some (va T x2), none] (stt Ω [(k0, machA T p0 x0)] []) by
    rw [show (stt Ω [(k0, machA T p0 x0)] []) = Ω from stt_self (by simp [hk0])] at hx
    exact hx
  unfold M_shifted_left at hm
  by_cases hc : (decide (x1 = (0 : Int))) = true
  · rw [if_pos hc] at hm
    refine xs_ifT (xt_eq (xt_test (T := T) (xe_eqI (xe_var (i := 1) rfl) xe_int)) hc) ?_
    obtain rfl := Option.some.inj hm
    refine xs_ret xe_int hrt.all
  · rw [if_neg hc] at hm
    refine xs_ifN (xt_eq (xt_test (T := T) (xe_eqI (xe_var (i := 1) rfl) xe_int)) (nt hc)) ?_
    show XS (tSeq _ _) _ _ [some (vr p0), some (va T x1), some (va T x2), none] (stt Ω [(k0, machA T p0 x0)] [])
    obtain ⟨z1, hz1, hm⟩ := bnd_some hm
    refine xs_set (A := va T z1) (xe_call (xa_cons (xe_mw mc.cl mc.nw (xe_var (i := 0) rfl) (stt_get ok (i := 0) rfl)) (xa_cons (xe_var (i := 1) rfl) xa_nil)) ⟨x0.w, x1, z1, rfl, hz1, rfl⟩ cal0) ?_
    show XS (Evl.tCut _ _) _ _ [some (vr p0), some (va T x1), some (va T x2), some (va T z1)] (stt Ω [(k0, machA T p0 x0)] [])
    obtain ⟨z6, hz6, hm⟩ := bnd_some hm
    refine xs_cut (Γ' := [some (vr p0), some (va T x1), some (va T x2), some (va T z1)]) (Ω' := (stt Ω [(k0, machA T p0 z6)] [])) ?_ ?_
    · clear hm
      have hm := hz6
      clear hz6
      by_cases hc : ((decide (z1 = (1 : Int))) && (decide (x2 < x0.w))) = true
      · rw [if_pos hc] at hm
        refine xs_ifT1 (xt_eq (xt_and (xt_test (T := T) (xe_eqI (xe_var (i := 3) rfl) xe_int)) (fun _ => (xt_test (T := T) (xe_lt (xe_var (i := 2) rfl) (xe_mw mc.cl mc.nw (xe_var (i := 0) rfl) (stt_get ok (i := 0) rfl))))) (fun _ => rfl)) hc) ?_
        obtain ⟨z2, hz2, hm⟩ := bnd_some hm
        refine xs_drop1 (xe_mcall (xe_var (i := 0) rfl) (stt_get ok (i := 0) rfl) (xa_cons xe_str (xa_cons xe_int xa_nil)) ⟨k0, p0, x0, ("short" : Str), (1 : Int), rfl, (stt_get ok (i := 0) rfl), chkP_some hz2, rfl⟩ (cal1 ok (i := 0) rfl)) ?_
        obtain rfl := Option.some.inj hm
        exact fun σ H n => n
      · rw [if_neg hc] at hm
        refine xs_ifF1 (xt_eq (xt_and (xt_test (T := T) (xe_eqI (xe_var (i := 3) rfl) xe_int)) (fun _ => (xt_test (T := T) (xe_lt (xe_var (i := 2) rfl) (xe_mw mc.cl mc.nw (xe_var (i := 0) rfl) (stt_get ok (i := 0) rfl))))) (fun _ => rfl)) (nt hc)) ?_
        refine xs_drop (xe_mcall (xe_var (i := 0) rfl) (stt_get ok (i := 0) rfl) (xa_cons xe_str (xa_cons (xe_var (i := 3) rfl) (xa_cons (xe_var (i := 2) rfl) xa_nil))) ⟨k0, p0, x0, ("left" : Str), z1, x2, rfl, (stt_get ok (i := 0) rfl), rfl⟩ (cal1 ok (i := 0) rfl)) ?_
        show XS (tDrop _) _ _ [some (vr p0), some (va T x1), some (va T x2), some (va T z1)] (stt Ω [(k0, machA T p0 (x0.enter ("left" : Str) z1 x2))] [])
        obtain ⟨z4, hz4, hm⟩ := bnd_some hm
        refine xs_drop1 (xe_mcall (xe_var (i := 0) rfl) (stt_get ok (i := 0) rfl) (xa_cons xe_str (xa_cons (xe_var (i := 3) rfl) xa_nil)) ⟨k0, p0, (x0.enter ("left" : Str) z1 x2), ("shifted" : Str), z1, rfl, (stt_get ok (i := 0) rfl), chkP_some hz4, rfl⟩ (cal1 ok (i := 0) rfl)) ?_
        obtain rfl := Option.some.inj hm
        exact fun σ H n => n
    · obtain ⟨z7, hz7, hm⟩ := bnd_some hm
      obtain rfl := Option.some.inj hm
      refine xs_ret (xe_shl (chkP_some hz7) (xe_var (i := 1) rfl) (xe_var (i := 2) rfl)) hrt.all
noncomputable def M_shift_left (x0 : MS) (x1 : Bg) (x2 : Int) : Option (Bg × MS) :=
  (M_check_shift x0 x1 x2).bind fun z1 => (chkP (((!decide (x1.v = (0 : Int))) && (decide ((100000 : Int) < x2))) = false)).bind fun z2 => (M_shifted_left x0 x1.v x2).bind fun z3 => (M_big_of z3.2 z3.1).bind fun z4 => some (z4, z3.2)
def Pre_shift_left (T : TC) : PreT := fun As Ω R => ∃ (k0 : Nat) (p0 : Addr) (x0 : MS) (x1 : Bg) (x2 : Int) (r : Bg × MS), As = [vr p0, va T x1, va T x2] ∧ Ω[k0]? = some (machA T p0 x0) ∧ M_shift_left x0 x1 x2 = some r ∧ R = RV (va T r.1) (stt Ω [(k0, machA T p0 r.2)] [])
theorem sc_shift_left : FnScope ["machine", "x", "count"] ["machine", "x", "count"] (defScope s_shift_left) := ⟨rfl, rfl, rfl, by decide +kernel, rfl, by decide +kernel, by decide +kernel⟩
theorem ok_shift_left {f : Addr} {fd : FuncData} (F : Fun T.K "shift_left" "shift_left" s_shift_left f fd) (c_check_shift : Cal P w T.K mg base 8 "check_shift" ["machine", "x", "count"] (mkSp (Pre_check_shift T))) (bc : BCls T.K (T.C 1)) (g_GREATEST_SHIFT : ∃ u, mg "GREATEST_SHIFT" = some u ∧ RelV (.int 100000) u) (c_shifted_left : Cal P w T.K mg base 3 "shifted_left" ["machine", "x", "count"] (mkSp (Pre_shifted_left T))) (c_big_of : Cal P w T.K mg base 22 "big_of" ["machine", "value"] (mkSp (Pre_big_of T))) : FnOk P w T.K mg base CX0 23 f fd ["machine", "x", "count"] (mkSp (Pre_shift_left T)) := by
  refine fn_ok F sc_shift_left (fun As Ω R h => ?_) (fun cdv A outer s H E hr As Ω R F0 h => ?_)
  · obtain ⟨k0, p0, x0, x1, x2, r, rfl, _⟩ := h
    rfl
  obtain ⟨k0, p0, x0, x1, x2, r, rfl, hk0, hm, rfl⟩ := h
  refine ⟨_, (pss_cons (ps_expr (pe_cal c_check_shift (hr.mono (by decide)) (by rfl) (pa_cons (pv 0) (pa_cons (pv 1) (pa_cons (pv 2) pa_nil))))) (pss_cons (ps_if (PW.pt (pw_and (pt_cmpR (op_neXK (K := T.K) (by exact hr.units) rfl) (pe_fldK (K := T.K) (pv 1) (by rfl) rfl) pe_int (nomark _)) (pw_and1 (pt_cmpR op_gt (pv 2) (pe_gl rfl g_GREATEST_SHIFT) (nomark _))))) pss_never pss_nil) (pss_one (ps_ret (pe_cal c_big_of (hr.mono (by decide)) (by rfl) (pa_cons (pv 0) (pa_cons (pe_cal c_shifted_left (hr.mono (by decide)) (by rfl) (pa_cons (pv 0) (pa_cons (pe_fldK (K := T.K) (pv 1) (by rfl) rfl) (pa_cons (pv 2) pa_nil)))) pa_nil))))))), fun D hrt hnx => ?_⟩
  have ok := okk1 hk0
  suffices hx : XS _ D F0 [some (vr p0), some (va T x1), some (va T x2)] (stt Ω [(k0, machA T p0 x0)] []) by
    rw [show (stt Ω [(k0, machA T p0 x0)] []) = Ω from stt_self (by simp [hk0])] at hx
    exact hx
  unfold M_shift_left at hm
  obtain ⟨z1, hz1, hm⟩ := bnd_some hm
  refine xs_drop (xe_call (xa_cons (xe_var (i := 0) rfl) (xa_cons (xe_var (i := 1) rfl) (xa_cons (xe_var (i := 2) rfl) xa_nil))) ⟨k0, p0, x0, x1, x2, z1, rfl, (stt_get ok (i := 0) rfl), hz1, rfl⟩ cal0) ?_
  show XS (tSeq _ _) _ _ [some (vr p0), some (va T x1), some (va T x2)] (stt Ω [(k0, machA T p0 x0)] [])
  obtain ⟨z2, hz2, hm⟩ := bnd_some hm
  refine xs_ifN (xt_eq (xt_and (xt_test (T := T) (xe_neI (xe_bv bc.cl bc.nv (xe_var (i := 1) rfl)) xe_int)) (fun _ => (xt_test (T := T) (xe_gt (xe_var (i := 2) rfl) xe_int))) (fun _ => rfl)) (chkP_some hz2)) ?_
  show XS (tRet _) _ _ [some (vr p0), some (va T x1), some (va T x2)] (stt Ω [(k0, machA T p0 x0)] [])
  obtain ⟨z3, hz3, hm⟩ := bnd_some hm
  obtain ⟨z4, hz4, hm⟩ := bnd_some hm
  obtain rfl := Option.some.inj hm
  refine xs_ret (xe_call (xa_cons (xe_var (i := 0) rfl) (xa_cons (xe_call (xa_cons (xe_var (i := 0) rfl) (xa_cons (xe_bv bc.cl bc.nv (xe_var (i := 1) rfl)) (xa_cons (xe_var (i := 2) rfl) xa_nil))) ⟨k0, p0, x0, x1.v, x2, z3, rfl, (stt_get ok (i := 0) rfl), hz3, rfl⟩ (cal1 ok (i := 0) rfl)) xa_nil)) ⟨k0, p0, z3.2, z3.1, z4, rfl, (stt_get ok (i := 0) rfl), hz4, rfl⟩ cal0) hrt.all
noncomputable def M_count_right_steps (x0 : MS) (x1 : Bool) (x2 : Int) (x3 : Int) : Option (Unit × MS) :=
  (chkP (CDivW x3 x0.w)).bind fun z1 => (some (x3 / x0.w)).bind fun y2 => (if x1 = true then (chkP (IntMulOk y2 x0.w)).bind fun z3 => some (decide (x3 = (y2 * x0.w))) else some false).bind fun z4 => (if z4 = true then (some (y2 - (1 : Int))).bind fun y6 => some y6 else some y2).bind fun z9 => if (decide (x2 ≤ z9)) = true then some ((), x0) else (if x1 = true then (chkP (("looked" : Str) ∈ mwords)).bind fun z10 => some (x0.step ("looked" : Str) z9) else some x0).bind fun z13 => (chkP (("shifted" : Str) ∈ mwords)).bind fun z14 => some ((), (z13.step ("shifted" : Str) ((x2 - (1 : Int)) - z9)))
def Pre_count_right_steps (T : TC) : PreT := fun As Ω R => ∃ (k0 : Nat) (p0 : Addr) (x0 : MS) (x1 : Bool) (x2 : Int) (x3 : Int) (r : Unit × MS), As = [vr p0, va T x1, va T x2, va T x3] ∧ Ω[k0]? = some (machA T p0 x0) ∧ M_count_right_steps x0 x1 x2 x3 = some r ∧ R = RV (va T r.1) (stt Ω [(k0, machA T p0 r.2)] [])
theorem sc_count_right_steps : FnScope ["machine", "below", "size", "count", "first"] ["machine", "below", "size", "count"] (defScope s_count_right_steps) := ⟨rfl, rfl, rfl, by decide +kernel, rfl, by decide +kernel, by decide +kernel⟩
theorem ok_count_right_steps {f : Addr} {fd : FuncData} (F : Fun T.K "count_right_steps" "count_right_steps" s_count_right_steps f fd) (mc : MCls T.K (T.C 0)) (c_Mach_step : CalM P w T.K mg base 1 (T.C 0) "step" ["self", "word", "many"] (mkSp (Pre_Mach_step T))) : FnOk P w T.K mg base CX0 2 f fd ["machine", "below", "size", "count"] (mkSp (Pre_count_right_steps T)) := by
  refine fn_ok F sc_count_right_steps (fun As Ω R h => ?_) (fun cdv A outer s H E hr As Ω R F0 h => ?_)
  · obtain ⟨k0, p0, x0, x1, x2, x3, r, rfl, _⟩ := h
    rfl
  obtain ⟨k0, p0, x0, x1, x2, x3, r, rfl, hk0, hm, rfl⟩ := h
  refine ⟨_, (pss_cons (ps_set (i := 4) sc_count_right_steps.nd rfl (.inl rfl) (pe_op op_fdivW (pv 3) (pe_fldK (K := T.K) (pv 0) (by rfl) rfl))) (Evl.pss_cut (ps_if (PW.pt (pw_and (pt_val (pv 1)) (pw_and1 (pt_cmpR (op_eqXK (K := T.K) (by exact hr.units) rfl) (pv 3) (pe_op op_mulQ (pv 4) (pe_fldK (K := T.K) (pv 0) (by rfl) rfl)) (nomark _))))) (pss_one (ps_aug (i := 4) sc_count_right_steps.nd rfl (.inl rfl) pe_int (ip_of iop_sub))) pss_nil) (pss_cons (ps_if (pt_cmpR op_ge (pv 4) (pv 2) (nomark _)) (pss_one ps_retN) pss_nil) (Evl.pss_cut (ps_if (pt_val (pv 1)) (pss_one (ps_expr (pe_calM (pv 0) c_Mach_step (hr.mono (by decide)) (pa_cons pe_str (pa_cons (pv 4) pa_nil))))) pss_nil) (pss_one (ps_expr (pe_calM (pv 0) c_Mach_step (hr.mono (by decide)) (pa_cons pe_str (pa_cons (pe_op op_sub (pe_op op_sub (pv 2) pe_int) (pv 4)) pa_nil))))))))), fun D hrt hnx => ?_⟩
  have ok := okk1 hk0
  suffices hx : XS _ D F0 [some (vr p0), some (va T x1), some (va T x2), some (va T x3), none] (stt Ω [(k0, machA T p0 x0)] []) by
    rw [show (stt Ω [(k0, machA T p0 x0)] []) = Ω from stt_self (by simp [hk0])] at hx
    exact hx
  unfold M_count_right_steps at hm
  obtain ⟨z1, hz1, hm⟩ := bnd_some hm
  obtain ⟨y2, hy2, hm⟩ := bnd_some hm
  refine xs_set (A := va T y2) (xe_eq (xe_fdiv (chkP_some hz1) (xe_var (i := 3) rfl) (xe_mw mc.cl mc.nw (xe_var (i := 0) rfl) (stt_get ok (i := 0) rfl))) (Option.some.inj hy2)) ?_
  show XS (Evl.tCut _ _) _ _ [some (vr p0), some (va T x1), some (va T x2), some (va T x3), some (va T y2)] (stt Ω [(k0, machA T p0 x0)] [])
  obtain ⟨z4, hz4, hm⟩ := bnd_some hm
  obtain ⟨z9, hz9, hm⟩ := bnd_some hm
  refine xs_cut (Γ' := [some (vr p0), some (va T x1), some (va T x2), some (va T x3), some (va T z9)]) (Ω' := (stt Ω [(k0, machA T p0 x0)] [])) ?_ ?_
  · clear hm
    have hm := hz9
    clear hz9
    by_cases hc : z4 = true
    · rw [if_pos hc] at hm
      refine xs_ifT1 (xt_eq (xt_andO (xt_tB (T := T) (xe_var (i := 1) rfl)) hz4 ?q5) hc) ?_
      case q5 =>
        exact (fun v hm => by
          obtain ⟨z3, hz3, hm⟩ := bnd_some hm
          obtain rfl := Option.some.inj hm
          exact (xt_test (T := T) (xe_eqI (xe_var (i := 3) rfl) (xe_mul (chkP_some hz3) (xe_var (i := 4) rfl) (xe_mw mc.cl mc.nw (xe_var (i := 0) rfl) (stt_get ok (i := 0) rfl))))))
      obtain ⟨y6, hy6, hm⟩ := bnd_some hm
      refine xs_augI1 (T := T) rfl xe_int (Option.some.inj hy6) ?_
      obtain rfl := Option.some.inj hm
      exact fun σ H n => n
    · rw [if_neg hc] at hm
      refine xs_ifF1 (xt_eq (xt_andO (xt_tB (T := T) (xe_var (i := 1) rfl)) hz4 ?q5) (nt hc)) ?_
      case q5 =>
        exact (fun v hm => by
          obtain ⟨z3, hz3, hm⟩ := bnd_some hm
          obtain rfl := Option.some.inj hm
          exact (xt_test (T := T) (xe_eqI (xe_var (i := 3) rfl) (xe_mul (chkP_some hz3) (xe_var (i := 4) rfl) (xe_mw mc.cl mc.nw (xe_var (i := 0) rfl) (stt_get ok (i := 0) rfl))))))
      obtain rfl := Option.some.inj hm
      exact fun σ H n => n
  · by_cases hc : (decide (x2 ≤ z9)) = true
    · rw [if_pos hc] at hm
      refine xs_ifT (xt_eq (xt_test (T := T) (xe_ge (xe_var (i := 4) rfl) (xe_var (i := 2) rfl))) hc) ?_
      obtain rfl := Option.some.inj hm
      exact xs_retN (fun F H f hh => ⟨rfl, rfl⟩) hrt.all
    · rw [if_neg hc] at hm
      refine xs_ifN (xt_eq (xt_test (T := T) (xe_ge (xe_var (i := 4) rfl) (xe_var (i := 2) rfl))) (nt hc)) ?_
      show XS (Evl.tCut _ _) _ _ [some (vr p0), some (va T x1), some (va T x2), some (va T x3), some (va T z9)] (stt Ω [(k0, machA T p0 x0)] [])
      obtain ⟨z13, hz13, hm⟩ := bnd_some hm
      refine xs_cut (Γ' := [some (vr p0), some (va T x1), some (va T x2), some (va T x3), some (va T z9)]) (Ω' := (stt Ω [(k0, machA T p0 z13)] [])) ?_ ?_
      · clear hm
        have hm := hz13
        clear hz13
        by_cases hc : x1 = true
        · rw [if_pos hc] at hm
          refine xs_ifT1 (xt_eq (xt_tB (T := T) (xe_var (i := 1) rfl)) hc) ?_
          obtain ⟨z10, hz10, hm⟩ := bnd_some hm
          refine xs_drop1 (xe_mcall (xe_var (i := 0) rfl) (stt_get ok (i := 0) rfl) (xa_cons xe_str (xa_cons (xe_var (i := 4) rfl) xa_nil)) ⟨k0, p0, x0, ("looked" : Str), z9, rfl, (stt_get ok (i := 0) rfl), chkP_some hz10, rfl⟩ (cal1 ok (i := 0) rfl)) ?_
          obtain rfl := Option.some.inj hm
          exact fun σ H n => n
        · rw [if_neg hc] at hm
          refine xs_ifF1 (xt_eq (xt_tB (T := T) (xe_var (i := 1) rfl)) (nt hc)) ?_
          obtain rfl := Option.some.inj hm
          exact fun σ H n => n
      · obtain ⟨z14, hz14, hm⟩ := bnd_some hm
        refine xs_drop1 (xe_mcall (xe_var (i := 0) rfl) (stt_get ok (i := 0) rfl) (xa_cons xe_str (xa_cons (xe_sub (xe_sub (xe_var (i := 2) rfl) xe_int) (xe_var (i := 4) rfl)) xa_nil)) ⟨k0, p0, z13, ("shifted" : Str), ((x2 - (1 : Int)) - z9), rfl, (stt_get ok (i := 0) rfl), chkP_some hz14, rfl⟩ (cal1 ok (i := 0) rfl)) ?_
        obtain rfl := Option.some.inj hm
        exact fun σ H ⟨F, f0, e, hh⟩ => hnx F σ H _ f0 hh.all ⟨rfl, rfl⟩
noncomputable def M_shifted_right (x0 : MS) (x1 : Int) (x2 : Int) : Option (Int × MS) :=
  (M_size_of x0.w x1).bind fun z1 => if ((decide (z1 = (0 : Int))) || ((decide ((1 : Int) < z1)) && ((decide (x1 < (0 : Int))) && (decide (x2 = (0 : Int)))))) = true then some (x1, x0) else (if (decide (z1 = (1 : Int))) = true then (chkP (("short" : Str) ∈ mwords)).bind fun z2 => some (x0.step ("short" : Str) (1 : Int)) else (M_count_right_steps (x0.enter ("right" : Str) z1 x2) (decide (x1 < (0 : Int))) z1 x2).bind fun z4 => some z4.2).bind fun z6 => (chkP (0 ≤ (min x2 ((Builtin.Int.intBits x1 : Nat) : Int)))).bind fun z7 => some ((x1 / 2 ^ ((min x2 ((Builtin.Int.intBits x1 : Nat) : Int))).toNat), z6)
def Pre_shifted_right (T : TC) : PreT := fun As Ω R => ∃ (k0 : Nat) (p0 : Addr) (x0 : MS) (x1 : Int) (x2 : Int) (r : Int × MS), As = [vr p0, va T x1, va T x2] ∧ Ω[k0]? = some (machA T p0 x0) ∧ M_shifted_right x0 x1 x2 = some r ∧ R = RV (va T r.1) (stt Ω [(k0, machA T p0 r.2)] [])
theorem sc_shifted_right : FnScope ["machine", "x", "count", "size"] ["machine", "x", "count"] (defScope s_shifted_right) := ⟨rfl, rfl, rfl, by decide +kernel, rfl, by decide +kernel, by decide +kernel⟩
theorem ok_shifted_right {f : Addr} {fd : FuncData} (F : Fun T.K "shifted_right" "shifted_right" s_shifted_right f fd) (mc : MCls T.K (T.C 0)) (c_size_of : Cal P w T.K mg base 2 "size_of" ["width", "n"] (mkSp (Pre_size_of T))) (c_Mach_step : CalM P w T.K mg base 1 (T.C 0) "step" ["self", "word", "many"] (mkSp (Pre_Mach_step T))) (c_Mach_enter : CalM P w T.K mg base 1 (T.C 0) "enter" ["self", "word", "m", "n"] (mkSp (Pre_Mach_enter T))) (c_count_right_steps : Cal P w T.K mg base 2 "count_right_steps" ["machine", "below", "size", "count"] (mkSp (Pre_count_right_steps T))) (z_min : mg "min" = none) : FnOk P w T.K mg base CX0 3 f fd ["machine", "x", "count"] (mkSp (Pre_shifted_right T)) := by
  refine fn_ok F sc_shifted_right (fun As Ω R h => ?_) (fun cdv A outer s H E hr As Ω R F0 h => ?_)
  · obtain ⟨k0, p0, x0, x1, x2, r, rfl, _⟩ := h
    rfl
  obtain ⟨k0, p0, x0, x1, x2, r, rfl, hk0, hm, rfl⟩ := h
  refine ⟨_, (pss_cons (ps_set (i := 3) sc_shifted_right.nd rfl (.inl rfl) (pe_cal c_size_of (hr.mono (by decide)) (by rfl) (pa_cons (pe_fldK (K := T.K) (pv 0) (by rfl) rfl) (pa_cons (pv 1) pa_nil)))) (pss_cons (ps_if (PW.pt (pw_or (pt_cmpR (op_eqXK (K := T.K) (by exact hr.units) rfl) (pv 3) pe_int (nomark _)) (pw_or1 (PW.pt (pw_and (pt_cmpR op_gt (pv 3) pe_int (nomark _)) (pw_and (pt_cmpR op_lt (pv 1) pe_int (nomark _)) (pw_and1 (pt_cmpR (op_eqXK (K := T.K) (by exact hr.units) rfl) (pv 2) pe_int (nomark _))))))))) (pss_one (ps_ret (pv 1))) pss_nil) (Evl.pss_cut (ps_if (pt_cmpR (op_eqXK (K := T.K) (by exact hr.units) rfl) (pv 3) pe_int (nomark _)) (pss_one (ps_expr (pe_calM (pv 0) c_Mach_step (hr.mono (by decide)) (pa_cons pe_str (pa_cons pe_int pa_nil))))) (pss_cons (ps_expr (pe_calM (pv 0) c_Mach_enter (hr.mono (by decide)) (pa_cons pe_str (pa_cons (pv 3) (pa_cons (pv 2) pa_nil))))) (pss_one (ps_expr (pe_cal c_count_right_steps (hr.mono (by decide)) (by rfl) (pa_cons (pv 0) (pa_cons (pe_cmpR op_lt (pv 1) pe_int (nomark _)) (pa_cons (pv 3) (pa_cons (pv 2) pa_nil))))))))) (pss_one (ps_ret (pe_op op_shr (pv 1) (pe_callB (cr_min2 rfl) (by rfl) z_min (by decide +kernel) (pa_cons (pv 2) (pa_cons (pe_bits (pv 1)) pa_nil))))))))), fun D hrt hnx => ?_⟩
  have ok := okk1 hk0
  suffices hx : XS _ D F0 [some (vr p0), some (va T x1), some (va T x2), none] (stt Ω [(k0, machA T p0 x0)] []) by
    rw [show (stt Ω [(k0, machA T p0 x0)] []) = Ω from stt_self (by simp [hk0])] at hx
    exact hx
  unfold M_shifted_right at hm
  obtain ⟨z1, hz1, hm⟩ := bnd_some hm
  refine xs_set (A := va T z1) (xe_call (xa_cons (xe_mw mc.cl mc.nw (xe_var (i := 0) rfl) (stt_get ok (i := 0) rfl)) (xa_cons (xe_var (i := 1) rfl) xa_nil)) ⟨x0.w, x1, z1, rfl, hz1, rfl⟩ cal0) ?_
  show XS (tSeq _ _) _ _ [some (vr p0), some (va T x1), some (va T x2), some (va T z1)] (stt Ω [(k0, machA T p0 x0)] [])
  by_cases hc : ((decide (z1 = (0 : Int))) || ((decide ((1 : Int) < z1)) && ((decide (x1 < (0 : Int))) && (decide (x2 = (0 : Int)))))) = true
  · rw [if_pos hc] at hm
    refine xs_ifT (xt_eq (xt_or (xt_test (T := T) (xe_eqI (xe_var (i := 3) rfl) xe_int)) (fun _ => (xt_and (xt_test (T := T) (xe_gt (xe_var (i := 3) rfl) xe_int)) (fun _ => (xt_and (xt_test (T := T) (xe_lt (xe_var (i := 1) rfl) xe_int)) (fun _ => (xt_test (T := T) (xe_eqI (xe_var (i := 2) rfl) xe_int))) (fun _ => rfl))) (fun _ => rfl))) (fun _ => rfl)) hc) ?_
    obtain rfl := Option.some.inj hm
    refine xs_ret (xe_var (i := 1) rfl) hrt.all
  · rw [if_neg hc] at hm
    refine xs_ifN (xt_eq (xt_or (xt_test (T := T) (xe_eqI (xe_var (i := 3) rfl) xe_int)) (fun _ => (xt_and (xt_test (T := T) (xe_gt (xe_var (i := 3) rfl) xe_int)) (fun _ => (xt_and (xt_test (T := T) (xe_lt (xe_var (i := 1) rfl) xe_int)) (fun _ => (xt_test (T := T) (xe_eqI (xe_var (i := 2) rfl) xe_int))) (fun _ => rfl))) (fun _ => rfl))) (fun _ => rfl)) (nt hc)) ?_
    show XS (Evl.tCut _ _) _ _ [some (vr p0), some (va T x1), some (va T x2), some (va T z1)] (stt Ω [(k0, machA T p0 x0)] [])
    obtain ⟨z6, hz6, hm⟩ := bnd_some hm
    refine xs_cut (Γ' := [some (vr p0), some (va T x1), some (va T x2), some (va T z1)]) (Ω' := (stt Ω [(k0, machA T p0 z6)] [])) ?_ ?_
    · clear hm
      have hm := hz6
      clear hz6
      by_cases hc : (decide (z1 = (1 : Int))) = true
      · rw [if_pos hc] at hm
        refine xs_ifT1 (xt_eq (xt_test (T := T) (xe_eqI (xe_var (i := 3) rfl) xe_int)) hc) ?_
        obtain ⟨z2, hz2, hm⟩ := bnd_some hm
        refine xs_drop1 (xe_mcall (xe_var (i := 0) rfl) (stt_get ok (i := 0) rfl) (xa_cons xe_str (xa_cons xe_int xa_nil)) ⟨k0, p0, x0, ("short" : Str), (1 : Int), rfl, (stt_get ok (i := 0) rfl), chkP_some hz2, rfl⟩ (cal1 ok (i := 0) rfl)) ?_
        obtain rfl := Option.some.inj hm
        exact fun σ H n => n
      · rw [if_neg hc] at hm
        refine xs_ifF1 (xt_eq (xt_test (T := T) (xe_eqI (xe_var (i := 3) rfl) xe_int)) (nt hc)) ?_
        refine xs_drop (xe_mcall (xe_var (i := 0) rfl) (stt_get ok (i := 0) rfl) (xa_cons xe_str (xa_cons (xe_var (i := 3) rfl) (xa_cons (xe_var (i := 2) rfl) xa_nil))) ⟨k0, p0, x0, ("right" : Str), z1, x2, rfl, (stt_get ok (i := 0) rfl), rfl⟩ (cal1 ok (i := 0) rfl)) ?_
        show XS (tDrop _) _ _ [some (vr p0), some (va T x1), some (va T x2), some (va T z1)] (stt Ω [(k0, machA T p0 (x0.enter ("right" : Str) z1 x2))] [])
        obtain ⟨z4, hz4, hm⟩ := bnd_some hm
        refine xs_drop1 (xe_call (xa_cons (xe_var (i := 0) rfl) (xa_cons (xe_lt (xe_var (i := 1) rfl) xe_int) (xa_cons (xe_var (i := 3) rfl) (xa_cons (xe_var (i := 2) rfl) xa_nil)))) ⟨k0, p0, (x0.enter ("right" : Str) z1 x2), (decide (x1 < (0 : Int))), z1, x2, z4, rfl, (stt_get ok (i := 0) rfl), hz4, rfl⟩ (cal1 ok (i := 0) rfl)) ?_
        obtain rfl := Option.some.inj hm
        exact fun σ H n => n
    · obtain ⟨z7, hz7, hm⟩ := bnd_some hm
      obtain rfl := Option.some.inj hm
      refine xs_ret (xe_shr (chkP_some hz7) (xe_var (i := 1) rfl) (xe_min2 (xe_var (i := 2) rfl) (xe_bits (xe_var (i := 1) rfl)))) hrt.all
noncomputable def M_shift_right (x0 : MS) (x1 : Bg) (x2 : Int) : Option (Bg × MS) :=
  (M_check_shift x0 x1 x2).bind fun z1 => (M_shifted_right x0 x1.v x2).bind fun z2 => (M_big_of z2.2 z2.1).bind fun z3 => some (z3, z2.2)
def Pre_shift_right (T : TC) : PreT := fun As Ω R => ∃ (k0 : Nat) (p0 : Addr) (x0 : MS) (x1 : Bg) (x2 : Int) (r : Bg × MS), As = [vr p0, va T x1, va T x2] ∧ Ω[k0]? = some (machA T p0 x0) ∧ M_shift_right x0 x1 x2 = some r ∧ R = RV (va T r.1) (stt Ω [(k0, machA T p0 r.2)] [])
theorem sc_shift_right : FnScope ["machine", "x", "count"] ["machine", "x", "count"] (defScope s_shift_right) := ⟨rfl, rfl, rfl, by decide +kernel, rfl, by decide +kernel, by decide +kernel⟩
theorem ok_shift_right {f : Addr} {fd : FuncData} (F : Fun T.K "shift_right" "shift_right" s_shift_right f fd) (c_check_shift : Cal P w T.K mg base 8 "check_shift" ["machine", "x", "count"] (mkSp (Pre_check_shift T))) (bc : BCls T.K (T.C 1)) (c_shifted_right : Cal P w T.K mg base 3 "shifted_right" ["machine", "x", "count"] (mkSp (Pre_shifted_right T))) (c_big_of : Cal P w T.K mg base 22 "big_of" ["machine", "value"] (mkSp (Pre_big_of T))) : FnOk P w T.K mg base CX0 23 f fd ["machine", "x", "count"] (mkSp (Pre_shift_right T)) := by
  refine fn_ok F sc_shift_right (fun As Ω R h => ?_) (fun cdv A outer s H E hr As Ω R F0 h => ?_)
  · obtain ⟨k0, p0, x0, x1, x2, r, rfl, _⟩ := h
    rfl
  obtain ⟨k0, p0, x0, x1, x2, r, rfl, hk0, hm, rfl⟩ := h
  refine ⟨_, (pss_cons (ps_expr (pe_cal c_check_shift (hr.mono (by decide)) (by rfl) (pa_cons (pv 0) (pa_cons (pv 1) (pa_cons (pv 2) pa_nil))))) (pss_one (ps_ret (pe_cal c_big_of (hr.mono (by decide)) (by rfl) (pa_cons (pv 0) (pa_cons (pe_cal c_shifted_right (hr.mono (by decide)) (by rfl) (pa_cons (pv 0) (pa_cons (pe_fldK (K := T.K) (pv 1) (by rfl) rfl) (pa_cons (pv 2) pa_nil)))) pa_nil)))))), fun D hrt hnx => ?_⟩
  have ok := okk1 hk0
  suffices hx : XS _ D F0 [some (vr p0), some (va T x1), some (va T x2)] (stt Ω [(k0, machA T p0 x0)] []) by
    rw [show (stt Ω [(k0, machA T p0 x0)] []) = Ω from stt_self (by simp [hk0])] at hx
    exact hx
  unfold M_shift_right at hm
  obtain ⟨z1, hz1, hm⟩ := bnd_some hm
  refine xs_drop (xe_call (xa_cons (xe_var (i := 0) rfl) (xa_cons (xe_var (i := 1) rfl) (xa_cons (xe_var (i := 2) rfl) xa_nil))) ⟨k0, p0, x0, x1, x2, z1, rfl, (stt_get ok (i := 0) rfl), hz1, rfl⟩ cal0) ?_
  show XS (tRet _) _ _ [some (vr p0), some (va T x1), some (va T x2)] (stt Ω [(k0, machA T p0 x0)] [])
  obtain ⟨z2, hz2, hm⟩ := bnd_some hm
  obtain ⟨z3, hz3, hm⟩ := bnd_some hm
  obtain rfl := Option.some.inj hm
  refine xs_ret (xe_call (xa_cons (xe_var (i := 0) rfl) (xa_cons (xe_call (xa_cons (xe_var (i := 0) rfl) (xa_cons (xe_bv bc.cl bc.nv (xe_var (i := 1) rfl)) (xa_cons (xe_var (i := 2) rfl) xa_nil))) ⟨k0, p0, x0, x1.v, x2, z2, rfl, (stt_get ok (i := 0) rfl), hz2, rfl⟩ (cal1 ok (i := 0) rfl)) xa_nil)) ⟨k0, p0, z2.2, z2.1, z3, rfl, (stt_get ok (i := 0) rfl), hz3, rfl⟩ cal0) hrt.all
noncomputable def M_check_row_shift (x0 : MS) (x1 : List Int) (x2 : Int) : Option Unit :=
  (M_check_machine x0).bind fun z1 => (M_check_row x0 x1 ("digits" : Str)).bind fun z2 => (M_is_between x2 (0 : Int) (x0.w - (1 : Int))).bind fun z3 => (chkP (z3 = true)).bind fun z4 => some ()
def Pre_check_row_shift (T : TC) : PreT := fun As Ω R => ∃ (k0 : Nat) (p0 : Addr) (x0 : MS) (x1 : List Int) (x2 : Int) (r : Unit), As = [vr p0, va T (LF.mk x1), va T x2] ∧ Ω[k0]? = some (machA T p0 x0) ∧ M_check_row_shift x0 x1 x2 = some r ∧ R = RV (va T r) (stt Ω [] [])
theorem sc_check_row_shift : FnScope ["machine", "digits", "count"] ["machine", "digits", "count"] (defScope s_check_row_shift) := ⟨rfl, rfl, rfl, by decide +kernel, rfl, by decide +kernel, by decide +kernel⟩
theorem ok_check_row_shift {f : Addr} {fd : FuncData} (F : Fun T.K "check_row_shift" "check_row_shift" s_check_row_shift f fd) (c_check_machine : Cal P w T.K mg base 5 "check_machine" ["machine"] (mkSp (Pre_check_machine T))) (c_check_row : Cal P w T.K mg base 5 "check_row" ["machine", "value", "name"] (mkSp (Pre_check_row T))) (mc : MCls T.K (T.C 0)) (c_is_between : Cal P w T.K mg base 2 "is_between" ["value", "low", "high"] (mkSp (Pre_is_between T))) : FnOk P w T.K mg base CX0 6 f fd ["machine", "digits", "count"] (mkSp (Pre_check_row_shift T)) := by
  refine fn_ok F sc_check_row_shift (fun As Ω R h => ?_) (fun cdv A outer s H E hr As Ω R F0 h => ?_)
  · obtain ⟨k0, p0, x0, x1, x2, r, rfl, _⟩ := h
    rfl
  obtain ⟨k0, p0, x0, x1, x2, r, rfl, hk0, hm, rfl⟩ := h
  refine ⟨_, (pss_cons (ps_expr (pe_cal c_check_machine (hr.mono (by decide)) (by rfl) (pa_cons (pv 0) pa_nil))) (pss_cons (ps_expr (pe_cal c_check_row (hr.mono (by decide)) (by rfl) (pa_cons (pv 0) (pa_cons (pv 1) (pa_cons pe_str pa_nil))))) (pss_one (ps_if (pt_not (pt_val (pe_cal c_is_between (hr.mono (by decide)) (by rfl) (pa_cons (pv 2) (pa_cons pe_int (pa_cons (pe_op op_sub (pe_fldK (K := T.K) (pv 0) (by rfl) rfl) pe_int) pa_nil)))))) pss_never pss_nil)))), fun D hrt hnx => ?_⟩
  have ok : Okk Ω [] := okk0
  suffices hx : XS _ D F0 [some (vr p0), some (va T (LF.mk x1)), some (va T x2)] (stt Ω [] []) by
    rw [show (stt Ω [] []) = Ω from stt_self (by simp)] at hx
    exact hx
  unfold M_check_row_shift at hm
  obtain ⟨z1, hz1, hm⟩ := bnd_some hm
  refine xs_drop (xe_call (xa_cons (xe_var (i := 0) rfl) xa_nil) ⟨k0, p0, x0, z1, rfl, (stt_getU hk0), hz1, rfl⟩ cal0) ?_
  show XS (tSeq _ _) _ _ [some (vr p0), some (va T (LF.mk x1)), some (va T x2)] (stt Ω [] [])
  obtain ⟨z2, hz2, hm⟩ := bnd_some hm
  refine xs_drop (xe_call (xa_cons (xe_var (i := 0) rfl) (xa_cons (xe_var (i := 1) rfl) (xa_cons xe_str xa_nil))) ⟨k0, p0, x0, x1, ("digits" : Str), z2, rfl, (stt_getU hk0), hz2, rfl⟩ cal0) ?_
  show XS (tIfS _ _ _) _ _ [some (vr p0), some (va T (LF.mk x1)), some (va T x2)] (stt Ω [] [])
  obtain ⟨z3, hz3, hm⟩ := bnd_some hm
  obtain ⟨z4, hz4, hm⟩ := bnd_some hm
  refine xs_ifF1 (xt_notF (xt_eq (xt_tB (T := T) (xe_call (xa_cons (xe_var (i := 2) rfl) (xa_cons xe_int (xa_cons (xe_sub (xe_mw mc.cl mc.nw (xe_var (i := 0) rfl) (stt_getU hk0)) xe_int) xa_nil))) ⟨x2, (0 : Int), (x0.w - (1 : Int)), z3, rfl, hz3, rfl⟩ cal0)) (chkP_some hz4))) ?_
  obtain rfl := Option.some.inj hm
  exact fun σ H ⟨F, f0, e, hh⟩ => hnx F σ H _ f0 hh.all ⟨rfl, rfl⟩
noncomputable def M_lifted (x0 : MS) (x1 : Int) (x2 : Int) (x3 : Int) : Option (Int × MS) :=
  (chkP (("shifted" : Str) ∈ mwords)).bind fun z1 => (chkP (CShl x1 x3)).bind fun z2 => some ((x1 * 2 ^ (x3).toNat), ((x0.enter ("lift" : Str) x2 x3).step ("shifted" : Str) x2))
def Pre_lifted (T : TC) : PreT := fun As Ω R => ∃ (k0 : Nat) (p0 : Addr) (x0 : MS) (x1 : Int) (x2 : Int) (x3 : Int) (r : Int × MS), As = [vr p0, va T x1, va T x2, va T x3] ∧ Ω[k0]? = some (machA T p0 x0) ∧ M_lifted x0 x1 x2 x3 = some r ∧ R = RV (va T r.1) (stt Ω [(k0, machA T p0 r.2)] [])
theorem sc_lifted : FnScope ["machine", "number", "size", "count"] ["machine", "number", "size", "count"] (defScope s_lifted) := ⟨rfl, rfl, rfl, by decide +kernel, rfl, by decide +kernel, by decide +kernel⟩
theorem ok_lifted {f : Addr} {fd : FuncData} (F : Fun T.K "lifted" "lifted" s_lifted f fd) (mc : MCls T.K (T.C 0)) (c_Mach_enter : CalM P w T.K mg base 1 (T.C 0) "enter" ["self", "word", "m", "n"] (mkSp (Pre_Mach_enter T))) (c_Mach_step : CalM P w T.K mg base 1 (T.C 0) "step" ["self", "word", "many"] (mkSp (Pre_Mach_step T))) : FnOk P w T.K mg base CX0 2 f fd ["machine", "number", "size", "count"] (mkSp (Pre_lifted T)) := by
  refine fn_ok F sc_lifted (fun As Ω R h => ?_) (fun cdv A outer s H E hr As Ω R F0 h => ?_)
  · obtain ⟨k0, p0, x0, x1, x2, x3, r, rfl, _⟩ := h
    rfl
  obtain ⟨k0, p0, x0, x1, x2, x3, r, rfl, hk0, hm, rfl⟩ := h
  refine ⟨_, (pss_cons (ps_expr (pe_calM (pv 0) c_Mach_enter (hr.mono (by decide)) (pa_cons pe_str (pa_cons (pv 2) (pa_cons (pv 3) pa_nil))))) (pss_cons (ps_expr (pe_calM (pv 0) c_Mach_step (hr.mono (by decide)) (pa_cons pe_str (pa_cons (pv 2) pa_nil)))) (pss_one (ps_ret (pe_op op_shlW (pv 1) (pv 3)))))), fun D hrt hnx => ?_⟩
  have ok := okk1 hk0
  suffices hx : XS _ D F0 [some (vr p0), some (va T x1), some (va T x2), some (va T x3)] (stt Ω [(k0, machA T p0 x0)] []) by
    rw [show (stt Ω [(k0, machA T p0 x0)] []) = Ω from stt_self (by simp [hk0])] at hx
    exact hx
  unfold M_lifted at hm
  refine xs_drop (xe_mcall (xe_var (i := 0) rfl) (stt_get ok (i := 0) rfl) (xa_cons xe_str (xa_cons (xe_var (i := 2) rfl) (xa_cons (xe_var (i := 3) rfl) xa_nil))) ⟨k0, p0, x0, ("lift" : Str), x2, x3, rfl, (stt_get ok (i := 0) rfl), rfl⟩ (cal1 ok (i := 0) rfl)) ?_
  show XS (tSeq _ _) _ _ [some (vr p0), some (va T x1), some (va T x2), some (va T x3)] (stt Ω [(k0, machA T p0 (x0.enter ("lift" : Str) x2 x3))] [])
  obtain ⟨z1, hz1, hm⟩ := bnd_some hm
  refine xs_drop (xe_mcall (xe_var (i := 0) rfl) (stt_get ok (i := 0) rfl) (xa_cons xe_str (xa_cons (xe_var (i := 2) rfl) xa_nil)) ⟨k0, p0, (x0.enter ("lift" : Str) x2 x3), ("shifted" : Str), x2, rfl, (stt_get ok (i := 0) rfl), chkP_some hz1, rfl⟩ (cal1 ok (i := 0) rfl)) ?_
  show XS (tRet _) _ _ [some (vr p0), some (va T x1), some (va T x2), some (va T x3)] (stt Ω [(k0, machA T p0 ((x0.enter ("lift" : Str) x2 x3).step ("shifted" : Str) x2))] [])
  obtain ⟨z2, hz2, hm⟩ := bnd_some hm
  obtain rfl := Option.some.inj hm
  refine xs_ret (xe_shl (chkP_some hz2) (xe_var (i := 1) rfl) (xe_var (i := 3) rfl)) hrt.all
noncomputable def M_shift_row_up (x0 : MS) (x1 : List Int) (x2 : Int) : Option (((LF Int) × Int) × MS) :=
  (M_check_row_shift x0 x1 x2).bind fun z1 => (some (x1.length : Int)).bind fun y2 => (M_number_of 20 x0.w x1).bind fun z3 => (M_lifted x0 z3 y2 x2).bind fun z4 => (M_row_of 20 z4.2.w z4.1 y2).bind fun z5 => (chkP (IntMulOk y2 z4.2.w)).bind fun z6 => (chkP (0 ≤ (y2 * z4.2.w))).bind fun z7 => some (((LF.mk z5), (z4.1 / 2 ^ ((y2 * z4.2.w)).toNat)), z4.2)
def Pre_shift_row_up (T : TC) : PreT := fun As Ω R => ∃ (k0 : Nat) (p0 : Addr) (x0 : MS) (x1 : List Int) (x2 : Int) (r : ((LF Int) × Int) × MS), As = [vr p0, va T (LF.mk x1), va T x2] ∧ Ω[k0]? = some (machA T p0 x0) ∧ M_shift_row_up x0 x1 x2 = some r ∧ R = RV (va T r.1) (stt Ω [(k0, machA T p0 r.2)] [])
theorem sc_shift_row_up : FnScope ["machine", "digits", "count", "size", "number"] ["machine", "digits", "count"] (defScope s_shift_row_up) := ⟨rfl, rfl, rfl, by decide +kernel, rfl, by decide +kernel, by decide +kernel⟩
theorem ok_shift_row_up {f : Addr} {fd : FuncData} (F : Fun T.K "shift_row_up" "shift_row_up" s_shift_row_up f fd) (c_check_row_shift : Cal P w T.K mg base 6 "check_row_shift" ["machine", "digits", "count"] (mkSp (Pre_check_row_shift T))) (z_len : mg "len" = none) (mc : MCls T.K (T.C 0)) (c_number_of : Cal P w T.K mg base 21 "number_of" ["width", "row"] (mkSp (Pre_number_of 20 T))) (c_lifted : Cal P w T.K mg base 2 "lifted" ["machine", "number", "size", "count"] (mkSp (Pre_lifted T))) (c_row_of : Cal P w T.K mg base 21 "row_of" ["width", "n", "size"] (mkSp (Pre_row_of 20 T))) : FnOk P w T.K mg base CX0 22 f fd ["machine", "digits", "count"] (mkSp (Pre_shift_row_up T)) := by
  refine fn_ok F sc_shift_row_up (fun As Ω R h => ?_) (fun cdv A outer s H E hr As Ω R F0 h => ?_)
  · obtain ⟨k0, p0, x0, x1, x2, r, rfl, _⟩ := h
    rfl
  obtain ⟨k0, p0, x0, x1, x2, r, rfl, hk0, hm, rfl⟩ := h
  refine ⟨_, (pss_cons (ps_expr (pe_cal c_check_row_shift (hr.mono (by decide)) (by rfl) (pa_cons (pv 0) (pa_cons (pv 1) (pa_cons (pv 2) pa_nil))))) (pss_cons (ps_set (i := 3) sc_shift_row_up.nd rfl (.inl rfl) (pe_callB (cr_lenK (K := T.K) rfl) (by rfl) z_len PySem.boot_len (pa_cons (pv 1) pa_nil))) (pss_cons (ps_set (i := 4) sc_shift_row_up.nd rfl (.inl rfl) (pe_cal c_lifted (hr.mono (by decide)) (by rfl) (pa_cons (pv 0) (pa_cons (pe_cal c_number_of (hr.mono (by decide)) (by rfl) (pa_cons (pe_fldK (K := T.K) (pv 0) (by rfl) rfl) (pa_cons (pv 1) pa_nil))) (pa_cons (pv 3) (pa_cons (pv 2) pa_nil)))))) (pss_one (ps_ret (pe_tup (pa_cons (pe_cal c_row_of (hr.mono (by decide)) (by rfl) (pa_cons (pe_fldK (K := T.K) (pv 0) (by rfl) rfl) (pa_cons (pv 4) (pa_cons (pv 3) pa_nil)))) (pa_cons (pe_op op_shr (pv 4) (pe_op op_mulQ (pv 3) (pe_fldK (K := T.K) (pv 0) (by rfl) rfl))) pa_nil)))))))), fun D hrt hnx => ?_⟩
  have ok := okk1 hk0
  suffices hx : XS _ D F0 [some (vr p0), some (va T (LF.mk x1)), some (va T x2), none, none] (stt Ω [(k0, machA T p0 x0)] []) by
    rw [show (stt Ω [(k0, machA T p0 x0)] []) = Ω from stt_self (by simp [hk0])] at hx
    exact hx
  unfold M_shift_row_up at hm
  obtain ⟨z1, hz1, hm⟩ := bnd_some hm
  refine xs_drop (xe_call (xa_cons (xe_var (i := 0) rfl) (xa_cons (xe_var (i := 1) rfl) (xa_cons (xe_var (i := 2) rfl) xa_nil))) ⟨k0, p0, x0, x1, x2, z1, rfl, (stt_get ok (i := 0) rfl), hz1, rfl⟩ cal0) ?_
  show XS (tSeq _ _) _ _ [some (vr p0), some (va T (LF.mk x1)), some (va T x2), none, none] (stt Ω [(k0, machA T p0 x0)] [])
  obtain ⟨y2, hy2, hm⟩ := bnd_some hm
  refine xs_set (A := va T y2) (xe_eq (xe_lenL (xe_var (i := 1) rfl) isL_LF) (Option.some.inj hy2)) ?_
  show XS (tSeq _ _) _ _ [some (vr p0), some (va T (LF.mk x1)), some (va T x2), some (va T y2), none] (stt Ω [(k0, machA T p0 x0)] [])
  obtain ⟨z3, hz3, hm⟩ := bnd_some hm
  obtain ⟨z4, hz4, hm⟩ := bnd_some hm
  refine xs_set (A := va T z4.1) (xe_call (xa_cons (xe_var (i := 0) rfl) (xa_cons (xe_call (xa_cons (xe_mw mc.cl mc.nw (xe_var (i := 0) rfl) (stt_get ok (i := 0) rfl)) (xa_cons (xe_var (i := 1) rfl) xa_nil)) ⟨x0.w, x1, z3, rfl, hz3, rfl⟩ cal0) (xa_cons (xe_var (i := 3) rfl) (xa_cons (xe_var (i := 2) rfl) xa_nil)))) ⟨k0, p0, x0, z3, y2, x2, z4, rfl, (stt_get ok (i := 0) rfl), hz4, rfl⟩ (cal1 ok (i := 0) rfl)) ?_
  show XS (tRet _) _ _ [some (vr p0), some (va T (LF.mk x1)), some (va T x2), some (va T y2), some (va T z4.1)] (stt Ω [(k0, machA T p0 z4.2)] [])
  obtain ⟨z5, hz5, hm⟩ := bnd_some hm
  obtain ⟨z6, hz6, hm⟩ := bnd_some hm
  obtain ⟨z7, hz7, hm⟩ := bnd_some hm
  obtain rfl := Option.some.inj hm
  refine xs_ret (xe_tup2 (xa_cons (xe_call (xa_cons (xe_mw mc.cl mc.nw (xe_var (i := 0) rfl) (stt_get ok (i := 0) rfl)) (xa_cons (xe_var (i := 4) rfl) (xa_cons (xe_var (i := 3) rfl) xa_nil))) ⟨z4.2.w, z4.1, y2, z5, rfl, hz5, rfl⟩ cal0) (xa_cons (xe_shr (chkP_some hz7) (xe_var (i := 4) rfl) (xe_mul (chkP_some hz6) (xe_var (i := 3) rfl) (xe_mw mc.cl mc.nw (xe_var (i := 0) rfl) (stt_get ok (i := 0) rfl)))) xa_nil))) hrt.all
noncomputable def M_lowered (x0 : MS) (x1 : Int) (x2 : Int) (x3 : Int) : Option (Int × MS) :=
  (chkP (("shifted" : Str) ∈ mwords)).bind fun z1 => (chkP (0 ≤ x3)).bind fun z2 => some ((x1 / 2 ^ (x3).toNat), ((x0.enter ("lower" : Str) x2 x3).step ("shifted" : Str) x2))
def Pre_lowered (T : TC) : PreT := fun As Ω R => ∃ (k0 : Nat) (p0 : Addr) (x0 : MS) (x1 : Int) (x2 : Int) (x3 : Int) (r : Int × MS), As = [vr p0, va T x1, va T x2, va T x3] ∧ Ω[k0]? = some (machA T p0 x0) ∧ M_lowered x0 x1 x2 x3 = some r ∧ R = RV (va T r.1) (stt Ω [(k0, machA T p0 r.2)] [])
theorem sc_lowered : FnScope ["machine", "number", "size", "count"] ["machine", "number", "size", "count"] (defScope s_lowered) := ⟨rfl, rfl, rfl, by decide +kernel, rfl, by decide +kernel, by decide +kernel⟩
theorem ok_lowered {f : Addr} {fd : FuncData} (F : Fun T.K "lowered" "lowered" s_lowered f fd) (mc : MCls T.K (T.C 0)) (c_Mach_enter : CalM P w T.K mg base 1 (T.C 0) "enter" ["self", "word", "m", "n"] (mkSp (Pre_Mach_enter T))) (c_Mach_step : CalM P w T.K mg base 1 (T.C 0) "step" ["self", "word", "many"] (mkSp (Pre_Mach_step T))) : FnOk P w T.K mg base CX0 2 f fd ["machine", "number", "size", "count"] (mkSp (Pre_lowered T)) := by
  refine fn_ok F sc_lowered (fun As Ω R h => ?_) (fun cdv A outer s H E hr As Ω R F0 h => ?_)
  · obtain ⟨k0, p0, x0, x1, x2, x3, r, rfl, _⟩ := h
    rfl
  obtain ⟨k0, p0, x0, x1, x2, x3, r, rfl, hk0, hm, rfl⟩ := h
  refine ⟨_, (pss_cons (ps_expr (pe_calM (pv 0) c_Mach_enter (hr.mono (by decide)) (pa_cons pe_str (pa_cons (pv 2) (pa_cons (pv 3) pa_nil))))) (pss_cons (ps_expr (pe_calM (pv 0) c_Mach_step (hr.mono (by decide)) (pa_cons pe_str (pa_cons (pv 2) pa_nil)))) (pss_one (ps_ret (pe_op op_shr (pv 1) (pv 3)))))), fun D hrt hnx => ?_⟩
  have ok := okk1 hk0
  suffices hx : XS _ D F0 [some (vr p0), some (va T x1), some (va T x2), some (va T x3)] (stt Ω [(k0, machA T p0 x0)] []) by
    rw [show (stt Ω [(k0, machA T p0 x0)] []) = Ω from stt_self (by simp [hk0])] at hx
    exact hx
  unfold M_lowered at hm
  refine xs_drop (xe_mcall (xe_var (i := 0) rfl) (stt_get ok (i := 0) rfl) (xa_cons xe_str (xa_cons (xe_var (i := 2) rfl) (xa_cons (xe_var (i := 3) rfl) xa_nil))) ⟨k0, p0, x0, ("lower" : Str), x2, x3, rfl, (stt_get ok (i := 0) rfl), rfl⟩ (cal1 ok (i := 0) rfl)) ?_
  show XS (tSeq _ _) _ _ [some (vr p0), some (va T x1), some (va T x2), some (va T x3)] (stt Ω [(k0, machA T p0 (x0.enter ("lower" : Str) x2 x3))] [])
  obtain ⟨z1, hz1, hm⟩ := bnd_some hm
  refine xs_drop (xe_mcall (xe_var (i := 0) rfl) (stt_get ok (i := 0) rfl) (xa_cons xe_str (xa_cons (xe_var (i := 2) rfl) xa_nil)) ⟨k0, p0, (x0.enter ("lower" : Str) x2 x3), ("shifted" : Str), x2, rfl, (stt_get ok (i := 0) rfl), chkP_some hz1, rfl⟩ (cal1 ok (i := 0) rfl)) ?_
  show XS (tRet _) _ _ [some (vr p0), some (va T x1), some (va T x2), some (va T x3)] (stt Ω [(k0, machA T p0 ((x0.enter ("lower" : Str) x2 x3).step ("shifted" : Str) x2))] [])
  obtain ⟨z2, hz2, hm⟩ := bnd_some hm
  obtain rfl := Option.some.inj hm
  refine xs_ret (xe_shr (chkP_some hz2) (xe_var (i := 1) rfl) (xe_var (i := 3) rfl)) hrt.all
noncomputable def M_shift_row_down (x0 : MS) (x1 : List Int) (x2 : Int) : Option (((LF Int) × Int) × MS) :=
  (M_check_row_shift x0 x1 x2).bind fun z1 => (some (x1.length : Int)).bind fun y2 => (M_number_of 20 x0.w x1).bind fun z3 => (M_lowered x0 z3 y2 x2).bind fun z4 => (M_row_of 20 x0.w z4.1 y2).bind fun z5 => (chkP (CShl (1 : Int) x2)).bind fun z6 => some (((LF.mk z5), (Builtin.bitAnd z3 (((1 : Int) * 2 ^ (x2).toNat) - (1 : Int)))), z4.2)
def Pre_shift_row_down (T : TC) : PreT := fun As Ω R => ∃ (k0 : Nat) (p0 : Addr) (x0 : MS) (x1 : List Int) (x2 : Int) (r : ((LF Int) × Int) × MS), As = [vr p0, va T (LF.mk x1), va T x2] ∧ Ω[k0]? = some (machA T p0 x0) ∧ M_shift_row_down x0 x1 x2 = some r ∧ R = RV (va T r.1) (stt Ω [(k0, machA T p0 r.2)] [])
theorem sc_shift_row_down : FnScope ["machine", "digits", "count", "size", "number"] ["machine", "digits", "count"] (defScope s_shift_row_down) := ⟨rfl, rfl, rfl, by decide +kernel, rfl, by decide +kernel, by decide +kernel⟩
theorem ok_shift_row_down {f : Addr} {fd : FuncData} (F : Fun T.K "shift_row_down" "shift_row_down" s_shift_row_down f fd) (c_check_row_shift : Cal P w T.K mg base 6 "check_row_shift" ["machine", "digits", "count"] (mkSp (Pre_check_row_shift T))) (z_len : mg "len" = none) (mc : MCls T.K (T.C 0)) (c_number_of : Cal P w T.K mg base 21 "number_of" ["width", "row"] (mkSp (Pre_number_of 20 T))) (c_lowered : Cal P w T.K mg base 2 "lowered" ["machine", "number", "size", "count"] (mkSp (Pre_lowered T))) (c_row_of : Cal P w T.K mg base 21 "row_of" ["width", "n", "size"] (mkSp (Pre_row_of 20 T))) : FnOk P w T.K mg base CX0 22 f fd ["machine", "digits", "count"] (mkSp (Pre_shift_row_down T)) := by
  refine fn_ok F sc_shift_row_down (fun As Ω R h => ?_) (fun cdv A outer s H E hr As Ω R F0 h => ?_)
  · obtain ⟨k0, p0, x0, x1, x2, r, rfl, _⟩ := h
    rfl
  obtain ⟨k0, p0, x0, x1, x2, r, rfl, hk0, hm, rfl⟩ := h
  refine ⟨_, (pss_cons (ps_expr (pe_cal c_check_row_shift (hr.mono (by decide)) (by rfl) (pa_cons (pv 0) (pa_cons (pv 1) (pa_cons (pv 2) pa_nil))))) (pss_cons (ps_set (i := 3) sc_shift_row_down.nd rfl (.inl rfl) (pe_callB (cr_lenK (K := T.K) rfl) (by rfl) z_len PySem.boot_len (pa_cons (pv 1) pa_nil))) (pss_cons (ps_set (i := 4) sc_shift_row_down.nd rfl (.inl rfl) (pe_cal c_number_of (hr.mono (by decide)) (by rfl) (pa_cons (pe_fldK (K := T.K) (pv 0) (by rfl) rfl) (pa_cons (pv 1) pa_nil)))) (pss_one (ps_ret (pe_tup (pa_cons (pe_cal c_row_of (hr.mono (by decide)) (by rfl) (pa_cons (pe_fldK (K := T.K) (pv 0) (by rfl) rfl) (pa_cons (pe_cal c_lowered (hr.mono (by decide)) (by rfl) (pa_cons (pv 0) (pa_cons (pv 4) (pa_cons (pv 3) (pa_cons (pv 2) pa_nil))))) (pa_cons (pv 3) pa_nil)))) (pa_cons (pe_op op_and (pv 4) (pe_op op_sub (pe_op op_shlW pe_int (pv 2)) pe_int)) pa_nil)))))))), fun D hrt hnx => ?_⟩
  have ok := okk1 hk0
  suffices hx : XS _ D F0 [some (vr p0), some (va T (LF.mk x1)), some (va T x2), none, none] (stt Ω [(k0, machA T p0 x0)] []) by
    rw [show (stt Ω [(k0, machA T p0 x0)] []) = Ω from stt_self (by simp [hk0])] at hx
    exact hx
  unfold M_shift_row_down at hm
  obtain ⟨z1, hz1, hm⟩ := bnd_some hm
  refine xs_drop (xe_call (xa_cons (xe_var (i := 0) rfl) (xa_cons (xe_var (i := 1) rfl) (xa_cons (xe_var (i := 2) rfl) xa_nil))) ⟨k0, p0, x0, x1, x2, z1, rfl, (stt_get ok (i := 0) rfl), hz1, rfl⟩ cal0) ?_
  show XS (tSeq _ _) _ _ [some (vr p0), some (va T (LF.mk x1)), some (va T x2), none, none] (stt Ω [(k0, machA T p0 x0)] [])
  obtain ⟨y2, hy2, hm⟩ := bnd_some hm
  refine xs_set (A := va T y2) (xe_eq (xe_lenL (xe_var (i := 1) rfl) isL_LF) (Option.some.inj hy2)) ?_
  show XS (tSeq _ _) _ _ [some (vr p0), some (va T (LF.mk x1)), some (va T x2), some (va T y2), none] (stt Ω [(k0, machA T p0 x0)] [])
  obtain ⟨z3, hz3, hm⟩ := bnd_some hm
  refine xs_set (A := va T z3) (xe_call (xa_cons (xe_mw mc.cl mc.nw (xe_var (i := 0) rfl) (stt_get ok (i := 0) rfl)) (xa_cons (xe_var (i := 1) rfl) xa_nil)) ⟨x0.w, x1, z3, rfl, hz3, rfl⟩ cal0) ?_
  show XS (tRet _) _ _ [some (vr p0), some (va T (LF.mk x1)), some (va T x2), some (va T y2), some (va T z3)] (stt Ω [(k0, machA T p0 x0)] [])
  obtain ⟨z4, hz4, hm⟩ := bnd_some hm
  obtain ⟨z5, hz5, hm⟩ := bnd_some hm
  obtain ⟨z6, hz6, hm⟩ := bnd_some hm
  obtain rfl := Option.some.inj hm
  refine xs_ret (xe_tup2 (xa_cons (xe_call (xa_cons (xe_mw mc.cl mc.nw (xe_var (i := 0) rfl) (stt_get ok (i := 0) rfl)) (xa_cons (xe_call (xa_cons (xe_var (i := 0) rfl) (xa_cons (xe_var (i := 4) rfl) (xa_cons (xe_var (i := 3) rfl) (xa_cons (xe_var (i := 2) rfl) xa_nil)))) ⟨k0, p0, x0, z3, y2, x2, z4, rfl, (stt_get ok (i := 0) rfl), hz4, rfl⟩ (cal1 ok (i := 0) rfl)) (xa_cons (xe_var (i := 3) rfl) xa_nil))) ⟨x0.w, z4.1, y2, z5, rfl, hz5, rfl⟩ cal0) (xa_cons (xe_band (xe_var (i := 4) rfl) (xe_sub (xe_shl (chkP_some hz6) xe_int (xe_var (i := 2) rfl)) xe_int)) xa_nil))) hrt.all
noncomputable def M_added (x0 : MS) (x1 : Int) (x2 : Int) (x3 : Int) (x4 : Int) : Option (Int × MS) :=
  (chkP (("sum" : Str) ∈ mwords)).bind fun z1 => some ((x1 + x3), ((x0.enter ("add" : Str) x2 x4).step ("sum" : Str) (max x2 x4)))
def Pre_added (T : TC) : PreT := fun As Ω R => ∃ (k0 : Nat) (p0 : Addr) (x0 : MS) (x1 : Int) (x2 : Int) (x3 : Int) (x4 : Int) (r : Int × MS), As = [vr p0, va T x1, va T x2, va T x3, va T x4] ∧ Ω[k0]? = some (machA T p0 x0) ∧ M_added x0 x1 x2 x3 x4 = some r ∧ R = RV (va T r.1) (stt Ω [(k0, machA T p0 r.2)] [])
theorem sc_added : FnScope ["machine", "a", "m", "b", "n"] ["machine", "a", "m", "b", "n"] (defScope s_added) := ⟨rfl, rfl, rfl, by decide +kernel, rfl, by decide +kernel, by decide +kernel⟩
theorem ok_added {f : Addr} {fd : FuncData} (F : Fun T.K "added" "added" s_added f fd) (mc : MCls T.K (T.C 0)) (c_Mach_enter : CalM P w T.K mg base 1 (T.C 0) "enter" ["self", "word", "m", "n"] (mkSp (Pre_Mach_enter T))) (z_max : mg "max" = none) (c_Mach_step : CalM P w T.K mg base 1 (T.C 0) "step" ["self", "word", "many"] (mkSp (Pre_Mach_step T))) : FnOk P w T.K mg base CX0 2 f fd ["machine", "a", "m", "b", "n"] (mkSp (Pre_added T)) := by
  refine fn_ok F sc_added (fun As Ω R h => ?_) (fun cdv A outer s H E hr As Ω R F0 h => ?_)
  · obtain ⟨k0, p0, x0, x1, x2, x3, x4, r, rfl, _⟩ := h
    rfl
  obtain ⟨k0, p0, x0, x1, x2, x3, x4, r, rfl, hk0, hm, rfl⟩ := h
  refine ⟨_, (pss_cons (ps_expr (pe_calM (pv 0) c_Mach_enter (hr.mono (by decide)) (pa_cons pe_str (pa_cons (pv 2) (pa_cons (pv 4) pa_nil))))) (pss_cons (ps_expr (pe_calM (pv 0) c_Mach_step (hr.mono (by decide)) (pa_cons pe_str (pa_cons (pe_callB (cr_max2 rfl) (by rfl) z_max (by decide +kernel) (pa_cons (pv 2) (pa_cons (pv 4) pa_nil))) pa_nil)))) (pss_one (ps_ret (pe_op op_addQ (pv 1) (pv 3)))))), fun D hrt hnx => ?_⟩
  have ok := okk1 hk0
  suffices hx : XS _ D F0 [some (vr p0), some (va T x1), some (va T x2), some (va T x3), some (va T x4)] (stt Ω [(k0, machA T p0 x0)] []) by
    rw [show (stt Ω [(k0, machA T p0 x0)] []) = Ω from stt_self (by simp [hk0])] at hx
    exact hx
  unfold M_added at hm
  refine xs_drop (xe_mcall (xe_var (i := 0) rfl) (stt_get ok (i := 0) rfl) (xa_cons xe_str (xa_cons (xe_var (i := 2) rfl) (xa_cons (xe_var (i := 4) rfl) xa_nil))) ⟨k0, p0, x0, ("add" : Str), x2, x4, rfl, (stt_get ok (i := 0) rfl), rfl⟩ (cal1 ok (i := 0) rfl)) ?_
  show XS (tSeq _ _) _ _ [some (vr p0), some (va T x1), some (va T x2), some (va T x3), some (va T x4)] (stt Ω [(k0, machA T p0 (x0.enter ("add" : Str) x2 x4))] [])
  obtain ⟨z1, hz1, hm⟩ := bnd_some hm
  refine xs_drop (xe_mcall (xe_var (i := 0) rfl) (stt_get ok (i := 0) rfl) (xa_cons xe_str (xa_cons (xe_max2 (xe_var (i := 2) rfl) (xe_var (i := 4) rfl)) xa_nil)) ⟨k0, p0, (x0.enter ("add" : Str) x2 x4), ("sum" : Str), (max x2 x4), rfl, (stt_get ok (i := 0) rfl), chkP_some hz1, rfl⟩ (cal1 ok (i := 0) rfl)) ?_
  show XS (tRet _) _ _ [some (vr p0), some (va T x1), some (va T x2), some (va T x3), some (va T x4)] (stt Ω [(k0, machA T p0 ((x0.enter ("add" : Str) x2 x4).step ("sum" : Str) (max x2 x4)))] [])
  obtain rfl := Option.some.inj hm
  refine xs_ret (xe_add (xe_var (i := 1) rfl) (xe_var (i := 3) rfl)) hrt.all
noncomputable def M_taken (x0 : MS) (x1 : Int) (x2 : Int) : Option (Int × MS) :=
  (M_size_of x0.w x1).bind fun z1 => (M_size_of x0.w x2).bind fun z2 => (if (decide (z1 = z2)) = true then (M_last_difference (x0.enter ("take" : Str) z1 z2) x1 x2).bind fun z3 => (chkP (("sum" : Str) ∈ mwords)).bind fun z4 => some (z3.2.step ("sum" : Str) (z3.1 + (1 : Int))) else (chkP (("sum" : Str) ∈ mwords)).bind fun z6 => some ((x0.enter ("take" : Str) z1 z2).step ("sum" : Str) (max z1 z2))).bind fun z8 => some ((x1 - x2), z8)
def Pre_taken (T : TC) : PreT := fun As Ω R => ∃ (k0 : Nat) (p0 : Addr) (x0 : MS) (x1 : Int) (x2 : Int) (r : Int × MS), As = [vr p0, va T x1, va T x2] ∧ Ω[k0]? = some (machA T p0 x0) ∧ M_taken x0 x1 x2 = some r ∧ R = RV (va T r.1) (stt Ω [(k0, machA T p0 r.2)] [])
theorem sc_taken : FnScope ["machine", "a", "b", "m", "n"] ["machine", "a", "b"] (defScope s_taken) := ⟨rfl, rfl, rfl, by decide +kernel, rfl, by decide +kernel, by decide +kernel⟩
theorem ok_taken {f : Addr} {fd : FuncData} (F : Fun T.K "taken" "taken" s_taken f fd) (mc : MCls T.K (T.C 0)) (c_size_of : Cal P w T.K mg base 2 "size_of" ["width", "n"] (mkSp (Pre_size_of T))) (c_Mach_enter : CalM P w T.K mg base 1 (T.C 0) "enter" ["self", "word", "m", "n"] (mkSp (Pre_Mach_enter T))) (c_last_difference : Cal P w T.K mg base 3 "last_difference" ["machine", "a", "b"] (mkSp (Pre_last_difference T))) (c_Mach_step : CalM P w T.K mg base 1 (T.C 0) "step" ["self", "word", "many"] (mkSp (Pre_Mach_step T))) (z_max : mg "max" = none) : FnOk P w T.K mg base CX0 4 f fd ["machine", "a", "b"] (mkSp (Pre_taken T)) := by
  refine fn_ok F sc_taken (fun As Ω R h => ?_) (fun cdv A outer s H E hr As Ω R F0 h => ?_)
  · obtain ⟨k0, p0, x0, x1, x2, r, rfl, _⟩ := h
    rfl
  obtain ⟨k0, p0, x0, x1, x2, r, rfl, hk0, hm, rfl⟩ := h
  refine ⟨_, (pss_cons (ps_set (i := 3) sc_taken.nd rfl (.inl rfl) (pe_cal c_size_of (hr.mono (by decide)) (by rfl) (pa_cons (pe_fldK (K := T.K) (pv 0) (by rfl) rfl) (pa_cons (pv 1) pa_nil)))) (pss_cons (ps_set (i := 4) sc_taken.nd rfl (.inl rfl) (pe_cal c_size_of (hr.mono (by decide)) (by rfl) (pa_cons (pe_fldK (K := T.K) (pv 0) (by rfl) rfl) (pa_cons (pv 2) pa_nil)))) (pss_cons (ps_expr (pe_calM (pv 0) c_Mach_enter (hr.mono (by decide)) (pa_cons pe_str (pa_cons (pv 3) (pa_cons (pv 4) pa_nil))))) (Evl.pss_cut (ps_if (pt_cmpR (op_eqXK (K := T.K) (by exact hr.units) rfl) (pv 3) (pv 4) (nomark _)) (pss_one (ps_expr (pe_calM (pv 0) c_Mach_step (hr.mono (by decide)) (pa_cons pe_str (pa_cons (pe_op op_addQ (pe_cal c_last_difference (hr.mono (by decide)) (by rfl) (pa_cons (pv 0) (pa_cons (pv 1) (pa_cons (pv 2) pa_nil)))) pe_int) pa_nil))))) (pss_one (ps_expr (pe_calM (pv 0) c_Mach_step (hr.mono (by decide)) (pa_cons pe_str (pa_cons (pe_callB (cr_max2 rfl) (by rfl) z_max (by decide +kernel) (pa_cons (pv 3) (pa_cons (pv 4) pa_nil))) pa_nil)))))) (pss_one (ps_ret (pe_op op_sub (pv 1) (pv 2)))))))), fun D hrt hnx => ?_⟩
  have ok := okk1 hk0
  suffices hx : XS _ D F0 [some (vr p0), some (va T x1), some (va T x2), none, none] (stt Ω [(k0, machA T p0 x0)] []) by
    rw [show (stt Ω [(k0, machA T p0 x0)] []) = Ω from stt_self (by simp [hk0])] at hx
    exact hx
  unfold M_taken at hm
  obtain ⟨z1, hz1, hm⟩ := bnd_some hm
  refine xs_set (A := va T z1) (xe_call (xa_cons (xe_mw mc.cl mc.nw (xe_var (i := 0) rfl) (stt_get ok (i := 0) rfl)) (xa_cons (xe_var (i := 1) rfl) xa_nil)) ⟨x0.w, x1, z1, rfl, hz1, rfl⟩ cal0) ?_
  show XS (tSeq _ _) _ _ [some (vr p0), some (va T x1), some (va T x2), some (va T z1), none] (stt Ω [(k0, machA T p0 x0)] [])
  obtain ⟨z2, hz2, hm⟩ := bnd_some hm
  refine xs_set (A := va T z2) (xe_call (xa_cons (xe_mw mc.cl mc.nw (xe_var (i := 0) rfl) (stt_get ok (i := 0) rfl)) (xa_cons (xe_var (i := 2) rfl) xa_nil)) ⟨x0.w, x2, z2, rfl, hz2, rfl⟩ cal0) ?_
  show XS (tSeq _ _) _ _ [some (vr p0), some (va T x1), some (va T x2), some (va T z1), some (va T z2)] (stt Ω [(k0, machA T p0 x0)] [])
  refine xs_drop (xe_mcall (xe_var (i := 0) rfl) (stt_get ok (i := 0) rfl) (xa_cons xe_str (xa_cons (xe_var (i := 3) rfl) (xa_cons (xe_var (i := 4) rfl) xa_nil))) ⟨k0, p0, x0, ("take" : Str), z1, z2, rfl, (stt_get ok (i := 0) rfl), rfl⟩ (cal1 ok (i := 0) rfl)) ?_
  show XS (Evl.tCut _ _) _ _ [some (vr p0), some (va T x1), some (va T x2), some (va T z1), some (va T z2)] (stt Ω [(k0, machA T p0 (x0.enter ("take" : Str) z1 z2))] [])
  obtain ⟨z8, hz8, hm⟩ := bnd_some hm
  refine xs_cut (Γ' := [some (vr p0), some (va T x1), some (va T x2), some (va T z1), some (va T z2)]) (Ω' := (stt Ω [(k0, machA T p0 z8)] [])) ?_ ?_
  · clear hm
    have hm := hz8
    clear hz8
    by_cases hc : (decide (z1 = z2)) = true
    · rw [if_pos hc] at hm
      refine xs_ifT1 (xt_eq (xt_test (T := T) (xe_eqI (xe_var (i := 3) rfl) (xe_var (i := 4) rfl))) hc) ?_
      obtain ⟨z3, hz3, hm⟩ := bnd_some hm
      obtain ⟨z4, hz4, hm⟩ := bnd_some hm
      refine xs_drop1 (xe_mcall (xe_var (i := 0) rfl) (stt_get ok (i := 0) rfl) (xa_cons xe_str (xa_cons (xe_add (xe_call (xa_cons (xe_var (i := 0) rfl) (xa_cons (xe_var (i := 1) rfl) (xa_cons (xe_var (i := 2) rfl) xa_nil))) ⟨k0, p0, (x0.enter ("take" : Str) z1 z2), x1, x2, z3, rfl, (stt_get ok (i := 0) rfl), hz3, rfl⟩ (cal1 ok (i := 0) rfl)) xe_int) xa_nil)) ⟨k0, p0, z3.2, ("sum" : Str), (z3.1 + (1 : Int)), rfl, (stt_get ok (i := 0) rfl), chkP_some hz4, rfl⟩ (cal1 ok (i := 0) rfl)) ?_
      obtain rfl := Option.some.inj hm
      exact fun σ H n => n
    · rw [if_neg hc] at hm
      refine xs_ifF1 (xt_eq (xt_test (T := T) (xe_eqI (xe_var (i := 3) rfl) (xe_var (i := 4) rfl))) (nt hc)) ?_
      obtain ⟨z6, hz6, hm⟩ := bnd_some hm
      refine xs_drop1 (xe_mcall (xe_var (i := 0) rfl) (stt_get ok (i := 0) rfl) (xa_cons xe_str (xa_cons (xe_max2 (xe_var (i := 3) rfl) (xe_var (i := 4) rfl)) xa_nil)) ⟨k0, p0, (x0.enter ("take" : Str) z1 z2), ("sum" : Str), (max z1 z2), rfl, (stt_get ok (i := 0) rfl), chkP_some hz6, rfl⟩ (cal1 ok (i := 0) rfl)) ?_
      obtain rfl := Option.some.inj hm
      exact fun σ H n => n
  · obtain rfl := Option.some.inj hm
    refine xs_ret (xe_sub (xe_var (i := 1) rfl) (xe_var (i := 2) rfl)) hrt.all
noncomputable def M_joined (x0 : MS) (x1 : Int) (x2 : Int) (x3 : Int) : Option (Int × MS) :=
  (M_are_compact x0 x1 x2).bind fun z1 => if z1 = true then (chkP (("short" : Str) ∈ mwords)).bind fun z2 => (chkP (IntMulOk x3 x2)).bind fun z3 => some ((x1 + (x3 * x2)), (x0.step ("short" : Str) (1 : Int))) else if (decide ((decide ((decide (x1 < (0 : Int))) = (decide (x2 < (0 : Int))))) = (decide (x3 = (1 : Int))))) = true then (M_size_of x0.w x1).bind fun z4 => (M_size_of x0.w x2).bind fun z5 => (M_added x0 ((x1.natAbs : Nat) : Int) z4 ((x2.natAbs : Nat) : Int) z5).bind fun z6 => some ((if (decide (x1 < (0 : Int))) = true then (-z6.1) else z6.1), z6.2) else if (decide (x1 < (0 : Int))) = true then (M_taken x0 ((x2.natAbs : Nat) : Int) ((x1.natAbs : Nat) : Int)).bind fun z7 => some (z7.1, z7.2) else (M_taken x0 ((x1.natAbs : Nat) : Int) ((x2.natAbs : Nat) : Int)).bind fun z8 => some (z8.1, z8.2)
def Pre_joined (T : TC) : PreT := fun As Ω R => ∃ (k0 : Nat) (p0 : Addr) (x0 : MS) (x1 : Int) (x2 : Int) (x3 : Int) (r : Int × MS), As = [vr p0, va T x1, va T x2, va T x3] ∧ Ω[k0]? = some (machA T p0 x0) ∧ M_joined x0 x1 x2 x3 = some r ∧ R = RV (va T r.1) (stt Ω [(k0, machA T p0 r.2)] [])
theorem sc_joined : FnScope ["machine", "x", "y", "turn", "total"] ["machine", "x", "y", "turn"] (defScope s_joined) := ⟨rfl, rfl, rfl, by decide +kernel, rfl, by decide +kernel, by decide +kernel⟩
theorem ok_joined {f : Addr} {fd : FuncData} (F : Fun T.K "joined" "joined" s_joined f fd) (c_are_compact : Cal P w T.K mg base 2 "are_compact" ["machine", "x", "y"] (mkSp (Pre_are_compact T))) (mc : MCls T.K (T.C 0)) (c_Mach_step : CalM P w T.K mg base 1 (T.C 0) "step" ["self", "word", "many"] (mkSp (Pre_Mach_step T))) (z_abs : mg "abs" = none) (c_size_of : Cal P w T.K mg base 2 "size_of" ["width", "n"] (mkSp (Pre_size_of T))) (c_added : Cal P w T.K mg base 2 "added" ["machine", "a", "m", "b", "n"] (mkSp (Pre_added T))) (c_taken : Cal P w T.K mg base 4 "taken" ["machine", "a", "b"] (mkSp (Pre_taken T))) : FnOk P w T.K mg base CX0 5 f fd ["machine", "x", "y", "turn"] (mkSp (Pre_joined T)) := by
  refine fn_ok F sc_joined (fun As Ω R h => ?_) (fun cdv A outer s H E hr As Ω R F0 h => ?_)
  · obtain ⟨k0, p0, x0, x1, x2, x3, r, rfl, _⟩ := h
    rfl
  obtain ⟨k0, p0, x0, x1, x2, x3, r, rfl, hk0, hm, rfl⟩ := h
  refine ⟨_, (pss_cons (ps_if (pt_val (pe_cal c_are_compact (hr.mono (by decide)) (by rfl) (pa_cons (pv 0) (pa_cons (pv 1) (pa_cons (pv 2) pa_nil))))) (pss_cons (ps_expr (pe_calM (pv 0) c_Mach_step (hr.mono (by decide)) (pa_cons pe_str (pa_cons pe_int pa_nil)))) (pss_one (ps_ret (pe_op op_addQ (pv 1) (pe_op op_mulQ (pv 3) (pv 2)))))) pss_nil) (pss_cons (ps_if (pt_cmpR (op_eqXK (K := T.K) (by exact hr.units) rfl) (pe_cmpR (op_eqXK (K := T.K) (by exact hr.units) rfl) (pe_cmpR op_lt (pv 1) pe_int (nomark _)) (pe_cmpR op_lt (pv 2) pe_int (nomark _)) (nomark _)) (pe_cmpR (op_eqXK (K := T.K) (by exact hr.units) rfl) (pv 3) pe_int (nomark _)) (nomark _)) (pss_cons (ps_set (i := 4) sc_joined.nd rfl (.inl rfl) (pe_cal c_added (hr.mono (by decide)) (by rfl) (pa_cons (pv 0) (pa_cons (pe_callB cr_abs (by rfl) z_abs (by decide +kernel) (pa_cons (pv 1) pa_nil)) (pa_cons (pe_cal c_size_of (hr.mono (by decide)) (by rfl) (pa_cons (pe_fldK (K := T.K) (pv 0) (by rfl) rfl) (pa_cons (pv 1) pa_nil))) (pa_cons (pe_callB cr_abs (by rfl) z_abs (by decide +kernel) (pa_cons (pv 2) pa_nil)) (pa_cons (pe_cal c_size_of (hr.mono (by decide)) (by rfl) (pa_cons (pe_fldK (K := T.K) (pv 0) (by rfl) rfl) (pa_cons (pv 2) pa_nil))) pa_nil))))))) (pss_one (ps_ret (pe_ifExp (pt_cmpR op_lt (pv 1) pe_int (nomark _)) (pe_un un_neg (pv 4)) (pv 4))))) pss_nil) (pss_cons (ps_if (pt_cmpR op_lt (pv 1) pe_int (nomark _)) (pss_one (ps_ret (pe_cal c_taken (hr.mono (by decide)) (by rfl) (pa_cons (pv 0) (pa_cons (pe_callB cr_abs (by rfl) z_abs (by decide +kernel) (pa_cons (pv 2) pa_nil)) (pa_cons (pe_callB cr_abs (by rfl) z_abs (by decide +kernel) (pa_cons (pv 1) pa_nil)) pa_nil)))))) pss_nil) (pss_one (ps_ret (pe_cal c_taken (hr.mono (by decide)) (by rfl) (pa_cons (pv 0) (pa_cons (pe_callB cr_abs (by rfl) z_abs (by decide +kernel) (pa_cons (pv 1) pa_nil)) (pa_cons (pe_callB cr_abs (by rfl) z_abs (by decide +kernel) (pa_cons (pv 2) pa_nil)) pa_nil))))))))), fun D hrt hnx => ?_⟩
  have ok := okk1 hk0
  suffices hx : XS _ D F0 [some (vr p0), some (va T x1), some (va T x2), some (va T x3), none] (stt Ω [(k0, machA T p0 x0)] []) by
    rw [show (stt Ω [(k0, machA T p0 x0)] []) = Ω from stt_self (by simp [hk0])] at hx
    exact hx
  unfold M_joined at hm
  obtain ⟨z1, hz1, hm⟩ := bnd_some hm
  by_cases hc : z1 = true
  · rw [if_pos hc] at hm
    refine xs_ifT (xt_eq (xt_tB (T := T) (xe_call (xa_cons (xe_var (i := 0) rfl) (xa_cons (xe_var (i := 1) rfl) (xa_cons (xe_var (i := 2) rfl) xa_nil))) ⟨k0, p0, x0, x1, x2, z1, rfl, (stt_get ok (i := 0) rfl), hz1, rfl⟩ cal0)) hc) ?_
    obtain ⟨z2, hz2, hm⟩ := bnd_some hm
    refine xs_drop (xe_mcall (xe_var (i := 0) rfl) (stt_get ok (i := 0) rfl) (xa_cons xe_str (xa_cons xe_int xa_nil)) ⟨k0, p0, x0, ("short" : Str), (1 : Int), rfl, (stt_get ok (i := 0) rfl), chkP_some hz2, rfl⟩ (cal1 ok (i := 0) rfl)) ?_
    show XS (tRet _) _ _ [some (vr p0), some (va T x1), some (va T x2), some (va T x3), none] (stt Ω [(k0, machA T p0 (x0.step ("short" : Str) (1 : Int)))] [])
    obtain ⟨z3, hz3, hm⟩ := bnd_some hm
    obtain rfl := Option.some.inj hm
    refine xs_ret (xe_add (xe_var (i := 1) rfl) (xe_mul (chkP_some hz3) (xe_var (i := 3) rfl) (xe_var (i := 2) rfl))) hrt.all
  · rw [if_neg hc] at hm
    refine xs_ifN (xt_eq (xt_tB (T := T) (xe_call (xa_cons (xe_var (i := 0) rfl) (xa_cons (xe_var (i := 1) rfl) (xa_cons (xe_var (i := 2) rfl) xa_nil))) ⟨k0, p0, x0, x1, x2, z1, rfl, (stt_get ok (i := 0) rfl), hz1, rfl⟩ cal0)) (nt hc)) ?_
    show XS (tSeq _ _) _ _ [some (vr p0), some (va T x1), some (va T x2), some (va T x3), none] (stt Ω [(k0, machA T p0 x0)] [])
    by_cases hc : (decide ((decide ((decide (x1 < (0 : Int))) = (decide (x2 < (0 : Int))))) = (decide (x3 = (1 : Int))))) = true
    · rw [if_pos hc] at hm
      refine xs_ifT (xt_eq (xt_test (T := T) (xe_eqB (xe_eqB (xe_lt (xe_var (i := 1) rfl) xe_int) (xe_lt (xe_var (i := 2) rfl) xe_int)) (xe_eqI (xe_var (i := 3) rfl) xe_int))) hc) ?_
      obtain ⟨z4, hz4, hm⟩ := bnd_some hm
      obtain ⟨z5, hz5, hm⟩ := bnd_some hm
      obtain ⟨z6, hz6, hm⟩ := bnd_some hm
      refine xs_set (A := va T z6.1) (xe_call (xa_cons (xe_var (i := 0) rfl) (xa_cons (xe_abs (xe_var (i := 1) rfl)) (xa_cons (xe_call (xa_cons (xe_mw mc.cl mc.nw (xe_var (i := 0) rfl) (stt_get ok (i := 0) rfl)) (xa_cons (xe_var (i := 1) rfl) xa_nil)) ⟨x0.w, x1, z4, rfl, hz4, rfl⟩ cal0) (xa_cons (xe_abs (xe_var (i := 2) rfl)) (xa_cons (xe_call (xa_cons (xe_mw mc.cl mc.nw (xe_var (i := 0) rfl) (stt_get ok (i := 0) rfl)) (xa_cons (xe_var (i := 2) rfl) xa_nil)) ⟨x0.w, x2, z5, rfl, hz5, rfl⟩ cal0) xa_nil))))) ⟨k0, p0, x0, ((x1.natAbs : Nat) : Int), z4, ((x2.natAbs : Nat) : Int), z5, z6, rfl, (stt_get ok (i := 0) rfl), hz6, rfl⟩ (cal1 ok (i := 0) rfl)) ?_
      show XS (tRet _) _ _ [some (vr p0), some (va T x1), some (va T x2), some (va T x3), some (va T z6.1)] (stt Ω [(k0, machA T p0 z6.2)] [])
      obtain rfl := Option.some.inj hm
      refine xs_ret (xe_ite (xt_test (T := T) (xe_lt (xe_var (i := 1) rfl) xe_int)) (xe_neg (xe_var (i := 4) rfl)) (xe_var (i := 4) rfl)) hrt.all
    · rw [if_neg hc] at hm
      refine xs_ifN (xt_eq (xt_test (T := T) (xe_eqB (xe_eqB (xe_lt (xe_var (i := 1) rfl) xe_int) (xe_lt (xe_var (i := 2) rfl) xe_int)) (xe_eqI (xe_var (i := 3) rfl) xe_int))) (nt hc)) ?_
      show XS (tSeq _ _) _ _ [some (vr p0), some (va T x1), some (va T x2), some (va T x3), none] (stt Ω [(k0, machA T p0 x0)] [])
      by_cases hc : (decide (x1 < (0 : Int))) = true
      · rw [if_pos hc] at hm
        refine xs_ifT (xt_eq (xt_test (T := T) (xe_lt (xe_var (i := 1) rfl) xe_int)) hc) ?_
        obtain ⟨z7, hz7, hm⟩ := bnd_some hm
        obtain rfl := Option.some.inj hm
        refine xs_ret (xe_call (xa_cons (xe_var (i := 0) rfl) (xa_cons (xe_abs (xe_var (i := 2) rfl)) (xa_cons (xe_abs (xe_var (i := 1) rfl)) xa_nil))) ⟨k0, p0, x0, ((x2.natAbs : Nat) : Int), ((x1.natAbs : Nat) : Int), z7, rfl, (stt_get ok (i := 0) rfl), hz7, rfl⟩ (cal1 ok (i := 0) rfl)) hrt.all
      · rw [if_neg hc] at hm
        refine xs_ifN (xt_eq (xt_test (T := T) (xe_lt (xe_var (i := 1) rfl) xe_int)) (nt hc)) ?_
        show XS (tRet _) _ _ [some (vr p0), some (va T x1), some (va T x2), some (va T x3), none] (stt Ω [(k0, machA T p0 x0)] [])
        obtain ⟨z8, hz8, hm⟩ := bnd_some hm
        obtain rfl := Option.some.inj hm
        refine xs_ret (xe_call (xa_cons (xe_var (i := 0) rfl) (xa_cons (xe_abs (xe_var (i := 1) rfl)) (xa_cons (xe_abs (xe_var (i := 2) rfl)) xa_nil))) ⟨k0, p0, x0, ((x1.natAbs : Nat) : Int), ((x2.natAbs : Nat) : Int), z8, rfl, (stt_get ok (i := 0) rfl), hz8, rfl⟩ (cal1 ok (i := 0) rfl)) hrt.all
noncomputable def M_add (x0 : MS) (x1 : Bg) (x2 : Bg) : Option (Bg × MS) :=
  (M_check_two x0 x1 x2).bind fun z1 => (M_joined x0 x1.v x2.v (1 : Int)).bind fun z2 => (M_big_of z2.2 z2.1).bind fun z3 => some (z3, z2.2)
def Pre_add (T : TC) : PreT := fun As Ω R => ∃ (k0 : Nat) (p0 : Addr) (x0 : MS) (x1 : Bg) (x2 : Bg) (r : Bg × MS), As = [vr p0, va T x1, va T x2] ∧ Ω[k0]? = some (machA T p0 x0) ∧ M_add x0 x1 x2 = some r ∧ R = RV (va T r.1) (stt Ω [(k0, machA T p0 r.2)] [])
theorem sc_add : FnScope ["machine", "x", "y"] ["machine", "x", "y"] (defScope s_add) := ⟨rfl, rfl, rfl, by decide +kernel, rfl, by decide +kernel, by decide +kernel⟩
theorem ok_add {f : Addr} {fd : FuncData} (F : Fun T.K "add" "add" s_add f fd) (c_check_two : Cal P w T.K mg base 8 "check_two" ["machine", "x", "y"] (mkSp (Pre_check_two T))) (bc : BCls T.K (T.C 1)) (c_joined : Cal P w T.K mg base 5 "joined" ["machine", "x", "y", "turn"] (mkSp (Pre_joined T))) (c_big_of : Cal P w T.K mg base 22 "big_of" ["machine", "value"] (mkSp (Pre_big_of T))) : FnOk P w T.K mg base CX0 23 f fd ["machine", "x", "y"] (mkSp (Pre_add T)) := by
  refine fn_ok F sc_add (fun As Ω R h => ?_) (fun cdv A outer s H E hr As Ω R F0 h => ?_)
  · obtain ⟨k0, p0, x0, x1, x2, r, rfl, _⟩ := h
    rfl
  obtain ⟨k0, p0, x0, x1, x2, r, rfl, hk0, hm, rfl⟩ := h
  refine ⟨_, (pss_cons (ps_expr (pe_cal c_check_two (hr.mono (by decide)) (by rfl) (pa_cons (pv 0) (pa_cons (pv 1) (pa_cons (pv 2) pa_nil))))) (pss_one (ps_ret (pe_cal c_big_of (hr.mono (by decide)) (by rfl) (pa_cons (pv 0) (pa_cons (pe_cal c_joined (hr.mono (by decide)) (by rfl) (pa_cons (pv 0) (pa_cons (pe_fldK (K := T.K) (pv 1) (by rfl) rfl) (pa_cons (pe_fldK (K := T.K) (pv 2) (by rfl) rfl) (pa_cons pe_int pa_nil))))) pa_nil)))))), fun D hrt hnx => ?_⟩
  have ok := okk1 hk0
  suffices hx : XS _ D F0 [some (vr p0), some (va T x1), some (va T x2)] (stt Ω [(k0, machA T p0 x0)] []) by
    rw [show (stt Ω [(k0, machA T p0 x0)] []) = Ω from stt_self (by simp [hk0])] at hx
    exact hx
  unfold M_add at hm
  obtain ⟨z1, hz1, hm⟩ := bnd_some hm
  refine xs_drop (xe_call (xa_cons (xe_var (i := 0) rfl) (xa_cons (xe_var (i := 1) rfl) (xa_cons (xe_var (i := 2) rfl) xa_nil))) ⟨k0, p0, x0, x1, x2, z1, rfl, (stt_get ok (i := 0) rfl), hz1, rfl⟩ cal0) ?_
  show XS (tRet _) _ _ [some (vr p0), some (va T x1), some (va T x2)] (stt Ω [(k0, machA T p0 x0)] [])
  obtain ⟨z2, hz2, hm⟩ := bnd_some hm
  obtain ⟨z3, hz3, hm⟩ := bnd_some hm
  obtain rfl := Option.some.inj hm
  refine xs_ret (xe_call (xa_cons (xe_var (i := 0) rfl) (xa_cons (xe_call (xa_cons (xe_var (i := 0) rfl) (xa_cons (xe_bv bc.cl bc.nv (xe_var (i := 1) rfl)) (xa_cons (xe_bv bc.cl bc.nv (xe_var (i := 2) rfl)) (xa_cons xe_int xa_nil)))) ⟨k0, p0, x0, x1.v, x2.v, (1 : Int), z2, rfl, (stt_get ok (i := 0) rfl), hz2, rfl⟩ (cal1 ok (i := 0) rfl)) xa_nil)) ⟨k0, p0, z2.2, z2.1, z3, rfl, (stt_get ok (i := 0) rfl), hz3, rfl⟩ cal0) hrt.all
noncomputable def M__law_source_of (x0 : Int) : Option (List Int) :=
  (if (decide ((0 : Int) ≤ x0)) = true then some x0 else (chkP (IntMulOk (3 : Int) x0)).bind fun z1 => some (((0 : Int) - ((3 : Int) * x0)) - (1 : Int))).bind fun z2 => (chkP (CPow (10 : Int) (18 : Int))).bind fun z4 => (chkP (IntMulOk z2 (if (decide (((10 : Int) ^ ((18 : Int)).toNat) ≤ z2)) = true then (1 : Int) else 0))).bind fun z5 => (chkP (0 < (2147483647 : Int))).bind fun z6 => some ([(z2 * (if (decide (((10 : Int) ^ ((18 : Int)).toNat) ≤ z2)) = true then (1 : Int) else 0)), (z2 % (2147483647 : Int)), (0 : Int)] : List Int)
def Pre__law_source_of (T : TC) : PreT := fun As Ω R => ∃ (x0 : Int) (r : List Int), As = [va T x0] ∧ M__law_source_of x0 = some r ∧ R = RN (stt Ω [] []) (fun q => lstA T q r)
theorem sc__law_source_of : FnScope ["_law_cell"] ["_law_cell"] (defScope s__law_source_of) := ⟨rfl, rfl, rfl, by decide +kernel, rfl, by decide +kernel, by decide +kernel⟩
theorem ok__law_source_of {f : Addr} {fd : FuncData} (F : Fun T.K "_law_source_of" "_law_source_of" s__law_source_of f fd) (z_int : mg "int" = none) : FnOk P w T.K mg base CX0 1 f fd ["_law_cell"] (mkSp (Pre__law_source_of T)) := by
  refine fn_ok F sc__law_source_of (fun As Ω R h => ?_) (fun cdv A outer s H E hr As Ω R F0 h => ?_)
  · obtain ⟨x0, r, rfl, _⟩ := h
    rfl
  obtain ⟨x0, r, rfl, hm, rfl⟩ := h
  refine ⟨_, (pss_cons (ps_set (i := 0) sc__law_source_of.nd rfl (.inl rfl) (pe_ifExp (pt_cmpR op_ge (pv 0) pe_int (nomark _)) (pv 0) (pe_op op_sub (pe_op op_sub pe_int (pe_op op_mulQ pe_int (pv 0))) pe_int))) (pss_one (ps_ret (pe_lst (pa_cons (pe_op op_mulQ (pv 0) (pe_callTy cr_int (by rfl) z_int (by decide +kernel) (pa_cons (pe_cmpR op_ge (pv 0) (pe_op op_pow pe_int pe_int) (nomark _)) pa_nil))) (pa_cons (pe_op op_mod (pe_callTy cr_int (by rfl) z_int (by decide +kernel) (pa_cons (pv 0) pa_nil)) pe_int) (pa_cons pe_int pa_nil))))))), fun D hrt hnx => ?_⟩
  have ok : Okk Ω [] := okk0
  suffices hx : XS _ D F0 [some (va T x0)] (stt Ω [] []) by
    rw [show (stt Ω [] []) = Ω from stt_self (by simp)] at hx
    exact hx
  unfold M__law_source_of at hm
  obtain ⟨z2, hz2, hm⟩ := bnd_some hm
  refine xs_set (A := va T z2) (show XE _ _ _ (va T z2) (stt Ω [] []) from ?q3) ?_
  case q3 =>
    exact (by
      by_cases hc : (decide ((0 : Int) ≤ x0)) = true
      · rw [if_pos hc] at hz2
        obtain rfl := Option.some.inj hz2
        exact xe_ifT (xt_eq (xt_test (T := T) (xe_ge (xe_var (i := 0) rfl) xe_int)) hc) (xe_var (i := 0) rfl)
      · rw [if_neg hc] at hz2
        obtain ⟨z1, hz1, hz2⟩ := bnd_some hz2
        obtain rfl := Option.some.inj hz2
        exact xe_ifF (xt_eq (xt_test (T := T) (xe_ge (xe_var (i := 0) rfl) xe_int)) (nt hc)) (xe_sub (xe_sub xe_int (xe_mul (chkP_some hz1) xe_int (xe_var (i := 0) rfl))) xe_int))
  show XS (tRet _) _ _ [some (va T z2)] (stt Ω [] [])
  obtain ⟨z4, hz4, hm⟩ := bnd_some hm
  obtain ⟨z5, hz5, hm⟩ := bnd_some hm
  obtain ⟨z6, hz6, hm⟩ := bnd_some hm
  obtain rfl := Option.some.inj hm
  refine xs_ret (xn_lst (T := T) (l := [(z2 * (if (decide (((10 : Int) ^ ((18 : Int)).toNat) ≤ z2)) = true then (1 : Int) else 0)), (z2 % (2147483647 : Int)), (0 : Int)]) (xa_cons (xe_mul (chkP_some hz5) (xe_var (i := 0) rfl) (xe_intb (xe_ge (xe_var (i := 0) rfl) (xe_pow (chkP_some hz4) xe_int xe_int)))) (xa_cons (xe_mod (chkP_some hz6) (xe_int1 (xe_var (i := 0) rfl)) xe_int) (xa_cons xe_int xa_nil))) (by show 3 ≤ sizeLine; decide)) (RT.allN hrt)
noncomputable def M__law_next (x0 : List Int) (x1 : Int) : Option (Int × List Int) :=
  (atI x0 (0 : Int)).bind fun z1 => if (decide ((0 : Int) < z1)) = true then (atI x0 (0 : Int)).bind fun z2 => (chkP (0 < x1)).bind fun z3 => (some (z2 % x1)).bind fun y4 => (atI x0 (0 : Int)).bind fun z5 => (chkP (CDivW z5 x1)).bind fun z6 => (some (z5 / x1)).bind fun y7 => (ixN x0.length (0 : Int)).bind fun z8 => some (y4, (x0.set z8 y7)) else (atI x0 (2 : Int)).bind fun z9 => (some (z9 + (1 : Int))).bind fun y10 => (ixN x0.length (2 : Int)).bind fun z11 => (atI (x0.set z11 y10) (1 : Int)).bind fun z12 => (atI (x0.set z11 y10) (2 : Int)).bind fun z13 => (chkP (IntMulOk (104729 : Int) z13)).bind fun z14 => (chkP (0 < (2147483647 : Int))).bind fun z15 => (some (((z12 + ((104729 : Int) * z13)) + (7919 : Int)) % (2147483647 : Int))).bind fun y16 => (chkP (IntMulOk y16 (48271 : Int))).bind fun z17 => (chkP (0 < (2147483647 : Int))).bind fun z18 => (some ((y16 * (48271 : Int)) % (2147483647 : Int))).bind fun y19 => (chkP (CDivW y19 (1009 : Int))).bind fun z20 => (chkP (IntMulOk y19 ((y19 / (1009 : Int)) + (69621 : Int)))).bind fun z21 => (chkP (0 < (2147483647 : Int))).bind fun z22 => (some ((y19 * ((y19 / (1009 : Int)) + (69621 : Int))) % (2147483647 : Int))).bind fun y23 => (chkP (CDivW y23 (2003 : Int))).bind fun z24 => (chkP (IntMulOk y23 ((y23 / (2003 : Int)) + (40692 : Int)))).bind fun z25 => (chkP (0 < (2147483399 : Int))).bind fun z26 => (some ((y23 * ((y23 / (2003 : Int)) + (40692 : Int))) % (2147483399 : Int))).bind fun y27 => (chkP (CDivW y27 (7 : Int))).bind fun z28 => (chkP (0 < x1)).bind fun z29 => some (((y27 / (7 : Int)) % x1), (x0.set z11 y10))
def Pre__law_next (T : TC) : PreT := fun As Ω R => ∃ (k0 : Nat) (p0 : Addr) (x0 : List Int) (x1 : Int) (r : Int × List Int), As = [vr p0, va T x1] ∧ Ω[k0]? = some (lstA T p0 x0) ∧ M__law_next x0 x1 = some r ∧ R = RV (va T r.1) (stt Ω [(k0, lstA T p0 r.2)] [])
theorem sc__law_next : FnScope ["_law_source", "_law_times", "_law_found", "_law_prime", "_law_number"] ["_law_source", "_law_times"] (defScope s__law_next) := ⟨rfl, rfl, rfl, by decide +kernel, rfl, by decide +kernel, by decide +kernel⟩
theorem ok__law_next {f : Addr} {fd : FuncData} (F : Fun T.K "_law_next" "_law_next" s__law_next f fd) (z_int : mg "int" = none) : FnOk P w T.K mg base CX0 1 f fd ["_law_source", "_law_times"] (mkSp (Pre__law_next T)) := by
  refine fn_ok F sc__law_next (fun As Ω R h => ?_) (fun cdv A outer s H E hr As Ω R F0 h => ?_)
  · obtain ⟨k0, p0, x0, x1, r, rfl, _⟩ := h
    rfl
  obtain ⟨k0, p0, x0, x1, r, rfl, hk0, hm, rfl⟩ := h
  refine ⟨_, (pss_cons (ps_if (pt_cmpR op_gt (pe_ix (ix_seqK (K := T.K) rfl) (pv 0) pe_int (by intro _ _; rfl)) pe_int (nomark _)) (pss_cons (ps_set (i := 2) sc__law_next.nd rfl (.inl rfl) (pe_op op_mod (pe_callTy cr_int (by rfl) z_int (by decide +kernel) (pa_cons (pe_ix (ix_seqK (K := T.K) rfl) (pv 0) pe_int (by intro _ _; rfl)) pa_nil)) (pv 1))) (pss_cons (ps_asg (pe_op op_fdivW (pe_ix (ix_seqK (K := T.K) rfl) (pv 0) pe_int (by intro _ _; rfl)) (pv 1)) (pg_sub (pv 0) pe_int set_list)) (pss_one (ps_ret (pv 2))))) pss_nil) (pss_cons (ps_asg (pe_op op_addQ (pe_ix (ix_seqK (K := T.K) rfl) (pv 0) pe_int (by intro _ _; rfl)) pe_int) (pg_sub (pv 0) pe_int set_list)) (pss_cons (ps_set (i := 3) sc__law_next.nd rfl (.inl rfl) pe_int) (pss_cons (ps_set (i := 4) sc__law_next.nd rfl (.inl rfl) (pe_op op_mod (pe_callTy cr_int (by rfl) z_int (by decide +kernel) (pa_cons (pe_op op_addQ (pe_op op_addQ (pe_ix (ix_seqK (K := T.K) rfl) (pv 0) pe_int (by intro _ _; rfl)) (pe_op op_mulQ pe_int (pe_ix (ix_seqK (K := T.K) rfl) (pv 0) pe_int (by intro _ _; rfl)))) pe_int) pa_nil)) (pv 3))) (pss_cons (ps_set (i := 4) sc__law_next.nd rfl (.inl rfl) (pe_op op_mod (pe_callTy cr_int (by rfl) z_int (by decide +kernel) (pa_cons (pe_op op_mulQ (pv 4) pe_int) pa_nil)) (pv 3))) (pss_cons (ps_set (i := 4) sc__law_next.nd rfl (.inl rfl) (pe_op op_mod (pe_callTy cr_int (by rfl) z_int (by decide +kernel) (pa_cons (pe_op op_mulQ (pv 4) (pe_op op_addQ (pe_op op_fdivW (pv 4) pe_int) pe_int)) pa_nil)) (pv 3))) (pss_cons (ps_set (i := 4) sc__law_next.nd rfl (.inl rfl) (pe_op op_mod (pe_callTy cr_int (by rfl) z_int (by decide +kernel) (pa_cons (pe_op op_mulQ (pv 4) (pe_op op_addQ (pe_op op_fdivW (pv 4) pe_int) pe_int)) pa_nil)) pe_int)) (pss_one (ps_ret (pe_op op_mod (pe_callTy cr_int (by rfl) z_int (by decide +kernel) (pa_cons (pe_op op_fdivW (pv 4) pe_int) pa_nil)) (pv 1))))))))))), fun D hrt hnx => ?_⟩
  have ok := okk1 hk0
  suffices hx : XS _ D F0 [some (vr p0), some (va T x1), none, none, none] (stt Ω [(k0, lstA T p0 (x0 : List Int))] []) by
    rw [show (stt Ω [(k0, lstA T p0 (x0 : List Int))] []) = Ω from stt_self (by simp [hk0])] at hx
    exact hx
  unfold M__law_next at hm
  obtain ⟨z1, hz1, hm⟩ := bnd_some hm
  by_cases hc : (decide ((0 : Int) < z1)) = true
  · rw [if_pos hc] at hm
    refine xs_ifT (xt_eq (xt_test (T := T) (xe_gt (xe_ix (xe_var (i := 0) rfl) xe_int (isL_M (stt_get ok (i := 0) rfl)) hz1) xe_int)) hc) ?_
    obtain ⟨z2, hz2, hm⟩ := bnd_some hm
    obtain ⟨z3, hz3, hm⟩ := bnd_some hm
    obtain ⟨y4, hy4, hm⟩ := bnd_some hm
    refine xs_set (A := va T y4) (xe_eq (xe_mod (chkP_some hz3) (xe_int1 (xe_ix (xe_var (i := 0) rfl) xe_int (isL_M (stt_get ok (i := 0) rfl)) hz2)) (xe_var (i := 1) rfl)) (Option.some.inj hy4)) ?_
    show XS (tSeq _ _) _ _ [some (vr p0), some (va T x1), some (va T y4), none, none] (stt Ω [(k0, lstA T p0 (x0 : List Int))] [])
    obtain ⟨z5, hz5, hm⟩ := bnd_some hm
    obtain ⟨z6, hz6, hm⟩ := bnd_some hm
    obtain ⟨y7, hy7, hm⟩ := bnd_some hm
    obtain ⟨z8, hz8, hm⟩ := bnd_some hm
    refine xs_setL (xe_eq (xe_fdiv (chkP_some hz6) (xe_ix (xe_var (i := 0) rfl) xe_int (isL_M (stt_get ok (i := 0) rfl)) hz5) (xe_var (i := 1) rfl)) (Option.some.inj hy7)) (xe_var (i := 0) rfl) xe_int (stt_get ok (i := 0) rfl) hz8 ?_
    rw [(stt_set ok (i := 0) rfl)]
    show XS (tRet _) _ _ [some (vr p0), some (va T x1), some (va T y4), none, none] (stt Ω [(k0, lstA T p0 ((x0.set z8 y7) : List Int))] [])
    obtain rfl := Option.some.inj hm
    refine xs_ret (xe_var (i := 2) rfl) hrt.all
  · rw [if_neg hc] at hm
    refine xs_ifN (xt_eq (xt_test (T := T) (xe_gt (xe_ix (xe_var (i := 0) rfl) xe_int (isL_M (stt_get ok (i := 0) rfl)) hz1) xe_int)) (nt hc)) ?_
    show XS (tSeq _ _) _ _ [some (vr p0), some (va T x1), none, none, none] (stt Ω [(k0, lstA T p0 (x0 : List Int))] [])
    obtain ⟨z9, hz9, hm⟩ := bnd_some hm
    obtain ⟨y10, hy10, hm⟩ := bnd_some hm
    obtain ⟨z11, hz11, hm⟩ := bnd_some hm
    refine xs_setL (xe_eq (xe_add (xe_ix (xe_var (i := 0) rfl) xe_int (isL_M (stt_get ok (i := 0) rfl)) hz9) xe_int) (Option.some.inj hy10)) (xe_var (i := 0) rfl) xe_int (stt_get ok (i := 0) rfl) hz11 ?_
    rw [(stt_set ok (i := 0) rfl)]
    show XS (tSeq _ _) _ _ [some (vr p0), some (va T x1), none, none, none] (stt Ω [(k0, lstA T p0 ((x0.set z11 y10) : List Int))] [])
    refine xs_set (A := va T (2147483647 : Int)) xe_int ?_
    show XS (tSeq _ _) _ _ [some (vr p0), some (va T x1), none, some (va T (2147483647 : Int)), none] (stt Ω [(k0, lstA T p0 ((x0.set z11 y10) : List Int))] [])
    obtain ⟨z12, hz12, hm⟩ := bnd_some hm
    obtain ⟨z13, hz13, hm⟩ := bnd_some hm
    obtain ⟨z14, hz14, hm⟩ := bnd_some hm
    obtain ⟨z15, hz15, hm⟩ := bnd_some hm
    obtain ⟨y16, hy16, hm⟩ := bnd_some hm
    refine xs_set (A := va T y16) (xe_eq (xe_mod (chkP_some hz15) (xe_int1 (xe_add (xe_add (xe_ix (xe_var (i := 0) rfl) xe_int (isL_M (stt_get ok (i := 0) rfl)) hz12) (xe_mul (chkP_some hz14) xe_int (xe_ix (xe_var (i := 0) rfl) xe_int (isL_M (stt_get ok (i := 0) rfl)) hz13))) xe_int)) (xe_var (i := 3) rfl)) (Option.some.inj hy16)) ?_
    show XS (tSeq _ _) _ _ [some (vr p0), some (va T x1), none, some (va T (2147483647 : Int)), some (va T y16)] (stt Ω [(k0, lstA T p0 ((x0.set z11 y10) : List Int))] [])
    obtain ⟨z17, hz17, hm⟩ := bnd_some hm
    obtain ⟨z18, hz18, hm⟩ := bnd_some hm
    obtain ⟨y19, hy19, hm⟩ := bnd_some hm
    refine xs_set (A := va T y19) (xe_eq (xe_mod (chkP_some hz18) (xe_int1 (xe_mul (chkP_some hz17) (xe_var (i := 4) rfl) xe_int)) (xe_var (i := 3) rfl)) (Option.some.inj hy19)) ?_
    show XS (tSeq _ _) _ _ [some (vr p0), some (va T x1), none, some (va T (2147483647 : Int)), some (va T y19)] (stt Ω [(k0, lstA T p0 ((x0.set z11 y10) : List Int))] [])
    obtain ⟨z20, hz20, hm⟩ := bnd_some hm
    obtain ⟨z21, hz21, hm⟩ := bnd_some hm
    obtain ⟨z22, hz22, hm⟩ := bnd_some hm
    obtain ⟨y23, hy23, hm⟩ := bnd_some hm
    refine xs_set (A := va T y23) (xe_eq (xe_mod (chkP_some hz22) (xe_int1 (xe_mul (chkP_some hz21) (xe_var (i := 4) rfl) (xe_add (xe_fdiv (chkP_some hz20) (xe_var (i := 4) rfl) xe_int) xe_int))) (xe_var (i := 3) rfl)) (Option.some.inj hy23)) ?_
    show XS (tSeq _ _) _ _ [some (vr p0), some (va T x1), none, some (va T (2147483647 : Int)), some (va T y23)] (stt Ω [(k0, lstA T p0 ((x0.set z11 y10) : List Int))] [])
    obtain ⟨z24, hz24, hm⟩ := bnd_some hm
    obtain ⟨z25, hz25, hm⟩ := bnd_some hm
    obtain ⟨z26, hz26, hm⟩ := bnd_some hm
    obtain ⟨y27, hy27, hm⟩ := bnd_some hm
    refine xs_set (A := va T y27) (xe_eq (xe_mod (chkP_some hz26) (xe_int1 (xe_mul (chkP_some hz25) (xe_var (i := 4) rfl) (xe_add (xe_fdiv (chkP_some hz24) (xe_var (i := 4) rfl) xe_int) xe_int))) xe_int) (Option.some.inj hy27)) ?_
    show XS (tRet _) _ _ [some (vr p0), some (va T x1), none, some (va T (2147483647 : Int)), some (va T y27)] (stt Ω [(k0, lstA T p0 ((x0.set z11 y10) : List Int))] [])
    obtain ⟨z28, hz28, hm⟩ := bnd_some hm
    obtain ⟨z29, hz29, hm⟩ := bnd_some hm
    obtain rfl := Option.some.inj hm
    refine xs_ret (xe_mod (chkP_some hz29) (xe_int1 (xe_fdiv (chkP_some hz28) (xe_var (i := 4) rfl) xe_int)) (xe_var (i := 1) rfl)) hrt.all
noncomputable def M__law_one (x0 : List Int) (x1 : List Int) : Option (Int × List Int) :=
  (M__law_next x0 (x1.length : Int)).bind fun z1 => (atI x1 z1.1).bind fun z2 => some (z2, z1.2)
def Pre__law_one (T : TC) : PreT := fun As Ω R => ∃ (k0 : Nat) (p0 : Addr) (x0 : List Int) (x1 : List Int) (r : Int × List Int), As = [vr p0, va T (LF.mk x1)] ∧ Ω[k0]? = some (lstA T p0 x0) ∧ M__law_one x0 x1 = some r ∧ R = RV (va T r.1) (stt Ω [(k0, lstA T p0 r.2)] [])
theorem sc__law_one : FnScope ["_law_source", "_law_some"] ["_law_source", "_law_some"] (defScope s__law_one) := ⟨rfl, rfl, rfl, by decide +kernel, rfl, by decide +kernel, by decide +kernel⟩
theorem ok__law_one {f : Addr} {fd : FuncData} (F : Fun T.K "_law_one" "_law_one" s__law_one f fd) (z_len : mg "len" = none) (c__law_next : Cal P w T.K mg base 1 "_law_next" ["_law_source", "_law_times"] (mkSp (Pre__law_next T))) : FnOk P w T.K mg base CX0 2 f fd ["_law_source", "_law_some"] (mkSp (Pre__law_one T)) := by
  refine fn_ok F sc__law_one (fun As Ω R h => ?_) (fun cdv A outer s H E hr As Ω R F0 h => ?_)
  · obtain ⟨k0, p0, x0, x1, r, rfl, _⟩ := h
    rfl
  obtain ⟨k0, p0, x0, x1, r, rfl, hk0, hm, rfl⟩ := h
  refine ⟨_, (pss_one (ps_ret (pe_ix (ix_seqK (K := T.K) rfl) (pv 1) (pe_cal c__law_next (hr.mono (by decide)) (by rfl) (pa_cons (pv 0) (pa_cons (pe_callB (cr_lenK (K := T.K) rfl) (by rfl) z_len PySem.boot_len (pa_cons (pv 1) pa_nil)) pa_nil))) (by intro _ _; rfl)))), fun D hrt hnx => ?_⟩
  have ok := okk1 hk0
  suffices hx : XS _ D F0 [some (vr p0), some (va T (LF.mk x1))] (stt Ω [(k0, lstA T p0 (x0 : List Int))] []) by
    rw [show (stt Ω [(k0, lstA T p0 (x0 : List Int))] []) = Ω from stt_self (by simp [hk0])] at hx
    exact hx
  unfold M__law_one at hm
  obtain ⟨z1, hz1, hm⟩ := bnd_some hm
  obtain ⟨z2, hz2, hm⟩ := bnd_some hm
  obtain rfl := Option.some.inj hm
  refine xs_ret (xe_ix (xe_var (i := 1) rfl) (xe_call (xa_cons (xe_var (i := 0) rfl) (xa_cons (xe_lenL (xe_var (i := 1) rfl) isL_LF) xa_nil)) ⟨k0, p0, x0, (x1.length : Int), z1, rfl, (stt_get ok (i := 0) rfl), hz1, rfl⟩ (cal1 ok (i := 0) rfl)) isL_LF hz2) hrt.all
noncomputable def M__law_cell_at (x0 : List Int) (x1 : Int) : Option Int :=
  (chkP ((cut x0 (some x1) (some (x1 + (1 : Int)))).length + ([(0 : Int)] : List Int).length ≤ sizeLine)).bind fun z1 => (atI ((cut x0 (some x1) (some (x1 + (1 : Int)))) ++ ([(0 : Int)] : List Int)) (0 : Int)).bind fun z2 => some z2
def Pre__law_cell_at (T : TC) : PreT := fun As Ω R => ∃ (x0 : List Int) (x1 : Int) (r : Int), As = [va T (SF.mk x0), va T x1] ∧ M__law_cell_at x0 x1 = some r ∧ R = RV (va T r) (stt Ω [] [])
theorem sc__law_cell_at : FnScope ["_law_script", "_law_index"] ["_law_script", "_law_index"] (defScope s__law_cell_at) := ⟨rfl, rfl, rfl, by decide +kernel, rfl, by decide +kernel, by decide +kernel⟩
theorem ok__law_cell_at {f : Addr} {fd : FuncData} (F : Fun T.K "_law_cell_at" "_law_cell_at" s__law_cell_at f fd)  : FnOk P w T.K mg base CX0 1 f fd ["_law_script", "_law_index"] (mkSp (Pre__law_cell_at T)) := by
  refine fn_ok F sc__law_cell_at (fun As Ω R h => ?_) (fun cdv A outer s H E hr As Ω R F0 h => ?_)
  · obtain ⟨x0, x1, r, rfl, _⟩ := h
    rfl
  obtain ⟨x0, x1, r, rfl, hm, rfl⟩ := h
  refine ⟨_, (pss_one (ps_ret (pe_ix (ix_seqK (K := T.K) rfl) (pe_op op_addQ (pe_slice (sl_listK (K := T.K) rfl) (pv 0) (po_some (pv 1)) (po_some (pe_op op_addQ (pv 1) pe_int))) (pe_lst (pa_cons pe_int pa_nil))) pe_int (by intro _ _; rfl)))), fun D hrt hnx => ?_⟩
  have ok : Okk Ω [] := okk0
  suffices hx : XS _ D F0 [some (va T (SF.mk x0)), some (va T x1)] (stt Ω [] []) by
    rw [show (stt Ω [] []) = Ω from stt_self (by simp)] at hx
    exact hx
  unfold M__law_cell_at at hm
  obtain ⟨z1, hz1, hm⟩ := bnd_some hm
  obtain ⟨z2, hz2, hm⟩ := bnd_some hm
  obtain rfl := Option.some.inj hm
  refine xs_ret (xe_ix (xe_cat (xe_sliceL (xe_var (i := 0) rfl) (xo_some (T := T) (xe_var (i := 1) rfl)) (xo_some (T := T) (xe_add (xe_var (i := 1) rfl) xe_int)) isL_SF) (xe_lst (l := [(0 : Int)]) (xa_cons xe_int xa_nil) (by show 1 ≤ sizeLine; decide)) isLs_LF isLs_LF (chkP_some hz1)) xe_int isL_LF hz2) hrt.all
noncomputable def M__law_machine (x0 : List Int) : Option (MS × List Int) :=
  (M__law_next x0 (23 : Int)).bind fun z1 => (some ((8 : Int) + z1.1)).bind fun y2 => (M__law_next z1.2 (8 : Int)).bind fun z3 => (M__law_next z3.2 (999 : Int)).bind fun z4 => (M__law_one z4.2 ([((2 : Int) + z3.1), (70 : Int), ((2 : Int) + z4.1)] : List Int)).bind fun z5 => (M__law_one z5.2 ([(8 : Int), (8 : Int), (9 : Int), (15 : Int), (30 : Int), (30 : Int), y2] : List Int)).bind fun z6 => (chkP ((8 ≤ z6.1 ∧ z6.1 ≤ 30) ∧ 2 ≤ z5.1 ∧ z5.1 ≤ 1000)).bind fun z7 => some ((MS.fresh z6.1 z5.1), z6.2)
def Pre__law_machine (T : TC) : PreT := fun As Ω R => ∃ (k0 : Nat) (p0 : Addr) (x0 : List Int) (r : MS × List Int), As = [vr p0] ∧ Ω[k0]? = some (lstA T p0 x0) ∧ M__law_machine x0 = some r ∧ R = RN (stt Ω [(k0, lstA T p0 r.2)] []) (fun q => machA T q r.1)
theorem sc__law_machine : FnScope ["_law_source", "_law_drawn", "_law_cut"] ["_law_source"] (defScope s__law_machine) := ⟨rfl, rfl, rfl, by decide +kernel, rfl, by decide +kernel, by decide +kernel⟩
theorem ok__law_machine {f : Addr} {fd : FuncData} (F : Fun T.K "_law_machine" "_law_machine" s__law_machine f fd) (c__law_next : Cal P w T.K mg base 1 "_law_next" ["_law_source", "_law_times"] (mkSp (Pre__law_next T))) (c__law_one : Cal P w T.K mg base 2 "_law_one" ["_law_source", "_law_some"] (mkSp (Pre__law_one T))) (c_Machine2 : CalC P w T.K mg base 3 "Machine" (T.C 0) ["self", "bits", "cutoff"] [] (mkSp (Pre_Machine T))) : FnOk P w T.K mg base CX0 5 f fd ["_law_source"] (mkSp (Pre__law_machine T)) := by
  refine fn_ok F sc__law_machine (fun As Ω R h => ?_) (fun cdv A outer s H E hr As Ω R F0 h => ?_)
  · obtain ⟨k0, p0, x0, r, rfl, _⟩ := h
    rfl
  obtain ⟨k0, p0, x0, r, rfl, hk0, hm, rfl⟩ := h
  refine ⟨_, (pss_cons (ps_set (i := 1) sc__law_machine.nd rfl (.inl rfl) (pe_op op_addQ pe_int (pe_cal c__law_next (hr.mono (by decide)) (by rfl) (pa_cons (pv 0) (pa_cons pe_int pa_nil))))) (pss_cons (ps_set (i := 2) sc__law_machine.nd rfl (.inl rfl) (pe_cal c__law_one (hr.mono (by decide)) (by rfl) (pa_cons (pv 0) (pa_cons (pe_lst (pa_cons (pe_op op_addQ pe_int (pe_cal c__law_next (hr.mono (by decide)) (by rfl) (pa_cons (pv 0) (pa_cons pe_int pa_nil)))) (pa_cons pe_int (pa_cons (pe_op op_addQ pe_int (pe_cal c__law_next (hr.mono (by decide)) (by rfl) (pa_cons (pv 0) (pa_cons pe_int pa_nil)))) pa_nil)))) pa_nil)))) (pss_one (ps_ret (pe_calC c_Machine2 (hr.mono (by decide)) (by rfl) (pa_cons (pe_cal c__law_one (hr.mono (by decide)) (by rfl) (pa_cons (pv 0) (pa_cons (pe_lst (pa_cons pe_int (pa_cons pe_int (pa_cons pe_int (pa_cons pe_int (pa_cons pe_int (pa_cons pe_int (pa_cons (pv 1) pa_nil)))))))) pa_nil))) (pa_cons (pv 2) pa_nil))))))), fun D hrt hnx => ?_⟩
  have ok := okk1 hk0
  suffices hx : XS _ D F0 [some (vr p0), none, none] (stt Ω [(k0, lstA T p0 (x0 : List Int))] []) by
    rw [show (stt Ω [(k0, lstA T p0 (x0 : List Int))] []) = Ω from stt_self (by simp [hk0])] at hx
    exact hx
  unfold M__law_machine at hm
  obtain ⟨z1, hz1, hm⟩ := bnd_some hm
  obtain ⟨y2, hy2, hm⟩ := bnd_some hm
  refine xs_set (A := va T y2) (xe_eq (xe_add xe_int (xe_call (xa_cons (xe_var (i := 0) rfl) (xa_cons xe_int xa_nil)) ⟨k0, p0, x0, (23 : Int), z1, rfl, (stt_get ok (i := 0) rfl), hz1, rfl⟩ (cal1 ok (i := 0) rfl))) (Option.some.inj hy2)) ?_
  show XS (tSeq _ _) _ _ [some (vr p0), some (va T y2), none] (stt Ω [(k0, lstA T p0 (z1.2 : List Int))] [])
  obtain ⟨z3, hz3, hm⟩ := bnd_some hm
  obtain ⟨z4, hz4, hm⟩ := bnd_some hm
  obtain ⟨z5, hz5, hm⟩ := bnd_some hm
  refine xs_set (A := va T z5.1) (xe_call (xa_cons (xe_var (i := 0) rfl) (xa_cons (xe_lst (l := [((2 : Int) + z3.1), (70 : Int), ((2 : Int) + z4.1)]) (xa_cons (xe_add xe_int (xe_call (xa_cons (xe_var (i := 0) rfl) (xa_cons xe_int xa_nil)) ⟨k0, p0, z1.2, (8 : Int), z3, rfl, (stt_get ok (i := 0) rfl), hz3, rfl⟩ (cal1 ok (i := 0) rfl))) (xa_cons xe_int (xa_cons (xe_add xe_int (xe_call (xa_cons (xe_var (i := 0) rfl) (xa_cons xe_int xa_nil)) ⟨k0, p0, z3.2, (999 : Int), z4, rfl, (stt_get ok (i := 0) rfl), hz4, rfl⟩ (cal1 ok (i := 0) rfl))) xa_nil))) (by show 3 ≤ sizeLine; decide)) xa_nil)) ⟨k0, p0, z4.2, ([((2 : Int) + z3.1), (70 : Int), ((2 : Int) + z4.1)] : List Int), z5, rfl, (stt_get ok (i := 0) rfl), hz5, rfl⟩ (cal1 ok (i := 0) rfl)) ?_
  show XS (tRet _) _ _ [some (vr p0), some (va T y2), some (va T z5.1)] (stt Ω [(k0, lstA T p0 (z5.2 : List Int))] [])
  obtain ⟨z6, hz6, hm⟩ := bnd_some hm
  obtain ⟨z7, hz7, hm⟩ := bnd_some hm
  obtain rfl := Option.some.inj hm
  refine xs_ret (xn_make (Ds := []) (xa_cons (xe_call (xa_cons (xe_var (i := 0) rfl) (xa_cons (xe_lst (l := [(8 : Int), (8 : Int), (9 : Int), (15 : Int), (30 : Int), (30 : Int), y2]) (xa_cons xe_int (xa_cons xe_int (xa_cons xe_int (xa_cons xe_int (xa_cons xe_int (xa_cons xe_int (xa_cons (xe_var (i := 1) rfl) xa_nil))))))) (by show 7 ≤ sizeLine; decide)) xa_nil)) ⟨k0, p0, z5.2, ([(8 : Int), (8 : Int), (9 : Int), (15 : Int), (30 : Int), (30 : Int), y2] : List Int), z6, rfl, (stt_get ok (i := 0) rfl), hz6, rfl⟩ (cal1 ok (i := 0) rfl)) (xa_cons (xe_var (i := 2) rfl) xa_nil)) (fun _ => .nil) (fun q => ⟨_, q, z6.1, z5.1, rfl, chkP_some hz7, rfl, rfl⟩)) (RT.allN hrt)
noncomputable def M__law_said (x0 : (Option XC)) : Option (EN Str) :=
  onC x0 (fun r => onF (XC.isF 0 "argument" r) (fun xx => some (EN.ok xx)) (if XC.isZ 2 r = true then (some ("great" : Str)).bind fun y1 => some (EN.ok y1) else none)) (some (EN.no : EN Str))
def Pre__law_said (T : TC) : PreLX := fun fL actL As Ω R => ∃ (x0 : Option XC) (r : (EN Str)), As = [askX T fL actL (stt Ω [] []) (stt Ω [] []) x0] ∧ M__law_said x0 = some r ∧ R = RV (va T r) (stt Ω [] [])
theorem sc__law_said : FnScope ["_law_call", "_law_found", "e"] ["_law_call"] (defScope s__law_said) := ⟨rfl, rfl, rfl, by decide +kernel, rfl, by decide +kernel, by decide +kernel⟩
theorem ok__law_said {f : Addr} {fd : FuncData} (F : Fun T.K "_law_said" "_law_said" s__law_said f fd) (gx_InvalidBound : mg "InvalidBound" = some (.ref (T.C 300))) (gx_TooGreat : mg "TooGreat" = some (.ref (T.C 302))) (gx_BitsError : mg "BitsError" = some (.ref (T.C 301))) (mx_InvalidBound_InvalidBound : PySem.W.exmOne T.K (.ref (T.C 300)) (.ref (T.C 300)) = some true) (xf_InvalidBound : XfC T.K (T.C 300)) (no_InvalidBound : PySem.W.findIn T.K (.ref (T.C 300)) "argument" = some none) (mx_TooGreat_InvalidBound : PySem.W.exmOne T.K (.ref (T.C 302)) (.ref (T.C 300)) = some false) (mx_TooGreat_TooGreat : PySem.W.exmOne T.K (.ref (T.C 302)) (.ref (T.C 302)) = some true) (hmg : mg "_law_said" = some (.ref f)) (hbd : Binds T.K fd ["_law_call"] []) : CalLX P w T.K mg base 24 26 "_law_said" ["_law_call"] (Pre__law_said T) := by
  refine fnLX_ok F sc__law_said (fun fL actL As Ω R h => ?_) (by decide) (fun cdv A outer s H fL actL hr hact As Ω R F0 h => ?_) hmg hbd
  · obtain ⟨x0, r, rfl, _⟩ := h
    rfl
  obtain ⟨x0, r, rfl, hm, rfl⟩ := h
  refine ⟨_, (pss_cons (ps_set (i := 1) sc__law_said.nd rfl (.inl rfl) pe_non) (pss_cons (ps_tryK (K := T.K) rfl rfl rfl (fun W pn xe tk hp => (pss_one (ps_expr (hact 0 "_law_call" _ _ pn xe W rfl (.inl rfl) (by decide) (by decide) tk)))) (.named (i := 2) sc__law_said.nd rfl rfl ⟨by rfl, by decide, .inl gx_InvalidBound⟩ (fun a oe cls d pn hz hf => (pss_one (ps_set (i := 1) sc__law_said.nd rfl (.inl rfl) (pe_xf xf_InvalidBound no_InvalidBound hz hf (pv 2))))) (.plain ⟨by rfl, by decide, .inl gx_TooGreat⟩ (fun a oe cls d pn hz hf => (pss_one (ps_set (i := 1) sc__law_said.nd rfl (.inl rfl) pe_str))) (.plain ⟨by rfl, by decide, .inl gx_BitsError⟩ (fun a oe cls d pn hz hf => pss_never) .nil)))) (pss_one (ps_ret (pv 1))))), fun D hrt hnx => ?_⟩
  have ok : Okk Ω [] := okk0
  suffices hx : XS _ D F0 [some (askX T fL actL (stt Ω [] []) (stt Ω [] []) x0), none, none] (stt Ω [] []) by
    exact Eq.mp (congrArg (fun W => XS _ D F0 [some (askX T fL actL (stt Ω [] []) (stt Ω [] []) x0), none, none] W) (show (stt Ω [] []) = Ω from stt_self (by simp))) hx
  unfold M__law_said at hm
  refine xs_set (A := va T ()) xe_non ?_
  show XS (tSeq _ _) _ _ [some (askX T fL actL (stt Ω [] []) (stt Ω [] []) x0), some (va T ()), none] (stt Ω [] [])
  cases x0 with
  | none =>
    rw [onC_n rfl] at hm
    refine xs_seq (xs_tryC fun W => ?_)
    refine xs_drop1 (xe_askX (i := 0) rfl) ?_
    refine xs_nxI ?_
    show XS (tRet _) _ _ [some (askX T fL actL (stt Ω [] []) (stt Ω [] []) none), some (va T ()), none] (stt Ω [] [])
    obtain rfl := Option.some.inj hm
    refine xs_ret (xe_enN (xe_var (i := 1) rfl)) hrt.all
  | some r =>
    rw [onC_s rfl] at hm
    refine xs_seq (xs_tryCX (r := r) (Γ' := [some (askX T fL actL (stt Ω [] []) (stt Ω [] []) (some r)), some (va T ()), none]) (Ω' := (stt Ω [] [])) (fun W hw => xs_dropX (xr_askX (i := 0) rfl hw)) ?_)
    cases hF : XC.isF 0 "argument" r with
    | some xx =>
      rw [onF_s hF] at hm
      have hmq := hm
      obtain rfl := isF_some hF
      have hm := hmq
      refine cl_yesF mx_InvalidBound_InvalidBound (fun a dd => ?_)
      refine xs_set1 (A := va T xx) (xe_xf (xe_var (i := 2) rfl)) ?_
      refine nx_un ?_
      refine xs_nxI ?_
      show XS (tRet _) _ _ [some (askX T fL actL (stt Ω [] []) (stt Ω [] []) (some (.f 0 "argument" xx))), some (va T xx), none] (stt Ω [] [])
      obtain rfl := Option.some.inj hm
      refine xs_ret (xe_enO (xe_var (i := 1) rfl)) hrt.all
    | none =>
      rw [onF_n hF] at hm
      by_cases hZ : XC.isZ 2 r = true
      · rw [if_pos hZ] at hm
        have hmq := hm
        obtain rfl := isZ_true hZ
        have hm := hmq
        refine cl_no mx_TooGreat_InvalidBound (cl_yes mx_TooGreat_TooGreat (fun a d => ?_))
        obtain ⟨y1, hy1, hm⟩ := bnd_some hm
        refine xs_set1 (A := va T y1) (xe_eq xe_str (Option.some.inj hy1)) ?_
        refine xs_nxI ?_
        show XS (tRet _) _ _ [some (askX T fL actL (stt Ω [] []) (stt Ω [] []) (some (.z 2))), some (va T y1), none] (stt Ω [] [])
        obtain rfl := Option.some.inj hm
        refine xs_ret (xe_enO (xe_var (i := 1) rfl)) hrt.all
      · rw [if_neg hZ] at hm
        cases hm
def Pre__law_said__n (T : TC) : PreLX := fun fL actL As Ω R => ∃ (Ω' : List OA), As = [askX T fL actL (stt Ω [] []) (stt Ω' [] []) none] ∧ R = RV (va T (EN.no : EN Str)) (stt Ω' [] [])
theorem ok__law_said__n {f : Addr} {fd : FuncData} (F : Fun T.K "_law_said" "_law_said" s__law_said f fd) (gx_InvalidBound : mg "InvalidBound" = some (.ref (T.C 300))) (gx_TooGreat : mg "TooGreat" = some (.ref (T.C 302))) (gx_BitsError : mg "BitsError" = some (.ref (T.C 301))) (mx_InvalidBound_InvalidBound : PySem.W.exmOne T.K (.ref (T.C 300)) (.ref (T.C 300)) = some true) (xf_InvalidBound : XfC T.K (T.C 300)) (no_InvalidBound : PySem.W.findIn T.K (.ref (T.C 300)) "argument" = some none) (mx_TooGreat_InvalidBound : PySem.W.exmOne T.K (.ref (T.C 302)) (.ref (T.C 300)) = some false) (mx_TooGreat_TooGreat : PySem.W.exmOne T.K (.ref (T.C 302)) (.ref (T.C 302)) = some true) (hmg : mg "_law_said" = some (.ref f)) (hbd : Binds T.K fd ["_law_call"] []) : CalLX P w T.K mg base 24 26 "_law_said" ["_law_call"] (Pre__law_said__n T) := by
  refine fnLX_ok F sc__law_said (fun fL actL As Ω R h => ?_) (by decide) (fun cdv A outer s H fL actL hr hact As Ω R F0 h => ?_) hmg hbd
  · obtain ⟨Ω', rfl, _⟩ := h
    rfl
  obtain ⟨Ω', rfl, rfl⟩ := h
  refine ⟨_, (pss_cons (ps_set (i := 1) sc__law_said.nd rfl (.inl rfl) pe_non) (pss_cons (ps_tryK (K := T.K) rfl rfl rfl (fun W pn xe tk hp => (pss_one (ps_expr (hact 0 "_law_call" _ _ pn xe W rfl (.inl rfl) (by decide) (by decide) tk)))) (.named (i := 2) sc__law_said.nd rfl rfl ⟨by rfl, by decide, .inl gx_InvalidBound⟩ (fun a oe cls d pn hz hf => (pss_one (ps_set (i := 1) sc__law_said.nd rfl (.inl rfl) (pe_xf xf_InvalidBound no_InvalidBound hz hf (pv 2))))) (.plain ⟨by rfl, by decide, .inl gx_TooGreat⟩ (fun a oe cls d pn hz hf => (pss_one (ps_set (i := 1) sc__law_said.nd rfl (.inl rfl) pe_str))) (.plain ⟨by rfl, by decide, .inl gx_BitsError⟩ (fun a oe cls d pn hz hf => pss_never) .nil)))) (pss_one (ps_ret (pv 1))))), fun D hrt hnx => ?_⟩
  have ok : Okk Ω [] := okk0
  suffices hx : XS _ D F0 [some (askX T fL actL (stt Ω [] []) (stt Ω' [] []) none), none, none] (stt Ω [] []) by
    exact Eq.mp (congrArg (fun W => XS _ D F0 [some (askX T fL actL (stt Ω [] []) (stt Ω' [] []) none), none, none] W) (show (stt Ω [] []) = Ω from stt_self (by simp))) hx
  refine xs_set (A := va T ()) xe_non ?_
  show XS (tSeq _ _) _ _ [some (askX T fL actL (stt Ω [] []) (stt Ω' [] []) none), some (va T ()), none] (stt Ω [] [])
  refine xs_seq (xs_tryC fun W => ?_)
  refine xs_drop1 (xe_askX (i := 0) rfl) ?_
  refine xs_nxI ?_
  show XS (tRet _) _ _ [some (askX T fL actL (stt Ω [] []) (stt Ω' [] []) none), some (va T ()), none] (stt Ω' [] [])
  refine xs_ret (xe_enN (xe_var (i := 1) rfl)) hrt.all
noncomputable def M__law_deep (x0 : Int) : Option (LP DPn DT) :=
  (some (DPn.mk 0)).bind fun y1 => (chkP (-(2 ^ 62) ≤ x0 ∧ x0 < 2 ^ 62)).bind fun z2 => (forM' (ρ := Unit) (fun (a4 : Int) (s3 : DPn × DT) => (some (DPn.mk ((s3.1).d + 1))).bind fun y5 => some (Stp.nx (y5, DT.mk))) (rng 0 (x0).toNat) (y1, DT.mk)).bind fun z6 => (nxt z6).bind fun s7 => some (LP.mk s7.1 s7.2)
def Pre__law_deep (T : TC) : PreT := fun As Ω R => ∃ (x0 : Int) (r : (LP DPn DT)), As = [va T x0] ∧ M__law_deep x0 = some r ∧ R = RV (va T r) (stt Ω [] [])
theorem sc__law_deep : FnScope ["_law_times", "_law_one_here", "_law_two", "_law_k"] ["_law_times"] (defScope s__law_deep) := ⟨rfl, rfl, rfl, by decide +kernel, rfl, by decide +kernel, by decide +kernel⟩
theorem ok__law_deep {f : Addr} {fd : FuncData} (F : Fun T.K "_law_deep" "_law_deep" s__law_deep f fd) (z_range : mg "range" = none) : FnOk P w T.K mg base CX0 1 f fd ["_law_times"] (mkSp (Pre__law_deep T)) := by
  refine fn_ok F sc__law_deep (fun As Ω R h => ?_) (fun cdv A outer s H E hr As Ω R F0 h => ?_)
  · obtain ⟨x0, r, rfl, _⟩ := h
    rfl
  obtain ⟨x0, r, rfl, hm, rfl⟩ := h
  refine ⟨_, (pss_cons (ps_par (i := 1) (j := 2) rfl sc__law_deep.nd rfl rfl (by decide) rfl rfl (pa_cons (pe_lst (pa_cons pe_int pa_nil)) (pa_cons (pe_tup (pa_cons pe_int pa_nil)) pa_nil)) (by rfl)) (pss_cons (ps_for PassesOwn.never rfl (pi_range1 rfl z_range (pa_cons (pv 0) pa_nil)) (pg_name (i := 3) sc__law_deep.nd rfl (.inl rfl)) (pss_one (ps_par (i := 1) (j := 2) rfl sc__law_deep.nd rfl rfl (by decide) rfl rfl (pa_cons (pe_lst (pa_cons (pv 1) pa_nil)) (pa_cons (pe_tup (pa_cons (pv 2) pa_nil)) pa_nil)) (by rfl)))) (pss_one (ps_ret (pe_lst (pa_cons (pv 1) (pa_cons (pv 2) pa_nil))))))), fun D hrt hnx => ?_⟩
  have ok : Okk Ω [] := okk0
  suffices hx : XS _ D F0 [some (va T x0), none, none, none] (stt Ω [] []) by
    rw [show (stt Ω [] []) = Ω from stt_self (by simp)] at hx
    exact hx
  unfold M__law_deep at hm
  obtain ⟨y1, hy1, hm⟩ := bnd_some hm
  refine xs_par2 (xa_cons (A := va T y1) (xe_eq (xe_dpn0 xe_int) (Option.some.inj hy1)) (xa_cons (A := va T DT.mk) (xe_dt (xa_cons (A := (va T (1 : Int))) xe_int xa_nil) (by rw [sizeLine_eq]; exact Nat.le_of_ble_eq_true rfl)) xa_nil)) ?_
  show XS (tSeq _ _) _ _ [some (va T x0), some (va T y1), some (va T DT.mk), none] (stt Ω [] [])
  obtain ⟨z2, hz2, hm⟩ := bnd_some hm
  obtain ⟨z6, hz6, hm⟩ := bnd_some hm
  refine xs_forS (fun (s3 : DPn × DT) => [some (va T x0), some (va T s3.1), some (va T s3.2), none]) (fun (s3 : DPn × DT) => (stt Ω [] [])) (fun (_ : Unit) _ _ _ => False) hz6 (xi_range1 (T := T) (xa_cons (xe_var (i := 0) rfl) xa_nil) (chkP_some hz2).1 (chkP_some hz2).2) (fun _ => tgt_name) (fun a4 s3 s' ha hm F1 D1 e1 hD => ?_) (fun s7 es => ?_) (fun r1 es => ?_)
  · show XS _ _ _ [some (va T x0), some (va T s3.1), some (va T s3.2), some (va T a4)] (stt Ω [] [])
    obtain ⟨y5, hy5, hm⟩ := bnd_some hm
    refine xs_par21 (xa_cons (A := va T y5) (xe_eq (xe_dpnS (xe_var (i := 1) rfl)) (Option.some.inj hy5)) (xa_cons (A := va T DT.mk) (xe_dt (xa_cons (A := (va T s3.2)) (xe_var (i := 2) rfl) xa_nil) (by rw [sizeLine_eq]; exact Nat.le_of_ble_eq_true rfl)) xa_nil)) ?_
    obtain rfl := Option.some.inj hm
    exact fun σ H n => hD.nx _ rfl σ H (n.forget 3)
  · subst es
    obtain ⟨s2, hs2, hm⟩ := bnd_some hm
    cases hs2
    show XS (tRet _) _ _ [some (va T x0), some (va T s7.1), some (va T s7.2), none] (stt Ω [] [])
    obtain rfl := Option.some.inj hm
    refine xs_ret (xe_lp (xa_cons (xe_var (i := 1) rfl) (xa_cons (xe_var (i := 2) rfl) xa_nil))) hrt.all
  · subst es
    cases hm
noncomputable def X_check_machine__or4 : Option XC :=
  (chkP (Str.length ("machine" : Str) ≤ 100)).bind fun z1 => some (.f 0 "argument" ("machine" : Str))
def PreX_check_machine__or4 (T : TC) : PreXX := fun As Ω R => ∃ (A0 : VA) (r : XC), As = [A0] ∧ NoC T Ω A0 (.ref (T.C 0)) ∧ X_check_machine__or4  = some r ∧ R = RQ T r Ω
theorem sc_check_machine__or4 : FnScope ["machine"] ["machine"] (defScope s_check_machine__or4) := ⟨rfl, rfl, rfl, by decide +kernel, rfl, by decide +kernel, by decide +kernel⟩
theorem okx_check_machine__or4 {f : Addr} {fd : FuncData} (F : Fun T.K "check_machine" "check_machine" s_check_machine__or4 f fd) (z_isinstance : mg "isinstance" = none) (g_Machine : ∃ u, mg "Machine" = some u ∧ RelV (.ref (T.C 0)) u) (e_InvalidBound : MkC P w T.K mg base 3 "InvalidBound" (T.C 300) "argument") : FnOk P w T.K mg base (L2.CX P w) 5 f fd ["machine"] (mkSpX (PreX_check_machine__or4 T)) := by
  refine fn_okX F sc_check_machine__or4 (fun As Ω R h => ?_) (fun cdv A outer s H E hr As Ω R F0 h hx tk => ?_)
  · obtain ⟨A0, r, rfl, _⟩ := h
    rfl
  obtain ⟨A0, r, rfl, hA0M, hm, rfl⟩ := h
  refine ⟨_, (pss_one (ps_if (pt_not (pt_val (pe_callB (cr_isiK (K := T.K) rfl) (by rfl) z_isinstance (by decide +kernel) (pa_cons (pv 0) (pa_cons (pe_gl rfl g_Machine) pa_nil))))) (pss_one (ps_raiseX rfl tk e_InvalidBound (hr.mono (by decide)) (by rfl) (pa_cons pe_str pa_nil))) pss_never)), fun D => ?_⟩
  suffices hy : XS _ D F0 [some A0] (stt Ω [] []) by
    rw [show (stt Ω [] []) = Ω from stt_self (by simp)] at hy
    exact hy
  unfold X_check_machine__or4 at hm
  refine xs_ifT1 (xt_notT (xt_tB (T := T) (xe_noC (xe_var (i := 0) rfl) xe_vx (.own _) (noC_st hA0M)))) ?_
  obtain ⟨z1, hz1, hm⟩ := bnd_some hm
  obtain rfl := Option.some.inj hm
  exact xs_rzX (xa_cons xe_str xa_nil) (chkP_some hz1) (wtc_EL hx)
noncomputable def X_check_one__or3 : Option XC :=
  X_check_machine__or4
def PreX_check_one__or3 (T : TC) : PreXX := fun As Ω R => ∃ (A0 : VA) (A1 : VA) (r : XC), As = [A0, A1] ∧ NoC T Ω A0 (.ref (T.C 0)) ∧ X_check_one__or3  = some r ∧ R = RQ T r Ω
theorem sc_check_one__or3 : FnScope ["machine", "x"] ["machine", "x"] (defScope s_check_one__or3) := ⟨rfl, rfl, rfl, by decide +kernel, rfl, by decide +kernel, by decide +kernel⟩
theorem okx_check_one__or3 {f : Addr} {fd : FuncData} (F : Fun T.K "check_one" "check_one" s_check_one__or3 f fd) (cx_check_machine__or4 : CalX P w T.K mg base 5 "check_machine" ["machine"] (mkSpX (PreX_check_machine__or4 T))) : FnOk P w T.K mg base (L2.CX P w) 7 f fd ["machine", "x"] (mkSpX (PreX_check_one__or3 T)) := by
  refine fn_okX F sc_check_one__or3 (fun As Ω R h => ?_) (fun cdv A outer s H E hr As Ω R F0 h hx tk => ?_)
  · obtain ⟨A0, A1, r, rfl, _⟩ := h
    rfl
  obtain ⟨A0, A1, r, rfl, hA0M, hm, rfl⟩ := h
  refine ⟨_, (pss_cons (ps_expr (pe_calX cx_check_machine__or4 (hr.mono (by decide)) (by rfl) tk (pa_cons (pv 0) pa_nil))) pss_never), fun D => ?_⟩
  suffices hy : XS _ D F0 [some A0, some A1] (stt Ω [] []) by
    rw [show (stt Ω [] []) = Ω from stt_self (by simp)] at hy
    exact hy
  unfold X_check_one__or3 at hm
  have hX := hm
  exact xs_seq (xs_dropX (xr_callO (xa_cons (xe_var (i := 0) rfl) xa_nil) ⟨A0, _, rfl, (noC_st hA0M), hX, rfl⟩ (wtc_EL hx)))
noncomputable def X_check_shift__or2 : Option XC :=
  X_check_one__or3
def PreX_check_shift__or2 (T : TC) : PreXX := fun As Ω R => ∃ (A0 : VA) (A1 : VA) (A2 : VA) (r : XC), As = [A0, A1, A2] ∧ NoC T Ω A0 (.ref (T.C 0)) ∧ X_check_shift__or2  = some r ∧ R = RQ T r Ω
theorem sc_check_shift__or2 : FnScope ["machine", "x", "count"] ["machine", "x", "count"] (defScope s_check_shift__or2) := ⟨rfl, rfl, rfl, by decide +kernel, rfl, by decide +kernel, by decide +kernel⟩
theorem okx_check_shift__or2 {f : Addr} {fd : FuncData} (F : Fun T.K "check_shift" "check_shift" s_check_shift__or2 f fd) (cx_check_one__or3 : CalX P w T.K mg base 7 "check_one" ["machine", "x"] (mkSpX (PreX_check_one__or3 T))) : FnOk P w T.K mg base (L2.CX P w) 8 f fd ["machine", "x", "count"] (mkSpX (PreX_check_shift__or2 T)) := by
  refine fn_okX F sc_check_shift__or2 (fun As Ω R h => ?_) (fun cdv A outer s H E hr As Ω R F0 h hx tk => ?_)
  · obtain ⟨A0, A1, A2, r, rfl, _⟩ := h
    rfl
  obtain ⟨A0, A1, A2, r, rfl, hA0M, hm, rfl⟩ := h
  refine ⟨_, (pss_cons (ps_expr (pe_calX cx_check_one__or3 (hr.mono (by decide)) (by rfl) tk (pa_cons (pv 0) (pa_cons (pv 1) pa_nil)))) pss_never), fun D => ?_⟩
  suffices hy : XS _ D F0 [some A0, some A1, some A2] (stt Ω [] []) by
    rw [show (stt Ω [] []) = Ω from stt_self (by simp)] at hy
    exact hy
  unfold X_check_shift__or2 at hm
  have hX := hm
  exact xs_seq (xs_dropX (xr_callO (xa_cons (xe_var (i := 0) rfl) (xa_cons (xe_var (i := 1) rfl) xa_nil)) ⟨A0, A1, _, rfl, (noC_st hA0M), hX, rfl⟩ (wtc_EL hx)))
noncomputable def X_shift_left__or1 : Option XC :=
  X_check_shift__or2
def PreX_shift_left__or1 (T : TC) : PreXX := fun As Ω R => ∃ (A0 : VA) (A1 : VA) (A2 : VA) (r : XC), As = [A0, A1, A2] ∧ NoC T Ω A0 (.ref (T.C 0)) ∧ X_shift_left__or1  = some r ∧ R = RQ T r Ω
theorem sc_shift_left__or1 : FnScope ["machine", "x", "count"] ["machine", "x", "count"] (defScope s_shift_left__or1) := ⟨rfl, rfl, rfl, by decide +kernel, rfl, by decide +kernel, by decide +kernel⟩
theorem okx_shift_left__or1 {f : Addr} {fd : FuncData} (F : Fun T.K "shift_left" "shift_left" s_shift_left__or1 f fd) (cx_check_shift__or2 : CalX P w T.K mg base 8 "check_shift" ["machine", "x", "count"] (mkSpX (PreX_check_shift__or2 T))) : FnOk P w T.K mg base (L2.CX P w) 23 f fd ["machine", "x", "count"] (mkSpX (PreX_shift_left__or1 T)) := by
  refine fn_okX F sc_shift_left__or1 (fun As Ω R h => ?_) (fun cdv A outer s H E hr As Ω R F0 h hx tk => ?_)
  · obtain ⟨A0, A1, A2, r, rfl, _⟩ := h
    rfl
  obtain ⟨A0, A1, A2, r, rfl, hA0M, hm, rfl⟩ := h
  refine ⟨_, (pss_cons (ps_expr (pe_calX cx_check_shift__or2 (hr.mono (by decide)) (by rfl) tk (pa_cons (pv 0) (pa_cons (pv 1) (pa_cons (pv 2) pa_nil))))) pss_never), fun D => ?_⟩
  suffices hy : XS _ D F0 [some A0, some A1, some A2] (stt Ω [] []) by
    rw [show (stt Ω [] []) = Ω from stt_self (by simp)] at hy
    exact hy
  unfold X_shift_left__or1 at hm
  have hX := hm
  exact xs_seq (xs_dropX (xr_callO (xa_cons (xe_var (i := 0) rfl) (xa_cons (xe_var (i := 1) rfl) (xa_cons (xe_var (i := 2) rfl) xa_nil))) ⟨A0, A1, A2, _, rfl, (noC_st hA0M), hX, rfl⟩ (wtc_EL hx)))
noncomputable def X_shift_right__or5 : Option XC :=
  X_check_shift__or2
def PreX_shift_right__or5 (T : TC) : PreXX := fun As Ω R => ∃ (A0 : VA) (A1 : VA) (A2 : VA) (r : XC), As = [A0, A1, A2] ∧ NoC T Ω A0 (.ref (T.C 0)) ∧ X_shift_right__or5  = some r ∧ R = RQ T r Ω
theorem sc_shift_right__or5 : FnScope ["machine", "x", "count"] ["machine", "x", "count"] (defScope s_shift_right__or5) := ⟨rfl, rfl, rfl, by decide +kernel, rfl, by decide +kernel, by decide +kernel⟩
theorem okx_shift_right__or5 {f : Addr} {fd : FuncData} (F : Fun T.K "shift_right" "shift_right" s_shift_right__or5 f fd) (cx_check_shift__or2 : CalX P w T.K mg base 8 "check_shift" ["machine", "x", "count"] (mkSpX (PreX_check_shift__or2 T))) : FnOk P w T.K mg base (L2.CX P w) 23 f fd ["machine", "x", "count"] (mkSpX (PreX_shift_right__or5 T)) := by
  refine fn_okX F sc_shift_right__or5 (fun As Ω R h => ?_) (fun cdv A outer s H E hr As Ω R F0 h hx tk => ?_)
  · obtain ⟨A0, A1, A2, r, rfl, _⟩ := h
    rfl
  obtain ⟨A0, A1, A2, r, rfl, hA0M, hm, rfl⟩ := h
  refine ⟨_, (pss_cons (ps_expr (pe_calX cx_check_shift__or2 (hr.mono (by decide)) (by rfl) tk (pa_cons (pv 0) (pa_cons (pv 1) (pa_cons (pv 2) pa_nil))))) pss_never), fun D => ?_⟩
  suffices hy : XS _ D F0 [some A0, some A1, some A2] (stt Ω [] []) by
    rw [show (stt Ω [] []) = Ω from stt_self (by simp)] at hy
    exact hy
  unfold X_shift_right__or5 at hm
  have hX := hm
  exact xs_seq (xs_dropX (xr_callO (xa_cons (xe_var (i := 0) rfl) (xa_cons (xe_var (i := 1) rfl) (xa_cons (xe_var (i := 2) rfl) xa_nil))) ⟨A0, A1, A2, _, rfl, (noC_st hA0M), hX, rfl⟩ (wtc_EL hx)))
noncomputable def X_check_big__or10 (x1 : Str) : Option XC :=
  (chkP (Str.length x1 ≤ 100)).bind fun z1 => some (.f 0 "argument" x1)
def PreX_check_big__or10 (T : TC) : PreXX := fun As Ω R => ∃ (A0 : VA) (x1 : Str) (r : XC), As = [A0, va T x1] ∧ NoC T Ω A0 (.ref (T.C 1)) ∧ X_check_big__or10 x1 = some r ∧ R = RQ T r Ω
theorem sc_check_big__or10 : FnScope ["value", "name"] ["value", "name"] (defScope s_check_big__or10) := ⟨rfl, rfl, rfl, by decide +kernel, rfl, by decide +kernel, by decide +kernel⟩
theorem okx_check_big__or10 {f : Addr} {fd : FuncData} (F : Fun T.K "check_big" "check_big" s_check_big__or10 f fd) (z_isinstance : mg "isinstance" = none) (g_Big : ∃ u, mg "Big" = some u ∧ RelV (.ref (T.C 1)) u) (e_InvalidBound : MkC P w T.K mg base 3 "InvalidBound" (T.C 300) "argument") : FnOk P w T.K mg base (L2.CX P w) 5 f fd ["value", "name"] (mkSpX (PreX_check_big__or10 T)) := by
  refine fn_okX F sc_check_big__or10 (fun As Ω R h => ?_) (fun cdv A outer s H E hr As Ω R F0 h hx tk => ?_)
  · obtain ⟨A0, x1, r, rfl, _⟩ := h
    rfl
  obtain ⟨A0, x1, r, rfl, hA0G, hm, rfl⟩ := h
  refine ⟨_, (pss_one (ps_if (pt_not (pt_val (pe_callB (cr_isiK (K := T.K) rfl) (by rfl) z_isinstance (by decide +kernel) (pa_cons (pv 0) (pa_cons (pe_gl rfl g_Big) pa_nil))))) (pss_one (ps_raiseX rfl tk e_InvalidBound (hr.mono (by decide)) (by rfl) (pa_cons (pv 1) pa_nil))) pss_never)), fun D => ?_⟩
  suffices hy : XS _ D F0 [some A0, some (va T x1)] (stt Ω [] []) by
    rw [show (stt Ω [] []) = Ω from stt_self (by simp)] at hy
    exact hy
  unfold X_check_big__or10 at hm
  refine xs_ifT1 (xt_notT (xt_tB (T := T) (xe_noC (xe_var (i := 0) rfl) xe_vx (.own _) (noC_st hA0G)))) ?_
  obtain ⟨z1, hz1, hm⟩ := bnd_some hm
  obtain rfl := Option.some.inj hm
  exact xs_rzX (xa_cons (xe_var (i := 1) rfl) xa_nil) (chkP_some hz1) (wtc_EL hx)
noncomputable def X_check_fit__or9 (x0 : MS) (x2 : Str) : Option XC :=
  X_check_big__or10 x2
def PreX_check_fit__or9 (T : TC) : PreXX := fun As Ω R => ∃ (k0 : Nat) (p0 : Addr) (x0 : MS) (A1 : VA) (x2 : Str) (r : XC), As = [vr p0, A1, va T x2] ∧ Ω[k0]? = some (machA T p0 x0) ∧ NoC T Ω A1 (.ref (T.C 1)) ∧ X_check_fit__or9 x0 x2 = some r ∧ R = RQ T r Ω
theorem sc_check_fit__or9 : FnScope ["machine", "value", "name"] ["machine", "value", "name"] (defScope s_check_fit__or9) := ⟨rfl, rfl, rfl, by decide +kernel, rfl, by decide +kernel, by decide +kernel⟩
theorem okx_check_fit__or9 {f : Addr} {fd : FuncData} (F : Fun T.K "check_fit" "check_fit" s_check_fit__or9 f fd) (cx_check_big__or10 : CalX P w T.K mg base 5 "check_big" ["value", "name"] (mkSpX (PreX_check_big__or10 T))) : FnOk P w T.K mg base (L2.CX P w) 6 f fd ["machine", "value", "name"] (mkSpX (PreX_check_fit__or9 T)) := by
  refine fn_okX F sc_check_fit__or9 (fun As Ω R h => ?_) (fun cdv A outer s H E hr As Ω R F0 h hx tk => ?_)
  · obtain ⟨k0, p0, x0, A1, x2, r, rfl, _⟩ := h
    rfl
  obtain ⟨k0, p0, x0, A1, x2, r, rfl, hk0, hA1G, hm, rfl⟩ := h
  refine ⟨_, (pss_cons (ps_expr (pe_calX cx_check_big__or10 (hr.mono (by decide)) (by rfl) tk (pa_cons (pv 1) (pa_cons (pv 2) pa_nil)))) pss_never), fun D => ?_⟩
  suffices hy : XS _ D F0 [some (vr p0), some A1, some (va T x2)] (stt Ω [] []) by
    rw [show (stt Ω [] []) = Ω from stt_self (by simp)] at hy
    exact hy
  unfold X_check_fit__or9 at hm
  have hX := hm
  exact xs_seq (xs_dropX (xr_callO (xa_cons (xe_var (i := 1) rfl) (xa_cons (xe_var (i := 2) rfl) xa_nil)) ⟨A1, x2, _, rfl, (noC_st hA1G), hX, rfl⟩ (wtc_EL hx)))
noncomputable def X_check_one__or8 (x0 : MS) : Option XC :=
  (M_check_machine x0).bind fun z1 => X_check_fit__or9 x0 ("x" : Str)
def PreX_check_one__or8 (T : TC) : PreXX := fun As Ω R => ∃ (k0 : Nat) (p0 : Addr) (x0 : MS) (A1 : VA) (r : XC), As = [vr p0, A1] ∧ Ω[k0]? = some (machA T p0 x0) ∧ NoC T Ω A1 (.ref (T.C 1)) ∧ X_check_one__or8 x0 = some r ∧ R = RQ T r Ω
theorem sc_check_one__or8 : FnScope ["machine", "x"] ["machine", "x"] (defScope s_check_one__or8) := ⟨rfl, rfl, rfl, by decide +kernel, rfl, by decide +kernel, by decide +kernel⟩
theorem okx_check_one__or8 {f : Addr} {fd : FuncData} (F : Fun T.K "check_one" "check_one" s_check_one__or8 f fd) (c_check_machine : Cal P w T.K mg base 5 "check_machine" ["machine"] (mkSp (Pre_check_machine T))) (cx_check_fit__or9 : CalX P w T.K mg base 6 "check_fit" ["machine", "value", "name"] (mkSpX (PreX_check_fit__or9 T))) : FnOk P w T.K mg base (L2.CX P w) 7 f fd ["machine", "x"] (mkSpX (PreX_check_one__or8 T)) := by
  refine fn_okX F sc_check_one__or8 (fun As Ω R h => ?_) (fun cdv A outer s H E hr As Ω R F0 h hx tk => ?_)
  · obtain ⟨k0, p0, x0, A1, r, rfl, _⟩ := h
    rfl
  obtain ⟨k0, p0, x0, A1, r, rfl, hk0, hA1G, hm, rfl⟩ := h
  refine ⟨_, (pss_cons (ps_expr (pe_cal c_check_machine (hr.mono (by decide)) (by rfl) (pa_cons (pv 0) pa_nil))) (pss_one (ps_expr (pe_calX cx_check_fit__or9 (hr.mono (by decide)) (by rfl) tk (pa_cons (pv 0) (pa_cons (pv 1) (pa_cons pe_str pa_nil))))))), fun D => ?_⟩
  suffices hy : XS _ D F0 [some (vr p0), some A1] (stt Ω [] []) by
    rw [show (stt Ω [] []) = Ω from stt_self (by simp)] at hy
    exact hy
  unfold X_check_one__or8 at hm
  obtain ⟨z1, hz1, hm⟩ := bnd_some hm
  refine xs_drop (xe_call (xa_cons (xe_var (i := 0) rfl) xa_nil) ⟨k0, p0, x0, z1, rfl, (stt_getU hk0), hz1, rfl⟩ cal0) ?_
  show XS (tDrop _) _ _ [some (vr p0), some A1] (stt Ω [] [])
  have hX := hm
  exact (xs_dropX (xr_callO (xa_cons (xe_var (i := 0) rfl) (xa_cons (xe_var (i := 1) rfl) (xa_cons xe_str xa_nil))) ⟨k0, p0, x0, A1, ("x" : Str), _, rfl, (stt_getU hk0), (noC_st hA1G), hX, rfl⟩ (wtc_EL hx)))
noncomputable def X_check_shift__or7 (x0 : MS) : Option XC :=
  X_check_one__or8 x0
def PreX_check_shift__or7 (T : TC) : PreXX := fun As Ω R => ∃ (k0 : Nat) (p0 : Addr) (x0 : MS) (A1 : VA) (A2 : VA) (r : XC), As = [vr p0, A1, A2] ∧ Ω[k0]? = some (machA T p0 x0) ∧ NoC T Ω A1 (.ref (T.C 1)) ∧ X_check_shift__or7 x0 = some r ∧ R = RQ T r Ω
theorem sc_check_shift__or7 : FnScope ["machine", "x", "count"] ["machine", "x", "count"] (defScope s_check_shift__or7) := ⟨rfl, rfl, rfl, by decide +kernel, rfl, by decide +kernel, by decide +kernel⟩
theorem okx_check_shift__or7 {f : Addr} {fd : FuncData} (F : Fun T.K "check_shift" "check_shift" s_check_shift__or7 f fd) (cx_check_one__or8 : CalX P w T.K mg base 7 "check_one" ["machine", "x"] (mkSpX (PreX_check_one__or8 T))) : FnOk P w T.K mg base (L2.CX P w) 8 f fd ["machine", "x", "count"] (mkSpX (PreX_check_shift__or7 T)) := by
  refine fn_okX F sc_check_shift__or7 (fun As Ω R h => ?_) (fun cdv A outer s H E hr As Ω R F0 h hx tk => ?_)
  · obtain ⟨k0, p0, x0, A1, A2, r, rfl, _⟩ := h
    rfl
  obtain ⟨k0, p0, x0, A1, A2, r, rfl, hk0, hA1G, hm, rfl⟩ := h
  refine ⟨_, (pss_cons (ps_expr (pe_calX cx_check_one__or8 (hr.mono (by decide)) (by rfl) tk (pa_cons (pv 0) (pa_cons (pv 1) pa_nil)))) pss_never), fun D => ?_⟩
  suffices hy : XS _ D F0 [some (vr p0), some A1, some A2] (stt Ω [] []) by
    rw [show (stt Ω [] []) = Ω from stt_self (by simp)] at hy
    exact hy
  unfold X_check_shift__or7 at hm
  have hX := hm
  exact xs_seq (xs_dropX (xr_callO (xa_cons (xe_var (i := 0) rfl) (xa_cons (xe_var (i := 1) rfl) xa_nil)) ⟨k0, p0, x0, A1, _, rfl, (stt_getU hk0), (noC_st hA1G), hX, rfl⟩ (wtc_EL hx)))
noncomputable def X_shift_left__or6 (x0 : MS) : Option XC :=
  X_check_shift__or7 x0
def PreX_shift_left__or6 (T : TC) : PreXX := fun As Ω R => ∃ (k0 : Nat) (p0 : Addr) (x0 : MS) (A1 : VA) (A2 : VA) (r : XC), As = [vr p0, A1, A2] ∧ Ω[k0]? = some (machA T p0 x0) ∧ NoC T Ω A1 (.ref (T.C 1)) ∧ X_shift_left__or6 x0 = some r ∧ R = RQ T r Ω
theorem sc_shift_left__or6 : FnScope ["machine", "x", "count"] ["machine", "x", "count"] (defScope s_shift_left__or6) := ⟨rfl, rfl, rfl, by decide +kernel, rfl, by decide +kernel, by decide +kernel⟩
theorem okx_shift_left__or6 {f : Addr} {fd : FuncData} (F : Fun T.K "shift_left" "shift_left" s_shift_left__or6 f fd) (cx_check_shift__or7 : CalX P w T.K mg base 8 "check_shift" ["machine", "x", "count"] (mkSpX (PreX_check_shift__or7 T))) : FnOk P w T.K mg base (L2.CX P w) 23 f fd ["machine", "x", "count"] (mkSpX (PreX_shift_left__or6 T)) := by
  refine fn_okX F sc_shift_left__or6 (fun As Ω R h => ?_) (fun cdv A outer s H E hr As Ω R F0 h hx tk => ?_)
  · obtain ⟨k0, p0, x0, A1, A2, r, rfl, _⟩ := h
    rfl
  obtain ⟨k0, p0, x0, A1, A2, r, rfl, hk0, hA1G, hm, rfl⟩ := h
  refine ⟨_, (pss_cons (ps_expr (pe_calX cx_check_shift__or7 (hr.mono (by decide)) (by rfl) tk (pa_cons (pv 0) (pa_cons (pv 1) (pa_cons (pv 2) pa_nil))))) pss_never), fun D => ?_⟩
  suffices hy : XS _ D F0 [some (vr p0), some A1, some A2] (stt Ω [] []) by
    rw [show (stt Ω [] []) = Ω from stt_self (by simp)] at hy
    exact hy
  unfold X_shift_left__or6 at hm
  have hX := hm
  exact xs_seq (xs_dropX (xr_callO (xa_cons (xe_var (i := 0) rfl) (xa_cons (xe_var (i := 1) rfl) (xa_cons (xe_var (i := 2) rfl) xa_nil))) ⟨k0, p0, x0, A1, A2, _, rfl, (stt_getU hk0), (noC_st hA1G), hX, rfl⟩ (wtc_EL hx)))
noncomputable def X_shift_right__or11 (x0 : MS) : Option XC :=
  X_check_shift__or7 x0
def PreX_shift_right__or11 (T : TC) : PreXX := fun As Ω R => ∃ (k0 : Nat) (p0 : Addr) (x0 : MS) (A1 : VA) (A2 : VA) (r : XC), As = [vr p0, A1, A2] ∧ Ω[k0]? = some (machA T p0 x0) ∧ NoC T Ω A1 (.ref (T.C 1)) ∧ X_shift_right__or11 x0 = some r ∧ R = RQ T r Ω
theorem sc_shift_right__or11 : FnScope ["machine", "x", "count"] ["machine", "x", "count"] (defScope s_shift_right__or11) := ⟨rfl, rfl, rfl, by decide +kernel, rfl, by decide +kernel, by decide +kernel⟩
theorem okx_shift_right__or11 {f : Addr} {fd : FuncData} (F : Fun T.K "shift_right" "shift_right" s_shift_right__or11 f fd) (cx_check_shift__or7 : CalX P w T.K mg base 8 "check_shift" ["machine", "x", "count"] (mkSpX (PreX_check_shift__or7 T))) : FnOk P w T.K mg base (L2.CX P w) 23 f fd ["machine", "x", "count"] (mkSpX (PreX_shift_right__or11 T)) := by
  refine fn_okX F sc_shift_right__or11 (fun As Ω R h => ?_) (fun cdv A outer s H E hr As Ω R F0 h hx tk => ?_)
  · obtain ⟨k0, p0, x0, A1, A2, r, rfl, _⟩ := h
    rfl
  obtain ⟨k0, p0, x0, A1, A2, r, rfl, hk0, hA1G, hm, rfl⟩ := h
  refine ⟨_, (pss_cons (ps_expr (pe_calX cx_check_shift__or7 (hr.mono (by decide)) (by rfl) tk (pa_cons (pv 0) (pa_cons (pv 1) (pa_cons (pv 2) pa_nil))))) pss_never), fun D => ?_⟩
  suffices hy : XS _ D F0 [some (vr p0), some A1, some A2] (stt Ω [] []) by
    rw [show (stt Ω [] []) = Ω from stt_self (by simp)] at hy
    exact hy
  unfold X_shift_right__or11 at hm
  have hX := hm
  exact xs_seq (xs_dropX (xr_callO (xa_cons (xe_var (i := 0) rfl) (xa_cons (xe_var (i := 1) rfl) (xa_cons (xe_var (i := 2) rfl) xa_nil))) ⟨k0, p0, x0, A1, A2, _, rfl, (stt_getU hk0), (noC_st hA1G), hX, rfl⟩ (wtc_EL hx)))
noncomputable def X_check_fit (x0 : MS) (x1 : Bg) (x2 : Str) : Option XC :=
  (M_check_big x1 x2).bind fun z1 => if (!decide (x1.w = x0.w)) = true then (chkP (Str.length x2 ≤ 100)).bind fun z2 => some (.f 0 "argument" x2) else none
def PreX_check_fit (T : TC) : PreXX := fun As Ω R => ∃ (k0 : Nat) (p0 : Addr) (x0 : MS) (x1 : Bg) (x2 : Str) (r : XC), As = [vr p0, va T x1, va T x2] ∧ Ω[k0]? = some (machA T p0 x0) ∧ X_check_fit x0 x1 x2 = some r ∧ R = RQ T r Ω
theorem okx_check_fit {f : Addr} {fd : FuncData} (F : Fun T.K "check_fit" "check_fit" s_check_fit f fd) (c_check_big : Cal P w T.K mg base 5 "check_big" ["value", "name"] (mkSp (Pre_check_big T))) (bc : BCls T.K (T.C 1)) (mc : MCls T.K (T.C 0)) (e_InvalidBound : MkC P w T.K mg base 3 "InvalidBound" (T.C 300) "argument") : FnOk P w T.K mg base (L2.CX P w) 6 f fd ["machine", "value", "name"] (mkSpX (PreX_check_fit T)) := by
  refine fn_okX F sc_check_fit (fun As Ω R h => ?_) (fun cdv A outer s H E hr As Ω R F0 h hx tk => ?_)
  · obtain ⟨k0, p0, x0, x1, x2, r, rfl, _⟩ := h
    rfl
  obtain ⟨k0, p0, x0, x1, x2, r, rfl, hk0, hm, rfl⟩ := h
  refine ⟨_, (pss_cons (ps_expr (pe_cal c_check_big (hr.mono (by decide)) (by rfl) (pa_cons (pv 1) (pa_cons (pv 2) pa_nil)))) (pss_one (ps_if (pt_cmpR (op_neXK (K := T.K) (by exact hr.units) rfl) (pe_fldK (K := T.K) (pv 1) (by rfl) rfl) (pe_fldK (K := T.K) (pv 0) (by rfl) rfl) (nomark _)) (pss_one (ps_raiseX rfl tk e_InvalidBound (hr.mono (by decide)) (by rfl) (pa_cons (pv 2) pa_nil))) pss_nil))), fun D => ?_⟩
  suffices hy : XS _ D F0 [some (vr p0), some (va T x1), some (va T x2)] (stt Ω [] []) by
    rw [show (stt Ω [] []) = Ω from stt_self (by simp)] at hy
    exact hy
  unfold X_check_fit at hm
  obtain ⟨z1, hz1, hm⟩ := bnd_some hm
  refine xs_drop (xe_call (xa_cons (xe_var (i := 1) rfl) (xa_cons (xe_var (i := 2) rfl) xa_nil)) ⟨x1, x2, z1, rfl, hz1, rfl⟩ cal0) ?_
  show XS (tIfS _ _ _) _ _ [some (vr p0), some (va T x1), some (va T x2)] (stt Ω [] [])
  by_cases hc : (!decide (x1.w = x0.w)) = true
  · rw [if_pos hc] at hm
    refine xs_ifT1 (xt_eq (xt_test (T := T) (xe_neI (xe_bw bc.cl bc.nw (xe_var (i := 1) rfl)) (xe_mw mc.cl mc.nw (xe_var (i := 0) rfl) (stt_getU hk0)))) hc) ?_
    obtain ⟨z2, hz2, hm⟩ := bnd_some hm
    obtain rfl := Option.some.inj hm
    exact xs_rzX (xa_cons (xe_var (i := 2) rfl) xa_nil) (chkP_some hz2) (wtc_EL hx)
  · rw [if_neg hc] at hm
    cases hm
noncomputable def X_check_one (x0 : MS) (x1 : Bg) : Option XC :=
  (M_check_machine x0).bind fun z1 => onC (X_check_fit x0 x1 ("x" : Str)) (fun k => some k) none
def PreX_check_one (T : TC) : PreXX := fun As Ω R => ∃ (k0 : Nat) (p0 : Addr) (x0 : MS) (x1 : Bg) (r : XC), As = [vr p0, va T x1] ∧ Ω[k0]? = some (machA T p0 x0) ∧ X_check_one x0 x1 = some r ∧ R = RQ T r Ω
theorem okx_check_one {f : Addr} {fd : FuncData} (F : Fun T.K "check_one" "check_one" s_check_one f fd) (c_check_machine : Cal P w T.K mg base 5 "check_machine" ["machine"] (mkSp (Pre_check_machine T))) (cx_check_fit : CalX P w T.K mg base 6 "check_fit" ["machine", "value", "name"] (sp2 (Pre_check_fit T) (PreX_check_fit T))) : FnOk P w T.K mg base (L2.CX P w) 7 f fd ["machine", "x"] (mkSpX (PreX_check_one T)) := by
  refine fn_okX F sc_check_one (fun As Ω R h => ?_) (fun cdv A outer s H E hr As Ω R F0 h hx tk => ?_)
  · obtain ⟨k0, p0, x0, x1, r, rfl, _⟩ := h
    rfl
  obtain ⟨k0, p0, x0, x1, r, rfl, hk0, hm, rfl⟩ := h
  refine ⟨_, (pss_cons (ps_expr (pe_cal c_check_machine (hr.mono (by decide)) (by rfl) (pa_cons (pv 0) pa_nil))) (pss_one (ps_expr (pe_calX cx_check_fit (hr.mono (by decide)) (by rfl) tk (pa_cons (pv 0) (pa_cons (pv 1) (pa_cons pe_str pa_nil))))))), fun D => ?_⟩
  suffices hy : XS _ D F0 [some (vr p0), some (va T x1)] (stt Ω [] []) by
    rw [show (stt Ω [] []) = Ω from stt_self (by simp)] at hy
    exact hy
  unfold X_check_one at hm
  obtain ⟨z1, hz1, hm⟩ := bnd_some hm
  refine xs_drop (xe_call (xa_cons (xe_var (i := 0) rfl) xa_nil) ⟨k0, p0, x0, z1, rfl, (stt_getU hk0), hz1, rfl⟩ cal0) ?_
  show XS (tDrop _) _ _ [some (vr p0), some (va T x1)] (stt Ω [] [])
  cases hX : X_check_fit x0 x1 ("x" : Str) with
  | some kk =>
    rw [onC_s hX] at hm
    obtain rfl := Option.some.inj hm
    exact (xs_dropX (xr_callC (xa_cons (xe_var (i := 0) rfl) (xa_cons (xe_var (i := 1) rfl) (xa_cons xe_str xa_nil))) ⟨k0, p0, x0, x1, ("x" : Str), kk, rfl, (stt_getU hk0), hX, rfl⟩ (wtc_EL hx)))
  | none =>
    rw [onC_n hX] at hm
    cases hm
noncomputable def M_is_integer__or14  : Option Bool :=
  some false
def Pre_is_integer__or14 (T : TC) : PreT := fun As Ω R => ∃ (A0 : VA) (r : Bool), As = [A0] ∧ NoC T Ω A0 (.type "int") ∧ M_is_integer__or14  = some r ∧ R = RV (va T r) (stt Ω [] [])
theorem sc_is_integer__or14 : FnScope ["value"] ["value"] (defScope s_is_integer__or14) := ⟨rfl, rfl, rfl, by decide +kernel, rfl, by decide +kernel, by decide +kernel⟩
theorem ok_is_integer__or14 {f : Addr} {fd : FuncData} (F : Fun T.K "is_integer" "is_integer" s_is_integer__or14 f fd) (z_isinstance : mg "isinstance" = none) (z_int : mg "int" = none) : FnOk P w T.K mg base CX0 1 f fd ["value"] (mkSp (Pre_is_integer__or14 T)) := by
  refine fn_ok F sc_is_integer__or14 (fun As Ω R h => ?_) (fun cdv A outer s H E hr As Ω R F0 h => ?_)
  · obtain ⟨A0, r, rfl, _⟩ := h
    rfl
  obtain ⟨A0, r, rfl, hA0I, hm, rfl⟩ := h
  refine ⟨_, (pss_one (ps_ret (pe_and (pe_callB (cr_isiK (K := T.K) rfl) (by rfl) z_isinstance (by decide +kernel) (pa_cons (pv 0) (pa_cons (pe_bltn (v := .ty "int") (by rfl) z_int (by decide +kernel) rfl) pa_nil))) (pe_one pe_neverX)))), fun D hrt hnx => ?_⟩
  have ok : Okk Ω [] := okk0
  suffices hx : XS _ D F0 [some A0] (stt Ω [] []) by
    rw [show (stt Ω [] []) = Ω from stt_self (by simp)] at hx
    exact hx
  unfold M_is_integer__or14 at hm
  obtain rfl := Option.some.inj hm
  refine xs_ret (xe_andV (b := false) (c := false) (xe_noC (xe_var (i := 0) rfl) xe_vx (.ty _) (noC_st hA0I)) (fun h => nomatch h)) hrt.all
noncomputable def X_check_shift__or13 (x0 : MS) (x1 : Bg) : Option XC :=
  onC (X_check_one x0 x1) (fun k => some k) ((M_check_one x0 x1).bind fun z1 => (chkP (Str.length ("count" : Str) ≤ 100)).bind fun z4 => some (.f 0 "argument" ("count" : Str)))
def PreX_check_shift__or13 (T : TC) : PreXX := fun As Ω R => ∃ (k0 : Nat) (p0 : Addr) (x0 : MS) (x1 : Bg) (A2 : VA) (r : XC), As = [vr p0, va T x1, A2] ∧ Ω[k0]? = some (machA T p0 x0) ∧ NoC T Ω A2 (.type "int") ∧ X_check_shift__or13 x0 x1 = some r ∧ R = RQ T r Ω
theorem sc_check_shift__or13 : FnScope ["machine", "x", "count"] ["machine", "x", "count"] (defScope s_check_shift__or13) := ⟨rfl, rfl, rfl, by decide +kernel, rfl, by decide +kernel, by decide +kernel⟩
theorem okx_check_shift__or13 {f : Addr} {fd : FuncData} (F : Fun T.K "check_shift" "check_shift" s_check_shift__or13 f fd) (cx_check_one : CalX P w T.K mg base 7 "check_one" ["machine", "x"] (sp2 (Pre_check_one T) (PreX_check_one T))) (c_is_integer__or14 : Cal P w T.K mg base 1 "is_integer" ["value"] (mkSp (Pre_is_integer__or14 T))) (e_InvalidBound : MkC P w T.K mg base 3 "InvalidBound" (T.C 300) "argument") : FnOk P w T.K mg base (L2.CX P w) 8 f fd ["machine", "x", "count"] (mkSpX (PreX_check_shift__or13 T)) := by
  refine fn_okX F sc_check_shift__or13 (fun As Ω R h => ?_) (fun cdv A outer s H E hr As Ω R F0 h hx tk => ?_)
  · obtain ⟨k0, p0, x0, x1, A2, r, rfl, _⟩ := h
    rfl
  obtain ⟨k0, p0, x0, x1, A2, r, rfl, hk0, hA2I, hm, rfl⟩ := h
  refine ⟨_, (pss_cons (ps_expr (pe_calX cx_check_one (hr.mono (by decide)) (by rfl) tk (pa_cons (pv 0) (pa_cons (pv 1) pa_nil)))) (pss_one (ps_if (PW.pt (pw_or (pt_not (pt_val (pe_cal c_is_integer__or14 (hr.mono (by decide)) (by rfl) (pa_cons (pv 2) pa_nil)))) (pw_or1 pt_noX))) (pss_one (ps_raiseX rfl tk e_InvalidBound (hr.mono (by decide)) (by rfl) (pa_cons pe_str pa_nil))) pss_never))), fun D => ?_⟩
  suffices hy : XS _ D F0 [some (vr p0), some (va T x1), some A2] (stt Ω [] []) by
    rw [show (stt Ω [] []) = Ω from stt_self (by simp)] at hy
    exact hy
  unfold X_check_shift__or13 at hm
  cases hX : X_check_one x0 x1 with
  | some kk =>
    rw [onC_s hX] at hm
    obtain rfl := Option.some.inj hm
    exact xs_seq (xs_dropX (xr_callC (xa_cons (xe_var (i := 0) rfl) (xa_cons (xe_var (i := 1) rfl) xa_nil)) ⟨k0, p0, x0, x1, kk, rfl, (stt_getU hk0), hX, rfl⟩ (wtc_EL hx)))
  | none =>
    rw [onC_n hX] at hm
    obtain ⟨z1, hz1, hm⟩ := bnd_some hm
    refine xs_drop (xe_callS (xa_cons (xe_var (i := 0) rfl) (xa_cons (xe_var (i := 1) rfl) xa_nil)) ⟨k0, p0, x0, x1, z1, rfl, (stt_getU hk0), hz1, rfl⟩ cal0) ?_
    show XS (tIfS _ _ _) _ _ [some (vr p0), some (va T x1), some A2] (stt Ω [] [])
    refine xs_ifT1 (xt_orFst (xt_notT (xt_tB (T := T) (xe_call (xa_cons (xe_var (i := 2) rfl) xa_nil) ⟨A2, false, rfl, (noC_st hA2I), rfl, rfl⟩ cal0)))) ?_
    obtain ⟨z4, hz4, hm⟩ := bnd_some hm
    obtain rfl := Option.some.inj hm
    exact xs_rzX (xa_cons xe_str xa_nil) (chkP_some hz4) (wtc_EL hx)
noncomputable def X_shift_left__or12 (x0 : MS) (x1 : Bg) : Option XC :=
  X_check_shift__or13 x0 x1
def PreX_shift_left__or12 (T : TC) : PreXX := fun As Ω R => ∃ (k0 : Nat) (p0 : Addr) (x0 : MS) (x1 : Bg) (A2 : VA) (r : XC), As = [vr p0, va T x1, A2] ∧ Ω[k0]? = some (machA T p0 x0) ∧ NoC T Ω A2 (.type "int") ∧ X_shift_left__or12 x0 x1 = some r ∧ R = RQ T r Ω
theorem sc_shift_left__or12 : FnScope ["machine", "x", "count"] ["machine", "x", "count"] (defScope s_shift_left__or12) := ⟨rfl, rfl, rfl, by decide +kernel, rfl, by decide +kernel, by decide +kernel⟩
theorem okx_shift_left__or12 {f : Addr} {fd : FuncData} (F : Fun T.K "shift_left" "shift_left" s_shift_left__or12 f fd) (cx_check_shift__or13 : CalX P w T.K mg base 8 "check_shift" ["machine", "x", "count"] (mkSpX (PreX_check_shift__or13 T))) : FnOk P w T.K mg base (L2.CX P w) 23 f fd ["machine", "x", "count"] (mkSpX (PreX_shift_left__or12 T)) := by
  refine fn_okX F sc_shift_left__or12 (fun As Ω R h => ?_) (fun cdv A outer s H E hr As Ω R F0 h hx tk => ?_)
  · obtain ⟨k0, p0, x0, x1, A2, r, rfl, _⟩ := h
    rfl
  obtain ⟨k0, p0, x0, x1, A2, r, rfl, hk0, hA2I, hm, rfl⟩ := h
  refine ⟨_, (pss_cons (ps_expr (pe_calX cx_check_shift__or13 (hr.mono (by decide)) (by rfl) tk (pa_cons (pv 0) (pa_cons (pv 1) (pa_cons (pv 2) pa_nil))))) pss_never), fun D => ?_⟩
  suffices hy : XS _ D F0 [some (vr p0), some (va T x1), some A2] (stt Ω [] []) by
    rw [show (stt Ω [] []) = Ω from stt_self (by simp)] at hy
    exact hy
  unfold X_shift_left__or12 at hm
  have hX := hm
  exact xs_seq (xs_dropX (xr_callO (xa_cons (xe_var (i := 0) rfl) (xa_cons (xe_var (i := 1) rfl) (xa_cons (xe_var (i := 2) rfl) xa_nil))) ⟨k0, p0, x0, x1, A2, _, rfl, (stt_getU hk0), (noC_st hA2I), hX, rfl⟩ (wtc_EL hx)))
noncomputable def X_shift_right__or15 (x0 : MS) (x1 : Bg) : Option XC :=
  X_check_shift__or13 x0 x1
def PreX_shift_right__or15 (T : TC) : PreXX := fun As Ω R => ∃ (k0 : Nat) (p0 : Addr) (x0 : MS) (x1 : Bg) (A2 : VA) (r : XC), As = [vr p0, va T x1, A2] ∧ Ω[k0]? = some (machA T p0 x0) ∧ NoC T Ω A2 (.type "int") ∧ X_shift_right__or15 x0 x1 = some r ∧ R = RQ T r Ω
theorem sc_shift_right__or15 : FnScope ["machine", "x", "count"] ["machine", "x", "count"] (defScope s_shift_right__or15) := ⟨rfl, rfl, rfl, by decide +kernel, rfl, by decide +kernel, by decide +kernel⟩
theorem okx_shift_right__or15 {f : Addr} {fd : FuncData} (F : Fun T.K "shift_right" "shift_right" s_shift_right__or15 f fd) (cx_check_shift__or13 : CalX P w T.K mg base 8 "check_shift" ["machine", "x", "count"] (mkSpX (PreX_check_shift__or13 T))) : FnOk P w T.K mg base (L2.CX P w) 23 f fd ["machine", "x", "count"] (mkSpX (PreX_shift_right__or15 T)) := by
  refine fn_okX F sc_shift_right__or15 (fun As Ω R h => ?_) (fun cdv A outer s H E hr As Ω R F0 h hx tk => ?_)
  · obtain ⟨k0, p0, x0, x1, A2, r, rfl, _⟩ := h
    rfl
  obtain ⟨k0, p0, x0, x1, A2, r, rfl, hk0, hA2I, hm, rfl⟩ := h
  refine ⟨_, (pss_cons (ps_expr (pe_calX cx_check_shift__or13 (hr.mono (by decide)) (by rfl) tk (pa_cons (pv 0) (pa_cons (pv 1) (pa_cons (pv 2) pa_nil))))) pss_never), fun D => ?_⟩
  suffices hy : XS _ D F0 [some (vr p0), some (va T x1), some A2] (stt Ω [] []) by
    rw [show (stt Ω [] []) = Ω from stt_self (by simp)] at hy
    exact hy
  unfold X_shift_right__or15 at hm
  have hX := hm
  exact xs_seq (xs_dropX (xr_callO (xa_cons (xe_var (i := 0) rfl) (xa_cons (xe_var (i := 1) rfl) (xa_cons (xe_var (i := 2) rfl) xa_nil))) ⟨k0, p0, x0, x1, A2, _, rfl, (stt_getU hk0), (noC_st hA2I), hX, rfl⟩ (wtc_EL hx)))
noncomputable def X_check_shift (x0 : MS) (x1 : Bg) (x2 : Int) : Option XC :=
  onC (X_check_one x0 x1) (fun k => some k) ((M_check_one x0 x1).bind fun z1 => (M_is_integer x2).bind fun z2 => if ((!z2) || (decide (x2 < (0 : Int)))) = true then (chkP (Str.length ("count" : Str) ≤ 100)).bind fun z3 => some (.f 0 "argument" ("count" : Str)) else none)
def PreX_check_shift (T : TC) : PreXX := fun As Ω R => ∃ (k0 : Nat) (p0 : Addr) (x0 : MS) (x1 : Bg) (x2 : Int) (r : XC), As = [vr p0, va T x1, va T x2] ∧ Ω[k0]? = some (machA T p0 x0) ∧ X_check_shift x0 x1 x2 = some r ∧ R = RQ T r Ω
theorem okx_check_shift {f : Addr} {fd : FuncData} (F : Fun T.K "check_shift" "check_shift" s_check_shift f fd) (cx_check_one : CalX P w T.K mg base 7 "check_one" ["machine", "x"] (sp2 (Pre_check_one T) (PreX_check_one T))) (c_is_integer : Cal P w T.K mg base 1 "is_integer" ["value"] (mkSp (Pre_is_integer T))) (e_InvalidBound : MkC P w T.K mg base 3 "InvalidBound" (T.C 300) "argument") : FnOk P w T.K mg base (L2.CX P w) 8 f fd ["machine", "x", "count"] (mkSpX (PreX_check_shift T)) := by
  refine fn_okX F sc_check_shift (fun As Ω R h => ?_) (fun cdv A outer s H E hr As Ω R F0 h hx tk => ?_)
  · obtain ⟨k0, p0, x0, x1, x2, r, rfl, _⟩ := h
    rfl
  obtain ⟨k0, p0, x0, x1, x2, r, rfl, hk0, hm, rfl⟩ := h
  refine ⟨_, (pss_cons (ps_expr (pe_calX cx_check_one (hr.mono (by decide)) (by rfl) tk (pa_cons (pv 0) (pa_cons (pv 1) pa_nil)))) (pss_one (ps_if (PW.pt (pw_or (pt_not (pt_val (pe_cal c_is_integer (hr.mono (by decide)) (by rfl) (pa_cons (pv 2) pa_nil)))) (pw_or1 (pt_cmpR op_lt (pv 2) pe_int (nomark _))))) (pss_one (ps_raiseX rfl tk e_InvalidBound (hr.mono (by decide)) (by rfl) (pa_cons pe_str pa_nil))) pss_nil))), fun D => ?_⟩
  suffices hy : XS _ D F0 [some (vr p0), some (va T x1), some (va T x2)] (stt Ω [] []) by
    rw [show (stt Ω [] []) = Ω from stt_self (by simp)] at hy
    exact hy
  unfold X_check_shift at hm
  cases hX : X_check_one x0 x1 with
  | some kk =>
    rw [onC_s hX] at hm
    obtain rfl := Option.some.inj hm
    exact xs_seq (xs_dropX (xr_callC (xa_cons (xe_var (i := 0) rfl) (xa_cons (xe_var (i := 1) rfl) xa_nil)) ⟨k0, p0, x0, x1, kk, rfl, (stt_getU hk0), hX, rfl⟩ (wtc_EL hx)))
  | none =>
    rw [onC_n hX] at hm
    obtain ⟨z1, hz1, hm⟩ := bnd_some hm
    refine xs_drop (xe_callS (xa_cons (xe_var (i := 0) rfl) (xa_cons (xe_var (i := 1) rfl) xa_nil)) ⟨k0, p0, x0, x1, z1, rfl, (stt_getU hk0), hz1, rfl⟩ cal0) ?_
    show XS (tIfS _ _ _) _ _ [some (vr p0), some (va T x1), some (va T x2)] (stt Ω [] [])
    obtain ⟨z2, hz2, hm⟩ := bnd_some hm
    by_cases hc : ((!z2) || (decide (x2 < (0 : Int)))) = true
    · rw [if_pos hc] at hm
      refine xs_ifT1 (xt_eq (xt_or (xt_not (xt_tB (T := T) (xe_call (xa_cons (xe_var (i := 2) rfl) xa_nil) ⟨x2, z2, rfl, hz2, rfl⟩ cal0))) (fun _ => (xt_test (T := T) (xe_lt (xe_var (i := 2) rfl) xe_int))) (fun _ => rfl)) hc) ?_
      obtain ⟨z3, hz3, hm⟩ := bnd_some hm
      obtain rfl := Option.some.inj hm
      exact xs_rzX (xa_cons xe_str xa_nil) (chkP_some hz3) (wtc_EL hx)
    · rw [if_neg hc] at hm
      cases hm
noncomputable def X_shift_left (x0 : MS) (x1 : Bg) (x2 : Int) : Option XC :=
  onC (X_check_shift x0 x1 x2) (fun k => some k) ((M_check_shift x0 x1 x2).bind fun z1 => if ((!decide (x1.v = (0 : Int))) && (decide ((100000 : Int) < x2))) = true then some (.z 2) else none)
def PreX_shift_left (T : TC) : PreXX := fun As Ω R => ∃ (k0 : Nat) (p0 : Addr) (x0 : MS) (x1 : Bg) (x2 : Int) (r : XC), As = [vr p0, va T x1, va T x2] ∧ Ω[k0]? = some (machA T p0 x0) ∧ X_shift_left x0 x1 x2 = some r ∧ R = RQ T r Ω
theorem okx_shift_left {f : Addr} {fd : FuncData} (F : Fun T.K "shift_left" "shift_left" s_shift_left f fd) (cx_check_shift : CalX P w T.K mg base 8 "check_shift" ["machine", "x", "count"] (sp2 (Pre_check_shift T) (PreX_check_shift T))) (bc : BCls T.K (T.C 1)) (g_GREATEST_SHIFT : ∃ u, mg "GREATEST_SHIFT" = some u ∧ RelV (.int 100000) u) (e_TooGreat : ExcC T.K mg "TooGreat" (T.C 302)) : FnOk P w T.K mg base (L2.CX P w) 23 f fd ["machine", "x", "count"] (mkSpX (PreX_shift_left T)) := by
  refine fn_okX F sc_shift_left (fun As Ω R h => ?_) (fun cdv A outer s H E hr As Ω R F0 h hx tk => ?_)
  · obtain ⟨k0, p0, x0, x1, x2, r, rfl, _⟩ := h
    rfl
  obtain ⟨k0, p0, x0, x1, x2, r, rfl, hk0, hm, rfl⟩ := h
  refine ⟨_, (pss_cons (ps_expr (pe_calX cx_check_shift (hr.mono (by decide)) (by rfl) tk (pa_cons (pv 0) (pa_cons (pv 1) (pa_cons (pv 2) pa_nil))))) (pss_cons (ps_if (PW.pt (pw_and (pt_cmpR (op_neXK (K := T.K) (by exact hr.units) rfl) (pe_fldK (K := T.K) (pv 1) (by rfl) rfl) pe_int (nomark _)) (pw_and1 (pt_cmpR op_gt (pv 2) (pe_gl rfl g_GREATEST_SHIFT) (nomark _))))) (pss_one (ps_raise0 rfl tk e_TooGreat (by rfl))) pss_nil) pss_never)), fun D => ?_⟩
  suffices hy : XS _ D F0 [some (vr p0), some (va T x1), some (va T x2)] (stt Ω [] []) by
    rw [show (stt Ω [] []) = Ω from stt_self (by simp)] at hy
    exact hy
  unfold X_shift_left at hm
  cases hX : X_check_shift x0 x1 x2 with
  | some kk =>
    rw [onC_s hX] at hm
    obtain rfl := Option.some.inj hm
    exact xs_seq (xs_dropX (xr_callC (xa_cons (xe_var (i := 0) rfl) (xa_cons (xe_var (i := 1) rfl) (xa_cons (xe_var (i := 2) rfl) xa_nil))) ⟨k0, p0, x0, x1, x2, kk, rfl, (stt_getU hk0), hX, rfl⟩ (wtc_EL hx)))
  | none =>
    rw [onC_n hX] at hm
    obtain ⟨z1, hz1, hm⟩ := bnd_some hm
    refine xs_drop (xe_callS (xa_cons (xe_var (i := 0) rfl) (xa_cons (xe_var (i := 1) rfl) (xa_cons (xe_var (i := 2) rfl) xa_nil))) ⟨k0, p0, x0, x1, x2, z1, rfl, (stt_getU hk0), hz1, rfl⟩ cal0) ?_
    show XS (tSeq _ _) _ _ [some (vr p0), some (va T x1), some (va T x2)] (stt Ω [] [])
    by_cases hc : ((!decide (x1.v = (0 : Int))) && (decide ((100000 : Int) < x2))) = true
    · rw [if_pos hc] at hm
      refine xs_ifT (xt_eq (xt_and (xt_test (T := T) (xe_neI (xe_bv bc.cl bc.nv (xe_var (i := 1) rfl)) xe_int)) (fun _ => (xt_test (T := T) (xe_gt (xe_var (i := 2) rfl) xe_int))) (fun _ => rfl)) hc) ?_
      obtain rfl := Option.some.inj hm
      exact xs_rzC (wtc_EL hx)
    · rw [if_neg hc] at hm
      refine xs_ifN (xt_eq (xt_and (xt_test (T := T) (xe_neI (xe_bv bc.cl bc.nv (xe_var (i := 1) rfl)) xe_int)) (fun _ => (xt_test (T := T) (xe_gt (xe_var (i := 2) rfl) xe_int))) (fun _ => rfl)) (nt hc)) ?_
      show XS _ _ _ [some (vr p0), some (va T x1), some (va T x2)] (stt Ω [] [])
      cases hm
noncomputable def X_shift_right (x0 : MS) (x1 : Bg) (x2 : Int) : Option XC :=
  onC (X_check_shift x0 x1 x2) (fun k => some k) none
def PreX_shift_right (T : TC) : PreXX := fun As Ω R => ∃ (k0 : Nat) (p0 : Addr) (x0 : MS) (x1 : Bg) (x2 : Int) (r : XC), As = [vr p0, va T x1, va T x2] ∧ Ω[k0]? = some (machA T p0 x0) ∧ X_shift_right x0 x1 x2 = some r ∧ R = RQ T r Ω
theorem okx_shift_right {f : Addr} {fd : FuncData} (F : Fun T.K "shift_right" "shift_right" s_shift_right f fd) (cx_check_shift : CalX P w T.K mg base 8 "check_shift" ["machine", "x", "count"] (sp2 (Pre_check_shift T) (PreX_check_shift T))) : FnOk P w T.K mg base (L2.CX P w) 23 f fd ["machine", "x", "count"] (mkSpX (PreX_shift_right T)) := by
  refine fn_okX F sc_shift_right (fun As Ω R h => ?_) (fun cdv A outer s H E hr As Ω R F0 h hx tk => ?_)
  · obtain ⟨k0, p0, x0, x1, x2, r, rfl, _⟩ := h
    rfl
  obtain ⟨k0, p0, x0, x1, x2, r, rfl, hk0, hm, rfl⟩ := h
  refine ⟨_, (pss_cons (ps_expr (pe_calX cx_check_shift (hr.mono (by decide)) (by rfl) tk (pa_cons (pv 0) (pa_cons (pv 1) (pa_cons (pv 2) pa_nil))))) pss_never), fun D => ?_⟩
  suffices hy : XS _ D F0 [some (vr p0), some (va T x1), some (va T x2)] (stt Ω [] []) by
    rw [show (stt Ω [] []) = Ω from stt_self (by simp)] at hy
    exact hy
  unfold X_shift_right at hm
  cases hX : X_check_shift x0 x1 x2 with
  | some kk =>
    rw [onC_s hX] at hm
    obtain rfl := Option.some.inj hm
    exact xs_seq (xs_dropX (xr_callC (xa_cons (xe_var (i := 0) rfl) (xa_cons (xe_var (i := 1) rfl) (xa_cons (xe_var (i := 2) rfl) xa_nil))) ⟨k0, p0, x0, x1, x2, kk, rfl, (stt_getU hk0), hX, rfl⟩ (wtc_EL hx)))
  | none =>
    rw [onC_n hX] at hm
    cases hm
noncomputable def M_is_integer__or18 (x0 : Bool) : Option Bool :=
  some (true && (!true))
def Pre_is_integer__or18 (T : TC) : PreT := fun As Ω R => ∃ (x0 : Bool) (r : Bool), As = [va T x0] ∧ M_is_integer__or18 x0 = some r ∧ R = RV (va T r) (stt Ω [] [])
theorem sc_is_integer__or18 : FnScope ["value"] ["value"] (defScope s_is_integer__or18) := ⟨rfl, rfl, rfl, by decide +kernel, rfl, by decide +kernel, by decide +kernel⟩
theorem ok_is_integer__or18 {f : Addr} {fd : FuncData} (F : Fun T.K "is_integer" "is_integer" s_is_integer__or18 f fd) (z_isinstance : mg "isinstance" = none) (z_int : mg "int" = none) (z_bool : mg "bool" = none) : FnOk P w T.K mg base CX0 1 f fd ["value"] (mkSp (Pre_is_integer__or18 T)) := by
  refine fn_ok F sc_is_integer__or18 (fun As Ω R h => ?_) (fun cdv A outer s H E hr As Ω R F0 h => ?_)
  · obtain ⟨x0, r, rfl, _⟩ := h
    rfl
  obtain ⟨x0, r, rfl, hm, rfl⟩ := h
  refine ⟨_, (pss_one (ps_ret (pe_and (pe_callB (cr_isiK (K := T.K) rfl) (by rfl) z_isinstance (by decide +kernel) (pa_cons (pv 0) (pa_cons (pe_bltn (v := .ty "int") (by rfl) z_int (by decide +kernel) rfl) pa_nil))) (pe_one (pe_not (pe_callB (cr_isiK (K := T.K) rfl) (by rfl) z_isinstance (by decide +kernel) (pa_cons (pv 0) (pa_cons (pe_bltn (v := .ty "bool") (by rfl) z_bool (by decide +kernel) rfl) pa_nil)))))))), fun D hrt hnx => ?_⟩
  have ok : Okk Ω [] := okk0
  suffices hx : XS _ D F0 [some (va T x0)] (stt Ω [] []) by
    rw [show (stt Ω [] []) = Ω from stt_self (by simp)] at hx
    exact hx
  unfold M_is_integer__or18 at hm
  obtain rfl := Option.some.inj hm
  refine xs_ret (xe_andV (xe_isi (xe_var (i := 0) rfl) xe_vx (.ty _) (fun F H v hh a => ty_bool hh a) (kit_ty (by decide +kernel))) (fun _ => (xe_notV (xe_isi (xe_var (i := 0) rfl) xe_vx (.ty _) (fun F H v hh a => ty_bool hh a) (kit_ty (by decide +kernel)))))) hrt.all
noncomputable def X_check_shift__or17 (x0 : MS) (x1 : Bg) (x2 : Bool) : Option XC :=
  onC (X_check_one x0 x1) (fun k => some k) ((M_check_one x0 x1).bind fun z1 => (chkP (Str.length ("count" : Str) ≤ 100)).bind fun z4 => some (.f 0 "argument" ("count" : Str)))
def PreX_check_shift__or17 (T : TC) : PreXX := fun As Ω R => ∃ (k0 : Nat) (p0 : Addr) (x0 : MS) (x1 : Bg) (x2 : Bool) (r : XC), As = [vr p0, va T x1, va T x2] ∧ Ω[k0]? = some (machA T p0 x0) ∧ X_check_shift__or17 x0 x1 x2 = some r ∧ R = RQ T r Ω
theorem sc_check_shift__or17 : FnScope ["machine", "x", "count"] ["machine", "x", "count"] (defScope s_check_shift__or17) := ⟨rfl, rfl, rfl, by decide +kernel, rfl, by decide +kernel, by decide +kernel⟩
theorem okx_check_shift__or17 {f : Addr} {fd : FuncData} (F : Fun T.K "check_shift" "check_shift" s_check_shift__or17 f fd) (cx_check_one : CalX P w T.K mg base 7 "check_one" ["machine", "x"] (sp2 (Pre_check_one T) (PreX_check_one T))) (c_is_integer__or18 : Cal P w T.K mg base 1 "is_integer" ["value"] (mkSp (Pre_is_integer__or18 T))) (e_InvalidBound : MkC P w T.K mg base 3 "InvalidBound" (T.C 300) "argument") : FnOk P w T.K mg base (L2.CX P w) 8 f fd ["machine", "x", "count"] (mkSpX (PreX_check_shift__or17 T)) := by
  refine fn_okX F sc_check_shift__or17 (fun As Ω R h => ?_) (fun cdv A outer s H E hr As Ω R F0 h hx tk => ?_)
  · obtain ⟨k0, p0, x0, x1, x2, r, rfl, _⟩ := h
    rfl
  obtain ⟨k0, p0, x0, x1, x2, r, rfl, hk0, hm, rfl⟩ := h
  refine ⟨_, (pss_cons (ps_expr (pe_calX cx_check_one (hr.mono (by decide)) (by rfl) tk (pa_cons (pv 0) (pa_cons (pv 1) pa_nil)))) (pss_one (ps_if (PW.pt (pw_or (pt_not (pt_val (pe_cal c_is_integer__or18 (hr.mono (by decide)) (by rfl) (pa_cons (pv 2) pa_nil)))) (pw_or1 pt_noX))) (pss_one (ps_raiseX rfl tk e_InvalidBound (hr.mono (by decide)) (by rfl) (pa_cons pe_str pa_nil))) pss_never))), fun D => ?_⟩
  suffices hy : XS _ D F0 [some (vr p0), some (va T x1), some (va T x2)] (stt Ω [] []) by
    rw [show (stt Ω [] []) = Ω from stt_self (by simp)] at hy
    exact hy
  unfold X_check_shift__or17 at hm
  cases hX : X_check_one x0 x1 with
  | some kk =>
    rw [onC_s hX] at hm
    obtain rfl := Option.some.inj hm
    exact xs_seq (xs_dropX (xr_callC (xa_cons (xe_var (i := 0) rfl) (xa_cons (xe_var (i := 1) rfl) xa_nil)) ⟨k0, p0, x0, x1, kk, rfl, (stt_getU hk0), hX, rfl⟩ (wtc_EL hx)))
  | none =>
    rw [onC_n hX] at hm
    obtain ⟨z1, hz1, hm⟩ := bnd_some hm
    refine xs_drop (xe_callS (xa_cons (xe_var (i := 0) rfl) (xa_cons (xe_var (i := 1) rfl) xa_nil)) ⟨k0, p0, x0, x1, z1, rfl, (stt_getU hk0), hz1, rfl⟩ cal0) ?_
    show XS (tIfS _ _ _) _ _ [some (vr p0), some (va T x1), some (va T x2)] (stt Ω [] [])
    refine xs_ifT1 (xt_orFst (xt_notT (xt_tB (T := T) (xe_call (xa_cons (xe_var (i := 2) rfl) xa_nil) ⟨x2, false, rfl, rfl, rfl⟩ cal0)))) ?_
    obtain ⟨z4, hz4, hm⟩ := bnd_some hm
    obtain rfl := Option.some.inj hm
    exact xs_rzX (xa_cons xe_str xa_nil) (chkP_some hz4) (wtc_EL hx)
noncomputable def X_shift_left__or16 (x0 : MS) (x1 : Bg) (x2 : Bool) : Option XC :=
  X_check_shift__or17 x0 x1 x2
def PreX_shift_left__or16 (T : TC) : PreXX := fun As Ω R => ∃ (k0 : Nat) (p0 : Addr) (x0 : MS) (x1 : Bg) (x2 : Bool) (r : XC), As = [vr p0, va T x1, va T x2] ∧ Ω[k0]? = some (machA T p0 x0) ∧ X_shift_left__or16 x0 x1 x2 = some r ∧ R = RQ T r Ω
theorem sc_shift_left__or16 : FnScope ["machine", "x", "count"] ["machine", "x", "count"] (defScope s_shift_left__or16) := ⟨rfl, rfl, rfl, by decide +kernel, rfl, by decide +kernel, by decide +kernel⟩
theorem okx_shift_left__or16 {f : Addr} {fd : FuncData} (F : Fun T.K "shift_left" "shift_left" s_shift_left__or16 f fd) (cx_check_shift__or17 : CalX P w T.K mg base 8 "check_shift" ["machine", "x", "count"] (mkSpX (PreX_check_shift__or17 T))) : FnOk P w T.K mg base (L2.CX P w) 23 f fd ["machine", "x", "count"] (mkSpX (PreX_shift_left__or16 T)) := by
  refine fn_okX F sc_shift_left__or16 (fun As Ω R h => ?_) (fun cdv A outer s H E hr As Ω R F0 h hx tk => ?_)
  · obtain ⟨k0, p0, x0, x1, x2, r, rfl, _⟩ := h
    rfl
  obtain ⟨k0, p0, x0, x1, x2, r, rfl, hk0, hm, rfl⟩ := h
  refine ⟨_, (pss_cons (ps_expr (pe_calX cx_check_shift__or17 (hr.mono (by decide)) (by rfl) tk (pa_cons (pv 0) (pa_cons (pv 1) (pa_cons (pv 2) pa_nil))))) pss_never), fun D => ?_⟩
  suffices hy : XS _ D F0 [some (vr p0), some (va T x1), some (va T x2)] (stt Ω [] []) by
    rw [show (stt Ω [] []) = Ω from stt_self (by simp)] at hy
    exact hy
  unfold X_shift_left__or16 at hm
  have hX := hm
  exact xs_seq (xs_dropX (xr_callO (xa_cons (xe_var (i := 0) rfl) (xa_cons (xe_var (i := 1) rfl) (xa_cons (xe_var (i := 2) rfl) xa_nil))) ⟨k0, p0, x0, x1, x2, _, rfl, (stt_getU hk0), hX, rfl⟩ (wtc_EL hx)))
noncomputable def X_shift_right__or19 (x0 : MS) (x1 : Bg) (x2 : Bool) : Option XC :=
  X_check_shift__or17 x0 x1 x2
def PreX_shift_right__or19 (T : TC) : PreXX := fun As Ω R => ∃ (k0 : Nat) (p0 : Addr) (x0 : MS) (x1 : Bg) (x2 : Bool) (r : XC), As = [vr p0, va T x1, va T x2] ∧ Ω[k0]? = some (machA T p0 x0) ∧ X_shift_right__or19 x0 x1 x2 = some r ∧ R = RQ T r Ω
theorem sc_shift_right__or19 : FnScope ["machine", "x", "count"] ["machine", "x", "count"] (defScope s_shift_right__or19) := ⟨rfl, rfl, rfl, by decide +kernel, rfl, by decide +kernel, by decide +kernel⟩
theorem okx_shift_right__or19 {f : Addr} {fd : FuncData} (F : Fun T.K "shift_right" "shift_right" s_shift_right__or19 f fd) (cx_check_shift__or17 : CalX P w T.K mg base 8 "check_shift" ["machine", "x", "count"] (mkSpX (PreX_check_shift__or17 T))) : FnOk P w T.K mg base (L2.CX P w) 23 f fd ["machine", "x", "count"] (mkSpX (PreX_shift_right__or19 T)) := by
  refine fn_okX F sc_shift_right__or19 (fun As Ω R h => ?_) (fun cdv A outer s H E hr As Ω R F0 h hx tk => ?_)
  · obtain ⟨k0, p0, x0, x1, x2, r, rfl, _⟩ := h
    rfl
  obtain ⟨k0, p0, x0, x1, x2, r, rfl, hk0, hm, rfl⟩ := h
  refine ⟨_, (pss_cons (ps_expr (pe_calX cx_check_shift__or17 (hr.mono (by decide)) (by rfl) tk (pa_cons (pv 0) (pa_cons (pv 1) (pa_cons (pv 2) pa_nil))))) pss_never), fun D => ?_⟩
  suffices hy : XS _ D F0 [some (vr p0), some (va T x1), some (va T x2)] (stt Ω [] []) by
    rw [show (stt Ω [] []) = Ω from stt_self (by simp)] at hy
    exact hy
  unfold X_shift_right__or19 at hm
  have hX := hm
  exact xs_seq (xs_dropX (xr_callO (xa_cons (xe_var (i := 0) rfl) (xa_cons (xe_var (i := 1) rfl) (xa_cons (xe_var (i := 2) rfl) xa_nil))) ⟨k0, p0, x0, x1, x2, _, rfl, (stt_getU hk0), hX, rfl⟩ (wtc_EL hx)))
def SpU__law_numbers_right_shift_left (T : TC) : Sp := fun vs H Q E => mkSpX (PreX_shift_left__or1 T) vs H Q E ∨ mkSpX (PreX_shift_left__or6 T) vs H Q E ∨ mkSpX (PreX_shift_left__or12 T) vs H Q E ∨ mkSpX (PreX_shift_left T) vs H Q E ∨ mkSpX (PreX_shift_left__or16 T) vs H Q E
theorem sub__law_numbers_right_shift_left_0 {T : TC} {vs : List V} {H : Hp} {Q : VK} {E : XK} (h : mkSpX (PreX_shift_left__or1 T) vs H Q E) : SpU__law_numbers_right_shift_left T vs H Q E := .inl h
theorem sub__law_numbers_right_shift_left_1 {T : TC} {vs : List V} {H : Hp} {Q : VK} {E : XK} (h : mkSpX (PreX_shift_left__or6 T) vs H Q E) : SpU__law_numbers_right_shift_left T vs H Q E := .inr (.inl h)
theorem sub__law_numbers_right_shift_left_2 {T : TC} {vs : List V} {H : Hp} {Q : VK} {E : XK} (h : mkSpX (PreX_shift_left__or12 T) vs H Q E) : SpU__law_numbers_right_shift_left T vs H Q E := .inr (.inr (.inl h))
theorem sub__law_numbers_right_shift_left_3 {T : TC} {vs : List V} {H : Hp} {Q : VK} {E : XK} (h : mkSpX (PreX_shift_left T) vs H Q E) : SpU__law_numbers_right_shift_left T vs H Q E := .inr (.inr (.inr (.inl h)))
theorem sub__law_numbers_right_shift_left_4 {T : TC} {vs : List V} {H : Hp} {Q : VK} {E : XK} (h : mkSpX (PreX_shift_left__or16 T) vs H Q E) : SpU__law_numbers_right_shift_left T vs H Q E := .inr (.inr (.inr (.inr (h))))
def SpU__law_numbers_right_shift_right (T : TC) : Sp := fun vs H Q E => mkSpX (PreX_shift_right__or5 T) vs H Q E ∨ mkSpX (PreX_shift_right__or11 T) vs H Q E ∨ mkSpX (PreX_shift_right__or15 T) vs H Q E ∨ mkSpX (PreX_shift_right T) vs H Q E ∨ mkSpX (PreX_shift_right__or19 T) vs H Q E
theorem sub__law_numbers_right_shift_right_0 {T : TC} {vs : List V} {H : Hp} {Q : VK} {E : XK} (h : mkSpX (PreX_shift_right__or5 T) vs H Q E) : SpU__law_numbers_right_shift_right T vs H Q E := .inl h
theorem sub__law_numbers_right_shift_right_1 {T : TC} {vs : List V} {H : Hp} {Q : VK} {E : XK} (h : mkSpX (PreX_shift_right__or11 T) vs H Q E) : SpU__law_numbers_right_shift_right T vs H Q E := .inr (.inl h)
theorem sub__law_numbers_right_shift_right_2 {T : TC} {vs : List V} {H : Hp} {Q : VK} {E : XK} (h : mkSpX (PreX_shift_right__or15 T) vs H Q E) : SpU__law_numbers_right_shift_right T vs H Q E := .inr (.inr (.inl h))
theorem sub__law_numbers_right_shift_right_3 {T : TC} {vs : List V} {H : Hp} {Q : VK} {E : XK} (h : mkSpX (PreX_shift_right T) vs H Q E) : SpU__law_numbers_right_shift_right T vs H Q E := .inr (.inr (.inr (.inl h)))
theorem sub__law_numbers_right_shift_right_4 {T : TC} {vs : List V} {H : Hp} {Q : VK} {E : XK} (h : mkSpX (PreX_shift_right__or19 T) vs H Q E) : SpU__law_numbers_right_shift_right T vs H Q E := .inr (.inr (.inr (.inr (h))))
def SF__law_numbers_right (T : TC) (f : Addr) (sp : Sp) : Prop := (f = T.C 200 ∧ sp = SpU__law_numbers_right_shift_left T) ∨ ((f = T.C 201 ∧ sp = SpU__law_numbers_right_shift_right T) ∨ (False))
noncomputable def M__law_numbers_right (x0 : MS) (x1 : Bg) (x2 : Bg) (x3 : Int) (x4 : (LP DPn DT)) : Option Bool :=
  (((X_shift_left__or1).bind fun z2 => (M__law_said (some z2)).bind fun z3 => (X_shift_right__or5).bind fun z4 => (M__law_said (some z4)).bind fun z5 => (chkP ((-(2 ^ 63) ≤ (2 : Int) ∧ (2 : Int) < 2 ^ 63) ∧ ([("machine" : Str)] : List Str).length * ((2 : Int)).toNat ≤ sizeLine)).bind fun z6 => (chkP ((LF.mk ([z3, z5] : List (EN Str))) = (LF.mk (((List.replicate ((2 : Int)).toNat ([("machine" : Str)] : List Str)).flatten).map EN.ok)) ∧ Dat.ok (LF.mk ([z3, z5] : List (EN Str))))).bind fun z7 => some (Stp.nx ()) : Option (Stp Unit Unit))).bind fun z8 => (((X_shift_left__or6 x0).bind fun z10 => (M__law_said (some z10)).bind fun z11 => (X_shift_right__or11 x0).bind fun z12 => (M__law_said (some z12)).bind fun z13 => (chkP ((-(2 ^ 63) ≤ (2 : Int) ∧ (2 : Int) < 2 ^ 63) ∧ ([("x" : Str)] : List Str).length * ((2 : Int)).toNat ≤ sizeLine)).bind fun z14 => (chkP ((LF.mk ([z11, z13] : List (EN Str))) = (LF.mk (((List.replicate ((2 : Int)).toNat ([("x" : Str)] : List Str)).flatten).map EN.ok)) ∧ Dat.ok (LF.mk ([z11, z13] : List (EN Str))))).bind fun z15 => some (Stp.nx ()) : Option (Stp Unit Unit))).bind fun z23 => (allN (fun (a16 : Bg) => ((X_shift_left__or12 x0 a16).bind fun z17 => (M__law_said (some z17)).bind fun z18 => (X_shift_right__or15 x0 a16).bind fun z19 => (M__law_said (some z19)).bind fun z20 => (chkP ((-(2 ^ 63) ≤ (2 : Int) ∧ (2 : Int) < 2 ^ 63) ∧ ([("x" : Str)] : List Str).length * ((2 : Int)).toNat ≤ sizeLine)).bind fun z21 => (chkP ((LF.mk ([z18, z20] : List (EN Str))) = (LF.mk (((List.replicate ((2 : Int)).toNat ([("x" : Str)] : List Str)).flatten).map EN.ok)) ∧ Dat.ok (LF.mk ([z18, z20] : List (EN Str))))).bind fun z22 => some (Stp.nx ()) : Option (Stp Unit Unit))) ([x1] : List Bg)).bind fun z24 => (chkP (CPow (10 : Int) (30 : Int))).bind fun z25 => (((X_shift_left__or12 x0 x2).bind fun z27 => (M__law_said (some z27)).bind fun z28 => (X_shift_right__or15 x0 x2).bind fun z29 => (M__law_said (some z29)).bind fun z30 => (chkP ((-(2 ^ 63) ≤ (2 : Int) ∧ (2 : Int) < 2 ^ 63) ∧ ([("count" : Str)] : List Str).length * ((2 : Int)).toNat ≤ sizeLine)).bind fun z31 => (chkP ((LF.mk ([z28, z30] : List (EN Str))) = (LF.mk (((List.replicate ((2 : Int)).toNat ([("count" : Str)] : List Str)).flatten).map EN.ok)) ∧ Dat.ok (LF.mk ([z28, z30] : List (EN Str))))).bind fun z32 => some (Stp.nx ()) : Option (Stp Unit Unit))).bind fun z47 => (allN (fun (a33 : Int) => ((X_shift_left x0 x2 a33).bind fun z34 => (M__law_said (some z34)).bind fun z35 => (X_shift_right x0 x2 a33).bind fun z36 => (M__law_said (some z36)).bind fun z37 => (chkP ((-(2 ^ 63) ≤ (2 : Int) ∧ (2 : Int) < 2 ^ 63) ∧ ([("count" : Str)] : List Str).length * ((2 : Int)).toNat ≤ sizeLine)).bind fun z38 => (chkP ((LF.mk ([z35, z37] : List (EN Str))) = (LF.mk (((List.replicate ((2 : Int)).toNat ([("count" : Str)] : List Str)).flatten).map EN.ok)) ∧ Dat.ok (LF.mk ([z35, z37] : List (EN Str))))).bind fun z39 => some (Stp.nx ()) : Option (Stp Unit Unit))) ([(-(1 : Int)), (-((10 : Int) ^ ((30 : Int)).toNat)), x3] : List Int)).bind fun z48 => (allN (fun (a40 : Bool) => ((X_shift_left__or16 x0 x2 a40).bind fun z41 => (M__law_said (some z41)).bind fun z42 => (X_shift_right__or19 x0 x2 a40).bind fun z43 => (M__law_said (some z43)).bind fun z44 => (chkP ((-(2 ^ 63) ≤ (2 : Int) ∧ (2 : Int) < 2 ^ 63) ∧ ([("count" : Str)] : List Str).length * ((2 : Int)).toNat ≤ sizeLine)).bind fun z45 => (chkP ((LF.mk ([z42, z44] : List (EN Str))) = (LF.mk (((List.replicate ((2 : Int)).toNat ([("count" : Str)] : List Str)).flatten).map EN.ok)) ∧ Dat.ok (LF.mk ([z42, z44] : List (EN Str))))).bind fun z46 => some (Stp.nx ()) : Option (Stp Unit Unit))) ([true, false] : List Bool)).bind fun z49 => some true
def Pre__law_numbers_right (T : TC) : PreT := fun As Ω R => ∃ (kT : Nat) (k0 : Nat) (p0 : Addr) (x0 : MS) (x1 : Bg) (x2 : Bg) (x3 : Int) (x4 : (LP DPn DT)) (r : Bool), As = [vr p0, va T x1, va T x2, va T x3, va T x4] ∧ Ω[kT]? = some (tabA (tbs T)) ∧ Ω[k0]? = some (machA T p0 x0) ∧ k0 ≠ kT ∧ M__law_numbers_right x0 x1 x2 x3 x4 = some r ∧ R = RV (va T r) (stt Ω [] [])
theorem sc__law_numbers_right : FnScope ["_law_machine_here", "_law_other", "_law_x_here", "_law_odd_count", "_law_deep_here", "_law_odd", "_law_ask"] ["_law_machine_here", "_law_other", "_law_x_here", "_law_odd_count", "_law_deep_here"] (defScope s__law_numbers_right) := ⟨rfl, rfl, rfl, by decide +kernel, rfl, by decide +kernel, by decide +kernel⟩
theorem ok__law_numbers_right {f : Addr} {fd : FuncData} (F : Fun T.K "_law_numbers_right" "_law_numbers_right" s__law_numbers_right f fd) (g_shift_left : ∃ u, mg "shift_left" = some u ∧ RelV (.ref (T.C 200)) u) (g_shift_right : ∃ u, mg "shift_right" = some u ∧ RelV (.ref (T.C 201)) u) (TB__law_numbers_right : LamX.TabB base mg (T.C 150) (T.C 100)) (hu__law_numbers_right : ∀ p ∈ tbs T, p.1 = T.C 100 → p.2 = qual__law_numbers_right) (hcd__law_numbers_right : CodeIs T.K f (T.C 150)) (cu__law_numbers_right_shift_left : CalX P w T.K mg base 23 "shift_left" ["machine", "x", "count"] (SpU__law_numbers_right_shift_left T)) (cu__law_numbers_right_shift_right : CalX P w T.K mg base 23 "shift_right" ["machine", "x", "count"] (SpU__law_numbers_right_shift_right T)) (c__law_said : CalLX P w T.K mg base 24 26 "_law_said" ["_law_call"] (Pre__law_said T)) (icb : ICls T.K (T.C 1)) (icm : ICls T.K (T.C 0)) (kt_Big_I : PySem.W.kitOne T.K (.ref (T.C 1)) (.type "int") = some false) (kt_tuple_G : PySem.W.kitOne T.K (.type "tuple") (.ref (T.C 1)) = some false) (kt_list_G : PySem.W.kitOne T.K (.type "list") (.ref (T.C 1)) = some false) (kt_dict_G : PySem.W.kitOne T.K (.type "dict") (.ref (T.C 1)) = some false) (kt_Mach_G : PySem.W.kitOne T.K (.ref (T.C 0)) (.ref (T.C 1)) = some false) (kt_str_G : PySem.W.kitOne T.K (.type "str") (.ref (T.C 1)) = some false) (kt_bool_G : PySem.W.kitOne T.K (.type "bool") (.ref (T.C 1)) = some false) (kt_int_G : PySem.W.kitOne T.K (.type "int") (.ref (T.C 1)) = some false) (kt_NoneType_G : PySem.W.kitOne T.K (.type "NoneType") (.ref (T.C 1)) = some false) (kt_tuple_M : PySem.W.kitOne T.K (.type "tuple") (.ref (T.C 0)) = some false) (kt_list_M : PySem.W.kitOne T.K (.type "list") (.ref (T.C 0)) = some false) (kt_Big_M : PySem.W.kitOne T.K (.ref (T.C 1)) (.ref (T.C 0)) = some false) (kt_int_M : PySem.W.kitOne T.K (.type "int") (.ref (T.C 0)) = some false) (kt_NoneType_M : PySem.W.kitOne T.K (.type "NoneType") (.ref (T.C 0)) = some false) : FnOk P w T.K mg base CX0 27 f fd ["_law_machine_here", "_law_other", "_law_x_here", "_law_odd_count", "_law_deep_here"] (mkSp (Pre__law_numbers_right T)) := by
  refine fn_okC F hcd__law_numbers_right sc__law_numbers_right (fun As Ω R h => ?_) (fun A outer s H E hr As Ω R F0 h => ?_)
  · obtain ⟨kT, k0, p0, x0, x1, x2, x3, x4, r, rfl, _⟩ := h
    rfl
  obtain ⟨kT, k0, p0, x0, x1, x2, x3, x4, r, rfl, hkT, hk0, ne0T, hm, rfl⟩ := h
  refine ⟨_, (pss_cons (ps_for PassesOwn.never rfl (pi_listK (K := T.K) (pe_op op_addQ (pe_lst (pa_cons pe_non (pa_cons pe_int (pa_cons (pe_tup (pa_cons pe_int (pa_cons pe_int pa_nil))) (pa_cons (pv 2) (pa_cons (pe_lst (pa_cons (pe_lst (pa_cons (pv 0) pa_nil)) pa_nil)) pa_nil)))))) (pv 4)) rfl) (pg_name (i := 5) sc__law_numbers_right.nd rfl (.inr rfl)) (pss_one (ps_if (pt_cmpR (op_neXK (K := T.K) (by exact hr.units) rfl) (pe_lcB (own := [("_law_ask", 6)]) rfl sc__law_numbers_right.nd (pi_tupK (K := T.K) (pe_tup (pa_cons (pe_gl rfl g_shift_left) (pa_cons (pe_gl rfl g_shift_right) pa_nil))) rfl) (blkOk_by (N := ["_law_machine_here", "_law_other", "_law_x_here", "_law_odd_count", "_law_deep_here", "_law_odd", "_law_ask"]) (sc := defScope s__law_numbers_right) (by decide +kernel)) (fun _ _ _ _ _ => (pg_name (i := 6) sc__law_numbers_right.nd rfl (.inr rfl))) (fun _ _ _ _ _ => pe_callLXl c__law_said (hr.mono (by decide)) (by rfl) TB__law_numbers_right rfl (lamS_blk (sc := defScope s__law_numbers_right) rfl (by decide +kernel)) (fun E A outer s H f c' hr => by exact (pe_callFS (k := 23) (S := SF__law_numbers_right T) (held_or (held_of cu__law_numbers_right_shift_left g_shift_left (by decide)) (held_or (held_of cu__law_numbers_right_shift_right g_shift_right (by decide)) held_nil)) (hr.mono (by decide)) (takes_of rfl rfl rfl rfl) (i := 6) rfl (by first | exact .inl rfl | exact .inr (.inl rfl) | exact .inr (.inr rfl)) (pa_cons (pv 5) (pa_cons pe_non (pa_cons pe_non pa_nil))))))) (pe_op op_mulQ (pe_lst (pa_cons pe_str pa_nil)) pe_int) (nomark _)) pss_never pss_nil))) (pss_cons (ps_for PassesOwn.never rfl (pi_listK (K := T.K) (pe_op op_addQ (pe_lst (pa_cons pe_non (pa_cons pe_int (pa_cons pe_bl (pa_cons (pe_lst (pa_cons pe_int pa_nil)) (pa_cons (pe_tup (pa_cons pe_int (pa_cons pe_int pa_nil))) (pa_cons pe_str (pa_cons (pv 0) (pa_cons (pv 1) (pa_cons (pe_fz pe_dnewK) pa_nil)))))))))) (pv 4)) rfl) (pg_name (i := 5) sc__law_numbers_right.nd rfl (.inr rfl)) (pss_one (ps_if (pt_cmpR (op_neXK (K := T.K) (by exact hr.units) rfl) (pe_lcB (own := [("_law_ask", 6)]) rfl sc__law_numbers_right.nd (pi_tupK (K := T.K) (pe_tup (pa_cons (pe_gl rfl g_shift_left) (pa_cons (pe_gl rfl g_shift_right) pa_nil))) rfl) (blkOk_by (N := ["_law_machine_here", "_law_other", "_law_x_here", "_law_odd_count", "_law_deep_here", "_law_odd", "_law_ask"]) (sc := defScope s__law_numbers_right) (by decide +kernel)) (fun _ _ _ _ _ => (pg_name (i := 6) sc__law_numbers_right.nd rfl (.inr rfl))) (fun _ _ _ _ _ => pe_callLXl c__law_said (hr.mono (by decide)) (by rfl) TB__law_numbers_right rfl (lamS_blk (sc := defScope s__law_numbers_right) rfl (by decide +kernel)) (fun E A outer s H f c' hr => by exact (pe_callFS (k := 23) (S := SF__law_numbers_right T) (held_or (held_of cu__law_numbers_right_shift_left g_shift_left (by decide)) (held_or (held_of cu__law_numbers_right_shift_right g_shift_right (by decide)) held_nil)) (hr.mono (by decide)) (takes_of rfl rfl rfl rfl) (i := 6) rfl (by first | exact .inl rfl | exact .inr (.inl rfl) | exact .inr (.inr rfl)) (pa_cons (pv 0) (pa_cons (pv 5) (pa_cons pe_non pa_nil))))))) (pe_op op_mulQ (pe_lst (pa_cons pe_str pa_nil)) pe_int) (nomark _)) pss_never pss_nil))) (pss_cons (ps_for PassesOwn.never rfl (pi_listK (K := T.K) (pe_op op_addQ (pe_lst (pa_cons pe_non (pa_cons (pe_un un_neg pe_int) (pa_cons pe_bl (pa_cons pe_bl (pa_cons pe_str (pa_cons (pe_lst (pa_cons pe_int pa_nil)) (pa_cons (pe_tup pa_nil) (pa_cons (pe_fz pe_dnewK) (pa_cons (pv 2) (pa_cons (pe_un un_neg (pe_op op_pow pe_int pe_int)) (pa_cons (pv 3) pa_nil)))))))))))) (pv 4)) rfl) (pg_name (i := 5) sc__law_numbers_right.nd rfl (.inr rfl)) (pss_one (ps_if (pt_cmpR (op_neXK (K := T.K) (by exact hr.units) rfl) (pe_lcB (own := [("_law_ask", 6)]) rfl sc__law_numbers_right.nd (pi_tupK (K := T.K) (pe_tup (pa_cons (pe_gl rfl g_shift_left) (pa_cons (pe_gl rfl g_shift_right) pa_nil))) rfl) (blkOk_by (N := ["_law_machine_here", "_law_other", "_law_x_here", "_law_odd_count", "_law_deep_here", "_law_odd", "_law_ask"]) (sc := defScope s__law_numbers_right) (by decide +kernel)) (fun _ _ _ _ _ => (pg_name (i := 6) sc__law_numbers_right.nd rfl (.inr rfl))) (fun _ _ _ _ _ => pe_callLXl c__law_said (hr.mono (by decide)) (by rfl) TB__law_numbers_right rfl (lamS_blk (sc := defScope s__law_numbers_right) rfl (by decide +kernel)) (fun E A outer s H f c' hr => by exact (pe_callFS (k := 23) (S := SF__law_numbers_right T) (held_or (held_of cu__law_numbers_right_shift_left g_shift_left (by decide)) (held_or (held_of cu__law_numbers_right_shift_right g_shift_right (by decide)) held_nil)) (hr.mono (by decide)) (takes_of rfl rfl rfl rfl) (i := 6) rfl (by first | exact .inl rfl | exact .inr (.inl rfl) | exact .inr (.inr rfl)) (pa_cons (pv 0) (pa_cons (pv 2) (pa_cons (pv 5) pa_nil))))))) (pe_op op_mulQ (pe_lst (pa_cons pe_str pa_nil)) pe_int) (nomark _)) pss_never pss_nil))) (pss_one (ps_ret pe_bl))))), fun D hrt hnx => ?_⟩
  have ok : Okk Ω [] := okk0
  suffices hx : XS _ D F0 [some (vr p0), some (va T x1), some (va T x2), some (va T x3), some (va T x4), none, none] (stt Ω [] []) by
    rw [show (stt Ω [] []) = Ω from stt_self (by simp)] at hx
    exact hx
  unfold M__law_numbers_right at hm
  obtain ⟨z8, hz8, hm⟩ := bnd_some hm
  refine xs_forAS (T := T) (k := 5) (G := [some (vr p0), some (va T x1), some (va T x2), some (va T x3), some (va T x4), none, none]) (P := (fun A => NoC T (stt Ω [] []) A (.ref (T.C 0)))) (QI := (fun _ => False)) (QB := (fun _ => False)) (QG := (fun _ => False)) (xi_lsA (xe_catA (xe_lsA (xa_cons (A := (va T ())) xe_non (xa_cons (A := (va T (8 : Int))) xe_int (xa_cons (A := (va T ((8 : Int), (4 : Int)))) (xe_tup2 (xa_cons xe_int (xa_cons xe_int xa_nil))) (xa_cons (A := (va T x2)) (xe_var (i := 2) rfl) (xa_cons (A := (lsA [(lsA [(vr p0)])])) (xe_lsA (xa_cons (A := (lsA [(vr p0)])) (xe_lsA (xa_cons (A := (vr p0)) (xe_var (i := 0) rfl) xa_nil) (by rw [sizeLine_eq]; exact Nat.le_of_ble_eq_true rfl)) xa_nil) (by rw [sizeLine_eq]; exact Nat.le_of_ble_eq_true rfl)) xa_nil))))) (by rw [sizeLine_eq]; exact Nat.le_of_ble_eq_true rfl)) (xe_unlp (xe_var (i := 4) rfl)) (by rw [sizeLine_eq]; exact Nat.le_of_ble_eq_true rfl))) (allA_cons (.inl (noC_of tya_non kt_NoneType_M)) (allA_cons (.inl (noC_of tya_int kt_int_M)) (allA_cons (.inl (noC_of tya_pair kt_tuple_M)) (allA_cons (.inl (noC_of (tya_big icb) kt_Big_M)) (allA_cons (.inl (noC_of tya_ls kt_list_M)) (allA_cons (.inl (noC_of tya_dpn kt_list_M)) (allA_cons (.inl (noC_of tya_dt kt_tuple_M)) allA_nil))))))) (fun A1 hP F1 D1 e1 hD => ?_) (fun aI hQ F1 D1 e1 hD => ?_) (fun aB hQ F1 D1 e1 hD => ?_) (fun aG hQ F1 D1 e1 hD => ?_) ?_
  · clear hm
    have hm := hz8
    have hA1M := hP
    show XS (tIfS _ _ _) _ _ [some (vr p0), some (va T x1), some (va T x2), some (va T x3), some (va T x4), some A1, none] (stt Ω [] [])
    obtain ⟨z2, hz2, hm⟩ := bnd_some hm
    obtain ⟨z3, hz3, hm⟩ := bnd_some hm
    obtain ⟨z4, hz4, hm⟩ := bnd_some hm
    obtain ⟨z5, hz5, hm⟩ := bnd_some hm
    obtain ⟨z6, hz6, hm⟩ := bnd_some hm
    obtain ⟨z7, hz7, hm⟩ := bnd_some hm
    refine xs_ifF1 (xt_test (T := T) (xe_neK (chkP_some hz7) (by decide) (xe_fz (xn_lcA (ys := ([z3, z5] : List (EN Str))) (xi_tpA (xe_tpA (T := T) (xa_cons (A := va T (FT.mk 0)) (xe_c fun _ => rfl) (xa_cons (A := va T (FT.mk 1)) (xe_c fun _ => rfl) xa_nil)) (by rw [sizeLine_eq]; exact Nat.le_of_ble_eq_true rfl))) (by simp) (by rw [sizeLine_eq]; exact Nat.le_of_ble_eq_true rfl) (fun X => (.cons (xe_allB fun _ _ _ _ _ => xe_callLX (o := some z2) (xa_cons (xe_lamV (l := tbs T) (stt_getU hkT) (mem__law_numbers_right T) hu__law_numbers_right) xa_nil) (outc_r fun E F1 hw => xr_callFS (S := SF__law_numbers_right T) rfl (.inl ⟨rfl, rfl⟩) (fun _ _ _ _ h => sub__law_numbers_right_shift_left_0 h) (xa_cons (xe_var (i := 5) rfl) (xa_cons xe_non (xa_cons xe_non xa_nil))) ⟨A1, (va T ()), (va T ()), z2, rfl, (noC_X hA1M), hz2, rfl⟩ hw) (fun fL actL => ⟨some z2, z3, rfl, hz3, rfl⟩) cal0) (.cons (xe_allB fun _ _ _ _ _ => xe_callLX (o := some z4) (xa_cons (xe_lamV (l := tbs T) (stt_getU hkT) (mem__law_numbers_right T) hu__law_numbers_right) xa_nil) (outc_r fun E F1 hw => xr_callFS (S := SF__law_numbers_right T) rfl (.inr (.inl ⟨rfl, rfl⟩)) (fun _ _ _ _ h => sub__law_numbers_right_shift_right_0 h) (xa_cons (xe_var (i := 5) rfl) (xa_cons xe_non (xa_cons xe_non xa_nil))) ⟨A1, (va T ()), (va T ()), z4, rfl, (noC_X hA1M), hz4, rfl⟩ hw) (fun fL actL => ⟨some z4, z5, rfl, hz5, rfl⟩) cal0) .nil))))) (xe_enL (xe_rep (xe_lst (l := [("machine" : Str)]) (xa_cons xe_str xa_nil) (by show 1 ≤ sizeLine; decide)) xe_int isLs_LF (chkP_some hz6))) isD_va isD_va)) ?_
    obtain rfl := Option.some.inj hm
    exact fun σ H n => hD.nx _ rfl σ H (n.forget 5)
  · exact hQ.elim
  · exact hQ.elim
  · exact hQ.elim
  · show XS (tSeq _ _) _ _ [some (vr p0), some (va T x1), some (va T x2), some (va T x3), some (va T x4), none, none] (stt Ω [] [])
    obtain ⟨z23, hz23, hm⟩ := bnd_some hm
    obtain ⟨z24, hz24, hm⟩ := bnd_some hm
    refine xs_forAS (T := T) (k := 5) (G := [some (vr p0), some (va T x1), some (va T x2), some (va T x3), some (va T x4), none, none]) (P := (fun A => NoC T (stt Ω [] []) A (.ref (T.C 1)))) (QI := (fun _ => False)) (QB := (fun _ => False)) (QG := (fun a16 => ∃ st : Stp Unit Unit, ((X_shift_left__or12 x0 a16).bind fun z17 => (M__law_said (some z17)).bind fun z18 => (X_shift_right__or15 x0 a16).bind fun z19 => (M__law_said (some z19)).bind fun z20 => (chkP ((-(2 ^ 63) ≤ (2 : Int) ∧ (2 : Int) < 2 ^ 63) ∧ ([("x" : Str)] : List Str).length * ((2 : Int)).toNat ≤ sizeLine)).bind fun z21 => (chkP ((LF.mk ([z18, z20] : List (EN Str))) = (LF.mk (((List.replicate ((2 : Int)).toNat ([("x" : Str)] : List Str)).flatten).map EN.ok)) ∧ Dat.ok (LF.mk ([z18, z20] : List (EN Str))))).bind fun z22 => some (Stp.nx ())) = some st)) (xi_lsA (xe_catA (xe_lsA (xa_cons (A := (va T ())) xe_non (xa_cons (A := (va T (5 : Int))) xe_int (xa_cons (A := (va T true)) xe_bl (xa_cons (A := (va T (LF.mk ([MV.i (5 : Int)] : List MV)))) (xe_lmv (l := [MV.i (5 : Int)]) (xa_cons (A := (va T (5 : Int))) xe_int xa_nil) (by rw [sizeLine_eq]; exact Nat.le_of_ble_eq_true rfl) (.cons (to_i _) .nil)) (xa_cons (A := (va T ((1 : Int), (5 : Int)))) (xe_tup2 (xa_cons xe_int (xa_cons xe_int xa_nil))) (xa_cons (A := (va T ("x" : Str))) xe_str (xa_cons (A := (vr p0)) (xe_var (i := 0) rfl) (xa_cons (A := (va T x1)) (xe_var (i := 1) rfl) (xa_cons (A := (va T (DF.mk []))) xe_disp0 xa_nil))))))))) (by rw [sizeLine_eq]; exact Nat.le_of_ble_eq_true rfl)) (xe_unlp (xe_var (i := 4) rfl)) (by rw [sizeLine_eq]; exact Nat.le_of_ble_eq_true rfl))) (allA_cons (.inl (noC_of tya_non kt_NoneType_G)) (allA_cons (.inl (noC_of tya_int kt_int_G)) (allA_cons (.inl (noC_of tya_bool kt_bool_G)) (allA_cons (.inl (noC_of tya_lst kt_list_G)) (allA_cons (.inl (noC_of tya_pair kt_tuple_G)) (allA_cons (.inl (noC_of tya_str kt_str_G)) (allA_cons (.inl (noC_of (tya_mach icm (stt_getU hk0)) kt_Mach_G)) (allA_cons (.inr (.inr (.inr ⟨_, rfl, allN_mem hz24 _ (.head _)⟩))) (allA_cons (.inl (noC_of tya_dct kt_dict_G)) (allA_cons (.inl (noC_of tya_dpn kt_list_G)) (allA_cons (.inl (noC_of tya_dt kt_tuple_G)) allA_nil))))))))))) (fun A9 hP F1 D1 e1 hD => ?_) (fun aI hQ F1 D1 e1 hD => ?_) (fun aB hQ F1 D1 e1 hD => ?_) (fun aG hQ F1 D1 e1 hD => ?_) ?_
    · clear hm
      have hm := hz23
      have hA9G := hP
      show XS (tIfS _ _ _) _ _ [some (vr p0), some (va T x1), some (va T x2), some (va T x3), some (va T x4), some A9, none] (stt Ω [] [])
      obtain ⟨z10, hz10, hm⟩ := bnd_some hm
      obtain ⟨z11, hz11, hm⟩ := bnd_some hm
      obtain ⟨z12, hz12, hm⟩ := bnd_some hm
      obtain ⟨z13, hz13, hm⟩ := bnd_some hm
      obtain ⟨z14, hz14, hm⟩ := bnd_some hm
      obtain ⟨z15, hz15, hm⟩ := bnd_some hm
      refine xs_ifF1 (xt_test (T := T) (xe_neK (chkP_some hz15) (by decide) (xe_fz (xn_lcA (ys := ([z11, z13] : List (EN Str))) (xi_tpA (xe_tpA (T := T) (xa_cons (A := va T (FT.mk 0)) (xe_c fun _ => rfl) (xa_cons (A := va T (FT.mk 1)) (xe_c fun _ => rfl) xa_nil)) (by rw [sizeLine_eq]; exact Nat.le_of_ble_eq_true rfl))) (by simp) (by rw [sizeLine_eq]; exact Nat.le_of_ble_eq_true rfl) (fun X => (.cons (xe_allB fun _ _ _ _ _ => xe_callLX (o := some z10) (xa_cons (xe_lamV (l := tbs T) (stt_getU hkT) (mem__law_numbers_right T) hu__law_numbers_right) xa_nil) (outc_r fun E F1 hw => xr_callFS (S := SF__law_numbers_right T) rfl (.inl ⟨rfl, rfl⟩) (fun _ _ _ _ h => sub__law_numbers_right_shift_left_1 h) (xa_cons (xe_var (i := 0) rfl) (xa_cons (xe_var (i := 5) rfl) (xa_cons xe_non xa_nil))) ⟨k0, p0, x0, A9, (va T ()), z10, rfl, (stt_getU hk0), (noC_X hA9G), hz10, rfl⟩ hw) (fun fL actL => ⟨some z10, z11, rfl, hz11, rfl⟩) cal0) (.cons (xe_allB fun _ _ _ _ _ => xe_callLX (o := some z12) (xa_cons (xe_lamV (l := tbs T) (stt_getU hkT) (mem__law_numbers_right T) hu__law_numbers_right) xa_nil) (outc_r fun E F1 hw => xr_callFS (S := SF__law_numbers_right T) rfl (.inr (.inl ⟨rfl, rfl⟩)) (fun _ _ _ _ h => sub__law_numbers_right_shift_right_1 h) (xa_cons (xe_var (i := 0) rfl) (xa_cons (xe_var (i := 5) rfl) (xa_cons xe_non xa_nil))) ⟨k0, p0, x0, A9, (va T ()), z12, rfl, (stt_getU hk0), (noC_X hA9G), hz12, rfl⟩ hw) (fun fL actL => ⟨some z12, z13, rfl, hz13, rfl⟩) cal0) .nil))))) (xe_enL (xe_rep (xe_lst (l := [("x" : Str)]) (xa_cons xe_str xa_nil) (by show 1 ≤ sizeLine; decide)) xe_int isLs_LF (chkP_some hz14))) isD_va isD_va)) ?_
      obtain rfl := Option.some.inj hm
      exact fun σ H n => hD.nx _ rfl σ H (n.forget 5)
    · exact hQ.elim
    · exact hQ.elim
    · clear hm
      obtain ⟨st, hm⟩ := hQ
      show XS (tIfS _ _ _) _ _ [some (vr p0), some (va T x1), some (va T x2), some (va T x3), some (va T x4), some (va T aG), none] (stt Ω [] [])
      obtain ⟨z17, hz17, hm⟩ := bnd_some hm
      obtain ⟨z18, hz18, hm⟩ := bnd_some hm
      obtain ⟨z19, hz19, hm⟩ := bnd_some hm
      obtain ⟨z20, hz20, hm⟩ := bnd_some hm
      obtain ⟨z21, hz21, hm⟩ := bnd_some hm
      obtain ⟨z22, hz22, hm⟩ := bnd_some hm
      refine xs_ifF1 (xt_test (T := T) (xe_neK (chkP_some hz22) (by decide) (xe_fz (xn_lcA (ys := ([z18, z20] : List (EN Str))) (xi_tpA (xe_tpA (T := T) (xa_cons (A := va T (FT.mk 0)) (xe_c fun _ => rfl) (xa_cons (A := va T (FT.mk 1)) (xe_c fun _ => rfl) xa_nil)) (by rw [sizeLine_eq]; exact Nat.le_of_ble_eq_true rfl))) (by simp) (by rw [sizeLine_eq]; exact Nat.le_of_ble_eq_true rfl) (fun X => (.cons (xe_allB fun _ _ _ _ _ => xe_callLX (o := some z17) (xa_cons (xe_lamV (l := tbs T) (stt_getU hkT) (mem__law_numbers_right T) hu__law_numbers_right) xa_nil) (outc_r fun E F1 hw => xr_callFS (S := SF__law_numbers_right T) rfl (.inl ⟨rfl, rfl⟩) (fun _ _ _ _ h => sub__law_numbers_right_shift_left_2 h) (xa_cons (xe_var (i := 0) rfl) (xa_cons (xe_var (i := 5) rfl) (xa_cons xe_non xa_nil))) ⟨k0, p0, x0, aG, (va T ()), z17, rfl, (stt_getU hk0), (noC_of tya_non (kit_ty (by decide +kernel))), hz17, rfl⟩ hw) (fun fL actL => ⟨some z17, z18, rfl, hz18, rfl⟩) cal0) (.cons (xe_allB fun _ _ _ _ _ => xe_callLX (o := some z19) (xa_cons (xe_lamV (l := tbs T) (stt_getU hkT) (mem__law_numbers_right T) hu__law_numbers_right) xa_nil) (outc_r fun E F1 hw => xr_callFS (S := SF__law_numbers_right T) rfl (.inr (.inl ⟨rfl, rfl⟩)) (fun _ _ _ _ h => sub__law_numbers_right_shift_right_2 h) (xa_cons (xe_var (i := 0) rfl) (xa_cons (xe_var (i := 5) rfl) (xa_cons xe_non xa_nil))) ⟨k0, p0, x0, aG, (va T ()), z19, rfl, (stt_getU hk0), (noC_of tya_non (kit_ty (by decide +kernel))), hz19, rfl⟩ hw) (fun fL actL => ⟨some z19, z20, rfl, hz20, rfl⟩) cal0) .nil))))) (xe_enL (xe_rep (xe_lst (l := [("x" : Str)]) (xa_cons xe_str xa_nil) (by show 1 ≤ sizeLine; decide)) xe_int isLs_LF (chkP_some hz21))) isD_va isD_va)) ?_
      obtain rfl := Option.some.inj hm
      exact fun σ H n => hD.nx _ rfl σ H (n.forget 5)
    · show XS (tSeq _ _) _ _ [some (vr p0), some (va T x1), some (va T x2), some (va T x3), some (va T x4), none, none] (stt Ω [] [])
      obtain ⟨z25, hz25, hm⟩ := bnd_some hm
      obtain ⟨z47, hz47, hm⟩ := bnd_some hm
      obtain ⟨z48, hz48, hm⟩ := bnd_some hm
      obtain ⟨z49, hz49, hm⟩ := bnd_some hm
      refine xs_forAS (T := T) (k := 5) (G := [some (vr p0), some (va T x1), some (va T x2), some (va T x3), some (va T x4), none, none]) (P := (fun A => NoC T (stt Ω [] []) A (.type "int"))) (QI := (fun a33 => ∃ st : Stp Unit Unit, ((X_shift_left x0 x2 a33).bind fun z34 => (M__law_said (some z34)).bind fun z35 => (X_shift_right x0 x2 a33).bind fun z36 => (M__law_said (some z36)).bind fun z37 => (chkP ((-(2 ^ 63) ≤ (2 : Int) ∧ (2 : Int) < 2 ^ 63) ∧ ([("count" : Str)] : List Str).length * ((2 : Int)).toNat ≤ sizeLine)).bind fun z38 => (chkP ((LF.mk ([z35, z37] : List (EN Str))) = (LF.mk (((List.replicate ((2 : Int)).toNat ([("count" : Str)] : List Str)).flatten).map EN.ok)) ∧ Dat.ok (LF.mk ([z35, z37] : List (EN Str))))).bind fun z39 => some (Stp.nx ())) = some st)) (QB := (fun a40 => ∃ st : Stp Unit Unit, ((X_shift_left__or16 x0 x2 a40).bind fun z41 => (M__law_said (some z41)).bind fun z42 => (X_shift_right__or19 x0 x2 a40).bind fun z43 => (M__law_said (some z43)).bind fun z44 => (chkP ((-(2 ^ 63) ≤ (2 : Int) ∧ (2 : Int) < 2 ^ 63) ∧ ([("count" : Str)] : List Str).length * ((2 : Int)).toNat ≤ sizeLine)).bind fun z45 => (chkP ((LF.mk ([z42, z44] : List (EN Str))) = (LF.mk (((List.replicate ((2 : Int)).toNat ([("count" : Str)] : List Str)).flatten).map EN.ok)) ∧ Dat.ok (LF.mk ([z42, z44] : List (EN Str))))).bind fun z46 => some (Stp.nx ())) = some st)) (QG := (fun _ => False)) (xi_lsA (xe_catA (xe_lsA (xa_cons (A := (va T ())) xe_non (xa_cons (A := (va T (-(1 : Int)))) (xe_neg xe_int) (xa_cons (A := (va T true)) xe_bl (xa_cons (A := (va T false)) xe_bl (xa_cons (A := (va T ("1" : Str))) xe_str (xa_cons (A := (va T (LF.mk ([MV.i (1 : Int)] : List MV)))) (xe_lmv (l := [MV.i (1 : Int)]) (xa_cons (A := (va T (1 : Int))) xe_int xa_nil) (by rw [sizeLine_eq]; exact Nat.le_of_ble_eq_true rfl) (.cons (to_i _) .nil)) (xa_cons (A := (va T (TF.mk ([] : List Int)))) (xe_tupF (l := ([] : List Int)) xa_nil (by rw [sizeLine_eq]; exact Nat.le_of_ble_eq_true rfl)) (xa_cons (A := (va T (DF.mk []))) xe_disp0 (xa_cons (A := (va T x2)) (xe_var (i := 2) rfl) (xa_cons (A := (va T (-((10 : Int) ^ ((30 : Int)).toNat)))) (xe_neg (xe_pow (chkP_some hz25) xe_int xe_int)) (xa_cons (A := (va T x3)) (xe_var (i := 3) rfl) xa_nil))))))))))) (by rw [sizeLine_eq]; exact Nat.le_of_ble_eq_true rfl)) (xe_unlp (xe_var (i := 4) rfl)) (by rw [sizeLine_eq]; exact Nat.le_of_ble_eq_true rfl))) (allA_cons (.inl (noC_of tya_non (kit_ty (by decide +kernel)))) (allA_cons (.inr (.inl ⟨_, rfl, allN_mem hz48 _ (.head _)⟩)) (allA_cons (.inr (.inr (.inl ⟨_, rfl, allN_mem hz49 _ (.head _)⟩))) (allA_cons (.inr (.inr (.inl ⟨_, rfl, allN_mem hz49 _ (.tail _ (.head _))⟩))) (allA_cons (.inl (noC_of tya_str (kit_ty (by decide +kernel)))) (allA_cons (.inl (noC_of tya_lst (kit_ty (by decide +kernel)))) (allA_cons (.inl (noC_of tya_tup (kit_ty (by decide +kernel)))) (allA_cons (.inl (noC_of tya_dct (kit_ty (by decide +kernel)))) (allA_cons (.inl (noC_of (tya_big icb) kt_Big_I)) (allA_cons (.inr (.inl ⟨_, rfl, allN_mem hz48 _ (.tail _ (.head _))⟩)) (allA_cons (.inr (.inl ⟨_, rfl, allN_mem hz48 _ (.tail _ (.tail _ (.head _)))⟩)) (allA_cons (.inl (noC_of tya_dpn (kit_ty (by decide +kernel)))) (allA_cons (.inl (noC_of tya_dt (kit_ty (by decide +kernel)))) allA_nil))))))))))))) (fun A26 hP F1 D1 e1 hD => ?_) (fun aI hQ F1 D1 e1 hD => ?_) (fun aB hQ F1 D1 e1 hD => ?_) (fun aG hQ F1 D1 e1 hD => ?_) ?_
      · clear hm
        have hm := hz47
        have hA26I := hP
        show XS (tIfS _ _ _) _ _ [some (vr p0), some (va T x1), some (va T x2), some (va T x3), some (va T x4), some A26, none] (stt Ω [] [])
        obtain ⟨z27, hz27, hm⟩ := bnd_some hm
        obtain ⟨z28, hz28, hm⟩ := bnd_some hm
        obtain ⟨z29, hz29, hm⟩ := bnd_some hm
        obtain ⟨z30, hz30, hm⟩ := bnd_some hm
        obtain ⟨z31, hz31, hm⟩ := bnd_some hm
        obtain ⟨z32, hz32, hm⟩ := bnd_some hm
        refine xs_ifF1 (xt_test (T := T) (xe_neK (chkP_some hz32) (by decide) (xe_fz (xn_lcA (ys := ([z28, z30] : List (EN Str))) (xi_tpA (xe_tpA (T := T) (xa_cons (A := va T (FT.mk 0)) (xe_c fun _ => rfl) (xa_cons (A := va T (FT.mk 1)) (xe_c fun _ => rfl) xa_nil)) (by rw [sizeLine_eq]; exact Nat.le_of_ble_eq_true rfl))) (by simp) (by rw [sizeLine_eq]; exact Nat.le_of_ble_eq_true rfl) (fun X => (.cons (xe_allB fun _ _ _ _ _ => xe_callLX (o := some z27) (xa_cons (xe_lamV (l := tbs T) (stt_getU hkT) (mem__law_numbers_right T) hu__law_numbers_right) xa_nil) (outc_r fun E F1 hw => xr_callFS (S := SF__law_numbers_right T) rfl (.inl ⟨rfl, rfl⟩) (fun _ _ _ _ h => sub__law_numbers_right_shift_left_2 h) (xa_cons (xe_var (i := 0) rfl) (xa_cons (xe_var (i := 2) rfl) (xa_cons (xe_var (i := 5) rfl) xa_nil))) ⟨k0, p0, x0, x2, A26, z27, rfl, (stt_getU hk0), (noC_X hA26I), hz27, rfl⟩ hw) (fun fL actL => ⟨some z27, z28, rfl, hz28, rfl⟩) cal0) (.cons (xe_allB fun _ _ _ _ _ => xe_callLX (o := some z29) (xa_cons (xe_lamV (l := tbs T) (stt_getU hkT) (mem__law_numbers_right T) hu__law_numbers_right) xa_nil) (outc_r fun E F1 hw => xr_callFS (S := SF__law_numbers_right T) rfl (.inr (.inl ⟨rfl, rfl⟩)) (fun _ _ _ _ h => sub__law_numbers_right_shift_right_2 h) (xa_cons (xe_var (i := 0) rfl) (xa_cons (xe_var (i := 2) rfl) (xa_cons (xe_var (i := 5) rfl) xa_nil))) ⟨k0, p0, x0, x2, A26, z29, rfl, (stt_getU hk0), (noC_X hA26I), hz29, rfl⟩ hw) (fun fL actL => ⟨some z29, z30, rfl, hz30, rfl⟩) cal0) .nil))))) (xe_enL (xe_rep (xe_lst (l := [("count" : Str)]) (xa_cons xe_str xa_nil) (by show 1 ≤ sizeLine; decide)) xe_int isLs_LF (chkP_some hz31))) isD_va isD_va)) ?_
        obtain rfl := Option.some.inj hm
        exact fun σ H n => hD.nx _ rfl σ H (n.forget 5)
      · clear hm
        obtain ⟨st, hm⟩ := hQ
        show XS (tIfS _ _ _) _ _ [some (vr p0), some (va T x1), some (va T x2), some (va T x3), some (va T x4), some (va T aI), none] (stt Ω [] [])
        obtain ⟨z34, hz34, hm⟩ := bnd_some hm
        obtain ⟨z35, hz35, hm⟩ := bnd_some hm
        obtain ⟨z36, hz36, hm⟩ := bnd_some hm
        obtain ⟨z37, hz37, hm⟩ := bnd_some hm
        obtain ⟨z38, hz38, hm⟩ := bnd_some hm
        obtain ⟨z39, hz39, hm⟩ := bnd_some hm
        refine xs_ifF1 (xt_test (T := T) (xe_neK (chkP_some hz39) (by decide) (xe_fz (xn_lcA (ys := ([z35, z37] : List (EN Str))) (xi_tpA (xe_tpA (T := T) (xa_cons (A := va T (FT.mk 0)) (xe_c fun _ => rfl) (xa_cons (A := va T (FT.mk 1)) (xe_c fun _ => rfl) xa_nil)) (by rw [sizeLine_eq]; exact Nat.le_of_ble_eq_true rfl))) (by simp) (by rw [sizeLine_eq]; exact Nat.le_of_ble_eq_true rfl) (fun X => (.cons (xe_allB fun _ _ _ _ _ => xe_callLX (o := some z34) (xa_cons (xe_lamV (l := tbs T) (stt_getU hkT) (mem__law_numbers_right T) hu__law_numbers_right) xa_nil) (outc_r fun E F1 hw => xr_callFS (S := SF__law_numbers_right T) rfl (.inl ⟨rfl, rfl⟩) (fun _ _ _ _ h => sub__law_numbers_right_shift_left_3 h) (xa_cons (xe_var (i := 0) rfl) (xa_cons (xe_var (i := 2) rfl) (xa_cons (xe_var (i := 5) rfl) xa_nil))) ⟨k0, p0, x0, x2, aI, z34, rfl, (stt_getU hk0), hz34, rfl⟩ hw) (fun fL actL => ⟨some z34, z35, rfl, hz35, rfl⟩) cal0) (.cons (xe_allB fun _ _ _ _ _ => xe_callLX (o := some z36) (xa_cons (xe_lamV (l := tbs T) (stt_getU hkT) (mem__law_numbers_right T) hu__law_numbers_right) xa_nil) (outc_r fun E F1 hw => xr_callFS (S := SF__law_numbers_right T) rfl (.inr (.inl ⟨rfl, rfl⟩)) (fun _ _ _ _ h => sub__law_numbers_right_shift_right_3 h) (xa_cons (xe_var (i := 0) rfl) (xa_cons (xe_var (i := 2) rfl) (xa_cons (xe_var (i := 5) rfl) xa_nil))) ⟨k0, p0, x0, x2, aI, z36, rfl, (stt_getU hk0), hz36, rfl⟩ hw) (fun fL actL => ⟨some z36, z37, rfl, hz37, rfl⟩) cal0) .nil))))) (xe_enL (xe_rep (xe_lst (l := [("count" : Str)]) (xa_cons xe_str xa_nil) (by show 1 ≤ sizeLine; decide)) xe_int isLs_LF (chkP_some hz38))) isD_va isD_va)) ?_
        obtain rfl := Option.some.inj hm
        exact fun σ H n => hD.nx _ rfl σ H (n.forget 5)
      · clear hm
        obtain ⟨st, hm⟩ := hQ
        show XS (tIfS _ _ _) _ _ [some (vr p0), some (va T x1), some (va T x2), some (va T x3), some (va T x4), some (va T aB), none] (stt Ω [] [])
        obtain ⟨z41, hz41, hm⟩ := bnd_some hm
        obtain ⟨z42, hz42, hm⟩ := bnd_some hm
        obtain ⟨z43, hz43, hm⟩ := bnd_some hm
        obtain ⟨z44, hz44, hm⟩ := bnd_some hm
        obtain ⟨z45, hz45, hm⟩ := bnd_some hm
        obtain ⟨z46, hz46, hm⟩ := bnd_some hm
        refine xs_ifF1 (xt_test (T := T) (xe_neK (chkP_some hz46) (by decide) (xe_fz (xn_lcA (ys := ([z42, z44] : List (EN Str))) (xi_tpA (xe_tpA (T := T) (xa_cons (A := va T (FT.mk 0)) (xe_c fun _ => rfl) (xa_cons (A := va T (FT.mk 1)) (xe_c fun _ => rfl) xa_nil)) (by rw [sizeLine_eq]; exact Nat.le_of_ble_eq_true rfl))) (by simp) (by rw [sizeLine_eq]; exact Nat.le_of_ble_eq_true rfl) (fun X => (.cons (xe_allB fun _ _ _ _ _ => xe_callLX (o := some z41) (xa_cons (xe_lamV (l := tbs T) (stt_getU hkT) (mem__law_numbers_right T) hu__law_numbers_right) xa_nil) (outc_r fun E F1 hw => xr_callFS (S := SF__law_numbers_right T) rfl (.inl ⟨rfl, rfl⟩) (fun _ _ _ _ h => sub__law_numbers_right_shift_left_4 h) (xa_cons (xe_var (i := 0) rfl) (xa_cons (xe_var (i := 2) rfl) (xa_cons (xe_var (i := 5) rfl) xa_nil))) ⟨k0, p0, x0, x2, aB, z41, rfl, (stt_getU hk0), hz41, rfl⟩ hw) (fun fL actL => ⟨some z41, z42, rfl, hz42, rfl⟩) cal0) (.cons (xe_allB fun _ _ _ _ _ => xe_callLX (o := some z43) (xa_cons (xe_lamV (l := tbs T) (stt_getU hkT) (mem__law_numbers_right T) hu__law_numbers_right) xa_nil) (outc_r fun E F1 hw => xr_callFS (S := SF__law_numbers_right T) rfl (.inr (.inl ⟨rfl, rfl⟩)) (fun _ _ _ _ h => sub__law_numbers_right_shift_right_4 h) (xa_cons (xe_var (i := 0) rfl) (xa_cons (xe_var (i := 2) rfl) (xa_cons (xe_var (i := 5) rfl) xa_nil))) ⟨k0, p0, x0, x2, aB, z43, rfl, (stt_getU hk0), hz43, rfl⟩ hw) (fun fL actL => ⟨some z43, z44, rfl, hz44, rfl⟩) cal0) .nil))))) (xe_enL (xe_rep (xe_lst (l := [("count" : Str)]) (xa_cons xe_str xa_nil) (by show 1 ≤ sizeLine; decide)) xe_int isLs_LF (chkP_some hz45))) isD_va isD_va)) ?_
        obtain rfl := Option.some.inj hm
        exact fun σ H n => hD.nx _ rfl σ H (n.forget 5)
      · exact hQ.elim
      · show XS (tRet _) _ _ [some (vr p0), some (va T x1), some (va T x2), some (va T x3), some (va T x4), none, none] (stt Ω [] [])
        obtain rfl := Option.some.inj hm
        refine xs_ret xe_bl hrt.all
noncomputable def X_check_row_shift__or21 : Option XC :=
  X_check_machine__or4
def PreX_check_row_shift__or21 (T : TC) : PreXX := fun As Ω R => ∃ (A0 : VA) (A1 : VA) (A2 : VA) (r : XC), As = [A0, A1, A2] ∧ NoC T Ω A0 (.ref (T.C 0)) ∧ X_check_row_shift__or21  = some r ∧ R = RQ T r Ω
theorem sc_check_row_shift__or21 : FnScope ["machine", "digits", "count"] ["machine", "digits", "count"] (defScope s_check_row_shift__or21) := ⟨rfl, rfl, rfl, by decide +kernel, rfl, by decide +kernel, by decide +kernel⟩
theorem okx_check_row_shift__or21 {f : Addr} {fd : FuncData} (F : Fun T.K "check_row_shift" "check_row_shift" s_check_row_shift__or21 f fd) (cx_check_machine__or4 : CalX P w T.K mg base 5 "check_machine" ["machine"] (mkSpX (PreX_check_machine__or4 T))) : FnOk P w T.K mg base (L2.CX P w) 6 f fd ["machine", "digits", "count"] (mkSpX (PreX_check_row_shift__or21 T)) := by
  refine fn_okX F sc_check_row_shift__or21 (fun As Ω R h => ?_) (fun cdv A outer s H E hr As Ω R F0 h hx tk => ?_)
  · obtain ⟨A0, A1, A2, r, rfl, _⟩ := h
    rfl
  obtain ⟨A0, A1, A2, r, rfl, hA0M, hm, rfl⟩ := h
  refine ⟨_, (pss_cons (ps_expr (pe_calX cx_check_machine__or4 (hr.mono (by decide)) (by rfl) tk (pa_cons (pv 0) pa_nil))) pss_never), fun D => ?_⟩
  suffices hy : XS _ D F0 [some A0, some A1, some A2] (stt Ω [] []) by
    rw [show (stt Ω [] []) = Ω from stt_self (by simp)] at hy
    exact hy
  unfold X_check_row_shift__or21 at hm
  have hX := hm
  exact xs_seq (xs_dropX (xr_callO (xa_cons (xe_var (i := 0) rfl) xa_nil) ⟨A0, _, rfl, (noC_st hA0M), hX, rfl⟩ (wtc_EL hx)))
noncomputable def X_shift_row_up__or20 : Option XC :=
  X_check_row_shift__or21
def PreX_shift_row_up__or20 (T : TC) : PreXX := fun As Ω R => ∃ (A0 : VA) (A1 : VA) (A2 : VA) (r : XC), As = [A0, A1, A2] ∧ NoC T Ω A0 (.ref (T.C 0)) ∧ X_shift_row_up__or20  = some r ∧ R = RQ T r Ω
theorem sc_shift_row_up__or20 : FnScope ["machine", "digits", "count", "size", "number"] ["machine", "digits", "count"] (defScope s_shift_row_up__or20) := ⟨rfl, rfl, rfl, by decide +kernel, rfl, by decide +kernel, by decide +kernel⟩
theorem okx_shift_row_up__or20 {f : Addr} {fd : FuncData} (F : Fun T.K "shift_row_up" "shift_row_up" s_shift_row_up__or20 f fd) (cx_check_row_shift__or21 : CalX P w T.K mg base 6 "check_row_shift" ["machine", "digits", "count"] (mkSpX (PreX_check_row_shift__or21 T))) : FnOk P w T.K mg base (L2.CX P w) 22 f fd ["machine", "digits", "count"] (mkSpX (PreX_shift_row_up__or20 T)) := by
  refine fn_okX F sc_shift_row_up__or20 (fun As Ω R h => ?_) (fun cdv A outer s H E hr As Ω R F0 h hx tk => ?_)
  · obtain ⟨A0, A1, A2, r, rfl, _⟩ := h
    rfl
  obtain ⟨A0, A1, A2, r, rfl, hA0M, hm, rfl⟩ := h
  refine ⟨_, (pss_cons (ps_expr (pe_calX cx_check_row_shift__or21 (hr.mono (by decide)) (by rfl) tk (pa_cons (pv 0) (pa_cons (pv 1) (pa_cons (pv 2) pa_nil))))) pss_never), fun D => ?_⟩
  suffices hy : XS _ D F0 [some A0, some A1, some A2, none, none] (stt Ω [] []) by
    rw [show (stt Ω [] []) = Ω from stt_self (by simp)] at hy
    exact hy
  unfold X_shift_row_up__or20 at hm
  have hX := hm
  exact xs_seq (xs_dropX (xr_callO (xa_cons (xe_var (i := 0) rfl) (xa_cons (xe_var (i := 1) rfl) (xa_cons (xe_var (i := 2) rfl) xa_nil))) ⟨A0, A1, A2, _, rfl, (noC_st hA0M), hX, rfl⟩ (wtc_EL hx)))
noncomputable def X_shift_row_down__or22 : Option XC :=
  X_check_row_shift__or21
def PreX_shift_row_down__or22 (T : TC) : PreXX := fun As Ω R => ∃ (A0 : VA) (A1 : VA) (A2 : VA) (r : XC), As = [A0, A1, A2] ∧ NoC T Ω A0 (.ref (T.C 0)) ∧ X_shift_row_down__or22  = some r ∧ R = RQ T r Ω
theorem sc_shift_row_down__or22 : FnScope ["machine", "digits", "count", "size", "number"] ["machine", "digits", "count"] (defScope s_shift_row_down__or22) := ⟨rfl, rfl, rfl, by decide +kernel, rfl, by decide +kernel, by decide +kernel⟩
theorem okx_shift_row_down__or22 {f : Addr} {fd : FuncData} (F : Fun T.K "shift_row_down" "shift_row_down" s_shift_row_down__or22 f fd) (cx_check_row_shift__or21 : CalX P w T.K mg base 6 "check_row_shift" ["machine", "digits", "count"] (mkSpX (PreX_check_row_shift__or21 T))) : FnOk P w T.K mg base (L2.CX P w) 22 f fd ["machine", "digits", "count"] (mkSpX (PreX_shift_row_down__or22 T)) := by
  refine fn_okX F sc_shift_row_down__or22 (fun As Ω R h => ?_) (fun cdv A outer s H E hr As Ω R F0 h hx tk => ?_)
  · obtain ⟨A0, A1, A2, r, rfl, _⟩ := h
    rfl
  obtain ⟨A0, A1, A2, r, rfl, hA0M, hm, rfl⟩ := h
  refine ⟨_, (pss_cons (ps_expr (pe_calX cx_check_row_shift__or21 (hr.mono (by decide)) (by rfl) tk (pa_cons (pv 0) (pa_cons (pv 1) (pa_cons (pv 2) pa_nil))))) pss_never), fun D => ?_⟩
  suffices hy : XS _ D F0 [some A0, some A1, some A2, none, none] (stt Ω [] []) by
    rw [show (stt Ω [] []) = Ω from stt_self (by simp)] at hy
    exact hy
  unfold X_shift_row_down__or22 at hm
  have hX := hm
  exact xs_seq (xs_dropX (xr_callO (xa_cons (xe_var (i := 0) rfl) (xa_cons (xe_var (i := 1) rfl) (xa_cons (xe_var (i := 2) rfl) xa_nil))) ⟨A0, A1, A2, _, rfl, (noC_st hA0M), hX, rfl⟩ (wtc_EL hx)))
noncomputable def X_check_row__or25 (x0 : MS) (x2 : Str) : Option XC :=
  (chkP (Str.length x2 ≤ 100)).bind fun z1 => some (.f 0 "argument" x2)
def PreX_check_row__or25 (T : TC) : PreXX := fun As Ω R => ∃ (k0 : Nat) (p0 : Addr) (x0 : MS) (A1 : VA) (x2 : Str) (r : XC), As = [vr p0, A1, va T x2] ∧ Ω[k0]? = some (machA T p0 x0) ∧ NoC T Ω A1 (.type "list") ∧ X_check_row__or25 x0 x2 = some r ∧ R = RQ T r Ω
theorem sc_check_row__or25 : FnScope ["machine", "value", "name", "top", "digit"] ["machine", "value", "name"] (defScope s_check_row__or25) := ⟨rfl, rfl, rfl, by decide +kernel, rfl, by decide +kernel, by decide +kernel⟩
theorem okx_check_row__or25 {f : Addr} {fd : FuncData} (F : Fun T.K "check_row" "check_row" s_check_row__or25 f fd) (z_isinstance : mg "isinstance" = none) (z_list : mg "list" = none) (e_InvalidBound : MkC P w T.K mg base 3 "InvalidBound" (T.C 300) "argument") : FnOk P w T.K mg base (L2.CX P w) 5 f fd ["machine", "value", "name"] (mkSpX (PreX_check_row__or25 T)) := by
  refine fn_okX F sc_check_row__or25 (fun As Ω R h => ?_) (fun cdv A outer s H E hr As Ω R F0 h hx tk => ?_)
  · obtain ⟨k0, p0, x0, A1, x2, r, rfl, _⟩ := h
    rfl
  obtain ⟨k0, p0, x0, A1, x2, r, rfl, hk0, hA1L, hm, rfl⟩ := h
  refine ⟨_, (pss_cons (ps_if (pt_not (pt_val (pe_callB (cr_isiK (K := T.K) rfl) (by rfl) z_isinstance (by decide +kernel) (pa_cons (pv 1) (pa_cons (pe_bltn (v := .ty "list") (by rfl) z_list (by decide +kernel) rfl) pa_nil))))) (pss_one (ps_raiseX rfl tk e_InvalidBound (hr.mono (by decide)) (by rfl) (pa_cons (pv 2) pa_nil))) pss_never) pss_never), fun D => ?_⟩
  suffices hy : XS _ D F0 [some (vr p0), some A1, some (va T x2), none, none] (stt Ω [] []) by
    rw [show (stt Ω [] []) = Ω from stt_self (by simp)] at hy
    exact hy
  unfold X_check_row__or25 at hm
  refine xs_ifT (xt_notT (xt_tB (T := T) (xe_noC (xe_var (i := 1) rfl) xe_vx (.ty _) (noC_st hA1L)))) ?_
  obtain ⟨z1, hz1, hm⟩ := bnd_some hm
  obtain rfl := Option.some.inj hm
  exact xs_rzX (xa_cons (xe_var (i := 2) rfl) xa_nil) (chkP_some hz1) (wtc_EL hx)
noncomputable def X_check_row_shift__or24 (x0 : MS) (x2 : Int) : Option XC :=
  (M_check_machine x0).bind fun z1 => X_check_row__or25 x0 ("digits" : Str)
def PreX_check_row_shift__or24 (T : TC) : PreXX := fun As Ω R => ∃ (k0 : Nat) (p0 : Addr) (x0 : MS) (A1 : VA) (x2 : Int) (r : XC), As = [vr p0, A1, va T x2] ∧ Ω[k0]? = some (machA T p0 x0) ∧ NoC T Ω A1 (.type "list") ∧ X_check_row_shift__or24 x0 x2 = some r ∧ R = RQ T r Ω
theorem sc_check_row_shift__or24 : FnScope ["machine", "digits", "count"] ["machine", "digits", "count"] (defScope s_check_row_shift__or24) := ⟨rfl, rfl, rfl, by decide +kernel, rfl, by decide +kernel, by decide +kernel⟩
theorem okx_check_row_shift__or24 {f : Addr} {fd : FuncData} (F : Fun T.K "check_row_shift" "check_row_shift" s_check_row_shift__or24 f fd) (c_check_machine : Cal P w T.K mg base 5 "check_machine" ["machine"] (mkSp (Pre_check_machine T))) (cx_check_row__or25 : CalX P w T.K mg base 5 "check_row" ["machine", "value", "name"] (mkSpX (PreX_check_row__or25 T))) : FnOk P w T.K mg base (L2.CX P w) 6 f fd ["machine", "digits", "count"] (mkSpX (PreX_check_row_shift__or24 T)) := by
  refine fn_okX F sc_check_row_shift__or24 (fun As Ω R h => ?_) (fun cdv A outer s H E hr As Ω R F0 h hx tk => ?_)
  · obtain ⟨k0, p0, x0, A1, x2, r, rfl, _⟩ := h
    rfl
  obtain ⟨k0, p0, x0, A1, x2, r, rfl, hk0, hA1L, hm, rfl⟩ := h
  refine ⟨_, (pss_cons (ps_expr (pe_cal c_check_machine (hr.mono (by decide)) (by rfl) (pa_cons (pv 0) pa_nil))) (pss_cons (ps_expr (pe_calX cx_check_row__or25 (hr.mono (by decide)) (by rfl) tk (pa_cons (pv 0) (pa_cons (pv 1) (pa_cons pe_str pa_nil))))) pss_never)), fun D => ?_⟩
  suffices hy : XS _ D F0 [some (vr p0), some A1, some (va T x2)] (stt Ω [] []) by
    rw [show (stt Ω [] []) = Ω from stt_self (by simp)] at hy
    exact hy
  unfold X_check_row_shift__or24 at hm
  obtain ⟨z1, hz1, hm⟩ := bnd_some hm
  refine xs_drop (xe_call (xa_cons (xe_var (i := 0) rfl) xa_nil) ⟨k0, p0, x0, z1, rfl, (stt_getU hk0), hz1, rfl⟩ cal0) ?_
  show XS (tSeq _ _) _ _ [some (vr p0), some A1, some (va T x2)] (stt Ω [] [])
  have hX := hm
  exact xs_seq (xs_dropX (xr_callO (xa_cons (xe_var (i := 0) rfl) (xa_cons (xe_var (i := 1) rfl) (xa_cons xe_str xa_nil))) ⟨k0, p0, x0, A1, ("digits" : Str), _, rfl, (stt_getU hk0), (noC_st hA1L), hX, rfl⟩ (wtc_EL hx)))
noncomputable def X_shift_row_up__or23 (x0 : MS) (x2 : Int) : Option XC :=
  X_check_row_shift__or24 x0 x2
def PreX_shift_row_up__or23 (T : TC) : PreXX := fun As Ω R => ∃ (k0 : Nat) (p0 : Addr) (x0 : MS) (A1 : VA) (x2 : Int) (r : XC), As = [vr p0, A1, va T x2] ∧ Ω[k0]? = some (machA T p0 x0) ∧ NoC T Ω A1 (.type "list") ∧ X_shift_row_up__or23 x0 x2 = some r ∧ R = RQ T r Ω
theorem sc_shift_row_up__or23 : FnScope ["machine", "digits", "count", "size", "number"] ["machine", "digits", "count"] (defScope s_shift_row_up__or23) := ⟨rfl, rfl, rfl, by decide +kernel, rfl, by decide +kernel, by decide +kernel⟩
theorem okx_shift_row_up__or23 {f : Addr} {fd : FuncData} (F : Fun T.K "shift_row_up" "shift_row_up" s_shift_row_up__or23 f fd) (cx_check_row_shift__or24 : CalX P w T.K mg base 6 "check_row_shift" ["machine", "digits", "count"] (mkSpX (PreX_check_row_shift__or24 T))) : FnOk P w T.K mg base (L2.CX P w) 22 f fd ["machine", "digits", "count"] (mkSpX (PreX_shift_row_up__or23 T)) := by
  refine fn_okX F sc_shift_row_up__or23 (fun As Ω R h => ?_) (fun cdv A outer s H E hr As Ω R F0 h hx tk => ?_)
  · obtain ⟨k0, p0, x0, A1, x2, r, rfl, _⟩ := h
    rfl
  obtain ⟨k0, p0, x0, A1, x2, r, rfl, hk0, hA1L, hm, rfl⟩ := h
  refine ⟨_, (pss_cons (ps_expr (pe_calX cx_check_row_shift__or24 (hr.mono (by decide)) (by rfl) tk (pa_cons (pv 0) (pa_cons (pv 1) (pa_cons (pv 2) pa_nil))))) pss_never), fun D => ?_⟩
  suffices hy : XS _ D F0 [some (vr p0), some A1, some (va T x2), none, none] (stt Ω [] []) by
    rw [show (stt Ω [] []) = Ω from stt_self (by simp)] at hy
    exact hy
  unfold X_shift_row_up__or23 at hm
  have hX := hm
  exact xs_seq (xs_dropX (xr_callO (xa_cons (xe_var (i := 0) rfl) (xa_cons (xe_var (i := 1) rfl) (xa_cons (xe_var (i := 2) rfl) xa_nil))) ⟨k0, p0, x0, A1, x2, _, rfl, (stt_getU hk0), (noC_st hA1L), hX, rfl⟩ (wtc_EL hx)))
noncomputable def X_shift_row_down__or26 (x0 : MS) (x2 : Int) : Option XC :=
  X_check_row_shift__or24 x0 x2
def PreX_shift_row_down__or26 (T : TC) : PreXX := fun As Ω R => ∃ (k0 : Nat) (p0 : Addr) (x0 : MS) (A1 : VA) (x2 : Int) (r : XC), As = [vr p0, A1, va T x2] ∧ Ω[k0]? = some (machA T p0 x0) ∧ NoC T Ω A1 (.type "list") ∧ X_shift_row_down__or26 x0 x2 = some r ∧ R = RQ T r Ω
theorem sc_shift_row_down__or26 : FnScope ["machine", "digits", "count", "size", "number"] ["machine", "digits", "count"] (defScope s_shift_row_down__or26) := ⟨rfl, rfl, rfl, by decide +kernel, rfl, by decide +kernel, by decide +kernel⟩
theorem okx_shift_row_down__or26 {f : Addr} {fd : FuncData} (F : Fun T.K "shift_row_down" "shift_row_down" s_shift_row_down__or26 f fd) (cx_check_row_shift__or24 : CalX P w T.K mg base 6 "check_row_shift" ["machine", "digits", "count"] (mkSpX (PreX_check_row_shift__or24 T))) : FnOk P w T.K mg base (L2.CX P w) 22 f fd ["machine", "digits", "count"] (mkSpX (PreX_shift_row_down__or26 T)) := by
  refine fn_okX F sc_shift_row_down__or26 (fun As Ω R h => ?_) (fun cdv A outer s H E hr As Ω R F0 h hx tk => ?_)
  · obtain ⟨k0, p0, x0, A1, x2, r, rfl, _⟩ := h
    rfl
  obtain ⟨k0, p0, x0, A1, x2, r, rfl, hk0, hA1L, hm, rfl⟩ := h
  refine ⟨_, (pss_cons (ps_expr (pe_calX cx_check_row_shift__or24 (hr.mono (by decide)) (by rfl) tk (pa_cons (pv 0) (pa_cons (pv 1) (pa_cons (pv 2) pa_nil))))) pss_never), fun D => ?_⟩
  suffices hy : XS _ D F0 [some (vr p0), some A1, some (va T x2), none, none] (stt Ω [] []) by
    rw [show (stt Ω [] []) = Ω from stt_self (by simp)] at hy
    exact hy
  unfold X_shift_row_down__or26 at hm
  have hX := hm
  exact xs_seq (xs_dropX (xr_callO (xa_cons (xe_var (i := 0) rfl) (xa_cons (xe_var (i := 1) rfl) (xa_cons (xe_var (i := 2) rfl) xa_nil))) ⟨k0, p0, x0, A1, x2, _, rfl, (stt_getU hk0), (noC_st hA1L), hX, rfl⟩ (wtc_EL hx)))
noncomputable def M_is_between__or30 (x0 : Bool) (x1 : Int) (x2 : Int) : Option Bool :=
  some false
def Pre_is_between__or30 (T : TC) : PreT := fun As Ω R => ∃ (x0 : Bool) (x1 : Int) (x2 : Int) (r : Bool), As = [va T x0, va T x1, va T x2] ∧ M_is_between__or30 x0 x1 x2 = some r ∧ R = RV (va T r) (stt Ω [] [])
theorem sc_is_between__or30 : FnScope ["value", "low", "high"] ["value", "low", "high"] (defScope s_is_between__or30) := ⟨rfl, rfl, rfl, by decide +kernel, rfl, by decide +kernel, by decide +kernel⟩
theorem ok_is_between__or30 {f : Addr} {fd : FuncData} (F : Fun T.K "is_between" "is_between" s_is_between__or30 f fd) (c_is_integer__or18 : Cal P w T.K mg base 1 "is_integer" ["value"] (mkSp (Pre_is_integer__or18 T))) : FnOk P w T.K mg base CX0 2 f fd ["value", "low", "high"] (mkSp (Pre_is_between__or30 T)) := by
  refine fn_ok F sc_is_between__or30 (fun As Ω R h => ?_) (fun cdv A outer s H E hr As Ω R F0 h => ?_)
  · obtain ⟨x0, x1, x2, r, rfl, _⟩ := h
    rfl
  obtain ⟨x0, x1, x2, r, rfl, hm, rfl⟩ := h
  refine ⟨_, (pss_one (ps_ret (pe_and (pe_cal c_is_integer__or18 (hr.mono (by decide)) (by rfl) (pa_cons (pv 0) pa_nil)) (pe_one pe_neverX)))), fun D hrt hnx => ?_⟩
  have ok : Okk Ω [] := okk0
  suffices hx : XS _ D F0 [some (va T x0), some (va T x1), some (va T x2)] (stt Ω [] []) by
    rw [show (stt Ω [] []) = Ω from stt_self (by simp)] at hx
    exact hx
  unfold M_is_between__or30 at hm
  obtain rfl := Option.some.inj hm
  refine xs_ret (xe_andV (b := false) (c := false) (xe_call (xa_cons (xe_var (i := 0) rfl) xa_nil) ⟨x0, false, rfl, rfl, rfl⟩ cal0) (fun h => nomatch h)) hrt.all
noncomputable def M_is_between__or31 (x1 : Int) (x2 : Int) : Option Bool :=
  some false
def Pre_is_between__or31 (T : TC) : PreT := fun As Ω R => ∃ (A0 : VA) (x1 : Int) (x2 : Int) (r : Bool), As = [A0, va T x1, va T x2] ∧ NoC T Ω A0 (.type "int") ∧ M_is_between__or31 x1 x2 = some r ∧ R = RV (va T r) (stt Ω [] [])
theorem sc_is_between__or31 : FnScope ["value", "low", "high"] ["value", "low", "high"] (defScope s_is_between__or31) := ⟨rfl, rfl, rfl, by decide +kernel, rfl, by decide +kernel, by decide +kernel⟩
theorem ok_is_between__or31 {f : Addr} {fd : FuncData} (F : Fun T.K "is_between" "is_between" s_is_between__or31 f fd) (c_is_integer__or14 : Cal P w T.K mg base 1 "is_integer" ["value"] (mkSp (Pre_is_integer__or14 T))) : FnOk P w T.K mg base CX0 2 f fd ["value", "low", "high"] (mkSp (Pre_is_between__or31 T)) := by
  refine fn_ok F sc_is_between__or31 (fun As Ω R h => ?_) (fun cdv A outer s H E hr As Ω R F0 h => ?_)
  · obtain ⟨A0, x1, x2, r, rfl, _⟩ := h
    rfl
  obtain ⟨A0, x1, x2, r, rfl, hA0I, hm, rfl⟩ := h
  refine ⟨_, (pss_one (ps_ret (pe_and (pe_cal c_is_integer__or14 (hr.mono (by decide)) (by rfl) (pa_cons (pv 0) pa_nil)) (pe_one pe_neverX)))), fun D hrt hnx => ?_⟩
  have ok : Okk Ω [] := okk0
  suffices hx : XS _ D F0 [some A0, some (va T x1), some (va T x2)] (stt Ω [] []) by
    rw [show (stt Ω [] []) = Ω from stt_self (by simp)] at hx
    exact hx
  unfold M_is_between__or31 at hm
  obtain rfl := Option.some.inj hm
  refine xs_ret (xe_andV (b := false) (c := false) (xe_call (xa_cons (xe_var (i := 0) rfl) xa_nil) ⟨A0, false, rfl, (noC_st hA0I), rfl, rfl⟩ cal0) (fun h => nomatch h)) hrt.all
noncomputable def M_is_between__orM (x0 : MV) (x1 : Int) (x2 : Int) : Option Bool := some (MV.btw x1 x2 x0)
def Pre_is_between__orM (T : TC) : PreT := fun As Ω R => ∃ (x0 : MV) (x1 : Int) (x2 : Int) (r : Bool), As = [va T x0, va T x1, va T x2] ∧ M_is_between__orM x0 x1 x2 = some r ∧ R = RV (va T r) (stt Ω [] [])
theorem ok_is_between__orM {f : Addr} {fd : FuncData} (F : Fun T.K "is_between" "is_between" s_is_between f fd) (c_is_integer : Cal P w T.K mg base 1 "is_integer" ["value"] (mkSp (Pre_is_integer T))) (c_is_integer__or18 : Cal P w T.K mg base 1 "is_integer" ["value"] (mkSp (Pre_is_integer__or18 T))) (c_is_integer__or14 : Cal P w T.K mg base 1 "is_integer" ["value"] (mkSp (Pre_is_integer__or14 T))) : FnOk P w T.K mg base CX0 2 f fd ["value", "low", "high"] (mkSp (Pre_is_between__orM T)) := by
  refine FnOk.imp (VL.FnOk.or2 ((ok_is_between (T := T) F c_is_integer).mono (by decide : _ ≤ 2)) (VL.FnOk.or2 ((ok_is_between__or30 (T := T) F c_is_integer__or18).mono (by decide : _ ≤ 2)) ((ok_is_between__or31 (T := T) F c_is_integer__or14).mono (by decide : _ ≤ 2)))) fun vs H Q E h => ?_
  obtain ⟨F0, Ω, As, R, ⟨x0, x1, x2, r, rfl, hm, rfl⟩, ha, hh, hq⟩ := h
  cases x0 with
  | i n => exact .inl ⟨F0, Ω, _, _, ⟨n, x1, x2, r, rfl, hm, rfl⟩, ha, hh, hq⟩
  | b x => exact .inr (.inl ⟨F0, Ω, _, _, ⟨x, x1, x2, r, rfl, hm, rfl⟩, ha, hh, hq⟩)
  | o => exact .inr (.inr ⟨F0, Ω, _, _, ⟨va T MV.o, x1, x2, r, rfl, mv_no, hm, rfl⟩, ha, hh, hq⟩)
noncomputable def X_check_row__or29 (x0 : MS) (x1 : List MV) (x2 : Str) : Option XC :=
  (M_top_digit x0.w).bind fun z1 => (chkP (x1.length ≤ sizeLine)).bind fun z2 => (lcM (fun (a4 : MV) (s3 : Unit) => (M_is_between__orM a4 (0 : Int) z1).bind fun z5 => some (some z5, ())) x1 ()).bind fun z6 => if (!(z6.1.all id)) = true then (chkP (Str.length x2 ≤ 100)).bind fun z8 => some (.f 0 "argument" x2) else none
def PreX_check_row__or29 (T : TC) : PreXX := fun As Ω R => ∃ (k0 : Nat) (p0 : Addr) (x0 : MS) (x1 : List MV) (x2 : Str) (r : XC), As = [vr p0, va T (LF.mk x1), va T x2] ∧ Ω[k0]? = some (machA T p0 x0) ∧ X_check_row__or29 x0 x1 x2 = some r ∧ R = RQ T r Ω
theorem sc_check_row__or29 : FnScope ["machine", "value", "name", "top", "digit"] ["machine", "value", "name"] (defScope s_check_row__or29) := ⟨rfl, rfl, rfl, by decide +kernel, rfl, by decide +kernel, by decide +kernel⟩
theorem okx_check_row__or29 {f : Addr} {fd : FuncData} (F : Fun T.K "check_row" "check_row" s_check_row__or29 f fd) (z_isinstance : mg "isinstance" = none) (z_list : mg "list" = none) (mc : MCls T.K (T.C 0)) (c_top_digit : Cal P w T.K mg base 1 "top_digit" ["width"] (mkSp (Pre_top_digit T))) (c_is_between__orM : Cal P w T.K mg base 2 "is_between" ["value", "low", "high"] (mkSp (Pre_is_between__orM T))) (z_all : mg "all" = none) (e_InvalidBound : MkC P w T.K mg base 3 "InvalidBound" (T.C 300) "argument") : FnOk P w T.K mg base (L2.CX P w) 5 f fd ["machine", "value", "name"] (mkSpX (PreX_check_row__or29 T)) := by
  refine fn_okX F sc_check_row__or29 (fun As Ω R h => ?_) (fun cdv A outer s H E hr As Ω R F0 h hx tk => ?_)
  · obtain ⟨k0, p0, x0, x1, x2, r, rfl, _⟩ := h
    rfl
  obtain ⟨k0, p0, x0, x1, x2, r, rfl, hk0, hm, rfl⟩ := h
  refine ⟨_, (pss_cons (ps_if (pt_not (pt_val (pe_callB (cr_isiK (K := T.K) rfl) (by rfl) z_isinstance (by decide +kernel) (pa_cons (pv 1) (pa_cons (pe_bltn (v := .ty "list") (by rfl) z_list (by decide +kernel) rfl) pa_nil))))) pss_never pss_nil) (pss_cons (ps_set (i := 3) sc_check_row__or29.nd rfl (.inr rfl) (pe_cal c_top_digit (hr.mono (by decide)) (by rfl) (pa_cons (pe_fldK (K := T.K) (pv 0) (by rfl) rfl) pa_nil))) (pss_one (ps_if (pt_not (pt_val (pe_callB (cr_allK (K := T.K) rfl rfl) (by rfl) z_all (by decide +kernel) (pa_cons (pe_lc (own := [("digit", 4)]) rfl sc_check_row__or29.nd (pi_listK (K := T.K) (pv 1) rfl) (blkOk_by (N := ["machine", "value", "name", "top", "digit"]) (sc := defScope s_check_row__or29) (by decide +kernel)) (fun _ _ _ _ _ => (pg_name (i := 4) sc_check_row__or29.nd rfl (.inl rfl))) (fun _ _ _ _ _ => pts_nil) (fun _ _ _ _ _ => (pe_cal c_is_between__orM (hr.mono (by decide)) (by rfl) (pa_cons (pv 4) (pa_cons pe_int (pa_cons (pv 3) pa_nil)))))) pa_nil)))) (pss_one (ps_raiseX rfl tk e_InvalidBound (hr.mono (by decide)) (by rfl) (pa_cons (pv 2) pa_nil))) pss_nil)))), fun D => ?_⟩
  suffices hy : XS _ D F0 [some (vr p0), some (va T (LF.mk x1)), some (va T x2), none, none] (stt Ω [] []) by
    rw [show (stt Ω [] []) = Ω from stt_self (by simp)] at hy
    exact hy
  unfold X_check_row__or29 at hm
  refine xs_ifN (xt_notF (xt_tB (T := T) (xe_isi (xe_var (i := 1) rfl) xe_vx (.ty _) (fun F H v hh a => ty_lst hh a) (kit_ty (by decide +kernel))))) ?_
  show XS (tSeq _ _) _ _ [some (vr p0), some (va T (LF.mk x1)), some (va T x2), none, none] (stt Ω [] [])
  obtain ⟨z1, hz1, hm⟩ := bnd_some hm
  refine xs_set (A := va T z1) (xe_call (xa_cons (xe_mw mc.cl mc.nw (xe_var (i := 0) rfl) (stt_getU hk0)) xa_nil) ⟨x0.w, z1, rfl, hz1, rfl⟩ cal0) ?_
  show XS (tIfS _ _ _) _ _ [some (vr p0), some (va T (LF.mk x1)), some (va T x2), some (va T z1), none] (stt Ω [] [])
  obtain ⟨z2, hz2, hm⟩ := bnd_some hm
  obtain ⟨z6, hz6, hm⟩ := bnd_some hm
  by_cases hc : (!(z6.1.all id)) = true
  · rw [if_pos hc] at hm
    refine xs_ifT1 (xt_eq (xt_not (xt_tB (T := T) (xe_all (xe_fz (xn_lcS (T := T) (fun (s3 : Unit) => []) (fun (s3 : Unit) => []) hz6 (xi_LF (xe_var (i := 1) rfl)) (fun _ => tgt_name) (by simp) (chkP_some hz2) ?q7)) isL_LF))) hc) ?_
    case q7 =>
      exact (fun a4 s3 o s2 ha hm X => by
        obtain ⟨z5, hz5, hm⟩ := bnd_some hm
        obtain ⟨rfl, rfl⟩ := Prod.mk.inj (Option.some.inj hm)
        refine ⟨(fun e => nomatch e), fun y e => ?_⟩
        obtain rfl := Option.some.inj e
        refine ⟨xt_yes, (xe_call (xa_cons (xe_var (i := 4) rfl) (xa_cons xe_int (xa_cons (xe_var (i := 3) rfl) xa_nil))) ⟨a4, (0 : Int), z1, z5, rfl, hz5, rfl⟩ cal0)⟩)
    obtain ⟨z8, hz8, hm⟩ := bnd_some hm
    obtain rfl := Option.some.inj hm
    exact xs_rzX (xa_cons (xe_var (i := 2) rfl) xa_nil) (chkP_some hz8) (wtc_EL hx)
  · rw [if_neg hc] at hm
    cases hm
noncomputable def X_check_row_shift__or28 (x0 : MS) (x1 : List MV) (x2 : Int) : Option XC :=
  (M_check_machine x0).bind fun z1 => X_check_row__or29 x0 x1 ("digits" : Str)
def PreX_check_row_shift__or28 (T : TC) : PreXX := fun As Ω R => ∃ (k0 : Nat) (p0 : Addr) (x0 : MS) (x1 : List MV) (x2 : Int) (r : XC), As = [vr p0, va T (LF.mk x1), va T x2] ∧ Ω[k0]? = some (machA T p0 x0) ∧ X_check_row_shift__or28 x0 x1 x2 = some r ∧ R = RQ T r Ω
theorem sc_check_row_shift__or28 : FnScope ["machine", "digits", "count"] ["machine", "digits", "count"] (defScope s_check_row_shift__or28) := ⟨rfl, rfl, rfl, by decide +kernel, rfl, by decide +kernel, by decide +kernel⟩
theorem okx_check_row_shift__or28 {f : Addr} {fd : FuncData} (F : Fun T.K "check_row_shift" "check_row_shift" s_check_row_shift__or28 f fd) (c_check_machine : Cal P w T.K mg base 5 "check_machine" ["machine"] (mkSp (Pre_check_machine T))) (cx_check_row__or29 : CalX P w T.K mg base 5 "check_row" ["machine", "value", "name"] (mkSpX (PreX_check_row__or29 T))) : FnOk P w T.K mg base (L2.CX P w) 6 f fd ["machine", "digits", "count"] (mkSpX (PreX_check_row_shift__or28 T)) := by
  refine fn_okX F sc_check_row_shift__or28 (fun As Ω R h => ?_) (fun cdv A outer s H E hr As Ω R F0 h hx tk => ?_)
  · obtain ⟨k0, p0, x0, x1, x2, r, rfl, _⟩ := h
    rfl
  obtain ⟨k0, p0, x0, x1, x2, r, rfl, hk0, hm, rfl⟩ := h
  refine ⟨_, (pss_cons (ps_expr (pe_cal c_check_machine (hr.mono (by decide)) (by rfl) (pa_cons (pv 0) pa_nil))) (pss_cons (ps_expr (pe_calX cx_check_row__or29 (hr.mono (by decide)) (by rfl) tk (pa_cons (pv 0) (pa_cons (pv 1) (pa_cons pe_str pa_nil))))) pss_never)), fun D => ?_⟩
  suffices hy : XS _ D F0 [some (vr p0), some (va T (LF.mk x1)), some (va T x2)] (stt Ω [] []) by
    rw [show (stt Ω [] []) = Ω from stt_self (by simp)] at hy
    exact hy
  unfold X_check_row_shift__or28 at hm
  obtain ⟨z1, hz1, hm⟩ := bnd_some hm
  refine xs_drop (xe_call (xa_cons (xe_var (i := 0) rfl) xa_nil) ⟨k0, p0, x0, z1, rfl, (stt_getU hk0), hz1, rfl⟩ cal0) ?_
  show XS (tSeq _ _) _ _ [some (vr p0), some (va T (LF.mk x1)), some (va T x2)] (stt Ω [] [])
  have hX := hm
  exact xs_seq (xs_dropX (xr_callO (xa_cons (xe_var (i := 0) rfl) (xa_cons (xe_var (i := 1) rfl) (xa_cons xe_str xa_nil))) ⟨k0, p0, x0, x1, ("digits" : Str), _, rfl, (stt_getU hk0), hX, rfl⟩ (wtc_EL hx)))
noncomputable def X_shift_row_up__or27 (x0 : MS) (x1 : List MV) (x2 : Int) : Option XC :=
  X_check_row_shift__or28 x0 x1 x2
def PreX_shift_row_up__or27 (T : TC) : PreXX := fun As Ω R => ∃ (k0 : Nat) (p0 : Addr) (x0 : MS) (x1 : List MV) (x2 : Int) (r : XC), As = [vr p0, va T (LF.mk x1), va T x2] ∧ Ω[k0]? = some (machA T p0 x0) ∧ X_shift_row_up__or27 x0 x1 x2 = some r ∧ R = RQ T r Ω
theorem sc_shift_row_up__or27 : FnScope ["machine", "digits", "count", "size", "number"] ["machine", "digits", "count"] (defScope s_shift_row_up__or27) := ⟨rfl, rfl, rfl, by decide +kernel, rfl, by decide +kernel, by decide +kernel⟩
theorem okx_shift_row_up__or27 {f : Addr} {fd : FuncData} (F : Fun T.K "shift_row_up" "shift_row_up" s_shift_row_up__or27 f fd) (cx_check_row_shift__or28 : CalX P w T.K mg base 6 "check_row_shift" ["machine", "digits", "count"] (mkSpX (PreX_check_row_shift__or28 T))) : FnOk P w T.K mg base (L2.CX P w) 22 f fd ["machine", "digits", "count"] (mkSpX (PreX_shift_row_up__or27 T)) := by
  refine fn_okX F sc_shift_row_up__or27 (fun As Ω R h => ?_) (fun cdv A outer s H E hr As Ω R F0 h hx tk => ?_)
  · obtain ⟨k0, p0, x0, x1, x2, r, rfl, _⟩ := h
    rfl
  obtain ⟨k0, p0, x0, x1, x2, r, rfl, hk0, hm, rfl⟩ := h
  refine ⟨_, (pss_cons (ps_expr (pe_calX cx_check_row_shift__or28 (hr.mono (by decide)) (by rfl) tk (pa_cons (pv 0) (pa_cons (pv 1) (pa_cons (pv 2) pa_nil))))) pss_never), fun D => ?_⟩
  suffices hy : XS _ D F0 [some (vr p0), some (va T (LF.mk x1)), some (va T x2), none, none] (stt Ω [] []) by
    rw [show (stt Ω [] []) = Ω from stt_self (by simp)] at hy
    exact hy
  unfold X_shift_row_up__or27 at hm
  have hX := hm
  exact xs_seq (xs_dropX (xr_callO (xa_cons (xe_var (i := 0) rfl) (xa_cons (xe_var (i := 1) rfl) (xa_cons (xe_var (i := 2) rfl) xa_nil))) ⟨k0, p0, x0, x1, x2, _, rfl, (stt_getU hk0), hX, rfl⟩ (wtc_EL hx)))
noncomputable def X_shift_row_down__or32 (x0 : MS) (x1 : List MV) (x2 : Int) : Option XC :=
  X_check_row_shift__or28 x0 x1 x2
def PreX_shift_row_down__or32 (T : TC) : PreXX := fun As Ω R => ∃ (k0 : Nat) (p0 : Addr) (x0 : MS) (x1 : List MV) (x2 : Int) (r : XC), As = [vr p0, va T (LF.mk x1), va T x2] ∧ Ω[k0]? = some (machA T p0 x0) ∧ X_shift_row_down__or32 x0 x1 x2 = some r ∧ R = RQ T r Ω
theorem sc_shift_row_down__or32 : FnScope ["machine", "digits", "count", "size", "number"] ["machine", "digits", "count"] (defScope s_shift_row_down__or32) := ⟨rfl, rfl, rfl, by decide +kernel, rfl, by decide +kernel, by decide +kernel⟩
theorem okx_shift_row_down__or32 {f : Addr} {fd : FuncData} (F : Fun T.K "shift_row_down" "shift_row_down" s_shift_row_down__or32 f fd) (cx_check_row_shift__or28 : CalX P w T.K mg base 6 "check_row_shift" ["machine", "digits", "count"] (mkSpX (PreX_check_row_shift__or28 T))) : FnOk P w T.K mg base (L2.CX P w) 22 f fd ["machine", "digits", "count"] (mkSpX (PreX_shift_row_down__or32 T)) := by
  refine fn_okX F sc_shift_row_down__or32 (fun As Ω R h => ?_) (fun cdv A outer s H E hr As Ω R F0 h hx tk => ?_)
  · obtain ⟨k0, p0, x0, x1, x2, r, rfl, _⟩ := h
    rfl
  obtain ⟨k0, p0, x0, x1, x2, r, rfl, hk0, hm, rfl⟩ := h
  refine ⟨_, (pss_cons (ps_expr (pe_calX cx_check_row_shift__or28 (hr.mono (by decide)) (by rfl) tk (pa_cons (pv 0) (pa_cons (pv 1) (pa_cons (pv 2) pa_nil))))) pss_never), fun D => ?_⟩
  suffices hy : XS _ D F0 [some (vr p0), some (va T (LF.mk x1)), some (va T x2), none, none] (stt Ω [] []) by
    rw [show (stt Ω [] []) = Ω from stt_self (by simp)] at hy
    exact hy
  unfold X_shift_row_down__or32 at hm
  have hX := hm
  exact xs_seq (xs_dropX (xr_callO (xa_cons (xe_var (i := 0) rfl) (xa_cons (xe_var (i := 1) rfl) (xa_cons (xe_var (i := 2) rfl) xa_nil))) ⟨k0, p0, x0, x1, x2, _, rfl, (stt_getU hk0), hX, rfl⟩ (wtc_EL hx)))
noncomputable def X_check_row (x0 : MS) (x1 : List Int) (x2 : Str) : Option XC :=
  (M_top_digit x0.w).bind fun z1 => (chkP (x1.length ≤ sizeLine)).bind fun z2 => (lcM (fun (a4 : Int) (s3 : Unit) => (M_is_between a4 (0 : Int) z1).bind fun z5 => some (some z5, ())) x1 ()).bind fun z6 => if (!(z6.1.all id)) = true then (chkP (Str.length x2 ≤ 100)).bind fun z8 => some (.f 0 "argument" x2) else none
def PreX_check_row (T : TC) : PreXX := fun As Ω R => ∃ (k0 : Nat) (p0 : Addr) (x0 : MS) (x1 : List Int) (x2 : Str) (r : XC), As = [vr p0, va T (LF.mk x1), va T x2] ∧ Ω[k0]? = some (machA T p0 x0) ∧ X_check_row x0 x1 x2 = some r ∧ R = RQ T r Ω
theorem okx_check_row {f : Addr} {fd : FuncData} (F : Fun T.K "check_row" "check_row" s_check_row f fd) (z_isinstance : mg "isinstance" = none) (z_list : mg "list" = none) (mc : MCls T.K (T.C 0)) (c_top_digit : Cal P w T.K mg base 1 "top_digit" ["width"] (mkSp (Pre_top_digit T))) (c_is_between : Cal P w T.K mg base 2 "is_between" ["value", "low", "high"] (mkSp (Pre_is_between T))) (z_all : mg "all" = none) (e_InvalidBound : MkC P w T.K mg base 3 "InvalidBound" (T.C 300) "argument") : FnOk P w T.K mg base (L2.CX P w) 5 f fd ["machine", "value", "name"] (mkSpX (PreX_check_row T)) := by
  refine fn_okX F sc_check_row (fun As Ω R h => ?_) (fun cdv A outer s H E hr As Ω R F0 h hx tk => ?_)
  · obtain ⟨k0, p0, x0, x1, x2, r, rfl, _⟩ := h
    rfl
  obtain ⟨k0, p0, x0, x1, x2, r, rfl, hk0, hm, rfl⟩ := h
  refine ⟨_, (pss_cons (ps_if (pt_not (pt_val (pe_callB (cr_isiK (K := T.K) rfl) (by rfl) z_isinstance (by decide +kernel) (pa_cons (pv 1) (pa_cons (pe_bltn (v := .ty "list") (by rfl) z_list (by decide +kernel) rfl) pa_nil))))) pss_never pss_nil) (pss_cons (ps_set (i := 3) sc_check_row.nd rfl (.inr rfl) (pe_cal c_top_digit (hr.mono (by decide)) (by rfl) (pa_cons (pe_fldK (K := T.K) (pv 0) (by rfl) rfl) pa_nil))) (pss_one (ps_if (pt_not (pt_val (pe_callB (cr_allK (K := T.K) rfl rfl) (by rfl) z_all (by decide +kernel) (pa_cons (pe_lc (own := [("digit", 4)]) rfl sc_check_row.nd (pi_listK (K := T.K) (pv 1) rfl) (blkOk_by (N := ["machine", "value", "name", "top", "digit"]) (sc := defScope s_check_row) (by decide +kernel)) (fun _ _ _ _ _ => (pg_name (i := 4) sc_check_row.nd rfl (.inl rfl))) (fun _ _ _ _ _ => pts_nil) (fun _ _ _ _ _ => (pe_cal c_is_between (hr.mono (by decide)) (by rfl) (pa_cons (pv 4) (pa_cons pe_int (pa_cons (pv 3) pa_nil)))))) pa_nil)))) (pss_one (ps_raiseX rfl tk e_InvalidBound (hr.mono (by decide)) (by rfl) (pa_cons (pv 2) pa_nil))) pss_nil)))), fun D => ?_⟩
  suffices hy : XS _ D F0 [some (vr p0), some (va T (LF.mk x1)), some (va T x2), none, none] (stt Ω [] []) by
    rw [show (stt Ω [] []) = Ω from stt_self (by simp)] at hy
    exact hy
  unfold X_check_row at hm
  refine xs_ifN (xt_notF (xt_tB (T := T) (xe_isi (xe_var (i := 1) rfl) xe_vx (.ty _) (fun F H v hh a => ty_lst hh a) (kit_ty (by decide +kernel))))) ?_
  show XS (tSeq _ _) _ _ [some (vr p0), some (va T (LF.mk x1)), some (va T x2), none, none] (stt Ω [] [])
  obtain ⟨z1, hz1, hm⟩ := bnd_some hm
  refine xs_set (A := va T z1) (xe_call (xa_cons (xe_mw mc.cl mc.nw (xe_var (i := 0) rfl) (stt_getU hk0)) xa_nil) ⟨x0.w, z1, rfl, hz1, rfl⟩ cal0) ?_
  show XS (tIfS _ _ _) _ _ [some (vr p0), some (va T (LF.mk x1)), some (va T x2), some (va T z1), none] (stt Ω [] [])
  obtain ⟨z2, hz2, hm⟩ := bnd_some hm
  obtain ⟨z6, hz6, hm⟩ := bnd_some hm
  by_cases hc : (!(z6.1.all id)) = true
  · rw [if_pos hc] at hm
    refine xs_ifT1 (xt_eq (xt_not (xt_tB (T := T) (xe_all (xe_fz (xn_lcS (T := T) (fun (s3 : Unit) => []) (fun (s3 : Unit) => []) hz6 (xi_LF (xe_var (i := 1) rfl)) (fun _ => tgt_name) (by simp) (chkP_some hz2) ?q7)) isL_LF))) hc) ?_
    case q7 =>
      exact (fun a4 s3 o s2 ha hm X => by
        obtain ⟨z5, hz5, hm⟩ := bnd_some hm
        obtain ⟨rfl, rfl⟩ := Prod.mk.inj (Option.some.inj hm)
        refine ⟨(fun e => nomatch e), fun y e => ?_⟩
        obtain rfl := Option.some.inj e
        refine ⟨xt_yes, (xe_call (xa_cons (xe_var (i := 4) rfl) (xa_cons xe_int (xa_cons (xe_var (i := 3) rfl) xa_nil))) ⟨a4, (0 : Int), z1, z5, rfl, hz5, rfl⟩ cal0)⟩)
    obtain ⟨z8, hz8, hm⟩ := bnd_some hm
    obtain rfl := Option.some.inj hm
    exact xs_rzX (xa_cons (xe_var (i := 2) rfl) xa_nil) (chkP_some hz8) (wtc_EL hx)
  · rw [if_neg hc] at hm
    cases hm
noncomputable def X_check_row_shift__or34 (x0 : MS) (x1 : List Int) : Option XC :=
  (M_check_machine x0).bind fun z1 => onC (X_check_row x0 x1 ("digits" : Str)) (fun k => some k) ((M_check_row x0 x1 ("digits" : Str)).bind fun z2 => (chkP (Str.length ("count" : Str) ≤ 100)).bind fun z5 => some (.f 0 "argument" ("count" : Str)))
def PreX_check_row_shift__or34 (T : TC) : PreXX := fun As Ω R => ∃ (k0 : Nat) (p0 : Addr) (x0 : MS) (x1 : List Int) (A2 : VA) (r : XC), As = [vr p0, va T (LF.mk x1), A2] ∧ Ω[k0]? = some (machA T p0 x0) ∧ NoC T Ω A2 (.type "int") ∧ X_check_row_shift__or34 x0 x1 = some r ∧ R = RQ T r Ω
theorem sc_check_row_shift__or34 : FnScope ["machine", "digits", "count"] ["machine", "digits", "count"] (defScope s_check_row_shift__or34) := ⟨rfl, rfl, rfl, by decide +kernel, rfl, by decide +kernel, by decide +kernel⟩
theorem okx_check_row_shift__or34 {f : Addr} {fd : FuncData} (F : Fun T.K "check_row_shift" "check_row_shift" s_check_row_shift__or34 f fd) (c_check_machine : Cal P w T.K mg base 5 "check_machine" ["machine"] (mkSp (Pre_check_machine T))) (cx_check_row : CalX P w T.K mg base 5 "check_row" ["machine", "value", "name"] (sp2 (Pre_check_row T) (PreX_check_row T))) (mc : MCls T.K (T.C 0)) (c_is_between__or31 : Cal P w T.K mg base 2 "is_between" ["value", "low", "high"] (mkSp (Pre_is_between__or31 T))) (e_InvalidBound : MkC P w T.K mg base 3 "InvalidBound" (T.C 300) "argument") : FnOk P w T.K mg base (L2.CX P w) 6 f fd ["machine", "digits", "count"] (mkSpX (PreX_check_row_shift__or34 T)) := by
  refine fn_okX F sc_check_row_shift__or34 (fun As Ω R h => ?_) (fun cdv A outer s H E hr As Ω R F0 h hx tk => ?_)
  · obtain ⟨k0, p0, x0, x1, A2, r, rfl, _⟩ := h
    rfl
  obtain ⟨k0, p0, x0, x1, A2, r, rfl, hk0, hA2I, hm, rfl⟩ := h
  refine ⟨_, (pss_cons (ps_expr (pe_cal c_check_machine (hr.mono (by decide)) (by rfl) (pa_cons (pv 0) pa_nil))) (pss_cons (ps_expr (pe_calX cx_check_row (hr.mono (by decide)) (by rfl) tk (pa_cons (pv 0) (pa_cons (pv 1) (pa_cons pe_str pa_nil))))) (pss_one (ps_if (pt_not (pt_val (pe_cal c_is_between__or31 (hr.mono (by decide)) (by rfl) (pa_cons (pv 2) (pa_cons pe_int (pa_cons (pe_op op_sub (pe_fldK (K := T.K) (pv 0) (by rfl) rfl) pe_int) pa_nil)))))) (pss_one (ps_raiseX rfl tk e_InvalidBound (hr.mono (by decide)) (by rfl) (pa_cons pe_str pa_nil))) pss_never)))), fun D => ?_⟩
  suffices hy : XS _ D F0 [some (vr p0), some (va T (LF.mk x1)), some A2] (stt Ω [] []) by
    rw [show (stt Ω [] []) = Ω from stt_self (by simp)] at hy
    exact hy
  unfold X_check_row_shift__or34 at hm
  obtain ⟨z1, hz1, hm⟩ := bnd_some hm
  refine xs_drop (xe_call (xa_cons (xe_var (i := 0) rfl) xa_nil) ⟨k0, p0, x0, z1, rfl, (stt_getU hk0), hz1, rfl⟩ cal0) ?_
  show XS (tSeq _ _) _ _ [some (vr p0), some (va T (LF.mk x1)), some A2] (stt Ω [] [])
  cases hX : X_check_row x0 x1 ("digits" : Str) with
  | some kk =>
    rw [onC_s hX] at hm
    obtain rfl := Option.some.inj hm
    exact xs_seq (xs_dropX (xr_callC (xa_cons (xe_var (i := 0) rfl) (xa_cons (xe_var (i := 1) rfl) (xa_cons xe_str xa_nil))) ⟨k0, p0, x0, x1, ("digits" : Str), kk, rfl, (stt_getU hk0), hX, rfl⟩ (wtc_EL hx)))
  | none =>
    rw [onC_n hX] at hm
    obtain ⟨z2, hz2, hm⟩ := bnd_some hm
    refine xs_drop (xe_callS (xa_cons (xe_var (i := 0) rfl) (xa_cons (xe_var (i := 1) rfl) (xa_cons xe_str xa_nil))) ⟨k0, p0, x0, x1, ("digits" : Str), z2, rfl, (stt_getU hk0), hz2, rfl⟩ cal0) ?_
    show XS (tIfS _ _ _) _ _ [some (vr p0), some (va T (LF.mk x1)), some A2] (stt Ω [] [])
    refine xs_ifT1 (xt_notT (xt_tB (T := T) (xe_call (xa_cons (xe_var (i := 2) rfl) (xa_cons xe_int (xa_cons (xe_sub (xe_mw mc.cl mc.nw (xe_var (i := 0) rfl) (stt_getU hk0)) xe_int) xa_nil))) ⟨A2, (0 : Int), (x0.w - (1 : Int)), false, rfl, (noC_st hA2I), rfl, rfl⟩ cal0))) ?_
    obtain ⟨z5, hz5, hm⟩ := bnd_some hm
    obtain rfl := Option.some.inj hm
    exact xs_rzX (xa_cons xe_str xa_nil) (chkP_some hz5) (wtc_EL hx)
noncomputable def X_shift_row_up__or33 (x0 : MS) (x1 : List Int) : Option XC :=
  X_check_row_shift__or34 x0 x1
def PreX_shift_row_up__or33 (T : TC) : PreXX := fun As Ω R => ∃ (k0 : Nat) (p0 : Addr) (x0 : MS) (x1 : List Int) (A2 : VA) (r : XC), As = [vr p0, va T (LF.mk x1), A2] ∧ Ω[k0]? = some (machA T p0 x0) ∧ NoC T Ω A2 (.type "int") ∧ X_shift_row_up__or33 x0 x1 = some r ∧ R = RQ T r Ω
theorem sc_shift_row_up__or33 : FnScope ["machine", "digits", "count", "size", "number"] ["machine", "digits", "count"] (defScope s_shift_row_up__or33) := ⟨rfl, rfl, rfl, by decide +kernel, rfl, by decide +kernel, by decide +kernel⟩
theorem okx_shift_row_up__or33 {f : Addr} {fd : FuncData} (F : Fun T.K "shift_row_up" "shift_row_up" s_shift_row_up__or33 f fd) (cx_check_row_shift__or34 : CalX P w T.K mg base 6 "check_row_shift" ["machine", "digits", "count"] (mkSpX (PreX_check_row_shift__or34 T))) : FnOk P w T.K mg base (L2.CX P w) 22 f fd ["machine", "digits", "count"] (mkSpX (PreX_shift_row_up__or33 T)) := by
  refine fn_okX F sc_shift_row_up__or33 (fun As Ω R h => ?_) (fun cdv A outer s H E hr As Ω R F0 h hx tk => ?_)
  · obtain ⟨k0, p0, x0, x1, A2, r, rfl, _⟩ := h
    rfl
  obtain ⟨k0, p0, x0, x1, A2, r, rfl, hk0, hA2I, hm, rfl⟩ := h
  refine ⟨_, (pss_cons (ps_expr (pe_calX cx_check_row_shift__or34 (hr.mono (by decide)) (by rfl) tk (pa_cons (pv 0) (pa_cons (pv 1) (pa_cons (pv 2) pa_nil))))) pss_never), fun D => ?_⟩
  suffices hy : XS _ D F0 [some (vr p0), some (va T (LF.mk x1)), some A2, none, none] (stt Ω [] []) by
    rw [show (stt Ω [] []) = Ω from stt_self (by simp)] at hy
    exact hy
  unfold X_shift_row_up__or33 at hm
  have hX := hm
  exact xs_seq (xs_dropX (xr_callO (xa_cons (xe_var (i := 0) rfl) (xa_cons (xe_var (i := 1) rfl) (xa_cons (xe_var (i := 2) rfl) xa_nil))) ⟨k0, p0, x0, x1, A2, _, rfl, (stt_getU hk0), (noC_st hA2I), hX, rfl⟩ (wtc_EL hx)))
noncomputable def X_shift_row_down__or35 (x0 : MS) (x1 : List Int) : Option XC :=
  X_check_row_shift__or34 x0 x1
def PreX_shift_row_down__or35 (T : TC) : PreXX := fun As Ω R => ∃ (k0 : Nat) (p0 : Addr) (x0 : MS) (x1 : List Int) (A2 : VA) (r : XC), As = [vr p0, va T (LF.mk x1), A2] ∧ Ω[k0]? = some (machA T p0 x0) ∧ NoC T Ω A2 (.type "int") ∧ X_shift_row_down__or35 x0 x1 = some r ∧ R = RQ T r Ω
theorem sc_shift_row_down__or35 : FnScope ["machine", "digits", "count", "size", "number"] ["machine", "digits", "count"] (defScope s_shift_row_down__or35) := ⟨rfl, rfl, rfl, by decide +kernel, rfl, by decide +kernel, by decide +kernel⟩
theorem okx_shift_row_down__or35 {f : Addr} {fd : FuncData} (F : Fun T.K "shift_row_down" "shift_row_down" s_shift_row_down__or35 f fd) (cx_check_row_shift__or34 : CalX P w T.K mg base 6 "check_row_shift" ["machine", "digits", "count"] (mkSpX (PreX_check_row_shift__or34 T))) : FnOk P w T.K mg base (L2.CX P w) 22 f fd ["machine", "digits", "count"] (mkSpX (PreX_shift_row_down__or35 T)) := by
  refine fn_okX F sc_shift_row_down__or35 (fun As Ω R h => ?_) (fun cdv A outer s H E hr As Ω R F0 h hx tk => ?_)
  · obtain ⟨k0, p0, x0, x1, A2, r, rfl, _⟩ := h
    rfl
  obtain ⟨k0, p0, x0, x1, A2, r, rfl, hk0, hA2I, hm, rfl⟩ := h
  refine ⟨_, (pss_cons (ps_expr (pe_calX cx_check_row_shift__or34 (hr.mono (by decide)) (by rfl) tk (pa_cons (pv 0) (pa_cons (pv 1) (pa_cons (pv 2) pa_nil))))) pss_never), fun D => ?_⟩
  suffices hy : XS _ D F0 [some (vr p0), some (va T (LF.mk x1)), some A2, none, none] (stt Ω [] []) by
    rw [show (stt Ω [] []) = Ω from stt_self (by simp)] at hy
    exact hy
  unfold X_shift_row_down__or35 at hm
  have hX := hm
  exact xs_seq (xs_dropX (xr_callO (xa_cons (xe_var (i := 0) rfl) (xa_cons (xe_var (i := 1) rfl) (xa_cons (xe_var (i := 2) rfl) xa_nil))) ⟨k0, p0, x0, x1, A2, _, rfl, (stt_getU hk0), (noC_st hA2I), hX, rfl⟩ (wtc_EL hx)))
noncomputable def X_check_row_shift (x0 : MS) (x1 : List Int) (x2 : Int) : Option XC :=
  (M_check_machine x0).bind fun z1 => onC (X_check_row x0 x1 ("digits" : Str)) (fun k => some k) ((M_check_row x0 x1 ("digits" : Str)).bind fun z2 => (M_is_between x2 (0 : Int) (x0.w - (1 : Int))).bind fun z3 => if (!z3) = true then (chkP (Str.length ("count" : Str) ≤ 100)).bind fun z4 => some (.f 0 "argument" ("count" : Str)) else none)
def PreX_check_row_shift (T : TC) : PreXX := fun As Ω R => ∃ (k0 : Nat) (p0 : Addr) (x0 : MS) (x1 : List Int) (x2 : Int) (r : XC), As = [vr p0, va T (LF.mk x1), va T x2] ∧ Ω[k0]? = some (machA T p0 x0) ∧ X_check_row_shift x0 x1 x2 = some r ∧ R = RQ T r Ω
theorem okx_check_row_shift {f : Addr} {fd : FuncData} (F : Fun T.K "check_row_shift" "check_row_shift" s_check_row_shift f fd) (c_check_machine : Cal P w T.K mg base 5 "check_machine" ["machine"] (mkSp (Pre_check_machine T))) (cx_check_row : CalX P w T.K mg base 5 "check_row" ["machine", "value", "name"] (sp2 (Pre_check_row T) (PreX_check_row T))) (mc : MCls T.K (T.C 0)) (c_is_between : Cal P w T.K mg base 2 "is_between" ["value", "low", "high"] (mkSp (Pre_is_between T))) (e_InvalidBound : MkC P w T.K mg base 3 "InvalidBound" (T.C 300) "argument") : FnOk P w T.K mg base (L2.CX P w) 6 f fd ["machine", "digits", "count"] (mkSpX (PreX_check_row_shift T)) := by
  refine fn_okX F sc_check_row_shift (fun As Ω R h => ?_) (fun cdv A outer s H E hr As Ω R F0 h hx tk => ?_)
  · obtain ⟨k0, p0, x0, x1, x2, r, rfl, _⟩ := h
    rfl
  obtain ⟨k0, p0, x0, x1, x2, r, rfl, hk0, hm, rfl⟩ := h
  refine ⟨_, (pss_cons (ps_expr (pe_cal c_check_machine (hr.mono (by decide)) (by rfl) (pa_cons (pv 0) pa_nil))) (pss_cons (ps_expr (pe_calX cx_check_row (hr.mono (by decide)) (by rfl) tk (pa_cons (pv 0) (pa_cons (pv 1) (pa_cons pe_str pa_nil))))) (pss_one (ps_if (pt_not (pt_val (pe_cal c_is_between (hr.mono (by decide)) (by rfl) (pa_cons (pv 2) (pa_cons pe_int (pa_cons (pe_op op_sub (pe_fldK (K := T.K) (pv 0) (by rfl) rfl) pe_int) pa_nil)))))) (pss_one (ps_raiseX rfl tk e_InvalidBound (hr.mono (by decide)) (by rfl) (pa_cons pe_str pa_nil))) pss_nil)))), fun D => ?_⟩
  suffices hy : XS _ D F0 [some (vr p0), some (va T (LF.mk x1)), some (va T x2)] (stt Ω [] []) by
    rw [show (stt Ω [] []) = Ω from stt_self (by simp)] at hy
    exact hy
  unfold X_check_row_shift at hm
  obtain ⟨z1, hz1, hm⟩ := bnd_some hm
  refine xs_drop (xe_call (xa_cons (xe_var (i := 0) rfl) xa_nil) ⟨k0, p0, x0, z1, rfl, (stt_getU hk0), hz1, rfl⟩ cal0) ?_
  show XS (tSeq _ _) _ _ [some (vr p0), some (va T (LF.mk x1)), some (va T x2)] (stt Ω [] [])
  cases hX : X_check_row x0 x1 ("digits" : Str) with
  | some kk =>
    rw [onC_s hX] at hm
    obtain rfl := Option.some.inj hm
    exact xs_seq (xs_dropX (xr_callC (xa_cons (xe_var (i := 0) rfl) (xa_cons (xe_var (i := 1) rfl) (xa_cons xe_str xa_nil))) ⟨k0, p0, x0, x1, ("digits" : Str), kk, rfl, (stt_getU hk0), hX, rfl⟩ (wtc_EL hx)))
  | none =>
    rw [onC_n hX] at hm
    obtain ⟨z2, hz2, hm⟩ := bnd_some hm
    refine xs_drop (xe_callS (xa_cons (xe_var (i := 0) rfl) (xa_cons (xe_var (i := 1) rfl) (xa_cons xe_str xa_nil))) ⟨k0, p0, x0, x1, ("digits" : Str), z2, rfl, (stt_getU hk0), hz2, rfl⟩ cal0) ?_
    show XS (tIfS _ _ _) _ _ [some (vr p0), some (va T (LF.mk x1)), some (va T x2)] (stt Ω [] [])
    obtain ⟨z3, hz3, hm⟩ := bnd_some hm
    by_cases hc : (!z3) = true
    · rw [if_pos hc] at hm
      refine xs_ifT1 (xt_eq (xt_not (xt_tB (T := T) (xe_call (xa_cons (xe_var (i := 2) rfl) (xa_cons xe_int (xa_cons (xe_sub (xe_mw mc.cl mc.nw (xe_var (i := 0) rfl) (stt_getU hk0)) xe_int) xa_nil))) ⟨x2, (0 : Int), (x0.w - (1 : Int)), z3, rfl, hz3, rfl⟩ cal0))) hc) ?_
      obtain ⟨z4, hz4, hm⟩ := bnd_some hm
      obtain rfl := Option.some.inj hm
      exact xs_rzX (xa_cons xe_str xa_nil) (chkP_some hz4) (wtc_EL hx)
    · rw [if_neg hc] at hm
      cases hm
noncomputable def X_shift_row_up (x0 : MS) (x1 : List Int) (x2 : Int) : Option XC :=
  onC (X_check_row_shift x0 x1 x2) (fun k => some k) none
def PreX_shift_row_up (T : TC) : PreXX := fun As Ω R => ∃ (k0 : Nat) (p0 : Addr) (x0 : MS) (x1 : List Int) (x2 : Int) (r : XC), As = [vr p0, va T (LF.mk x1), va T x2] ∧ Ω[k0]? = some (machA T p0 x0) ∧ X_shift_row_up x0 x1 x2 = some r ∧ R = RQ T r Ω
theorem okx_shift_row_up {f : Addr} {fd : FuncData} (F : Fun T.K "shift_row_up" "shift_row_up" s_shift_row_up f fd) (cx_check_row_shift : CalX P w T.K mg base 6 "check_row_shift" ["machine", "digits", "count"] (sp2 (Pre_check_row_shift T) (PreX_check_row_shift T))) : FnOk P w T.K mg base (L2.CX P w) 22 f fd ["machine", "digits", "count"] (mkSpX (PreX_shift_row_up T)) := by
  refine fn_okX F sc_shift_row_up (fun As Ω R h => ?_) (fun cdv A outer s H E hr As Ω R F0 h hx tk => ?_)
  · obtain ⟨k0, p0, x0, x1, x2, r, rfl, _⟩ := h
    rfl
  obtain ⟨k0, p0, x0, x1, x2, r, rfl, hk0, hm, rfl⟩ := h
  refine ⟨_, (pss_cons (ps_expr (pe_calX cx_check_row_shift (hr.mono (by decide)) (by rfl) tk (pa_cons (pv 0) (pa_cons (pv 1) (pa_cons (pv 2) pa_nil))))) pss_never), fun D => ?_⟩
  suffices hy : XS _ D F0 [some (vr p0), some (va T (LF.mk x1)), some (va T x2), none, none] (stt Ω [] []) by
    rw [show (stt Ω [] []) = Ω from stt_self (by simp)] at hy
    exact hy
  unfold X_shift_row_up at hm
  cases hX : X_check_row_shift x0 x1 x2 with
  | some kk =>
    rw [onC_s hX] at hm
    obtain rfl := Option.some.inj hm
    exact xs_seq (xs_dropX (xr_callC (xa_cons (xe_var (i := 0) rfl) (xa_cons (xe_var (i := 1) rfl) (xa_cons (xe_var (i := 2) rfl) xa_nil))) ⟨k0, p0, x0, x1, x2, kk, rfl, (stt_getU hk0), hX, rfl⟩ (wtc_EL hx)))
  | none =>
    rw [onC_n hX] at hm
    cases hm
noncomputable def X_shift_row_down (x0 : MS) (x1 : List Int) (x2 : Int) : Option XC :=
  onC (X_check_row_shift x0 x1 x2) (fun k => some k) none
def PreX_shift_row_down (T : TC) : PreXX := fun As Ω R => ∃ (k0 : Nat) (p0 : Addr) (x0 : MS) (x1 : List Int) (x2 : Int) (r : XC), As = [vr p0, va T (LF.mk x1), va T x2] ∧ Ω[k0]? = some (machA T p0 x0) ∧ X_shift_row_down x0 x1 x2 = some r ∧ R = RQ T r Ω
theorem okx_shift_row_down {f : Addr} {fd : FuncData} (F : Fun T.K "shift_row_down" "shift_row_down" s_shift_row_down f fd) (cx_check_row_shift : CalX P w T.K mg base 6 "check_row_shift" ["machine", "digits", "count"] (sp2 (Pre_check_row_shift T) (PreX_check_row_shift T))) : FnOk P w T.K mg base (L2.CX P w) 22 f fd ["machine", "digits", "count"] (mkSpX (PreX_shift_row_down T)) := by
  refine fn_okX F sc_shift_row_down (fun As Ω R h => ?_) (fun cdv A outer s H E hr As Ω R F0 h hx tk => ?_)
  · obtain ⟨k0, p0, x0, x1, x2, r, rfl, _⟩ := h
    rfl
  obtain ⟨k0, p0, x0, x1, x2, r, rfl, hk0, hm, rfl⟩ := h
  refine ⟨_, (pss_cons (ps_expr (pe_calX cx_check_row_shift (hr.mono (by decide)) (by rfl) tk (pa_cons (pv 0) (pa_cons (pv 1) (pa_cons (pv 2) pa_nil))))) pss_never), fun D => ?_⟩
  suffices hy : XS _ D F0 [some (vr p0), some (va T (LF.mk x1)), some (va T x2), none, none] (stt Ω [] []) by
    rw [show (stt Ω [] []) = Ω from stt_self (by simp)] at hy
    exact hy
  unfold X_shift_row_down at hm
  cases hX : X_check_row_shift x0 x1 x2 with
  | some kk =>
    rw [onC_s hX] at hm
    obtain rfl := Option.some.inj hm
    exact xs_seq (xs_dropX (xr_callC (xa_cons (xe_var (i := 0) rfl) (xa_cons (xe_var (i := 1) rfl) (xa_cons (xe_var (i := 2) rfl) xa_nil))) ⟨k0, p0, x0, x1, x2, kk, rfl, (stt_getU hk0), hX, rfl⟩ (wtc_EL hx)))
  | none =>
    rw [onC_n hX] at hm
    cases hm
noncomputable def X_check_row_shift__or37 (x0 : MS) (x1 : List Int) (x2 : Bool) : Option XC :=
  (M_check_machine x0).bind fun z1 => onC (X_check_row x0 x1 ("digits" : Str)) (fun k => some k) ((M_check_row x0 x1 ("digits" : Str)).bind fun z2 => (chkP (Str.length ("count" : Str) ≤ 100)).bind fun z5 => some (.f 0 "argument" ("count" : Str)))
def PreX_check_row_shift__or37 (T : TC) : PreXX := fun As Ω R => ∃ (k0 : Nat) (p0 : Addr) (x0 : MS) (x1 : List Int) (x2 : Bool) (r : XC), As = [vr p0, va T (LF.mk x1), va T x2] ∧ Ω[k0]? = some (machA T p0 x0) ∧ X_check_row_shift__or37 x0 x1 x2 = some r ∧ R = RQ T r Ω
theorem sc_check_row_shift__or37 : FnScope ["machine", "digits", "count"] ["machine", "digits", "count"] (defScope s_check_row_shift__or37) := ⟨rfl, rfl, rfl, by decide +kernel, rfl, by decide +kernel, by decide +kernel⟩
theorem okx_check_row_shift__or37 {f : Addr} {fd : FuncData} (F : Fun T.K "check_row_shift" "check_row_shift" s_check_row_shift__or37 f fd) (c_check_machine : Cal P w T.K mg base 5 "check_machine" ["machine"] (mkSp (Pre_check_machine T))) (cx_check_row : CalX P w T.K mg base 5 "check_row" ["machine", "value", "name"] (sp2 (Pre_check_row T) (PreX_check_row T))) (mc : MCls T.K (T.C 0)) (c_is_between__or30 : Cal P w T.K mg base 2 "is_between" ["value", "low", "high"] (mkSp (Pre_is_between__or30 T))) (e_InvalidBound : MkC P w T.K mg base 3 "InvalidBound" (T.C 300) "argument") : FnOk P w T.K mg base (L2.CX P w) 6 f fd ["machine", "digits", "count"] (mkSpX (PreX_check_row_shift__or37 T)) := by
  refine fn_okX F sc_check_row_shift__or37 (fun As Ω R h => ?_) (fun cdv A outer s H E hr As Ω R F0 h hx tk => ?_)
  · obtain ⟨k0, p0, x0, x1, x2, r, rfl, _⟩ := h
    rfl
  obtain ⟨k0, p0, x0, x1, x2, r, rfl, hk0, hm, rfl⟩ := h
  refine ⟨_, (pss_cons (ps_expr (pe_cal c_check_machine (hr.mono (by decide)) (by rfl) (pa_cons (pv 0) pa_nil))) (pss_cons (ps_expr (pe_calX cx_check_row (hr.mono (by decide)) (by rfl) tk (pa_cons (pv 0) (pa_cons (pv 1) (pa_cons pe_str pa_nil))))) (pss_one (ps_if (pt_not (pt_val (pe_cal c_is_between__or30 (hr.mono (by decide)) (by rfl) (pa_cons (pv 2) (pa_cons pe_int (pa_cons (pe_op op_sub (pe_fldK (K := T.K) (pv 0) (by rfl) rfl) pe_int) pa_nil)))))) (pss_one (ps_raiseX rfl tk e_InvalidBound (hr.mono (by decide)) (by rfl) (pa_cons pe_str pa_nil))) pss_never)))), fun D => ?_⟩
  suffices hy : XS _ D F0 [some (vr p0), some (va T (LF.mk x1)), some (va T x2)] (stt Ω [] []) by
    rw [show (stt Ω [] []) = Ω from stt_self (by simp)] at hy
    exact hy
  unfold X_check_row_shift__or37 at hm
  obtain ⟨z1, hz1, hm⟩ := bnd_some hm
  refine xs_drop (xe_call (xa_cons (xe_var (i := 0) rfl) xa_nil) ⟨k0, p0, x0, z1, rfl, (stt_getU hk0), hz1, rfl⟩ cal0) ?_
  show XS (tSeq _ _) _ _ [some (vr p0), some (va T (LF.mk x1)), some (va T x2)] (stt Ω [] [])
  cases hX : X_check_row x0 x1 ("digits" : Str) with
  | some kk =>
    rw [onC_s hX] at hm
    obtain rfl := Option.some.inj hm
    exact xs_seq (xs_dropX (xr_callC (xa_cons (xe_var (i := 0) rfl) (xa_cons (xe_var (i := 1) rfl) (xa_cons xe_str xa_nil))) ⟨k0, p0, x0, x1, ("digits" : Str), kk, rfl, (stt_getU hk0), hX, rfl⟩ (wtc_EL hx)))
  | none =>
    rw [onC_n hX] at hm
    obtain ⟨z2, hz2, hm⟩ := bnd_some hm
    refine xs_drop (xe_callS (xa_cons (xe_var (i := 0) rfl) (xa_cons (xe_var (i := 1) rfl) (xa_cons xe_str xa_nil))) ⟨k0, p0, x0, x1, ("digits" : Str), z2, rfl, (stt_getU hk0), hz2, rfl⟩ cal0) ?_
    show XS (tIfS _ _ _) _ _ [some (vr p0), some (va T (LF.mk x1)), some (va T x2)] (stt Ω [] [])
    refine xs_ifT1 (xt_notT (xt_tB (T := T) (xe_call (xa_cons (xe_var (i := 2) rfl) (xa_cons xe_int (xa_cons (xe_sub (xe_mw mc.cl mc.nw (xe_var (i := 0) rfl) (stt_getU hk0)) xe_int) xa_nil))) ⟨x2, (0 : Int), (x0.w - (1 : Int)), false, rfl, rfl, rfl⟩ cal0))) ?_
    obtain ⟨z5, hz5, hm⟩ := bnd_some hm
    obtain rfl := Option.some.inj hm
    exact xs_rzX (xa_cons xe_str xa_nil) (chkP_some hz5) (wtc_EL hx)
noncomputable def X_shift_row_up__or36 (x0 : MS) (x1 : List Int) (x2 : Bool) : Option XC :=
  X_check_row_shift__or37 x0 x1 x2
def PreX_shift_row_up__or36 (T : TC) : PreXX := fun As Ω R => ∃ (k0 : Nat) (p0 : Addr) (x0 : MS) (x1 : List Int) (x2 : Bool) (r : XC), As = [vr p0, va T (LF.mk x1), va T x2] ∧ Ω[k0]? = some (machA T p0 x0) ∧ X_shift_row_up__or36 x0 x1 x2 = some r ∧ R = RQ T r Ω
theorem sc_shift_row_up__or36 : FnScope ["machine", "digits", "count", "size", "number"] ["machine", "digits", "count"] (defScope s_shift_row_up__or36) := ⟨rfl, rfl, rfl, by decide +kernel, rfl, by decide +kernel, by decide +kernel⟩
theorem okx_shift_row_up__or36 {f : Addr} {fd : FuncData} (F : Fun T.K "shift_row_up" "shift_row_up" s_shift_row_up__or36 f fd) (cx_check_row_shift__or37 : CalX P w T.K mg base 6 "check_row_shift" ["machine", "digits", "count"] (mkSpX (PreX_check_row_shift__or37 T))) : FnOk P w T.K mg base (L2.CX P w) 22 f fd ["machine", "digits", "count"] (mkSpX (PreX_shift_row_up__or36 T)) := by
  refine fn_okX F sc_shift_row_up__or36 (fun As Ω R h => ?_) (fun cdv A outer s H E hr As Ω R F0 h hx tk => ?_)
  · obtain ⟨k0, p0, x0, x1, x2, r, rfl, _⟩ := h
    rfl
  obtain ⟨k0, p0, x0, x1, x2, r, rfl, hk0, hm, rfl⟩ := h
  refine ⟨_, (pss_cons (ps_expr (pe_calX cx_check_row_shift__or37 (hr.mono (by decide)) (by rfl) tk (pa_cons (pv 0) (pa_cons (pv 1) (pa_cons (pv 2) pa_nil))))) pss_never), fun D => ?_⟩
  suffices hy : XS _ D F0 [some (vr p0), some (va T (LF.mk x1)), some (va T x2), none, none] (stt Ω [] []) by
    rw [show (stt Ω [] []) = Ω from stt_self (by simp)] at hy
    exact hy
  unfold X_shift_row_up__or36 at hm
  have hX := hm
  exact xs_seq (xs_dropX (xr_callO (xa_cons (xe_var (i := 0) rfl) (xa_cons (xe_var (i := 1) rfl) (xa_cons (xe_var (i := 2) rfl) xa_nil))) ⟨k0, p0, x0, x1, x2, _, rfl, (stt_getU hk0), hX, rfl⟩ (wtc_EL hx)))
noncomputable def X_shift_row_down__or38 (x0 : MS) (x1 : List Int) (x2 : Bool) : Option XC :=
  X_check_row_shift__or37 x0 x1 x2
def PreX_shift_row_down__or38 (T : TC) : PreXX := fun As Ω R => ∃ (k0 : Nat) (p0 : Addr) (x0 : MS) (x1 : List Int) (x2 : Bool) (r : XC), As = [vr p0, va T (LF.mk x1), va T x2] ∧ Ω[k0]? = some (machA T p0 x0) ∧ X_shift_row_down__or38 x0 x1 x2 = some r ∧ R = RQ T r Ω
theorem sc_shift_row_down__or38 : FnScope ["machine", "digits", "count", "size", "number"] ["machine", "digits", "count"] (defScope s_shift_row_down__or38) := ⟨rfl, rfl, rfl, by decide +kernel, rfl, by decide +kernel, by decide +kernel⟩
theorem okx_shift_row_down__or38 {f : Addr} {fd : FuncData} (F : Fun T.K "shift_row_down" "shift_row_down" s_shift_row_down__or38 f fd) (cx_check_row_shift__or37 : CalX P w T.K mg base 6 "check_row_shift" ["machine", "digits", "count"] (mkSpX (PreX_check_row_shift__or37 T))) : FnOk P w T.K mg base (L2.CX P w) 22 f fd ["machine", "digits", "count"] (mkSpX (PreX_shift_row_down__or38 T)) := by
  refine fn_okX F sc_shift_row_down__or38 (fun As Ω R h => ?_) (fun cdv A outer s H E hr As Ω R F0 h hx tk => ?_)
  · obtain ⟨k0, p0, x0, x1, x2, r, rfl, _⟩ := h
    rfl
  obtain ⟨k0, p0, x0, x1, x2, r, rfl, hk0, hm, rfl⟩ := h
  refine ⟨_, (pss_cons (ps_expr (pe_calX cx_check_row_shift__or37 (hr.mono (by decide)) (by rfl) tk (pa_cons (pv 0) (pa_cons (pv 1) (pa_cons (pv 2) pa_nil))))) pss_never), fun D => ?_⟩
  suffices hy : XS _ D F0 [some (vr p0), some (va T (LF.mk x1)), some (va T x2), none, none] (stt Ω [] []) by
    rw [show (stt Ω [] []) = Ω from stt_self (by simp)] at hy
    exact hy
  unfold X_shift_row_down__or38 at hm
  have hX := hm
  exact xs_seq (xs_dropX (xr_callO (xa_cons (xe_var (i := 0) rfl) (xa_cons (xe_var (i := 1) rfl) (xa_cons (xe_var (i := 2) rfl) xa_nil))) ⟨k0, p0, x0, x1, x2, _, rfl, (stt_getU hk0), hX, rfl⟩ (wtc_EL hx)))
def SpU__law_rows_right_shift_row_up (T : TC) : Sp := fun vs H Q E => mkSpX (PreX_shift_row_up__or20 T) vs H Q E ∨ mkSpX (PreX_shift_row_up__or23 T) vs H Q E ∨ mkSpX (PreX_shift_row_up__or27 T) vs H Q E ∨ mkSpX (PreX_shift_row_up__or33 T) vs H Q E ∨ mkSpX (PreX_shift_row_up T) vs H Q E ∨ mkSpX (PreX_shift_row_up__or36 T) vs H Q E
theorem sub__law_rows_right_shift_row_up_0 {T : TC} {vs : List V} {H : Hp} {Q : VK} {E : XK} (h : mkSpX (PreX_shift_row_up__or20 T) vs H Q E) : SpU__law_rows_right_shift_row_up T vs H Q E := .inl h
theorem sub__law_rows_right_shift_row_up_1 {T : TC} {vs : List V} {H : Hp} {Q : VK} {E : XK} (h : mkSpX (PreX_shift_row_up__or23 T) vs H Q E) : SpU__law_rows_right_shift_row_up T vs H Q E := .inr (.inl h)
theorem sub__law_rows_right_shift_row_up_2 {T : TC} {vs : List V} {H : Hp} {Q : VK} {E : XK} (h : mkSpX (PreX_shift_row_up__or27 T) vs H Q E) : SpU__law_rows_right_shift_row_up T vs H Q E := .inr (.inr (.inl h))
theorem sub__law_rows_right_shift_row_up_3 {T : TC} {vs : List V} {H : Hp} {Q : VK} {E : XK} (h : mkSpX (PreX_shift_row_up__or33 T) vs H Q E) : SpU__law_rows_right_shift_row_up T vs H Q E := .inr (.inr (.inr (.inl h)))
theorem sub__law_rows_right_shift_row_up_4 {T : TC} {vs : List V} {H : Hp} {Q : VK} {E : XK} (h : mkSpX (PreX_shift_row_up T) vs H Q E) : SpU__law_rows_right_shift_row_up T vs H Q E := .inr (.inr (.inr (.inr (.inl h))))
theorem sub__law_rows_right_shift_row_up_5 {T : TC} {vs : List V} {H : Hp} {Q : VK} {E : XK} (h : mkSpX (PreX_shift_row_up__or36 T) vs H Q E) : SpU__law_rows_right_shift_row_up T vs H Q E := .inr (.inr (.inr (.inr (.inr (h)))))
def SpU__law_rows_right_shift_row_down (T : TC) : Sp := fun vs H Q E => mkSpX (PreX_shift_row_down__or22 T) vs H Q E ∨ mkSpX (PreX_shift_row_down__or26 T) vs H Q E ∨ mkSpX (PreX_shift_row_down__or32 T) vs H Q E ∨ mkSpX (PreX_shift_row_down__or35 T) vs H Q E ∨ mkSpX (PreX_shift_row_down T) vs H Q E ∨ mkSpX (PreX_shift_row_down__or38 T) vs H Q E
theorem sub__law_rows_right_shift_row_down_0 {T : TC} {vs : List V} {H : Hp} {Q : VK} {E : XK} (h : mkSpX (PreX_shift_row_down__or22 T) vs H Q E) : SpU__law_rows_right_shift_row_down T vs H Q E := .inl h
theorem sub__law_rows_right_shift_row_down_1 {T : TC} {vs : List V} {H : Hp} {Q : VK} {E : XK} (h : mkSpX (PreX_shift_row_down__or26 T) vs H Q E) : SpU__law_rows_right_shift_row_down T vs H Q E := .inr (.inl h)
theorem sub__law_rows_right_shift_row_down_2 {T : TC} {vs : List V} {H : Hp} {Q : VK} {E : XK} (h : mkSpX (PreX_shift_row_down__or32 T) vs H Q E) : SpU__law_rows_right_shift_row_down T vs H Q E := .inr (.inr (.inl h))
theorem sub__law_rows_right_shift_row_down_3 {T : TC} {vs : List V} {H : Hp} {Q : VK} {E : XK} (h : mkSpX (PreX_shift_row_down__or35 T) vs H Q E) : SpU__law_rows_right_shift_row_down T vs H Q E := .inr (.inr (.inr (.inl h)))
theorem sub__law_rows_right_shift_row_down_4 {T : TC} {vs : List V} {H : Hp} {Q : VK} {E : XK} (h : mkSpX (PreX_shift_row_down T) vs H Q E) : SpU__law_rows_right_shift_row_down T vs H Q E := .inr (.inr (.inr (.inr (.inl h))))
theorem sub__law_rows_right_shift_row_down_5 {T : TC} {vs : List V} {H : Hp} {Q : VK} {E : XK} (h : mkSpX (PreX_shift_row_down__or38 T) vs H Q E) : SpU__law_rows_right_shift_row_down T vs H Q E := .inr (.inr (.inr (.inr (.inr (h)))))
def SF__law_rows_right (T : TC) (f : Addr) (sp : Sp) : Prop := (f = T.C 202 ∧ sp = SpU__law_rows_right_shift_row_up T) ∨ ((f = T.C 203 ∧ sp = SpU__law_rows_right_shift_row_down T) ∨ (False))
noncomputable def M__law_rows_right (x0 : MS) (x1 : Bg) (x2 : (LP DPn DT)) : Option Bool :=
  (some ((x0.w, x0.c).1)).bind fun y1 => (((X_shift_row_up__or20).bind fun z3 => (M__law_said (some z3)).bind fun z4 => (X_shift_row_down__or22).bind fun z5 => (M__law_said (some z5)).bind fun z6 => (chkP ((-(2 ^ 63) ≤ (2 : Int) ∧ (2 : Int) < 2 ^ 63) ∧ ([("machine" : Str)] : List Str).length * ((2 : Int)).toNat ≤ sizeLine)).bind fun z7 => (chkP ((LF.mk ([z4, z6] : List (EN Str))) = (LF.mk (((List.replicate ((2 : Int)).toNat ([("machine" : Str)] : List Str)).flatten).map EN.ok)) ∧ Dat.ok (LF.mk ([z4, z6] : List (EN Str))))).bind fun z8 => some (Stp.nx ()) : Option (Stp Unit Unit))).bind fun z9 => (chkP (CShl (1 : Int) y1)).bind fun z10 => (chkP (CShl (1 : Int) y1)).bind fun z11 => (((X_shift_row_up__or23 x0 (-(1 : Int))).bind fun z13 => (M__law_said (some z13)).bind fun z14 => (X_shift_row_down__or26 x0 (-(1 : Int))).bind fun z15 => (M__law_said (some z15)).bind fun z16 => (chkP ((-(2 ^ 63) ≤ (2 : Int) ∧ (2 : Int) < 2 ^ 63) ∧ ([("digits" : Str)] : List Str).length * ((2 : Int)).toNat ≤ sizeLine)).bind fun z17 => (chkP ((LF.mk ([z14, z16] : List (EN Str))) = (LF.mk (((List.replicate ((2 : Int)).toNat ([("digits" : Str)] : List Str)).flatten).map EN.ok)) ∧ Dat.ok (LF.mk ([z14, z16] : List (EN Str))))).bind fun z18 => some (Stp.nx ()) : Option (Stp Unit Unit))).bind fun z26 => (allN (fun (a19 : (List MV)) => ((X_shift_row_up__or27 x0 a19 (-(1 : Int))).bind fun z20 => (M__law_said (some z20)).bind fun z21 => (X_shift_row_down__or32 x0 a19 (-(1 : Int))).bind fun z22 => (M__law_said (some z22)).bind fun z23 => (chkP ((-(2 ^ 63) ≤ (2 : Int) ∧ (2 : Int) < 2 ^ 63) ∧ ([("digits" : Str)] : List Str).length * ((2 : Int)).toNat ≤ sizeLine)).bind fun z24 => (chkP ((LF.mk ([z21, z23] : List (EN Str))) = (LF.mk (((List.replicate ((2 : Int)).toNat ([("digits" : Str)] : List Str)).flatten).map EN.ok)) ∧ Dat.ok (LF.mk ([z21, z23] : List (EN Str))))).bind fun z25 => some (Stp.nx ()) : Option (Stp Unit Unit))) ([([MV.i ((1 : Int) * 2 ^ (y1).toNat)] : List MV), ([MV.i (1 : Int), MV.i (-(1 : Int))] : List MV), ([MV.b true] : List MV), ([MV.i (1 : Int), MV.o] : List MV), ([MV.o] : List MV), ([MV.o] : List MV), ([MV.i ((1 : Int) * 2 ^ (y1).toNat), MV.i (1 : Int)] : List MV), ([MV.i (-(1 : Int)), MV.i (1 : Int)] : List MV), ([MV.b true, MV.i (1 : Int)] : List MV), ([MV.o, MV.i (1 : Int)] : List MV), ([MV.o, MV.i (1 : Int)] : List MV), ([MV.o, MV.i (1 : Int)] : List MV), [MV.o], ([MV.i (1 : Int), MV.o] : List MV)] : List (List MV))).bind fun z27 => (chkP (1 ≤ (x2.a).d)).bind fun z65 => (chkP (CPow (10 : Int) (30 : Int))).bind fun z28 => (((forM' (ρ := Unit) (fun (a31 : (LF Int)) (s30 : Unit) => (X_shift_row_up__or33 x0 a31.l).bind fun z32 => (M__law_said (some z32)).bind fun z33 => (X_shift_row_down__or35 x0 a31.l).bind fun z34 => (M__law_said (some z34)).bind fun z35 => (chkP ((-(2 ^ 63) ≤ (2 : Int) ∧ (2 : Int) < 2 ^ 63) ∧ ([("count" : Str)] : List Str).length * ((2 : Int)).toNat ≤ sizeLine)).bind fun z36 => (chkP ((LF.mk ([z33, z35] : List (EN Str))) = (LF.mk (((List.replicate ((2 : Int)).toNat ([("count" : Str)] : List Str)).flatten).map EN.ok)) ∧ Dat.ok (LF.mk ([z33, z35] : List (EN Str))))).bind fun z37 => some (Stp.nx ())) ([(LF.mk ([] : List Int)), (LF.mk ([(1 : Int), (0 : Int), (5 : Int)] : List Int))] : List (LF Int)) ()).bind fun z38 => (nxt z38).bind fun s39 => some (Stp.nx ()) : Option (Stp Unit Unit))).bind fun z62 => (allN (fun (a40 : Int) => ((forM' (ρ := Unit) (fun (a42 : (LF Int)) (s41 : Unit) => (X_shift_row_up x0 a42.l a40).bind fun z43 => (M__law_said (some z43)).bind fun z44 => (X_shift_row_down x0 a42.l a40).bind fun z45 => (M__law_said (some z45)).bind fun z46 => (chkP ((-(2 ^ 63) ≤ (2 : Int) ∧ (2 : Int) < 2 ^ 63) ∧ ([("count" : Str)] : List Str).length * ((2 : Int)).toNat ≤ sizeLine)).bind fun z47 => (chkP ((LF.mk ([z44, z46] : List (EN Str))) = (LF.mk (((List.replicate ((2 : Int)).toNat ([("count" : Str)] : List Str)).flatten).map EN.ok)) ∧ Dat.ok (LF.mk ([z44, z46] : List (EN Str))))).bind fun z48 => some (Stp.nx ())) ([(LF.mk ([] : List Int)), (LF.mk ([(1 : Int), (0 : Int), (5 : Int)] : List Int))] : List (LF Int)) ()).bind fun z49 => (nxt z49).bind fun s50 => some (Stp.nx ()) : Option (Stp Unit Unit))) ([(-(1 : Int)), y1, ((10 : Int) ^ ((30 : Int)).toNat)] : List Int)).bind fun z63 => (allN (fun (a51 : Bool) => ((forM' (ρ := Unit) (fun (a53 : (LF Int)) (s52 : Unit) => (X_shift_row_up__or36 x0 a53.l a51).bind fun z54 => (M__law_said (some z54)).bind fun z55 => (X_shift_row_down__or38 x0 a53.l a51).bind fun z56 => (M__law_said (some z56)).bind fun z57 => (chkP ((-(2 ^ 63) ≤ (2 : Int) ∧ (2 : Int) < 2 ^ 63) ∧ ([("count" : Str)] : List Str).length * ((2 : Int)).toNat ≤ sizeLine)).bind fun z58 => (chkP ((LF.mk ([z55, z57] : List (EN Str))) = (LF.mk (((List.replicate ((2 : Int)).toNat ([("count" : Str)] : List Str)).flatten).map EN.ok)) ∧ Dat.ok (LF.mk ([z55, z57] : List (EN Str))))).bind fun z59 => some (Stp.nx ())) ([(LF.mk ([] : List Int)), (LF.mk ([(1 : Int), (0 : Int), (5 : Int)] : List Int))] : List (LF Int)) ()).bind fun z60 => (nxt z60).bind fun s61 => some (Stp.nx ()) : Option (Stp Unit Unit))) ([true] : List Bool)).bind fun z64 => some true
def Pre__law_rows_right (T : TC) : PreT := fun As Ω R => ∃ (kT : Nat) (k0 : Nat) (p0 : Addr) (x0 : MS) (x1 : Bg) (x2 : (LP DPn DT)) (r : Bool), As = [vr p0, va T x1, va T x2] ∧ Ω[kT]? = some (tabA (tbs T)) ∧ Ω[k0]? = some (machA T p0 x0) ∧ k0 ≠ kT ∧ M__law_rows_right x0 x1 x2 = some r ∧ R = RV (va T r) (stt Ω [] [])
theorem sc__law_rows_right : FnScope ["_law_machine_here", "_law_x_here", "_law_deep_here", "_law_bits_here", "_law_asks", "_law_some", "_law_odd", "_law_row_here", "_law_ask"] ["_law_machine_here", "_law_x_here", "_law_deep_here"] (defScope s__law_rows_right) := ⟨rfl, rfl, rfl, by decide +kernel, rfl, by decide +kernel, by decide +kernel⟩
theorem ok__law_rows_right {f : Addr} {fd : FuncData} (F : Fun T.K "_law_rows_right" "_law_rows_right" s__law_rows_right f fd) (mc : MCls T.K (T.C 0)) (c_Mach_parts : CalM P w T.K mg base 1 (T.C 0) "parts" ["self"] (mkSp (Pre_Mach_parts T))) (g_shift_row_up : ∃ u, mg "shift_row_up" = some u ∧ RelV (.ref (T.C 202)) u) (g_shift_row_down : ∃ u, mg "shift_row_down" = some u ∧ RelV (.ref (T.C 203)) u) (TB__law_rows_right : LamX.TabB base mg (T.C 151) (T.C 101)) (hu__law_rows_right : ∀ p ∈ tbs T, p.1 = T.C 101 → p.2 = qual__law_rows_right) (hcd__law_rows_right : CodeIs T.K f (T.C 151)) (cu__law_rows_right_shift_row_up : CalX P w T.K mg base 22 "shift_row_up" ["machine", "digits", "count"] (SpU__law_rows_right_shift_row_up T)) (cu__law_rows_right_shift_row_down : CalX P w T.K mg base 22 "shift_row_down" ["machine", "digits", "count"] (SpU__law_rows_right_shift_row_down T)) (c__law_said : CalLX P w T.K mg base 24 26 "_law_said" ["_law_call"] (Pre__law_said T)) (icb : ICls T.K (T.C 1)) (kt_Big_L : PySem.W.kitOne T.K (.ref (T.C 1)) (.type "list") = some false) (kt_tuple_M : PySem.W.kitOne T.K (.type "tuple") (.ref (T.C 0)) = some false) (kt_list_M : PySem.W.kitOne T.K (.type "list") (.ref (T.C 0)) = some false) (kt_Big_M : PySem.W.kitOne T.K (.ref (T.C 1)) (.ref (T.C 0)) = some false) (kt_int_M : PySem.W.kitOne T.K (.type "int") (.ref (T.C 0)) = some false) (kt_NoneType_M : PySem.W.kitOne T.K (.type "NoneType") (.ref (T.C 0)) = some false) : FnOk P w T.K mg base CX0 27 f fd ["_law_machine_here", "_law_x_here", "_law_deep_here"] (mkSp (Pre__law_rows_right T)) := by
  refine fn_okC F hcd__law_rows_right sc__law_rows_right (fun As Ω R h => ?_) (fun A outer s H E hr As Ω R F0 h => ?_)
  · obtain ⟨kT, k0, p0, x0, x1, x2, r, rfl, _⟩ := h
    rfl
  obtain ⟨kT, k0, p0, x0, x1, x2, r, rfl, hkT, hk0, ne0T, hm, rfl⟩ := h
  refine ⟨_, (pss_cons (ps_set (i := 3) sc__law_rows_right.nd rfl (.inl rfl) (pe_ix (ix_seqK (K := T.K) rfl) (pe_calM0 (pv 0) c_Mach_parts (hr.mono (by decide))) pe_int (by intro _ _; rfl))) (pss_cons (ps_set (i := 4) sc__law_rows_right.nd rfl (.inl rfl) (pe_tup (pa_cons (pe_gl rfl g_shift_row_up) (pa_cons (pe_gl rfl g_shift_row_down) pa_nil)))) (pss_cons (ps_for PassesOwn.never rfl (pi_listK (K := T.K) (pe_op op_addQ (pe_lst (pa_cons pe_non (pa_cons pe_int (pa_cons (pv 1) (pa_cons (pe_lst (pa_cons (pe_lst pa_nil) pa_nil)) pa_nil))))) (pv 2)) rfl) (pg_name (i := 6) sc__law_rows_right.nd rfl (.inr rfl)) (pss_one (ps_if (pt_cmpR (op_neXK (K := T.K) (by exact hr.units) rfl) (pe_lcB (own := [("_law_ask", 8)]) rfl sc__law_rows_right.nd (pi_tupK (K := T.K) (pv 4) rfl) (blkOk_by (N := ["_law_machine_here", "_law_x_here", "_law_deep_here", "_law_bits_here", "_law_asks", "_law_some", "_law_odd", "_law_row_here", "_law_ask"]) (sc := defScope s__law_rows_right) (by decide +kernel)) (fun _ _ _ _ _ => (pg_name (i := 8) sc__law_rows_right.nd rfl (.inr rfl))) (fun _ _ _ _ _ => pe_callLXl c__law_said (hr.mono (by decide)) (by rfl) TB__law_rows_right rfl (lamS_blk (sc := defScope s__law_rows_right) rfl (by decide +kernel)) (fun E A outer s H f c' hr => by exact (pe_callFS (k := 22) (S := SF__law_rows_right T) (held_or (held_of cu__law_rows_right_shift_row_up g_shift_row_up (by decide)) (held_or (held_of cu__law_rows_right_shift_row_down g_shift_row_down (by decide)) held_nil)) (hr.mono (by decide)) (takes_of rfl rfl rfl rfl) (i := 8) rfl (by first | exact .inl rfl | exact .inr (.inl rfl) | exact .inr (.inr rfl)) (pa_cons (pv 6) (pa_cons pe_non (pa_cons pe_non pa_nil))))))) (pe_op op_mulQ (pe_lst (pa_cons pe_str pa_nil)) pe_int) (nomark _)) pss_never pss_nil))) (pss_cons (ps_set (i := 5) sc__law_rows_right.nd rfl (.inl rfl) (pe_lst (pa_cons pe_non (pa_cons (pe_tup (pa_cons pe_int (pa_cons pe_int pa_nil))) (pa_cons (pe_fz pe_dnewK) (pa_cons pe_str (pa_cons pe_int (pa_cons (pv 1) (pa_cons (pe_lst (pa_cons (pe_op op_shlW pe_int (pv 3)) pa_nil)) (pa_cons (pe_lst (pa_cons pe_int (pa_cons (pe_un un_neg pe_int) pa_nil))) (pa_cons (pe_lst (pa_cons pe_bl pa_nil)) (pa_cons (pe_lst (pa_cons pe_int (pa_cons pe_non pa_nil))) (pa_cons (pe_lst (pa_cons pe_str pa_nil)) (pa_cons (pe_lst (pa_cons (pe_lst (pa_cons pe_int pa_nil)) pa_nil)) pa_nil)))))))))))))) (pss_cons (ps_set (i := 5) sc__law_rows_right.nd rfl (.inl rfl) (pe_op op_addQ (pv 5) (pe_lst (pa_cons (pe_lst (pa_cons (pe_op op_shlW pe_int (pv 3)) (pa_cons pe_int pa_nil))) (pa_cons (pe_lst (pa_cons (pe_un un_neg pe_int) (pa_cons pe_int pa_nil))) (pa_cons (pe_lst (pa_cons pe_bl (pa_cons pe_int pa_nil))) (pa_cons (pe_lst (pa_cons pe_non (pa_cons pe_int pa_nil))) (pa_cons (pe_lst (pa_cons pe_str (pa_cons pe_int pa_nil))) (pa_cons (pe_lst (pa_cons (pe_lst (pa_cons pe_int pa_nil)) (pa_cons pe_int pa_nil))) pa_nil))))))))) (pss_cons (ps_for PassesOwn.never rfl (pi_listK (K := T.K) (pe_op op_addQ (pe_op op_addQ (pv 5) (pv 2)) (pe_lst (pa_cons (pe_lst (pa_cons pe_int (pa_cons (pe_ix (ix_seqK (K := T.K) rfl) (pv 2) pe_int (by intro _ _; rfl)) pa_nil))) pa_nil))) rfl) (pg_name (i := 6) sc__law_rows_right.nd rfl (.inr rfl)) (pss_one (ps_if (pt_cmpR (op_neXK (K := T.K) (by exact hr.units) rfl) (pe_lcB (own := [("_law_ask", 8)]) rfl sc__law_rows_right.nd (pi_tupK (K := T.K) (pv 4) rfl) (blkOk_by (N := ["_law_machine_here", "_law_x_here", "_law_deep_here", "_law_bits_here", "_law_asks", "_law_some", "_law_odd", "_law_row_here", "_law_ask"]) (sc := defScope s__law_rows_right) (by decide +kernel)) (fun _ _ _ _ _ => (pg_name (i := 8) sc__law_rows_right.nd rfl (.inr rfl))) (fun _ _ _ _ _ => pe_callLXl c__law_said (hr.mono (by decide)) (by rfl) TB__law_rows_right rfl (lamS_blk (sc := defScope s__law_rows_right) rfl (by decide +kernel)) (fun E A outer s H f c' hr => by exact (pe_callFS (k := 22) (S := SF__law_rows_right T) (held_or (held_of cu__law_rows_right_shift_row_up g_shift_row_up (by decide)) (held_or (held_of cu__law_rows_right_shift_row_down g_shift_row_down (by decide)) held_nil)) (hr.mono (by decide)) (takes_of rfl rfl rfl rfl) (i := 8) rfl (by first | exact .inl rfl | exact .inr (.inl rfl) | exact .inr (.inr rfl)) (pa_cons (pv 0) (pa_cons (pv 6) (pa_cons (pe_un un_neg pe_int) pa_nil))))))) (pe_op op_mulQ (pe_lst (pa_cons pe_str pa_nil)) pe_int) (nomark _)) pss_never pss_nil))) (pss_cons (ps_for PassesOwn.never rfl (pi_listK (K := T.K) (pe_op op_addQ (pe_lst (pa_cons pe_non (pa_cons (pe_un un_neg pe_int) (pa_cons (pv 3) (pa_cons pe_bl (pa_cons pe_str (pa_cons (pe_lst (pa_cons pe_int pa_nil)) (pa_cons (pe_tup pa_nil) (pa_cons (pe_op op_pow pe_int pe_int) pa_nil))))))))) (pv 2)) rfl) (pg_name (i := 6) sc__law_rows_right.nd rfl (.inr rfl)) (pss_one (ps_for PassesOwn.never rfl (pi_tupK (K := T.K) (pe_tup (pa_cons (pe_lst pa_nil) (pa_cons (pe_lst (pa_cons pe_int (pa_cons pe_int (pa_cons pe_int pa_nil)))) pa_nil))) rfl) (pg_name (i := 7) sc__law_rows_right.nd rfl (.inr rfl)) (pss_one (ps_if (pt_cmpR (op_neXK (K := T.K) (by exact hr.units) rfl) (pe_lcB (own := [("_law_ask", 8)]) rfl sc__law_rows_right.nd (pi_tupK (K := T.K) (pv 4) rfl) (blkOk_by (N := ["_law_machine_here", "_law_x_here", "_law_deep_here", "_law_bits_here", "_law_asks", "_law_some", "_law_odd", "_law_row_here", "_law_ask"]) (sc := defScope s__law_rows_right) (by decide +kernel)) (fun _ _ _ _ _ => (pg_name (i := 8) sc__law_rows_right.nd rfl (.inr rfl))) (fun _ _ _ _ _ => pe_callLXl c__law_said (hr.mono (by decide)) (by rfl) TB__law_rows_right rfl (lamS_blk (sc := defScope s__law_rows_right) rfl (by decide +kernel)) (fun E A outer s H f c' hr => by exact (pe_callFS (k := 22) (S := SF__law_rows_right T) (held_or (held_of cu__law_rows_right_shift_row_up g_shift_row_up (by decide)) (held_or (held_of cu__law_rows_right_shift_row_down g_shift_row_down (by decide)) held_nil)) (hr.mono (by decide)) (takes_of rfl rfl rfl rfl) (i := 8) rfl (by first | exact .inl rfl | exact .inr (.inl rfl) | exact .inr (.inr rfl)) (pa_cons (pv 0) (pa_cons (pv 7) (pa_cons (pv 6) pa_nil))))))) (pe_op op_mulQ (pe_lst (pa_cons pe_str pa_nil)) pe_int) (nomark _)) pss_never pss_nil))))) (pss_one (ps_ret pe_bl))))))))), fun D hrt hnx => ?_⟩
  have ok : Okk Ω [] := okk0
  suffices hx : XS _ D F0 [some (vr p0), some (va T x1), some (va T x2), none, none, none, none, none, none] (stt Ω [] []) by
    rw [show (stt Ω [] []) = Ω from stt_self (by simp)] at hx
    exact hx
  unfold M__law_rows_right at hm
  obtain ⟨y1, hy1, hm⟩ := bnd_some hm
  refine xs_set (A := va T y1) (xe_eq (xe_fst (xe_mcall (xe_var (i := 0) rfl) (stt_getU hk0) xa_nil ⟨k0, p0, x0, rfl, (stt_getU hk0), rfl⟩ rfl)) (Option.some.inj hy1)) ?_
  show XS (tSeq _ _) _ _ [some (vr p0), some (va T x1), some (va T x2), some (va T y1), none, none, none, none, none] (stt Ω [] [])
  refine xs_set (xe_tpA (T := T) (xa_cons (A := va T (FT.mk 2)) (xe_c fun _ => rfl) (xa_cons (A := va T (FT.mk 3)) (xe_c fun _ => rfl) xa_nil)) (by rw [sizeLine_eq]; exact Nat.le_of_ble_eq_true rfl)) ?_
  show XS (tSeq _ _) _ _ [some (vr p0), some (va T x1), some (va T x2), some (va T y1), some (tpA T [va T (FT.mk 2), va T (FT.mk 3)]), none, none, none, none] (stt Ω [] [])
  obtain ⟨z9, hz9, hm⟩ := bnd_some hm
  refine xs_forAS (T := T) (k := 6) (G := [some (vr p0), some (va T x1), some (va T x2), some (va T y1), some (tpA T [va T (FT.mk 2), va T (FT.mk 3)]), none, none, none, none]) (P := (fun A => NoC T (stt Ω [] []) A (.ref (T.C 0)))) (QI := (fun _ => False)) (QB := (fun _ => False)) (QG := (fun _ => False)) (xi_lsA (xe_catA (xe_lsA (xa_cons (A := (va T ())) xe_non (xa_cons (A := (va T (5 : Int))) xe_int (xa_cons (A := (va T x1)) (xe_var (i := 1) rfl) (xa_cons (A := (va T (LF.mk ([MV.o] : List MV)))) (xe_lmv (l := [MV.o]) (xa_cons (A := (va T (LF.mk ([] : List Int)))) (xe_lst (T := T) (l := ([] : List Int)) xa_nil (Nat.zero_le _)) xa_nil) (by rw [sizeLine_eq]; exact Nat.le_of_ble_eq_true rfl) (.cons (to_o (tf_lf (T := T)) (kit_ty (by decide +kernel))) .nil)) xa_nil)))) (by rw [sizeLine_eq]; exact Nat.le_of_ble_eq_true rfl)) (xe_unlp (xe_var (i := 2) rfl)) (by rw [sizeLine_eq]; exact Nat.le_of_ble_eq_true rfl))) (allA_cons (.inl (noC_of tya_non kt_NoneType_M)) (allA_cons (.inl (noC_of tya_int kt_int_M)) (allA_cons (.inl (noC_of (tya_big icb) kt_Big_M)) (allA_cons (.inl (noC_of tya_lst kt_list_M)) (allA_cons (.inl (noC_of tya_dpn kt_list_M)) (allA_cons (.inl (noC_of tya_dt kt_tuple_M)) allA_nil)))))) (fun A2 hP F1 D1 e1 hD => ?_) (fun aI hQ F1 D1 e1 hD => ?_) (fun aB hQ F1 D1 e1 hD => ?_) (fun aG hQ F1 D1 e1 hD => ?_) ?_
  · clear hm
    have hm := hz9
    have hA2M := hP
    show XS (tIfS _ _ _) _ _ [some (vr p0), some (va T x1), some (va T x2), some (va T y1), some (tpA T [va T (FT.mk 2), va T (FT.mk 3)]), none, some A2, none, none] (stt Ω [] [])
    obtain ⟨z3, hz3, hm⟩ := bnd_some hm
    obtain ⟨z4, hz4, hm⟩ := bnd_some hm
    obtain ⟨z5, hz5, hm⟩ := bnd_some hm
    obtain ⟨z6, hz6, hm⟩ := bnd_some hm
    obtain ⟨z7, hz7, hm⟩ := bnd_some hm
    obtain ⟨z8, hz8, hm⟩ := bnd_some hm
    refine xs_ifF1 (xt_test (T := T) (xe_neK (chkP_some hz8) (by decide) (xe_fz (xn_lcA (ys := ([z4, z6] : List (EN Str))) (xi_tpA (xe_var (i := 4) rfl)) (by simp) (by rw [sizeLine_eq]; exact Nat.le_of_ble_eq_true rfl) (fun X => (.cons (xe_allB fun _ _ _ _ _ => xe_callLX (o := some z3) (xa_cons (xe_lamV (l := tbs T) (stt_getU hkT) (mem__law_rows_right T) hu__law_rows_right) xa_nil) (outc_r fun E F1 hw => xr_callFS (S := SF__law_rows_right T) rfl (.inl ⟨rfl, rfl⟩) (fun _ _ _ _ h => sub__law_rows_right_shift_row_up_0 h) (xa_cons (xe_var (i := 6) rfl) (xa_cons xe_non (xa_cons xe_non xa_nil))) ⟨A2, (va T ()), (va T ()), z3, rfl, (noC_X hA2M), hz3, rfl⟩ hw) (fun fL actL => ⟨some z3, z4, rfl, hz4, rfl⟩) cal0) (.cons (xe_allB fun _ _ _ _ _ => xe_callLX (o := some z5) (xa_cons (xe_lamV (l := tbs T) (stt_getU hkT) (mem__law_rows_right T) hu__law_rows_right) xa_nil) (outc_r fun E F1 hw => xr_callFS (S := SF__law_rows_right T) rfl (.inr (.inl ⟨rfl, rfl⟩)) (fun _ _ _ _ h => sub__law_rows_right_shift_row_down_0 h) (xa_cons (xe_var (i := 6) rfl) (xa_cons xe_non (xa_cons xe_non xa_nil))) ⟨A2, (va T ()), (va T ()), z5, rfl, (noC_X hA2M), hz5, rfl⟩ hw) (fun fL actL => ⟨some z5, z6, rfl, hz6, rfl⟩) cal0) .nil))))) (xe_enL (xe_rep (xe_lst (l := [("machine" : Str)]) (xa_cons xe_str xa_nil) (by show 1 ≤ sizeLine; decide)) xe_int isLs_LF (chkP_some hz7))) isD_va isD_va)) ?_
    obtain rfl := Option.some.inj hm
    exact fun σ H n => hD.nx _ rfl σ H (n.forget 6)
  · exact hQ.elim
  · exact hQ.elim
  · exact hQ.elim
  · show XS (tSeq _ _) _ _ [some (vr p0), some (va T x1), some (va T x2), some (va T y1), some (tpA T [va T (FT.mk 2), va T (FT.mk 3)]), none, none, none, none] (stt Ω [] [])
    obtain ⟨z10, hz10, hm⟩ := bnd_some hm
    refine xs_set (xe_lsA (xa_cons (A := (va T ())) xe_non (xa_cons (A := (va T ((1 : Int), (2 : Int)))) (xe_tup2 (xa_cons xe_int (xa_cons xe_int xa_nil))) (xa_cons (A := (va T (DF.mk []))) xe_disp0 (xa_cons (A := (va T ("12" : Str))) xe_str (xa_cons (A := (va T (5 : Int))) xe_int (xa_cons (A := (va T x1)) (xe_var (i := 1) rfl) (xa_cons (A := (va T (LF.mk ([MV.i ((1 : Int) * 2 ^ (y1).toNat)] : List MV)))) (xe_lmv (l := [MV.i ((1 : Int) * 2 ^ (y1).toNat)]) (xa_cons (A := (va T ((1 : Int) * 2 ^ (y1).toNat))) (xe_shl (chkP_some hz10) xe_int (xe_var (i := 3) rfl)) xa_nil) (by rw [sizeLine_eq]; exact Nat.le_of_ble_eq_true rfl) (.cons (to_i _) .nil)) (xa_cons (A := (va T (LF.mk ([MV.i (1 : Int), MV.i (-(1 : Int))] : List MV)))) (xe_lmv (l := [MV.i (1 : Int), MV.i (-(1 : Int))]) (xa_cons (A := (va T (1 : Int))) xe_int (xa_cons (A := (va T (-(1 : Int)))) (xe_neg xe_int) xa_nil)) (by rw [sizeLine_eq]; exact Nat.le_of_ble_eq_true rfl) (.cons (to_i _) (.cons (to_i _) .nil))) (xa_cons (A := (va T (LF.mk ([MV.b true] : List MV)))) (xe_lmv (l := [MV.b true]) (xa_cons (A := (va T true)) xe_bl xa_nil) (by rw [sizeLine_eq]; exact Nat.le_of_ble_eq_true rfl) (.cons (to_b _) .nil)) (xa_cons (A := (va T (LF.mk ([MV.i (1 : Int), MV.o] : List MV)))) (xe_lmv (l := [MV.i (1 : Int), MV.o]) (xa_cons (A := (va T (1 : Int))) xe_int (xa_cons (A := (va T ())) xe_non xa_nil)) (by rw [sizeLine_eq]; exact Nat.le_of_ble_eq_true rfl) (.cons (to_i _) (.cons (to_o (tf_none (T := T)) (kit_ty (by decide +kernel))) .nil))) (xa_cons (A := (va T (LF.mk ([MV.o] : List MV)))) (xe_lmv (l := [MV.o]) (xa_cons (A := (va T ("1" : Str))) xe_str xa_nil) (by rw [sizeLine_eq]; exact Nat.le_of_ble_eq_true rfl) (.cons (to_o (tf_str (T := T)) (kit_ty (by decide +kernel))) .nil)) (xa_cons (A := (va T (LF.mk ([MV.o] : List MV)))) (xe_lmv (l := [MV.o]) (xa_cons (A := (va T (LF.mk ([MV.i (1 : Int)] : List MV)))) (xe_lmv (l := [MV.i (1 : Int)]) (xa_cons (A := (va T (1 : Int))) xe_int xa_nil) (by rw [sizeLine_eq]; exact Nat.le_of_ble_eq_true rfl) (.cons (to_i _) .nil)) xa_nil) (by rw [sizeLine_eq]; exact Nat.le_of_ble_eq_true rfl) (.cons (to_o (tf_lf (T := T)) (kit_ty (by decide +kernel))) .nil)) xa_nil)))))))))))) (by rw [sizeLine_eq]; exact Nat.le_of_ble_eq_true rfl)) ?_
    show XS (tSeq _ _) _ _ [some (vr p0), some (va T x1), some (va T x2), some (va T y1), some (tpA T [va T (FT.mk 2), va T (FT.mk 3)]), some (lsA [(va T ()), (va T ((1 : Int), (2 : Int))), (va T (DF.mk [])), (va T ("12" : Str)), (va T (5 : Int)), (va T x1), (va T (LF.mk ([MV.i ((1 : Int) * 2 ^ (y1).toNat)] : List MV))), (va T (LF.mk ([MV.i (1 : Int), MV.i (-(1 : Int))] : List MV))), (va T (LF.mk ([MV.b true] : List MV))), (va T (LF.mk ([MV.i (1 : Int), MV.o] : List MV))), (va T (LF.mk ([MV.o] : List MV))), (va T (LF.mk ([MV.o] : List MV)))]), none, none, none] (stt Ω [] [])
    obtain ⟨z11, hz11, hm⟩ := bnd_some hm
    refine xs_set (xe_catA (xe_var (i := 5) rfl) (xe_lsA (xa_cons (A := (va T (LF.mk ([MV.i ((1 : Int) * 2 ^ (y1).toNat), MV.i (1 : Int)] : List MV)))) (xe_lmv (l := [MV.i ((1 : Int) * 2 ^ (y1).toNat), MV.i (1 : Int)]) (xa_cons (A := (va T ((1 : Int) * 2 ^ (y1).toNat))) (xe_shl (chkP_some hz11) xe_int (xe_var (i := 3) rfl)) (xa_cons (A := (va T (1 : Int))) xe_int xa_nil)) (by rw [sizeLine_eq]; exact Nat.le_of_ble_eq_true rfl) (.cons (to_i _) (.cons (to_i _) .nil))) (xa_cons (A := (va T (LF.mk ([MV.i (-(1 : Int)), MV.i (1 : Int)] : List MV)))) (xe_lmv (l := [MV.i (-(1 : Int)), MV.i (1 : Int)]) (xa_cons (A := (va T (-(1 : Int)))) (xe_neg xe_int) (xa_cons (A := (va T (1 : Int))) xe_int xa_nil)) (by rw [sizeLine_eq]; exact Nat.le_of_ble_eq_true rfl) (.cons (to_i _) (.cons (to_i _) .nil))) (xa_cons (A := (va T (LF.mk ([MV.b true, MV.i (1 : Int)] : List MV)))) (xe_lmv (l := [MV.b true, MV.i (1 : Int)]) (xa_cons (A := (va T true)) xe_bl (xa_cons (A := (va T (1 : Int))) xe_int xa_nil)) (by rw [sizeLine_eq]; exact Nat.le_of_ble_eq_true rfl) (.cons (to_b _) (.cons (to_i _) .nil))) (xa_cons (A := (va T (LF.mk ([MV.o, MV.i (1 : Int)] : List MV)))) (xe_lmv (l := [MV.o, MV.i (1 : Int)]) (xa_cons (A := (va T ())) xe_non (xa_cons (A := (va T (1 : Int))) xe_int xa_nil)) (by rw [sizeLine_eq]; exact Nat.le_of_ble_eq_true rfl) (.cons (to_o (tf_none (T := T)) (kit_ty (by decide +kernel))) (.cons (to_i _) .nil))) (xa_cons (A := (va T (LF.mk ([MV.o, MV.i (1 : Int)] : List MV)))) (xe_lmv (l := [MV.o, MV.i (1 : Int)]) (xa_cons (A := (va T ("1" : Str))) xe_str (xa_cons (A := (va T (1 : Int))) xe_int xa_nil)) (by rw [sizeLine_eq]; exact Nat.le_of_ble_eq_true rfl) (.cons (to_o (tf_str (T := T)) (kit_ty (by decide +kernel))) (.cons (to_i _) .nil))) (xa_cons (A := (va T (LF.mk ([MV.o, MV.i (1 : Int)] : List MV)))) (xe_lmv (l := [MV.o, MV.i (1 : Int)]) (xa_cons (A := (va T (LF.mk ([MV.i (1 : Int)] : List MV)))) (xe_lmv (l := [MV.i (1 : Int)]) (xa_cons (A := (va T (1 : Int))) xe_int xa_nil) (by rw [sizeLine_eq]; exact Nat.le_of_ble_eq_true rfl) (.cons (to_i _) .nil)) (xa_cons (A := (va T (1 : Int))) xe_int xa_nil)) (by rw [sizeLine_eq]; exact Nat.le_of_ble_eq_true rfl) (.cons (to_o (tf_lf (T := T)) (kit_ty (by decide +kernel))) (.cons (to_i _) .nil))) xa_nil)))))) (by rw [sizeLine_eq]; exact Nat.le_of_ble_eq_true rfl)) (by rw [sizeLine_eq]; exact Nat.le_of_ble_eq_true rfl)) ?_
    show XS (tSeq _ _) _ _ [some (vr p0), some (va T x1), some (va T x2), some (va T y1), some (tpA T [va T (FT.mk 2), va T (FT.mk 3)]), some (lsA [(va T ()), (va T ((1 : Int), (2 : Int))), (va T (DF.mk [])), (va T ("12" : Str)), (va T (5 : Int)), (va T x1), (va T (LF.mk ([MV.i ((1 : Int) * 2 ^ (y1).toNat)] : List MV))), (va T (LF.mk ([MV.i (1 : Int), MV.i (-(1 : Int))] : List MV))), (va T (LF.mk ([MV.b true] : List MV))), (va T (LF.mk ([MV.i (1 : Int), MV.o] : List MV))), (va T (LF.mk ([MV.o] : List MV))), (va T (LF.mk ([MV.o] : List MV))), (va T (LF.mk ([MV.i ((1 : Int) * 2 ^ (y1).toNat), MV.i (1 : Int)] : List MV))), (va T (LF.mk ([MV.i (-(1 : Int)), MV.i (1 : Int)] : List MV))), (va T (LF.mk ([MV.b true, MV.i (1 : Int)] : List MV))), (va T (LF.mk ([MV.o, MV.i (1 : Int)] : List MV))), (va T (LF.mk ([MV.o, MV.i (1 : Int)] : List MV))), (va T (LF.mk ([MV.o, MV.i (1 : Int)] : List MV)))]), none, none, none] (stt Ω [] [])
    obtain ⟨z26, hz26, hm⟩ := bnd_some hm
    obtain ⟨z27, hz27, hm⟩ := bnd_some hm
    obtain ⟨z65, hz65, hm⟩ := bnd_some hm
    refine xs_forMS (T := T) (k := 6) (G := [some (vr p0), some (va T x1), some (va T x2), some (va T y1), some (tpA T [va T (FT.mk 2), va T (FT.mk 3)]), some (lsA [(va T ()), (va T ((1 : Int), (2 : Int))), (va T (DF.mk [])), (va T ("12" : Str)), (va T (5 : Int)), (va T x1), (va T (LF.mk ([MV.i ((1 : Int) * 2 ^ (y1).toNat)] : List MV))), (va T (LF.mk ([MV.i (1 : Int), MV.i (-(1 : Int))] : List MV))), (va T (LF.mk ([MV.b true] : List MV))), (va T (LF.mk ([MV.i (1 : Int), MV.o] : List MV))), (va T (LF.mk ([MV.o] : List MV))), (va T (LF.mk ([MV.o] : List MV))), (va T (LF.mk ([MV.i ((1 : Int) * 2 ^ (y1).toNat), MV.i (1 : Int)] : List MV))), (va T (LF.mk ([MV.i (-(1 : Int)), MV.i (1 : Int)] : List MV))), (va T (LF.mk ([MV.b true, MV.i (1 : Int)] : List MV))), (va T (LF.mk ([MV.o, MV.i (1 : Int)] : List MV))), (va T (LF.mk ([MV.o, MV.i (1 : Int)] : List MV))), (va T (LF.mk ([MV.o, MV.i (1 : Int)] : List MV)))]), none, none, none]) (P := (fun A => NoC T (stt Ω [] []) A (.type "list"))) (QI := (fun _ => False)) (QB := (fun _ => False)) (QG := (fun _ => False)) (QM := (fun a19 => ∃ st : Stp Unit Unit, ((X_shift_row_up__or27 x0 a19 (-(1 : Int))).bind fun z20 => (M__law_said (some z20)).bind fun z21 => (X_shift_row_down__or32 x0 a19 (-(1 : Int))).bind fun z22 => (M__law_said (some z22)).bind fun z23 => (chkP ((-(2 ^ 63) ≤ (2 : Int) ∧ (2 : Int) < 2 ^ 63) ∧ ([("digits" : Str)] : List Str).length * ((2 : Int)).toNat ≤ sizeLine)).bind fun z24 => (chkP ((LF.mk ([z21, z23] : List (EN Str))) = (LF.mk (((List.replicate ((2 : Int)).toNat ([("digits" : Str)] : List Str)).flatten).map EN.ok)) ∧ Dat.ok (LF.mk ([z21, z23] : List (EN Str))))).bind fun z25 => some (Stp.nx ())) = some st)) (xi_lsA (xe_catA (xe_catA (xe_var (i := 5) rfl) (xe_unlp (xe_var (i := 2) rfl)) (by rw [sizeLine_eq]; exact Nat.le_of_ble_eq_true rfl)) (xe_lsA (xa_cons (A := (va T (LF.mk ([MV.i (1 : Int), MV.o] : List MV)))) (xe_lmv (l := [MV.i (1 : Int), MV.o]) (xa_cons (A := (va T (1 : Int))) xe_int (xa_cons (A := (va T x2.b)) (xe_lpB (xe_var (i := 2) rfl) xe_int) xa_nil)) (by rw [sizeLine_eq]; exact Nat.le_of_ble_eq_true rfl) (.cons (to_i _) (.cons (to_o (tf_dt (T := T)) (kit_ty (by decide +kernel))) .nil))) xa_nil) (by rw [sizeLine_eq]; exact Nat.le_of_ble_eq_true rfl)) (by rw [sizeLine_eq]; exact Nat.le_of_ble_eq_true rfl))) (allA_cons (.inl (.inl (noC_of tya_non (kit_ty (by decide +kernel))))) (allA_cons (.inl (.inl (noC_of tya_pair (kit_ty (by decide +kernel))))) (allA_cons (.inl (.inl (noC_of tya_dct (kit_ty (by decide +kernel))))) (allA_cons (.inl (.inl (noC_of tya_str (kit_ty (by decide +kernel))))) (allA_cons (.inl (.inl (noC_of tya_int (kit_ty (by decide +kernel))))) (allA_cons (.inl (.inl (noC_of (tya_big icb) kt_Big_L))) (allA_cons (.inr ⟨_, (fun _ _ h => h), allN_mem hz27 _ (.head _)⟩) (allA_cons (.inr ⟨_, (fun _ _ h => h), allN_mem hz27 _ (.tail _ (.head _))⟩) (allA_cons (.inr ⟨_, (fun _ _ h => h), allN_mem hz27 _ (.tail _ (.tail _ (.head _)))⟩) (allA_cons (.inr ⟨_, (fun _ _ h => h), allN_mem hz27 _ (.tail _ (.tail _ (.tail _ (.head _))))⟩) (allA_cons (.inr ⟨_, (fun _ _ h => h), allN_mem hz27 _ (.tail _ (.tail _ (.tail _ (.tail _ (.head _)))))⟩) (allA_cons (.inr ⟨_, (fun _ _ h => h), allN_mem hz27 _ (.tail _ (.tail _ (.tail _ (.tail _ (.tail _ (.head _))))))⟩) (allA_cons (.inr ⟨_, (fun _ _ h => h), allN_mem hz27 _ (.tail _ (.tail _ (.tail _ (.tail _ (.tail _ (.tail _ (.head _)))))))⟩) (allA_cons (.inr ⟨_, (fun _ _ h => h), allN_mem hz27 _ (.tail _ (.tail _ (.tail _ (.tail _ (.tail _ (.tail _ (.tail _ (.head _))))))))⟩) (allA_cons (.inr ⟨_, (fun _ _ h => h), allN_mem hz27 _ (.tail _ (.tail _ (.tail _ (.tail _ (.tail _ (.tail _ (.tail _ (.tail _ (.head _)))))))))⟩) (allA_cons (.inr ⟨_, (fun _ _ h => h), allN_mem hz27 _ (.tail _ (.tail _ (.tail _ (.tail _ (.tail _ (.tail _ (.tail _ (.tail _ (.tail _ (.head _))))))))))⟩) (allA_cons (.inr ⟨_, (fun _ _ h => h), allN_mem hz27 _ (.tail _ (.tail _ (.tail _ (.tail _ (.tail _ (.tail _ (.tail _ (.tail _ (.tail _ (.tail _ (.head _)))))))))))⟩) (allA_cons (.inr ⟨_, (fun _ _ h => h), allN_mem hz27 _ (.tail _ (.tail _ (.tail _ (.tail _ (.tail _ (.tail _ (.tail _ (.tail _ (.tail _ (.tail _ (.tail _ (.head _))))))))))))⟩) (allA_cons (.inr ⟨_, (dpn_mvS (kit_ty (by decide +kernel)) (chkP_some hz65)), allN_mem hz27 _ (.tail _ (.tail _ (.tail _ (.tail _ (.tail _ (.tail _ (.tail _ (.tail _ (.tail _ (.tail _ (.tail _ (.tail _ (.head _)))))))))))))⟩) (allA_cons (.inl (.inl (noC_of tya_dt (kit_ty (by decide +kernel))))) (allA_cons (.inr ⟨_, (fun _ _ h => h), allN_mem hz27 _ (.tail _ (.tail _ (.tail _ (.tail _ (.tail _ (.tail _ (.tail _ (.tail _ (.tail _ (.tail _ (.tail _ (.tail _ (.tail _ (.head _))))))))))))))⟩) allA_nil))))))))))))))))))))) (fun A12 hP F1 D1 e1 hD => ?_) (fun aI hQ F1 D1 e1 hD => ?_) (fun aB hQ F1 D1 e1 hD => ?_) (fun aG hQ F1 D1 e1 hD => ?_) (fun aM hQ F1 D1 e1 hD => ?_) ?_
    · clear hm
      have hm := hz26
      have hA12L := hP
      show XS (tIfS _ _ _) _ _ [some (vr p0), some (va T x1), some (va T x2), some (va T y1), some (tpA T [va T (FT.mk 2), va T (FT.mk 3)]), some (lsA [(va T ()), (va T ((1 : Int), (2 : Int))), (va T (DF.mk [])), (va T ("12" : Str)), (va T (5 : Int)), (va T x1), (va T (LF.mk ([MV.i ((1 : Int) * 2 ^ (y1).toNat)] : List MV))), (va T (LF.mk ([MV.i (1 : Int), MV.i (-(1 : Int))] : List MV))), (va T (LF.mk ([MV.b true] : List MV))), (va T (LF.mk ([MV.i (1 : Int), MV.o] : List MV))), (va T (LF.mk ([MV.o] : List MV))), (va T (LF.mk ([MV.o] : List MV))), (va T (LF.mk ([MV.i ((1 : Int) * 2 ^ (y1).toNat), MV.i (1 : Int)] : List MV))), (va T (LF.mk ([MV.i (-(1 : Int)), MV.i (1 : Int)] : List MV))), (va T (LF.mk ([MV.b true, MV.i (1 : Int)] : List MV))), (va T (LF.mk ([MV.o, MV.i (1 : Int)] : List MV))), (va T (LF.mk ([MV.o, MV.i (1 : Int)] : List MV))), (va T (LF.mk ([MV.o, MV.i (1 : Int)] : List MV)))]), some A12, none, none] (stt Ω [] [])
      obtain ⟨z13, hz13, hm⟩ := bnd_some hm
      obtain ⟨z14, hz14, hm⟩ := bnd_some hm
      obtain ⟨z15, hz15, hm⟩ := bnd_some hm
      obtain ⟨z16, hz16, hm⟩ := bnd_some hm
      obtain ⟨z17, hz17, hm⟩ := bnd_some hm
      obtain ⟨z18, hz18, hm⟩ := bnd_some hm
      refine xs_ifF1 (xt_test (T := T) (xe_neK (chkP_some hz18) (by decide) (xe_fz (xn_lcA (ys := ([z14, z16] : List (EN Str))) (xi_tpA (xe_var (i := 4) rfl)) (by simp) (by rw [sizeLine_eq]; exact Nat.le_of_ble_eq_true rfl) (fun X => (.cons (xe_allB fun _ _ _ _ _ => xe_callLX (o := some z13) (xa_cons (xe_lamV (l := tbs T) (stt_getU hkT) (mem__law_rows_right T) hu__law_rows_right) xa_nil) (outc_r fun E F1 hw => xr_callFS (S := SF__law_rows_right T) rfl (.inl ⟨rfl, rfl⟩) (fun _ _ _ _ h => sub__law_rows_right_shift_row_up_1 h) (xa_cons (xe_var (i := 0) rfl) (xa_cons (xe_var (i := 6) rfl) (xa_cons (xe_neg xe_int) xa_nil))) ⟨k0, p0, x0, A12, (-(1 : Int)), z13, rfl, (stt_getU hk0), (noC_X hA12L), hz13, rfl⟩ hw) (fun fL actL => ⟨some z13, z14, rfl, hz14, rfl⟩) cal0) (.cons (xe_allB fun _ _ _ _ _ => xe_callLX (o := some z15) (xa_cons (xe_lamV (l := tbs T) (stt_getU hkT) (mem__law_rows_right T) hu__law_rows_right) xa_nil) (outc_r fun E F1 hw => xr_callFS (S := SF__law_rows_right T) rfl (.inr (.inl ⟨rfl, rfl⟩)) (fun _ _ _ _ h => sub__law_rows_right_shift_row_down_1 h) (xa_cons (xe_var (i := 0) rfl) (xa_cons (xe_var (i := 6) rfl) (xa_cons (xe_neg xe_int) xa_nil))) ⟨k0, p0, x0, A12, (-(1 : Int)), z15, rfl, (stt_getU hk0), (noC_X hA12L), hz15, rfl⟩ hw) (fun fL actL => ⟨some z15, z16, rfl, hz16, rfl⟩) cal0) .nil))))) (xe_enL (xe_rep (xe_lst (l := [("digits" : Str)]) (xa_cons xe_str xa_nil) (by show 1 ≤ sizeLine; decide)) xe_int isLs_LF (chkP_some hz17))) isD_va isD_va)) ?_
      obtain rfl := Option.some.inj hm
      exact fun σ H n => hD.nx _ rfl σ H (n.forget 6)
    · exact hQ.elim
    · exact hQ.elim
    · exact hQ.elim
    · clear hm
      obtain ⟨st, hm⟩ := hQ
      show XS (tIfS _ _ _) _ _ [some (vr p0), some (va T x1), some (va T x2), some (va T y1), some (tpA T [va T (FT.mk 2), va T (FT.mk 3)]), some (lsA [(va T ()), (va T ((1 : Int), (2 : Int))), (va T (DF.mk [])), (va T ("12" : Str)), (va T (5 : Int)), (va T x1), (va T (LF.mk ([MV.i ((1 : Int) * 2 ^ (y1).toNat)] : List MV))), (va T (LF.mk ([MV.i (1 : Int), MV.i (-(1 : Int))] : List MV))), (va T (LF.mk ([MV.b true] : List MV))), (va T (LF.mk ([MV.i (1 : Int), MV.o] : List MV))), (va T (LF.mk ([MV.o] : List MV))), (va T (LF.mk ([MV.o] : List MV))), (va T (LF.mk ([MV.i ((1 : Int) * 2 ^ (y1).toNat), MV.i (1 : Int)] : List MV))), (va T (LF.mk ([MV.i (-(1 : Int)), MV.i (1 : Int)] : List MV))), (va T (LF.mk ([MV.b true, MV.i (1 : Int)] : List MV))), (va T (LF.mk ([MV.o, MV.i (1 : Int)] : List MV))), (va T (LF.mk ([MV.o, MV.i (1 : Int)] : List MV))), (va T (LF.mk ([MV.o, MV.i (1 : Int)] : List MV)))]), some (va T (LF.mk aM)), none, none] (stt Ω [] [])
      obtain ⟨z20, hz20, hm⟩ := bnd_some hm
      obtain ⟨z21, hz21, hm⟩ := bnd_some hm
      obtain ⟨z22, hz22, hm⟩ := bnd_some hm
      obtain ⟨z23, hz23, hm⟩ := bnd_some hm
      obtain ⟨z24, hz24, hm⟩ := bnd_some hm
      obtain ⟨z25, hz25, hm⟩ := bnd_some hm
      refine xs_ifF1 (xt_test (T := T) (xe_neK (chkP_some hz25) (by decide) (xe_fz (xn_lcA (ys := ([z21, z23] : List (EN Str))) (xi_tpA (xe_var (i := 4) rfl)) (by simp) (by rw [sizeLine_eq]; exact Nat.le_of_ble_eq_true rfl) (fun X => (.cons (xe_allB fun _ _ _ _ _ => xe_callLX (o := some z20) (xa_cons (xe_lamV (l := tbs T) (stt_getU hkT) (mem__law_rows_right T) hu__law_rows_right) xa_nil) (outc_r fun E F1 hw => xr_callFS (S := SF__law_rows_right T) rfl (.inl ⟨rfl, rfl⟩) (fun _ _ _ _ h => sub__law_rows_right_shift_row_up_2 h) (xa_cons (xe_var (i := 0) rfl) (xa_cons (xe_var (i := 6) rfl) (xa_cons (xe_neg xe_int) xa_nil))) ⟨k0, p0, x0, aM, (-(1 : Int)), z20, rfl, (stt_getU hk0), hz20, rfl⟩ hw) (fun fL actL => ⟨some z20, z21, rfl, hz21, rfl⟩) cal0) (.cons (xe_allB fun _ _ _ _ _ => xe_callLX (o := some z22) (xa_cons (xe_lamV (l := tbs T) (stt_getU hkT) (mem__law_rows_right T) hu__law_rows_right) xa_nil) (outc_r fun E F1 hw => xr_callFS (S := SF__law_rows_right T) rfl (.inr (.inl ⟨rfl, rfl⟩)) (fun _ _ _ _ h => sub__law_rows_right_shift_row_down_2 h) (xa_cons (xe_var (i := 0) rfl) (xa_cons (xe_var (i := 6) rfl) (xa_cons (xe_neg xe_int) xa_nil))) ⟨k0, p0, x0, aM, (-(1 : Int)), z22, rfl, (stt_getU hk0), hz22, rfl⟩ hw) (fun fL actL => ⟨some z22, z23, rfl, hz23, rfl⟩) cal0) .nil))))) (xe_enL (xe_rep (xe_lst (l := [("digits" : Str)]) (xa_cons xe_str xa_nil) (by show 1 ≤ sizeLine; decide)) xe_int isLs_LF (chkP_some hz24))) isD_va isD_va)) ?_
      obtain rfl := Option.some.inj hm
      exact fun σ H n => hD.nx _ rfl σ H (n.forget 6)
    · show XS (tSeq _ _) _ _ [some (vr p0), some (va T x1), some (va T x2), some (va T y1), some (tpA T [va T (FT.mk 2), va T (FT.mk 3)]), some (lsA [(va T ()), (va T ((1 : Int), (2 : Int))), (va T (DF.mk [])), (va T ("12" : Str)), (va T (5 : Int)), (va T x1), (va T (LF.mk ([MV.i ((1 : Int) * 2 ^ (y1).toNat)] : List MV))), (va T (LF.mk ([MV.i (1 : Int), MV.i (-(1 : Int))] : List MV))), (va T (LF.mk ([MV.b true] : List MV))), (va T (LF.mk ([MV.i (1 : Int), MV.o] : List MV))), (va T (LF.mk ([MV.o] : List MV))), (va T (LF.mk ([MV.o] : List MV))), (va T (LF.mk ([MV.i ((1 : Int) * 2 ^ (y1).toNat), MV.i (1 : Int)] : List MV))), (va T (LF.mk ([MV.i (-(1 : Int)), MV.i (1 : Int)] : List MV))), (va T (LF.mk ([MV.b true, MV.i (1 : Int)] : List MV))), (va T (LF.mk ([MV.o, MV.i (1 : Int)] : List MV))), (va T (LF.mk ([MV.o, MV.i (1 : Int)] : List MV))), (va T (LF.mk ([MV.o, MV.i (1 : Int)] : List MV)))]), none, none, none] (stt Ω [] [])
      obtain ⟨z28, hz28, hm⟩ := bnd_some hm
      obtain ⟨z62, hz62, hm⟩ := bnd_some hm
      obtain ⟨z63, hz63, hm⟩ := bnd_some hm
      obtain ⟨z64, hz64, hm⟩ := bnd_some hm
      refine xs_forAS (T := T) (k := 6) (G := [some (vr p0), some (va T x1), some (va T x2), some (va T y1), some (tpA T [va T (FT.mk 2), va T (FT.mk 3)]), some (lsA [(va T ()), (va T ((1 : Int), (2 : Int))), (va T (DF.mk [])), (va T ("12" : Str)), (va T (5 : Int)), (va T x1), (va T (LF.mk ([MV.i ((1 : Int) * 2 ^ (y1).toNat)] : List MV))), (va T (LF.mk ([MV.i (1 : Int), MV.i (-(1 : Int))] : List MV))), (va T (LF.mk ([MV.b true] : List MV))), (va T (LF.mk ([MV.i (1 : Int), MV.o] : List MV))), (va T (LF.mk ([MV.o] : List MV))), (va T (LF.mk ([MV.o] : List MV))), (va T (LF.mk ([MV.i ((1 : Int) * 2 ^ (y1).toNat), MV.i (1 : Int)] : List MV))), (va T (LF.mk ([MV.i (-(1 : Int)), MV.i (1 : Int)] : List MV))), (va T (LF.mk ([MV.b true, MV.i (1 : Int)] : List MV))), (va T (LF.mk ([MV.o, MV.i (1 : Int)] : List MV))), (va T (LF.mk ([MV.o, MV.i (1 : Int)] : List MV))), (va T (LF.mk ([MV.o, MV.i (1 : Int)] : List MV)))]), none, none, none]) (P := (fun A => NoC T (stt Ω [] []) A (.type "int"))) (QI := (fun a40 => ∃ st : Stp Unit Unit, ((forM' (ρ := Unit) (fun (a42 : (LF Int)) (s41 : Unit) => (X_shift_row_up x0 a42.l a40).bind fun z43 => (M__law_said (some z43)).bind fun z44 => (X_shift_row_down x0 a42.l a40).bind fun z45 => (M__law_said (some z45)).bind fun z46 => (chkP ((-(2 ^ 63) ≤ (2 : Int) ∧ (2 : Int) < 2 ^ 63) ∧ ([("count" : Str)] : List Str).length * ((2 : Int)).toNat ≤ sizeLine)).bind fun z47 => (chkP ((LF.mk ([z44, z46] : List (EN Str))) = (LF.mk (((List.replicate ((2 : Int)).toNat ([("count" : Str)] : List Str)).flatten).map EN.ok)) ∧ Dat.ok (LF.mk ([z44, z46] : List (EN Str))))).bind fun z48 => some (Stp.nx ())) ([(LF.mk ([] : List Int)), (LF.mk ([(1 : Int), (0 : Int), (5 : Int)] : List Int))] : List (LF Int)) ()).bind fun z49 => (nxt z49).bind fun s50 => some (Stp.nx ())) = some st)) (QB := (fun a51 => ∃ st : Stp Unit Unit, ((forM' (ρ := Unit) (fun (a53 : (LF Int)) (s52 : Unit) => (X_shift_row_up__or36 x0 a53.l a51).bind fun z54 => (M__law_said (some z54)).bind fun z55 => (X_shift_row_down__or38 x0 a53.l a51).bind fun z56 => (M__law_said (some z56)).bind fun z57 => (chkP ((-(2 ^ 63) ≤ (2 : Int) ∧ (2 : Int) < 2 ^ 63) ∧ ([("count" : Str)] : List Str).length * ((2 : Int)).toNat ≤ sizeLine)).bind fun z58 => (chkP ((LF.mk ([z55, z57] : List (EN Str))) = (LF.mk (((List.replicate ((2 : Int)).toNat ([("count" : Str)] : List Str)).flatten).map EN.ok)) ∧ Dat.ok (LF.mk ([z55, z57] : List (EN Str))))).bind fun z59 => some (Stp.nx ())) ([(LF.mk ([] : List Int)), (LF.mk ([(1 : Int), (0 : Int), (5 : Int)] : List Int))] : List (LF Int)) ()).bind fun z60 => (nxt z60).bind fun s61 => some (Stp.nx ())) = some st)) (QG := (fun _ => False)) (xi_lsA (xe_catA (xe_lsA (xa_cons (A := (va T ())) xe_non (xa_cons (A := (va T (-(1 : Int)))) (xe_neg xe_int) (xa_cons (A := (va T y1)) (xe_var (i := 3) rfl) (xa_cons (A := (va T true)) xe_bl (xa_cons (A := (va T ("1" : Str))) xe_str (xa_cons (A := (va T (LF.mk ([MV.i (1 : Int)] : List MV)))) (xe_lmv (l := [MV.i (1 : Int)]) (xa_cons (A := (va T (1 : Int))) xe_int xa_nil) (by rw [sizeLine_eq]; exact Nat.le_of_ble_eq_true rfl) (.cons (to_i _) .nil)) (xa_cons (A := (va T (TF.mk ([] : List Int)))) (xe_tupF (l := ([] : List Int)) xa_nil (by rw [sizeLine_eq]; exact Nat.le_of_ble_eq_true rfl)) (xa_cons (A := (va T ((10 : Int) ^ ((30 : Int)).toNat))) (xe_pow (chkP_some hz28) xe_int xe_int) xa_nil)))))))) (by rw [sizeLine_eq]; exact Nat.le_of_ble_eq_true rfl)) (xe_unlp (xe_var (i := 2) rfl)) (by rw [sizeLine_eq]; exact Nat.le_of_ble_eq_true rfl))) (allA_cons (.inl (noC_of tya_non (kit_ty (by decide +kernel)))) (allA_cons (.inr (.inl ⟨_, rfl, allN_mem hz63 _ (.head _)⟩)) (allA_cons (.inr (.inl ⟨_, rfl, allN_mem hz63 _ (.tail _ (.head _))⟩)) (allA_cons (.inr (.inr (.inl ⟨_, rfl, allN_mem hz64 _ (.head _)⟩))) (allA_cons (.inl (noC_of tya_str (kit_ty (by decide +kernel)))) (allA_cons (.inl (noC_of tya_lst (kit_ty (by decide +kernel)))) (allA_cons (.inl (noC_of tya_tup (kit_ty (by decide +kernel)))) (allA_cons (.inr (.inl ⟨_, rfl, allN_mem hz63 _ (.tail _ (.tail _ (.head _)))⟩)) (allA_cons (.inl (noC_of tya_dpn (kit_ty (by decide +kernel)))) (allA_cons (.inl (noC_of tya_dt (kit_ty (by decide +kernel)))) allA_nil)))))))))) (fun A29 hP F1 D1 e1 hD => ?_) (fun aI hQ F1 D1 e1 hD => ?_) (fun aB hQ F1 D1 e1 hD => ?_) (fun aG hQ F1 D1 e1 hD => ?_) ?_
      · clear hm
        have hm := hz62
        have hA29I := hP
        show XS (tFor _ _ _) _ _ [some (vr p0), some (va T x1), some (va T x2), some (va T y1), some (tpA T [va T (FT.mk 2), va T (FT.mk 3)]), some (lsA [(va T ()), (va T ((1 : Int), (2 : Int))), (va T (DF.mk [])), (va T ("12" : Str)), (va T (5 : Int)), (va T x1), (va T (LF.mk ([MV.i ((1 : Int) * 2 ^ (y1).toNat)] : List MV))), (va T (LF.mk ([MV.i (1 : Int), MV.i (-(1 : Int))] : List MV))), (va T (LF.mk ([MV.b true] : List MV))), (va T (LF.mk ([MV.i (1 : Int), MV.o] : List MV))), (va T (LF.mk ([MV.o] : List MV))), (va T (LF.mk ([MV.o] : List MV))), (va T (LF.mk ([MV.i ((1 : Int) * 2 ^ (y1).toNat), MV.i (1 : Int)] : List MV))), (va T (LF.mk ([MV.i (-(1 : Int)), MV.i (1 : Int)] : List MV))), (va T (LF.mk ([MV.b true, MV.i (1 : Int)] : List MV))), (va T (LF.mk ([MV.o, MV.i (1 : Int)] : List MV))), (va T (LF.mk ([MV.o, MV.i (1 : Int)] : List MV))), (va T (LF.mk ([MV.o, MV.i (1 : Int)] : List MV)))]), some A29, none, none] (stt Ω [] [])
        obtain ⟨z38, hz38, hm⟩ := bnd_some hm
        refine xs_for (fun (s30 : Unit) => [some (vr p0), some (va T x1), some (va T x2), some (va T y1), some (tpA T [va T (FT.mk 2), va T (FT.mk 3)]), some (lsA [(va T ()), (va T ((1 : Int), (2 : Int))), (va T (DF.mk [])), (va T ("12" : Str)), (va T (5 : Int)), (va T x1), (va T (LF.mk ([MV.i ((1 : Int) * 2 ^ (y1).toNat)] : List MV))), (va T (LF.mk ([MV.i (1 : Int), MV.i (-(1 : Int))] : List MV))), (va T (LF.mk ([MV.b true] : List MV))), (va T (LF.mk ([MV.i (1 : Int), MV.o] : List MV))), (va T (LF.mk ([MV.o] : List MV))), (va T (LF.mk ([MV.o] : List MV))), (va T (LF.mk ([MV.i ((1 : Int) * 2 ^ (y1).toNat), MV.i (1 : Int)] : List MV))), (va T (LF.mk ([MV.i (-(1 : Int)), MV.i (1 : Int)] : List MV))), (va T (LF.mk ([MV.b true, MV.i (1 : Int)] : List MV))), (va T (LF.mk ([MV.o, MV.i (1 : Int)] : List MV))), (va T (LF.mk ([MV.o, MV.i (1 : Int)] : List MV))), (va T (LF.mk ([MV.o, MV.i (1 : Int)] : List MV)))]), some A29, none, none]) (fun (s30 : Unit) => (stt Ω [] [])) (fun (_ : Unit) _ _ _ => False) hz38 (xi_TF (xe_tupF (l := [(LF.mk ([] : List Int)), (LF.mk ([(1 : Int), (0 : Int), (5 : Int)] : List Int))]) (xa_cons (xe_lst (T := T) (l := ([] : List Int)) xa_nil (Nat.zero_le _)) (xa_cons (xe_lst (l := [(1 : Int), (0 : Int), (5 : Int)]) (xa_cons xe_int (xa_cons xe_int (xa_cons xe_int xa_nil))) (by show 3 ≤ sizeLine; decide)) xa_nil)) (by show 2 ≤ sizeLine; decide))) (fun _ => tgt_name) (fun a31 s30 s' ha hm F1 D1 e1 hD => ?_) (fun s39 es => ?_) (fun r1 es => ?_)
        · show XS (tIfS _ _ _) _ _ [some (vr p0), some (va T x1), some (va T x2), some (va T y1), some (tpA T [va T (FT.mk 2), va T (FT.mk 3)]), some (lsA [(va T ()), (va T ((1 : Int), (2 : Int))), (va T (DF.mk [])), (va T ("12" : Str)), (va T (5 : Int)), (va T x1), (va T (LF.mk ([MV.i ((1 : Int) * 2 ^ (y1).toNat)] : List MV))), (va T (LF.mk ([MV.i (1 : Int), MV.i (-(1 : Int))] : List MV))), (va T (LF.mk ([MV.b true] : List MV))), (va T (LF.mk ([MV.i (1 : Int), MV.o] : List MV))), (va T (LF.mk ([MV.o] : List MV))), (va T (LF.mk ([MV.o] : List MV))), (va T (LF.mk ([MV.i ((1 : Int) * 2 ^ (y1).toNat), MV.i (1 : Int)] : List MV))), (va T (LF.mk ([MV.i (-(1 : Int)), MV.i (1 : Int)] : List MV))), (va T (LF.mk ([MV.b true, MV.i (1 : Int)] : List MV))), (va T (LF.mk ([MV.o, MV.i (1 : Int)] : List MV))), (va T (LF.mk ([MV.o, MV.i (1 : Int)] : List MV))), (va T (LF.mk ([MV.o, MV.i (1 : Int)] : List MV)))]), some A29, some (va T (LF.mk a31.l)), none] (stt Ω [] [])
          obtain ⟨z32, hz32, hm⟩ := bnd_some hm
          obtain ⟨z33, hz33, hm⟩ := bnd_some hm
          obtain ⟨z34, hz34, hm⟩ := bnd_some hm
          obtain ⟨z35, hz35, hm⟩ := bnd_some hm
          obtain ⟨z36, hz36, hm⟩ := bnd_some hm
          obtain ⟨z37, hz37, hm⟩ := bnd_some hm
          refine xs_ifF1 (xt_test (T := T) (xe_neK (chkP_some hz37) (by decide) (xe_fz (xn_lcA (ys := ([z33, z35] : List (EN Str))) (xi_tpA (xe_var (i := 4) rfl)) (by simp) (by rw [sizeLine_eq]; exact Nat.le_of_ble_eq_true rfl) (fun X => (.cons (xe_allB fun _ _ _ _ _ => xe_callLX (o := some z32) (xa_cons (xe_lamV (l := tbs T) (stt_getU hkT) (mem__law_rows_right T) hu__law_rows_right) xa_nil) (outc_r fun E F1 hw => xr_callFS (S := SF__law_rows_right T) rfl (.inl ⟨rfl, rfl⟩) (fun _ _ _ _ h => sub__law_rows_right_shift_row_up_3 h) (xa_cons (xe_var (i := 0) rfl) (xa_cons (xe_var (i := 7) rfl) (xa_cons (xe_var (i := 6) rfl) xa_nil))) ⟨k0, p0, x0, a31.l, A29, z32, rfl, (stt_getU hk0), (noC_X hA29I), hz32, rfl⟩ hw) (fun fL actL => ⟨some z32, z33, rfl, hz33, rfl⟩) cal0) (.cons (xe_allB fun _ _ _ _ _ => xe_callLX (o := some z34) (xa_cons (xe_lamV (l := tbs T) (stt_getU hkT) (mem__law_rows_right T) hu__law_rows_right) xa_nil) (outc_r fun E F1 hw => xr_callFS (S := SF__law_rows_right T) rfl (.inr (.inl ⟨rfl, rfl⟩)) (fun _ _ _ _ h => sub__law_rows_right_shift_row_down_3 h) (xa_cons (xe_var (i := 0) rfl) (xa_cons (xe_var (i := 7) rfl) (xa_cons (xe_var (i := 6) rfl) xa_nil))) ⟨k0, p0, x0, a31.l, A29, z34, rfl, (stt_getU hk0), (noC_X hA29I), hz34, rfl⟩ hw) (fun fL actL => ⟨some z34, z35, rfl, hz35, rfl⟩) cal0) .nil))))) (xe_enL (xe_rep (xe_lst (l := [("count" : Str)]) (xa_cons xe_str xa_nil) (by show 1 ≤ sizeLine; decide)) xe_int isLs_LF (chkP_some hz36))) isD_va isD_va)) ?_
          obtain rfl := Option.some.inj hm
          exact fun σ H n => hD.nx _ rfl σ H (n.forget 7)
        · subst es
          obtain ⟨s2, hs2, hm⟩ := bnd_some hm
          cases hs2
          obtain rfl := Option.some.inj hm
          exact fun σ H n => hD.nx _ rfl σ H (n.forget 6)
        · subst es
          cases hm
      · clear hm
        obtain ⟨st, hm⟩ := hQ
        show XS (tFor _ _ _) _ _ [some (vr p0), some (va T x1), some (va T x2), some (va T y1), some (tpA T [va T (FT.mk 2), va T (FT.mk 3)]), some (lsA [(va T ()), (va T ((1 : Int), (2 : Int))), (va T (DF.mk [])), (va T ("12" : Str)), (va T (5 : Int)), (va T x1), (va T (LF.mk ([MV.i ((1 : Int) * 2 ^ (y1).toNat)] : List MV))), (va T (LF.mk ([MV.i (1 : Int), MV.i (-(1 : Int))] : List MV))), (va T (LF.mk ([MV.b true] : List MV))), (va T (LF.mk ([MV.i (1 : Int), MV.o] : List MV))), (va T (LF.mk ([MV.o] : List MV))), (va T (LF.mk ([MV.o] : List MV))), (va T (LF.mk ([MV.i ((1 : Int) * 2 ^ (y1).toNat), MV.i (1 : Int)] : List MV))), (va T (LF.mk ([MV.i (-(1 : Int)), MV.i (1 : Int)] : List MV))), (va T (LF.mk ([MV.b true, MV.i (1 : Int)] : List MV))), (va T (LF.mk ([MV.o, MV.i (1 : Int)] : List MV))), (va T (LF.mk ([MV.o, MV.i (1 : Int)] : List MV))), (va T (LF.mk ([MV.o, MV.i (1 : Int)] : List MV)))]), some (va T aI), none, none] (stt Ω [] [])
        obtain ⟨z49, hz49, hm⟩ := bnd_some hm
        refine xs_for (fun (s41 : Unit) => [some (vr p0), some (va T x1), some (va T x2), some (va T y1), some (tpA T [va T (FT.mk 2), va T (FT.mk 3)]), some (lsA [(va T ()), (va T ((1 : Int), (2 : Int))), (va T (DF.mk [])), (va T ("12" : Str)), (va T (5 : Int)), (va T x1), (va T (LF.mk ([MV.i ((1 : Int) * 2 ^ (y1).toNat)] : List MV))), (va T (LF.mk ([MV.i (1 : Int), MV.i (-(1 : Int))] : List MV))), (va T (LF.mk ([MV.b true] : List MV))), (va T (LF.mk ([MV.i (1 : Int), MV.o] : List MV))), (va T (LF.mk ([MV.o] : List MV))), (va T (LF.mk ([MV.o] : List MV))), (va T (LF.mk ([MV.i ((1 : Int) * 2 ^ (y1).toNat), MV.i (1 : Int)] : List MV))), (va T (LF.mk ([MV.i (-(1 : Int)), MV.i (1 : Int)] : List MV))), (va T (LF.mk ([MV.b true, MV.i (1 : Int)] : List MV))), (va T (LF.mk ([MV.o, MV.i (1 : Int)] : List MV))), (va T (LF.mk ([MV.o, MV.i (1 : Int)] : List MV))), (va T (LF.mk ([MV.o, MV.i (1 : Int)] : List MV)))]), some (va T aI), none, none]) (fun (s41 : Unit) => (stt Ω [] [])) (fun (_ : Unit) _ _ _ => False) hz49 (xi_TF (xe_tupF (l := [(LF.mk ([] : List Int)), (LF.mk ([(1 : Int), (0 : Int), (5 : Int)] : List Int))]) (xa_cons (xe_lst (T := T) (l := ([] : List Int)) xa_nil (Nat.zero_le _)) (xa_cons (xe_lst (l := [(1 : Int), (0 : Int), (5 : Int)]) (xa_cons xe_int (xa_cons xe_int (xa_cons xe_int xa_nil))) (by show 3 ≤ sizeLine; decide)) xa_nil)) (by show 2 ≤ sizeLine; decide))) (fun _ => tgt_name) (fun a42 s41 s' ha hm F1 D1 e1 hD => ?_) (fun s50 es => ?_) (fun r1 es => ?_)
        · show XS (tIfS _ _ _) _ _ [some (vr p0), some (va T x1), some (va T x2), some (va T y1), some (tpA T [va T (FT.mk 2), va T (FT.mk 3)]), some (lsA [(va T ()), (va T ((1 : Int), (2 : Int))), (va T (DF.mk [])), (va T ("12" : Str)), (va T (5 : Int)), (va T x1), (va T (LF.mk ([MV.i ((1 : Int) * 2 ^ (y1).toNat)] : List MV))), (va T (LF.mk ([MV.i (1 : Int), MV.i (-(1 : Int))] : List MV))), (va T (LF.mk ([MV.b true] : List MV))), (va T (LF.mk ([MV.i (1 : Int), MV.o] : List MV))), (va T (LF.mk ([MV.o] : List MV))), (va T (LF.mk ([MV.o] : List MV))), (va T (LF.mk ([MV.i ((1 : Int) * 2 ^ (y1).toNat), MV.i (1 : Int)] : List MV))), (va T (LF.mk ([MV.i (-(1 : Int)), MV.i (1 : Int)] : List MV))), (va T (LF.mk ([MV.b true, MV.i (1 : Int)] : List MV))), (va T (LF.mk ([MV.o, MV.i (1 : Int)] : List MV))), (va T (LF.mk ([MV.o, MV.i (1 : Int)] : List MV))), (va T (LF.mk ([MV.o, MV.i (1 : Int)] : List MV)))]), some (va T aI), some (va T (LF.mk a42.l)), none] (stt Ω [] [])
          obtain ⟨z43, hz43, hm⟩ := bnd_some hm
          obtain ⟨z44, hz44, hm⟩ := bnd_some hm
          obtain ⟨z45, hz45, hm⟩ := bnd_some hm
          obtain ⟨z46, hz46, hm⟩ := bnd_some hm
          obtain ⟨z47, hz47, hm⟩ := bnd_some hm
          obtain ⟨z48, hz48, hm⟩ := bnd_some hm
          refine xs_ifF1 (xt_test (T := T) (xe_neK (chkP_some hz48) (by decide) (xe_fz (xn_lcA (ys := ([z44, z46] : List (EN Str))) (xi_tpA (xe_var (i := 4) rfl)) (by simp) (by rw [sizeLine_eq]; exact Nat.le_of_ble_eq_true rfl) (fun X => (.cons (xe_allB fun _ _ _ _ _ => xe_callLX (o := some z43) (xa_cons (xe_lamV (l := tbs T) (stt_getU hkT) (mem__law_rows_right T) hu__law_rows_right) xa_nil) (outc_r fun E F1 hw => xr_callFS (S := SF__law_rows_right T) rfl (.inl ⟨rfl, rfl⟩) (fun _ _ _ _ h => sub__law_rows_right_shift_row_up_4 h) (xa_cons (xe_var (i := 0) rfl) (xa_cons (xe_var (i := 7) rfl) (xa_cons (xe_var (i := 6) rfl) xa_nil))) ⟨k0, p0, x0, a42.l, aI, z43, rfl, (stt_getU hk0), hz43, rfl⟩ hw) (fun fL actL => ⟨some z43, z44, rfl, hz44, rfl⟩) cal0) (.cons (xe_allB fun _ _ _ _ _ => xe_callLX (o := some z45) (xa_cons (xe_lamV (l := tbs T) (stt_getU hkT) (mem__law_rows_right T) hu__law_rows_right) xa_nil) (outc_r fun E F1 hw => xr_callFS (S := SF__law_rows_right T) rfl (.inr (.inl ⟨rfl, rfl⟩)) (fun _ _ _ _ h => sub__law_rows_right_shift_row_down_4 h) (xa_cons (xe_var (i := 0) rfl) (xa_cons (xe_var (i := 7) rfl) (xa_cons (xe_var (i := 6) rfl) xa_nil))) ⟨k0, p0, x0, a42.l, aI, z45, rfl, (stt_getU hk0), hz45, rfl⟩ hw) (fun fL actL => ⟨some z45, z46, rfl, hz46, rfl⟩) cal0) .nil))))) (xe_enL (xe_rep (xe_lst (l := [("count" : Str)]) (xa_cons xe_str xa_nil) (by show 1 ≤ sizeLine; decide)) xe_int isLs_LF (chkP_some hz47))) isD_va isD_va)) ?_
          obtain rfl := Option.some.inj hm
          exact fun σ H n => hD.nx _ rfl σ H (n.forget 7)
        · subst es
          obtain ⟨s2, hs2, hm⟩ := bnd_some hm
          cases hs2
          obtain rfl := Option.some.inj hm
          exact fun σ H n => hD.nx _ rfl σ H (n.forget 6)
        · subst es
          cases hm
      · clear hm
        obtain ⟨st, hm⟩ := hQ
        show XS (tFor _ _ _) _ _ [some (vr p0), some (va T x1), some (va T x2), some (va T y1), some (tpA T [va T (FT.mk 2), va T (FT.mk 3)]), some (lsA [(va T ()), (va T ((1 : Int), (2 : Int))), (va T (DF.mk [])), (va T ("12" : Str)), (va T (5 : Int)), (va T x1), (va T (LF.mk ([MV.i ((1 : Int) * 2 ^ (y1).toNat)] : List MV))), (va T (LF.mk ([MV.i (1 : Int), MV.i (-(1 : Int))] : List MV))), (va T (LF.mk ([MV.b true] : List MV))), (va T (LF.mk ([MV.i (1 : Int), MV.o] : List MV))), (va T (LF.mk ([MV.o] : List MV))), (va T (LF.mk ([MV.o] : List MV))), (va T (LF.mk ([MV.i ((1 : Int) * 2 ^ (y1).toNat), MV.i (1 : Int)] : List MV))), (va T (LF.mk ([MV.i (-(1 : Int)), MV.i (1 : Int)] : List MV))), (va T (LF.mk ([MV.b true, MV.i (1 : Int)] : List MV))), (va T (LF.mk ([MV.o, MV.i (1 : Int)] : List MV))), (va T (LF.mk ([MV.o, MV.i (1 : Int)] : List MV))), (va T (LF.mk ([MV.o, MV.i (1 : Int)] : List MV)))]), some (va T aB), none, none] (stt Ω [] [])
        obtain ⟨z60, hz60, hm⟩ := bnd_some hm
        refine xs_for (fun (s52 : Unit) => [some (vr p0), some (va T x1), some (va T x2), some (va T y1), some (tpA T [va T (FT.mk 2), va T (FT.mk 3)]), some (lsA [(va T ()), (va T ((1 : Int), (2 : Int))), (va T (DF.mk [])), (va T ("12" : Str)), (va T (5 : Int)), (va T x1), (va T (LF.mk ([MV.i ((1 : Int) * 2 ^ (y1).toNat)] : List MV))), (va T (LF.mk ([MV.i (1 : Int), MV.i (-(1 : Int))] : List MV))), (va T (LF.mk ([MV.b true] : List MV))), (va T (LF.mk ([MV.i (1 : Int), MV.o] : List MV))), (va T (LF.mk ([MV.o] : List MV))), (va T (LF.mk ([MV.o] : List MV))), (va T (LF.mk ([MV.i ((1 : Int) * 2 ^ (y1).toNat), MV.i (1 : Int)] : List MV))), (va T (LF.mk ([MV.i (-(1 : Int)), MV.i (1 : Int)] : List MV))), (va T (LF.mk ([MV.b true, MV.i (1 : Int)] : List MV))), (va T (LF.mk ([MV.o, MV.i (1 : Int)] : List MV))), (va T (LF.mk ([MV.o, MV.i (1 : Int)] : List MV))), (va T (LF.mk ([MV.o, MV.i (1 : Int)] : List MV)))]), some (va T aB), none, none]) (fun (s52 : Unit) => (stt Ω [] [])) (fun (_ : Unit) _ _ _ => False) hz60 (xi_TF (xe_tupF (l := [(LF.mk ([] : List Int)), (LF.mk ([(1 : Int), (0 : Int), (5 : Int)] : List Int))]) (xa_cons (xe_lst (T := T) (l := ([] : List Int)) xa_nil (Nat.zero_le _)) (xa_cons (xe_lst (l := [(1 : Int), (0 : Int), (5 : Int)]) (xa_cons xe_int (xa_cons xe_int (xa_cons xe_int xa_nil))) (by show 3 ≤ sizeLine; decide)) xa_nil)) (by show 2 ≤ sizeLine; decide))) (fun _ => tgt_name) (fun a53 s52 s' ha hm F1 D1 e1 hD => ?_) (fun s61 es => ?_) (fun r1 es => ?_)
        · show XS (tIfS _ _ _) _ _ [some (vr p0), some (va T x1), some (va T x2), some (va T y1), some (tpA T [va T (FT.mk 2), va T (FT.mk 3)]), some (lsA [(va T ()), (va T ((1 : Int), (2 : Int))), (va T (DF.mk [])), (va T ("12" : Str)), (va T (5 : Int)), (va T x1), (va T (LF.mk ([MV.i ((1 : Int) * 2 ^ (y1).toNat)] : List MV))), (va T (LF.mk ([MV.i (1 : Int), MV.i (-(1 : Int))] : List MV))), (va T (LF.mk ([MV.b true] : List MV))), (va T (LF.mk ([MV.i (1 : Int), MV.o] : List MV))), (va T (LF.mk ([MV.o] : List MV))), (va T (LF.mk ([MV.o] : List MV))), (va T (LF.mk ([MV.i ((1 : Int) * 2 ^ (y1).toNat), MV.i (1 : Int)] : List MV))), (va T (LF.mk ([MV.i (-(1 : Int)), MV.i (1 : Int)] : List MV))), (va T (LF.mk ([MV.b true, MV.i (1 : Int)] : List MV))), (va T (LF.mk ([MV.o, MV.i (1 : Int)] : List MV))), (va T (LF.mk ([MV.o, MV.i (1 : Int)] : List MV))), (va T (LF.mk ([MV.o, MV.i (1 : Int)] : List MV)))]), some (va T aB), some (va T (LF.mk a53.l)), none] (stt Ω [] [])
          obtain ⟨z54, hz54, hm⟩ := bnd_some hm
          obtain ⟨z55, hz55, hm⟩ := bnd_some hm
          obtain ⟨z56, hz56, hm⟩ := bnd_some hm
          obtain ⟨z57, hz57, hm⟩ := bnd_some hm
          obtain ⟨z58, hz58, hm⟩ := bnd_some hm
          obtain ⟨z59, hz59, hm⟩ := bnd_some hm
          refine xs_ifF1 (xt_test (T := T) (xe_neK (chkP_some hz59) (by decide) (xe_fz (xn_lcA (ys := ([z55, z57] : List (EN Str))) (xi_tpA (xe_var (i := 4) rfl)) (by simp) (by rw [sizeLine_eq]; exact Nat.le_of_ble_eq_true rfl) (fun X => (.cons (xe_allB fun _ _ _ _ _ => xe_callLX (o := some z54) (xa_cons (xe_lamV (l := tbs T) (stt_getU hkT) (mem__law_rows_right T) hu__law_rows_right) xa_nil) (outc_r fun E F1 hw => xr_callFS (S := SF__law_rows_right T) rfl (.inl ⟨rfl, rfl⟩) (fun _ _ _ _ h => sub__law_rows_right_shift_row_up_5 h) (xa_cons (xe_var (i := 0) rfl) (xa_cons (xe_var (i := 7) rfl) (xa_cons (xe_var (i := 6) rfl) xa_nil))) ⟨k0, p0, x0, a53.l, aB, z54, rfl, (stt_getU hk0), hz54, rfl⟩ hw) (fun fL actL => ⟨some z54, z55, rfl, hz55, rfl⟩) cal0) (.cons (xe_allB fun _ _ _ _ _ => xe_callLX (o := some z56) (xa_cons (xe_lamV (l := tbs T) (stt_getU hkT) (mem__law_rows_right T) hu__law_rows_right) xa_nil) (outc_r fun E F1 hw => xr_callFS (S := SF__law_rows_right T) rfl (.inr (.inl ⟨rfl, rfl⟩)) (fun _ _ _ _ h => sub__law_rows_right_shift_row_down_5 h) (xa_cons (xe_var (i := 0) rfl) (xa_cons (xe_var (i := 7) rfl) (xa_cons (xe_var (i := 6) rfl) xa_nil))) ⟨k0, p0, x0, a53.l, aB, z56, rfl, (stt_getU hk0), hz56, rfl⟩ hw) (fun fL actL => ⟨some z56, z57, rfl, hz57, rfl⟩) cal0) .nil))))) (xe_enL (xe_rep (xe_lst (l := [("count" : Str)]) (xa_cons xe_str xa_nil) (by show 1 ≤ sizeLine; decide)) xe_int isLs_LF (chkP_some hz58))) isD_va isD_va)) ?_
          obtain rfl := Option.some.inj hm
          exact fun σ H n => hD.nx _ rfl σ H (n.forget 7)
        · subst es
          obtain ⟨s2, hs2, hm⟩ := bnd_some hm
          cases hs2
          obtain rfl := Option.some.inj hm
          exact fun σ H n => hD.nx _ rfl σ H (n.forget 6)
        · subst es
          cases hm
      · exact hQ.elim
      · show XS (tRet _) _ _ [some (vr p0), some (va T x1), some (va T x2), some (va T y1), some (tpA T [va T (FT.mk 2), va T (FT.mk 3)]), some (lsA [(va T ()), (va T ((1 : Int), (2 : Int))), (va T (DF.mk [])), (va T ("12" : Str)), (va T (5 : Int)), (va T x1), (va T (LF.mk ([MV.i ((1 : Int) * 2 ^ (y1).toNat)] : List MV))), (va T (LF.mk ([MV.i (1 : Int), MV.i (-(1 : Int))] : List MV))), (va T (LF.mk ([MV.b true] : List MV))), (va T (LF.mk ([MV.i (1 : Int), MV.o] : List MV))), (va T (LF.mk ([MV.o] : List MV))), (va T (LF.mk ([MV.o] : List MV))), (va T (LF.mk ([MV.i ((1 : Int) * 2 ^ (y1).toNat), MV.i (1 : Int)] : List MV))), (va T (LF.mk ([MV.i (-(1 : Int)), MV.i (1 : Int)] : List MV))), (va T (LF.mk ([MV.b true, MV.i (1 : Int)] : List MV))), (va T (LF.mk ([MV.o, MV.i (1 : Int)] : List MV))), (va T (LF.mk ([MV.o, MV.i (1 : Int)] : List MV))), (va T (LF.mk ([MV.o, MV.i (1 : Int)] : List MV)))]), none, none, none] (stt Ω [] [])
        obtain rfl := Option.some.inj hm
        refine xs_ret xe_bl hrt.all
def SpU_law_shift_left (T : TC) : Sp := fun vs H Q E => mkSpX (PreX_shift_left T) vs H Q E
theorem sub_law_shift_left_0 {T : TC} {vs : List V} {H : Hp} {Q : VK} {E : XK} (h : mkSpX (PreX_shift_left T) vs H Q E) : SpU_law_shift_left T vs H Q E := h
noncomputable def M_law (x0 : List Int) : Option Bool :=
  (M__law_cell_at x0 (0 : Int)).bind fun z1 => (chkP (([z1] : List Int).length + (cut x0 (some (1 : Int)) (some (4 : Int))).length ≤ sizeLine)).bind fun z2 => (forM' (ρ := Unit) (fun (a4 : Int) (s3 : Unit) => (M__law_source_of a4).bind fun z5 => (M__law_machine z5).bind fun z8 => (some ((z8.1.w, z8.1.c).1)).bind fun y11 => (chkP (CShl (1 : Int) y11)).bind fun z12 => (chkP (IntMulOk ((1 : Int) * 2 ^ (y11).toNat) (5 : Int))).bind fun z13 => (chkP (CPow (10 : Int) (30 : Int))).bind fun z14 => (M__law_one z8.2 ([(1 : Int), (-(1 : Int)), (((1 : Int) * 2 ^ (y11).toNat) * (5 : Int)), ((0 : Int) - ((10 : Int) ^ ((30 : Int)).toNat))] : List Int)).bind fun z15 => (M_big z8.1 z15.1).bind fun z16 => (chkP ((8 ≤ (if (decide ((8 : Int) < y11)) = true then ((39 : Int) - y11) else (9 : Int)) ∧ (if (decide ((8 : Int) < y11)) = true then ((39 : Int) - y11) else (9 : Int)) ≤ 30) ∧ 2 ≤ (4 : Int) ∧ (4 : Int) ≤ 1000)).bind fun z17 => (M_big (MS.fresh (if (decide ((8 : Int) < y11)) = true then ((39 : Int) - y11) else (9 : Int)) (4 : Int)) (70000 : Int)).bind fun z18 => (chkP (CPow (10 : Int) (9 : Int))).bind fun z19 => (M__law_next z15.2 ((10 : Int) ^ ((9 : Int)).toNat)).bind fun z20 => (some ((100001 : Int) + z20.1)).bind fun y21 => (chkP (IntMulOk (2 : Int) y11)).bind fun z22 => (chkP (CShl (7 : Int) ((2 : Int) * y11))).bind fun z23 => (M_big z8.1 ((7 : Int) * 2 ^ (((2 : Int) * y11)).toNat)).bind fun z24 => (chkP (CShl (9 : Int) y11)).bind fun z25 => (M_big z8.1 ((0 : Int) - ((9 : Int) * 2 ^ (y11).toNat))).bind fun z26 => (M_add z8.1 z24 z26).bind fun z27 => (some ((LF.mk z27.2.tally), (LF.mk z27.2.wk))).bind fun y28 => (M__law_next z20.2 (99 : Int)).bind fun z29 => (M__law_deep ((1998 : Int) - z29.1)).bind fun z30 => (M__law_next z29.2 (99 : Int)).bind fun z31 => (M__law_numbers_right z27.2 z18 z16 (((0 : Int) - (1 : Int)) - z31.1) z30).bind fun z32 => (chkP (z32 = true)).bind fun z33 => (M__law_rows_right z27.2 z16 z30).bind fun z34 => (chkP (z34 = true)).bind fun z35 => (chkP (CPow (10 : Int) (30 : Int))).bind fun z36 => (forM' (ρ := Unit) (fun (a38 : Int) (s37 : MS) => (X_shift_left s37 z16 a38).bind fun z39 => (M__law_said (some z39)).bind fun z40 => (chkP (Dat.ok z40 ∧ Dat.ok ("great" : Str))).bind fun z41 => (chkP ((!PyData.eqv (Dat.dat z40) (Dat.dat ("great" : Str))) = false)).bind fun z42 => some (Stp.nx s37)) ([(100001 : Int), y21, ((10 : Int) ^ ((30 : Int)).toNat)] : List Int) z27.2).bind fun z43 => (nxt z43).bind fun s44 => (chkP (y28 = ((LF.mk s44.tally), (LF.mk s44.wk)) ∧ Dat.ok y28)).bind fun z45 => (chkP ((LF.mk y28.2.l) ≠ (LF.mk ([] : List (T3 Str Int Int))) ∧ Dat.ok (LF.mk y28.2.l) ∧ Dat.ok (LF.mk ([] : List (T3 Str Int Int))))).bind fun z46 => (M_big s44 (0 : Int)).bind fun z53 => (M_shift_left s44 z53 y21).bind fun z54 => (M_shift_left z54.2 z16 (9 : Int)).bind fun z55 => (M_shift_right z55.2 z16 y21).bind fun z56 => (chkP (CShl (1 : Int) y11)).bind fun z57 => (M_shift_row_up z56.2 ([(((1 : Int) * 2 ^ (y11).toNat) - (1 : Int))] : List Int) (y11 - (1 : Int))).bind fun z58 => (chkP ((-(2 ^ 63) ≤ (4 : Int) ∧ (4 : Int) < 2 ^ 63) ∧ ([()] : List Unit).length * ((4 : Int)).toNat ≤ sizeLine)).bind fun z59 => (chkP ((LF.mk ([(EN.no : EN Str), (EN.no : EN Str), (EN.no : EN Str), (EN.no : EN Str)] : List (EN Str))) = (LF.mk (((List.replicate ((4 : Int)).toNat ([()] : List Unit)).flatten).map fun _ => (EN.no : (EN Str)))) ∧ Dat.ok (LF.mk ([(EN.no : EN Str), (EN.no : EN Str), (EN.no : EN Str), (EN.no : EN Str)] : List (EN Str))))).bind fun z60 => some (Stp.nx ())) (([z1] : List Int) ++ (cut x0 (some (1 : Int)) (some (4 : Int)))) ()).bind fun z61 => (nxt z61).bind fun s62 => some true
def Pre_law (T : TC) : PreT := fun As Ω R => ∃ (kT : Nat) (x0 : List Int) (r : Bool), As = [va T (SF.mk x0)] ∧ Ω[kT]? = some (tabA (tbs T)) ∧ M_law x0 = some r ∧ R = RV (va T r) (stt Ω [] [])
theorem sc_law : FnScope ["_law_script", "_law_cell", "_law_source", "_law_other", "_law_kept", "_law_deep_here", "_law_calls", "_law_bits_here", "_law_far", "_law_machine_here", "_law_one_here", "_law_x_here", "_law_call"] ["_law_script"] (defScope s_law) := ⟨rfl, rfl, rfl, by decide +kernel, rfl, by decide +kernel, by decide +kernel⟩
theorem ok_law {f : Addr} {fd : FuncData} (F : Fun T.K "law" "law" s_law f fd) (c__law_cell_at : Cal P w T.K mg base 1 "_law_cell_at" ["_law_script", "_law_index"] (mkSp (Pre__law_cell_at T))) (c__law_source_of : Cal P w T.K mg base 1 "_law_source_of" ["_law_cell"] (mkSp (Pre__law_source_of T))) (c__law_machine : Cal P w T.K mg base 5 "_law_machine" ["_law_source"] (mkSp (Pre__law_machine T))) (mc : MCls T.K (T.C 0)) (c_Mach_parts : CalM P w T.K mg base 1 (T.C 0) "parts" ["self"] (mkSp (Pre_Mach_parts T))) (c__law_one : Cal P w T.K mg base 2 "_law_one" ["_law_source", "_law_some"] (mkSp (Pre__law_one T))) (c_big : Cal P w T.K mg base 23 "big" ["machine", "n"] (mkSp (Pre_big T))) (c_Machine2 : CalC P w T.K mg base 3 "Machine" (T.C 0) ["self", "bits", "cutoff"] [] (mkSp (Pre_Machine T))) (c__law_next : Cal P w T.K mg base 1 "_law_next" ["_law_source", "_law_times"] (mkSp (Pre__law_next T))) (c_add : Cal P w T.K mg base 23 "add" ["machine", "x", "y"] (mkSp (Pre_add T))) (c_Mach_tally : CalM P w T.K mg base 1 (T.C 0) "tally" ["self"] (mkSp (Pre_Mach_tally T))) (c_Mach_walk : CalM P w T.K mg base 1 (T.C 0) "walk" ["self"] (mkSp (Pre_Mach_walk T))) (c__law_deep : Cal P w T.K mg base 1 "_law_deep" ["_law_times"] (mkSp (Pre__law_deep T))) (c__law_numbers_right : Cal P w T.K mg base 27 "_law_numbers_right" ["_law_machine_here", "_law_other", "_law_x_here", "_law_odd_count", "_law_deep_here"] (mkSp (Pre__law_numbers_right T))) (c__law_rows_right : Cal P w T.K mg base 27 "_law_rows_right" ["_law_machine_here", "_law_x_here", "_law_deep_here"] (mkSp (Pre__law_rows_right T))) (cu_law_shift_left : CalX P w T.K mg base 23 "shift_left" ["machine", "x", "count"] (SpU_law_shift_left T)) (c__law_said : CalLX P w T.K mg base 24 26 "_law_said" ["_law_call"] (Pre__law_said T)) (TB_law : LamX.TabB base mg (T.C 152) (T.C 102)) (hu_law : ∀ p ∈ tbs T, p.1 = T.C 102 → p.2 = qual_law) (hcd_law : CodeIs T.K f (T.C 152)) (c_shift_left : Cal P w T.K mg base 23 "shift_left" ["machine", "x", "count"] (mkSp (Pre_shift_left T))) (c_shift_right : Cal P w T.K mg base 23 "shift_right" ["machine", "x", "count"] (mkSp (Pre_shift_right T))) (c_shift_row_up : Cal P w T.K mg base 22 "shift_row_up" ["machine", "digits", "count"] (mkSp (Pre_shift_row_up T))) (c__law_said__n : CalLX P w T.K mg base 24 26 "_law_said" ["_law_call"] (Pre__law_said__n T)) : FnOk P w T.K mg base CX0 28 f fd ["_law_script"] (mkSp (Pre_law T)) := by
  refine fn_okC F hcd_law sc_law (fun As Ω R h => ?_) (fun A outer s H E hr As Ω R F0 h => ?_)
  · obtain ⟨kT, x0, r, rfl, _⟩ := h
    rfl
  obtain ⟨kT, x0, r, rfl, hkT, hm, rfl⟩ := h
  refine ⟨_, (pss_cons (ps_for PassesOwn.never rfl (pi_listK (K := T.K) (pe_op op_addQ (pe_lst (pa_cons (pe_cal c__law_cell_at (hr.mono (by decide)) (by rfl) (pa_cons (pv 0) (pa_cons pe_int pa_nil))) pa_nil)) (pe_slice (sl_listK (K := T.K) rfl) (pv 0) (po_some pe_int) (po_some pe_int))) rfl) (pg_name (i := 1) sc_law.nd rfl (.inl rfl)) (pss_cons (ps_set (i := 2) sc_law.nd rfl (.inl rfl) (pe_cal c__law_source_of (hr.mono (by decide)) (by rfl) (pa_cons (pv 1) pa_nil))) (pss_cons (ps_set (i := 9) sc_law.nd rfl (.inr rfl) (pe_cal c__law_machine (hr.mono (by decide)) (by rfl) (pa_cons (pv 2) pa_nil))) (pss_cons (ps_set (i := 7) sc_law.nd rfl (.inr rfl) (pe_ix (ix_seqK (K := T.K) rfl) (pe_calM0 (pv 9) c_Mach_parts (hr.mono (by decide))) pe_int (by intro _ _; rfl))) (pss_cons (ps_set (i := 11) sc_law.nd rfl (.inr rfl) (pe_cal c_big (hr.mono (by decide)) (by rfl) (pa_cons (pv 9) (pa_cons (pe_cal c__law_one (hr.mono (by decide)) (by rfl) (pa_cons (pv 2) (pa_cons (pe_lst (pa_cons pe_int (pa_cons (pe_un un_neg pe_int) (pa_cons (pe_op op_mulQ (pe_op op_shlW pe_int (pv 7)) pe_int) (pa_cons (pe_op op_sub pe_int (pe_op op_pow pe_int pe_int)) pa_nil))))) pa_nil))) pa_nil)))) (pss_cons (ps_set (i := 3) sc_law.nd rfl (.inl rfl) (pe_cal c_big (hr.mono (by decide)) (by rfl) (pa_cons (pe_calC c_Machine2 (hr.mono (by decide)) (by rfl) (pa_cons (pe_ifExp (pt_cmpR op_gt (pv 7) pe_int (nomark _)) (pe_op op_sub pe_int (pv 7)) pe_int) (pa_cons pe_int pa_nil))) (pa_cons pe_int pa_nil)))) (pss_cons (ps_set (i := 8) sc_law.nd rfl (.inr rfl) (pe_op op_addQ pe_int (pe_cal c__law_next (hr.mono (by decide)) (by rfl) (pa_cons (pv 2) (pa_cons (pe_op op_pow pe_int pe_int) pa_nil))))) (pss_cons (ps_expr (pe_cal c_add (hr.mono (by decide)) (by rfl) (pa_cons (pv 9) (pa_cons (pe_cal c_big (hr.mono (by decide)) (by rfl) (pa_cons (pv 9) (pa_cons (pe_op op_shlW pe_int (pe_op op_mulQ pe_int (pv 7))) pa_nil))) (pa_cons (pe_cal c_big (hr.mono (by decide)) (by rfl) (pa_cons (pv 9) (pa_cons (pe_op op_sub pe_int (pe_op op_shlW pe_int (pv 7))) pa_nil))) pa_nil))))) (pss_cons (ps_set (i := 4) sc_law.nd rfl (.inl rfl) (pe_tup (pa_cons (pe_calM0 (pv 9) c_Mach_tally (hr.mono (by decide))) (pa_cons (pe_calM0 (pv 9) c_Mach_walk (hr.mono (by decide))) pa_nil)))) (pss_cons (ps_set (i := 5) sc_law.nd rfl (.inl rfl) (pe_cal c__law_deep (hr.mono (by decide)) (by rfl) (pa_cons (pe_op op_sub pe_int (pe_cal c__law_next (hr.mono (by decide)) (by rfl) (pa_cons (pv 2) (pa_cons pe_int pa_nil)))) pa_nil))) (pss_cons (ps_if (pt_not (pt_val (pe_cal c__law_numbers_right (hr.mono (by decide)) (by rfl) (pa_cons (pv 9) (pa_cons (pv 3) (pa_cons (pv 11) (pa_cons (pe_op op_sub (pe_op op_sub pe_int pe_int) (pe_cal c__law_next (hr.mono (by decide)) (by rfl) (pa_cons (pv 2) (pa_cons pe_int pa_nil)))) (pa_cons (pv 5) pa_nil)))))))) pss_never pss_nil) (pss_cons (ps_if (pt_not (pt_val (pe_cal c__law_rows_right (hr.mono (by decide)) (by rfl) (pa_cons (pv 9) (pa_cons (pv 11) (pa_cons (pv 5) pa_nil)))))) pss_never pss_nil) (pss_cons (ps_for PassesOwn.never rfl (pi_tupK (K := T.K) (pe_tup (pa_cons pe_int (pa_cons (pv 8) (pa_cons (pe_op op_pow pe_int pe_int) pa_nil)))) rfl) (pg_name (i := 10) sc_law.nd rfl (.inr rfl)) (pss_one (ps_if (pt_cmpR (op_neXK (K := T.K) (by exact hr.units) rfl) (pe_callLXl c__law_said (hr.mono (by decide)) (by rfl) TB_law rfl (LamX.lamS_by (sc := defScope s_law) (by decide +kernel)) (fun E A outer s H f c' hr => by exact (pe_calX cu_law_shift_left (hr.mono (by decide)) (by rfl) (takes_of rfl rfl rfl rfl) (pa_cons (pv 9) (pa_cons (pv 11) (pa_cons (pv 10) pa_nil)))))) pe_str (nomark _)) pss_never pss_nil))) (pss_cons (ps_if (PW.pt (pw_or (pt_cmpR (op_neXK (K := T.K) (by exact hr.units) rfl) (pv 4) (pe_tup (pa_cons (pe_calM0 (pv 9) c_Mach_tally (hr.mono (by decide))) (pa_cons (pe_calM0 (pv 9) c_Mach_walk (hr.mono (by decide))) pa_nil))) (nomark _)) (pw_or1 (pt_cmpR (op_eqXK (K := T.K) (by exact hr.units) rfl) (pe_ix (ix_seqK (K := T.K) rfl) (pv 4) pe_int (by intro _ _; rfl)) (pe_lst pa_nil) (nomark _))))) pss_never pss_nil) (pss_cons (ps_set (i := 6) sc_law.nd rfl (.inl rfl) (pe_lst (pa_cons (pe_lamV (kl := 24) TB_law rfl (LamX.lamS_by (sc := defScope s_law) (by decide +kernel)) (fun E A outer s H f c' hr => by exact (pe_cal c_shift_left (hr.mono (by decide)) (by rfl) (pa_cons (pv 9) (pa_cons (pe_cal c_big (hr.mono (by decide)) (by rfl) (pa_cons (pv 9) (pa_cons pe_int pa_nil))) (pa_cons (pv 8) pa_nil)))))) pa_nil))) (pss_cons (ps_expr (pe_bm PySem.F.plainAttrs_list PySem.F.slot_list_append PySem.F.type_list_append mt_append (pv 6) (pa_cons (pe_lamV (kl := 24) TB_law rfl (LamX.lamS_by (sc := defScope s_law) (by decide +kernel)) (fun E A outer s H f c' hr => by exact (pe_cal c_shift_left (hr.mono (by decide)) (by rfl) (pa_cons (pv 9) (pa_cons (pv 11) (pa_cons pe_int pa_nil)))))) pa_nil))) (pss_cons (ps_expr (pe_bm PySem.F.plainAttrs_list PySem.F.slot_list_append PySem.F.type_list_append mt_append (pv 6) (pa_cons (pe_lamV (kl := 24) TB_law rfl (LamX.lamS_by (sc := defScope s_law) (by decide +kernel)) (fun E A outer s H f c' hr => by exact (pe_cal c_shift_right (hr.mono (by decide)) (by rfl) (pa_cons (pv 9) (pa_cons (pv 11) (pa_cons (pv 8) pa_nil)))))) pa_nil))) (pss_cons (ps_expr (pe_bm PySem.F.plainAttrs_list PySem.F.slot_list_append PySem.F.type_list_append mt_append (pv 6) (pa_cons (pe_lamV (kl := 24) TB_law rfl (LamX.lamS_by (sc := defScope s_law) (by decide +kernel)) (fun E A outer s H f c' hr => by exact (pe_cal c_shift_row_up (hr.mono (by decide)) (by rfl) (pa_cons (pv 9) (pa_cons (pe_lst (pa_cons (pe_op op_sub (pe_op op_shlW pe_int (pv 7)) pe_int) pa_nil)) (pa_cons (pe_op op_sub (pv 7) pe_int) pa_nil)))))) pa_nil))) (pss_one (ps_if (pt_cmpR (op_neXK (K := T.K) (by exact hr.units) rfl) (pe_lcF (own := [("_law_call", 12)]) rfl sc_law.nd (pi_listK (K := T.K) (pv 6) rfl) (blkOk_by (N := ["_law_script", "_law_cell", "_law_source", "_law_other", "_law_kept", "_law_deep_here", "_law_calls", "_law_bits_here", "_law_far", "_law_machine_here", "_law_one_here", "_law_x_here", "_law_call"]) (sc := defScope s_law) (by decide +kernel)) (fun _ _ _ _ _ => (pg_name (i := 12) sc_law.nd rfl (.inl rfl))) (fun _ _ _ _ _ _ _ => PTr.of pts_nil) (fun σ s H C cl fp hat => per_callBX (i := 12) c__law_said__n (hr.mono (by decide)) hat (by rfl) rfl (.inl rfl))) (pe_op op_mulQ (pe_lst (pa_cons pe_non pa_nil)) pe_int) (nomark _)) pss_never pss_nil)))))))))))))))))))) (pss_one (ps_ret pe_bl))), fun D hrt hnx => ?_⟩
  have ok : Okk Ω [] := okk0
  suffices hx : XS _ D F0 [some (va T (SF.mk x0)), none, none, none, none, none, none, none, none, none, none, none, none] (stt Ω [] []) by
    rw [show (stt Ω [] []) = Ω from stt_self (by simp)] at hx
    exact hx
  unfold M_law at hm
  obtain ⟨z1, hz1, hm⟩ := bnd_some hm
  obtain ⟨z2, hz2, hm⟩ := bnd_some hm
  obtain ⟨z61, hz61, hm⟩ := bnd_some hm
  refine xs_forS (fun (s3 : Unit) => [some (va T (SF.mk x0)), none, none, none, none, none, none, none, none, none, none, none, none]) (fun (s3 : Unit) => (stt Ω [] [])) (fun (_ : Unit) _ _ _ => False) hz61 (xi_LF (xe_cat (xe_lst (l := [z1]) (xa_cons (xe_call (xa_cons (xe_var (i := 0) rfl) (xa_cons xe_int xa_nil)) ⟨x0, (0 : Int), z1, rfl, hz1, rfl⟩ cal0) xa_nil) (by show 1 ≤ sizeLine; decide)) (xe_sliceL (xe_var (i := 0) rfl) (xo_some (T := T) xe_int) (xo_some (T := T) xe_int) isL_SF) isLs_LF isLs_LF (chkP_some hz2))) (fun _ => tgt_name) (fun a4 s3 s' ha hm F1 D1 e1 hD => ?_) (fun s62 es => ?_) (fun r1 es => ?_)
  · show XS (tSeq _ _) _ _ [some (va T (SF.mk x0)), some (va T a4), none, none, none, none, none, none, none, none, none, none, none] (stt Ω [] [])
    obtain ⟨z5, hz5, hm⟩ := bnd_some hm
    refine xs_setO (xn_call (xa_cons (xe_var (i := 1) rfl) xa_nil) ⟨a4, z5, rfl, hz5, rfl⟩ cal0) (fun pp6 => ?_)
    show XS (tSeq _ _) _ _ [some (va T (SF.mk x0)), some (va T a4), some (vr pp6), none, none, none, none, none, none, none, none, none, none] (stt Ω [] [lstA T pp6 (z5 : List Int)])
    obtain ⟨z8, hz8, hm⟩ := bnd_some hm
    refine xs_setO (xn_call (xa_cons (xe_var (i := 2) rfl) xa_nil) ⟨(Ω.length + 0), pp6, z5, z8, rfl, (stt_getL (j := 0) rfl), hz8, rfl⟩ (cal1L (j := 0))) (fun pp9 => ?_)
    show XS (tSeq _ _) _ _ [some (va T (SF.mk x0)), some (va T a4), some (vr pp6), none, none, none, none, none, none, some (vr pp9), none, none, none] (stt Ω [] [lstA T pp6 (z8.2 : List Int), machA T pp9 z8.1])
    obtain ⟨y11, hy11, hm⟩ := bnd_some hm
    refine xs_set (A := va T y11) (xe_eq (xe_fst (xe_mcall (xe_var (i := 9) rfl) (stt_getL (j := 1) rfl) xa_nil ⟨(Ω.length + 1), pp9, z8.1, rfl, (stt_getL (j := 1) rfl), rfl⟩ rfl)) (Option.some.inj hy11)) ?_
    show XS (tSeq _ _) _ _ [some (va T (SF.mk x0)), some (va T a4), some (vr pp6), none, none, none, none, some (va T y11), none, some (vr pp9), none, none, none] (stt Ω [] [lstA T pp6 (z8.2 : List Int), machA T pp9 z8.1])
    obtain ⟨z12, hz12, hm⟩ := bnd_some hm
    obtain ⟨z13, hz13, hm⟩ := bnd_some hm
    obtain ⟨z14, hz14, hm⟩ := bnd_some hm
    obtain ⟨z15, hz15, hm⟩ := bnd_some hm
    obtain ⟨z16, hz16, hm⟩ := bnd_some hm
    refine xs_set (A := va T z16) (xe_call (xa_cons (xe_var (i := 9) rfl) (xa_cons (xe_call (xa_cons (xe_var (i := 2) rfl) (xa_cons (xe_lst (l := [(1 : Int), (-(1 : Int)), (((1 : Int) * 2 ^ (y11).toNat) * (5 : Int)), ((0 : Int) - ((10 : Int) ^ ((30 : Int)).toNat))]) (xa_cons xe_int (xa_cons (xe_neg xe_int) (xa_cons (xe_mul (chkP_some hz13) (xe_shl (chkP_some hz12) xe_int (xe_var (i := 7) rfl)) xe_int) (xa_cons (xe_sub xe_int (xe_pow (chkP_some hz14) xe_int xe_int)) xa_nil)))) (by show 4 ≤ sizeLine; decide)) xa_nil)) ⟨(Ω.length + 0), pp6, z8.2, ([(1 : Int), (-(1 : Int)), (((1 : Int) * 2 ^ (y11).toNat) * (5 : Int)), ((0 : Int) - ((10 : Int) ^ ((30 : Int)).toNat))] : List Int), z15, rfl, (stt_getL (j := 0) rfl), hz15, rfl⟩ (cal1L (j := 0))) xa_nil)) ⟨(Ω.length + 1), pp9, z8.1, z15.1, z16, rfl, (stt_getL (j := 1) rfl), hz16, rfl⟩ cal0) ?_
    show XS (tSeq _ _) _ _ [some (va T (SF.mk x0)), some (va T a4), some (vr pp6), none, none, none, none, some (va T y11), none, some (vr pp9), none, some (va T z16), none] (stt Ω [] [lstA T pp6 (z15.2 : List Int), machA T pp9 z8.1])
    obtain ⟨z17, hz17, hm⟩ := bnd_some hm
    obtain ⟨z18, hz18, hm⟩ := bnd_some hm
    refine xs_set (A := va T z18) (xe_callF (xn_make (Ds := []) (xa_cons (xe_ite (xt_test (T := T) (xe_gt (xe_var (i := 7) rfl) xe_int)) (xe_sub xe_int (xe_var (i := 7) rfl)) xe_int) (xa_cons xe_int xa_nil)) (fun _ => .nil) (fun q => ⟨_, q, (if (decide ((8 : Int) < y11)) = true then ((39 : Int) - y11) else (9 : Int)), (4 : Int), rfl, chkP_some hz17, rfl, rfl⟩)) (fun q => (xa_cons xe_int xa_nil)) (fun q => ⟨(Ω.length + 2), q, (MS.fresh (if (decide ((8 : Int) < y11)) = true then ((39 : Int) - y11) else (9 : Int)) (4 : Int)), (70000 : Int), z18, rfl, (stt_getL (j := 2) rfl), hz18, rfl⟩) (fun q => cal0)) ?_
    show XS (tSeq _ _) _ _ [some (va T (SF.mk x0)), some (va T a4), some (vr pp6), some (va T z18), none, none, none, some (va T y11), none, some (vr pp9), none, some (va T z16), none] (stt Ω [] [lstA T pp6 (z15.2 : List Int), machA T pp9 z8.1])
    obtain ⟨z19, hz19, hm⟩ := bnd_some hm
    obtain ⟨z20, hz20, hm⟩ := bnd_some hm
    obtain ⟨y21, hy21, hm⟩ := bnd_some hm
    refine xs_set (A := va T y21) (xe_eq (xe_add xe_int (xe_call (xa_cons (xe_var (i := 2) rfl) (xa_cons (xe_pow (chkP_some hz19) xe_int xe_int) xa_nil)) ⟨(Ω.length + 0), pp6, z15.2, ((10 : Int) ^ ((9 : Int)).toNat), z20, rfl, (stt_getL (j := 0) rfl), hz20, rfl⟩ (cal1L (j := 0)))) (Option.some.inj hy21)) ?_
    show XS (tSeq _ _) _ _ [some (va T (SF.mk x0)), some (va T a4), some (vr pp6), some (va T z18), none, none, none, some (va T y11), some (va T y21), some (vr pp9), none, some (va T z16), none] (stt Ω [] [lstA T pp6 (z20.2 : List Int), machA T pp9 z8.1])
    obtain ⟨z22, hz22, hm⟩ := bnd_some hm
    obtain ⟨z23, hz23, hm⟩ := bnd_some hm
    obtain ⟨z24, hz24, hm⟩ := bnd_some hm
    obtain ⟨z25, hz25, hm⟩ := bnd_some hm
    obtain ⟨z26, hz26, hm⟩ := bnd_some hm
    obtain ⟨z27, hz27, hm⟩ := bnd_some hm
    refine xs_drop (xe_call (xa_cons (xe_var (i := 9) rfl) (xa_cons (xe_call (xa_cons (xe_var (i := 9) rfl) (xa_cons (xe_shl (chkP_some hz23) xe_int (xe_mul (chkP_some hz22) xe_int (xe_var (i := 7) rfl))) xa_nil)) ⟨(Ω.length + 1), pp9, z8.1, ((7 : Int) * 2 ^ (((2 : Int) * y11)).toNat), z24, rfl, (stt_getL (j := 1) rfl), hz24, rfl⟩ cal0) (xa_cons (xe_call (xa_cons (xe_var (i := 9) rfl) (xa_cons (xe_sub xe_int (xe_shl (chkP_some hz25) xe_int (xe_var (i := 7) rfl))) xa_nil)) ⟨(Ω.length + 1), pp9, z8.1, ((0 : Int) - ((9 : Int) * 2 ^ (y11).toNat)), z26, rfl, (stt_getL (j := 1) rfl), hz26, rfl⟩ cal0) xa_nil))) ⟨(Ω.length + 1), pp9, z8.1, z24, z26, z27, rfl, (stt_getL (j := 1) rfl), hz27, rfl⟩ (cal1L (j := 1))) ?_
    show XS (tSeq _ _) _ _ [some (va T (SF.mk x0)), some (va T a4), some (vr pp6), some (va T z18), none, none, none, some (va T y11), some (va T y21), some (vr pp9), none, some (va T z16), none] (stt Ω [] [lstA T pp6 (z20.2 : List Int), machA T pp9 z27.2])
    obtain ⟨y28, hy28, hm⟩ := bnd_some hm
    refine xs_set (A := va T y28) (xe_eq (xe_tup2 (xa_cons (xe_mcall (xe_var (i := 9) rfl) (stt_getL (j := 1) rfl) xa_nil ⟨(Ω.length + 1), pp9, z27.2, rfl, (stt_getL (j := 1) rfl), rfl⟩ rfl) (xa_cons (xe_mcall (xe_var (i := 9) rfl) (stt_getL (j := 1) rfl) xa_nil ⟨(Ω.length + 1), pp9, z27.2, rfl, (stt_getL (j := 1) rfl), rfl⟩ rfl) xa_nil))) (Option.some.inj hy28)) ?_
    show XS (tSeq _ _) _ _ [some (va T (SF.mk x0)), some (va T a4), some (vr pp6), some (va T z18), some (va T y28), none, none, some (va T y11), some (va T y21), some (vr pp9), none, some (va T z16), none] (stt Ω [] [lstA T pp6 (z20.2 : List Int), machA T pp9 z27.2])
    obtain ⟨z29, hz29, hm⟩ := bnd_some hm
    obtain ⟨z30, hz30, hm⟩ := bnd_some hm
    refine xs_set (A := va T z30) (xe_call (xa_cons (xe_sub xe_int (xe_call (xa_cons (xe_var (i := 2) rfl) (xa_cons xe_int xa_nil)) ⟨(Ω.length + 0), pp6, z20.2, (99 : Int), z29, rfl, (stt_getL (j := 0) rfl), hz29, rfl⟩ (cal1L (j := 0)))) xa_nil) ⟨((1998 : Int) - z29.1), z30, rfl, hz30, rfl⟩ cal0) ?_
    show XS (tSeq _ _) _ _ [some (va T (SF.mk x0)), some (va T a4), some (vr pp6), some (va T z18), some (va T y28), some (va T z30), none, some (va T y11), some (va T y21), some (vr pp9), none, some (va T z16), none] (stt Ω [] [lstA T pp6 (z29.2 : List Int), machA T pp9 z27.2])
    obtain ⟨z31, hz31, hm⟩ := bnd_some hm
    obtain ⟨z32, hz32, hm⟩ := bnd_some hm
    obtain ⟨z33, hz33, hm⟩ := bnd_some hm
    refine xs_ifN (xt_notF (xt_eq (xt_tB (T := T) (xe_call (xa_cons (xe_var (i := 9) rfl) (xa_cons (xe_var (i := 3) rfl) (xa_cons (xe_var (i := 11) rfl) (xa_cons (xe_sub (xe_sub xe_int xe_int) (xe_call (xa_cons (xe_var (i := 2) rfl) (xa_cons xe_int xa_nil)) ⟨(Ω.length + 0), pp6, z29.2, (99 : Int), z31, rfl, (stt_getL (j := 0) rfl), hz31, rfl⟩ (cal1L (j := 0)))) (xa_cons (xe_var (i := 5) rfl) xa_nil))))) ⟨kT, (Ω.length + 1), pp9, z27.2, z18, z16, (((0 : Int) - (1 : Int)) - z31.1), z30, z32, rfl, (stt_getU hkT), (stt_getL (j := 1) rfl), (ne_kL (by exact getlt hkT)).symm, hz32, rfl⟩ cal0)) (chkP_some hz33))) ?_
    show XS (tSeq _ _) _ _ [some (va T (SF.mk x0)), some (va T a4), some (vr pp6), some (va T z18), some (va T y28), some (va T z30), none, some (va T y11), some (va T y21), some (vr pp9), none, some (va T z16), none] (stt Ω [] [lstA T pp6 (z31.2 : List Int), machA T pp9 z27.2])
    obtain ⟨z34, hz34, hm⟩ := bnd_some hm
    obtain ⟨z35, hz35, hm⟩ := bnd_some hm
    refine xs_ifN (xt_notF (xt_eq (xt_tB (T := T) (xe_call (xa_cons (xe_var (i := 9) rfl) (xa_cons (xe_var (i := 11) rfl) (xa_cons (xe_var (i := 5) rfl) xa_nil))) ⟨kT, (Ω.length + 1), pp9, z27.2, z16, z30, z34, rfl, (stt_getU hkT), (stt_getL (j := 1) rfl), (ne_kL (by exact getlt hkT)).symm, hz34, rfl⟩ cal0)) (chkP_some hz35))) ?_
    show XS (tSeq _ _) _ _ [some (va T (SF.mk x0)), some (va T a4), some (vr pp6), some (va T z18), some (va T y28), some (va T z30), none, some (va T y11), some (va T y21), some (vr pp9), none, some (va T z16), none] (stt Ω [] [lstA T pp6 (z31.2 : List Int), machA T pp9 z27.2])
    obtain ⟨z36, hz36, hm⟩ := bnd_some hm
    obtain ⟨z43, hz43, hm⟩ := bnd_some hm
    refine xs_forS (fun (s37 : MS) => [some (va T (SF.mk x0)), some (va T a4), some (vr pp6), some (va T z18), some (va T y28), some (va T z30), none, some (va T y11), some (va T y21), some (vr pp9), none, some (va T z16), none]) (fun (s37 : MS) => (stt Ω [] [lstA T pp6 (z31.2 : List Int), machA T pp9 s37])) (fun (_ : Unit) _ _ _ => False) hz43 (xi_TF (xe_tupF (l := [(100001 : Int), y21, ((10 : Int) ^ ((30 : Int)).toNat)]) (xa_cons xe_int (xa_cons (xe_var (i := 8) rfl) (xa_cons (xe_pow (chkP_some hz36) xe_int xe_int) xa_nil))) (by show 3 ≤ sizeLine; decide))) (fun _ => tgt_name) (fun a38 s37 s' ha hm F1 D1 e1 hD => ?_) (fun s44 es => ?_) (fun r1 es => ?_)
    · show XS (tIfS _ _ _) _ _ [some (va T (SF.mk x0)), some (va T a4), some (vr pp6), some (va T z18), some (va T y28), some (va T z30), none, some (va T y11), some (va T y21), some (vr pp9), some (va T a38), some (va T z16), none] (stt Ω [] [lstA T pp6 (z31.2 : List Int), machA T pp9 s37])
      obtain ⟨z39, hz39, hm⟩ := bnd_some hm
      obtain ⟨z40, hz40, hm⟩ := bnd_some hm
      obtain ⟨z41, hz41, hm⟩ := bnd_some hm
      obtain ⟨z42, hz42, hm⟩ := bnd_some hm
      refine xs_ifF1 (xt_eq (xt_test (T := T) (xe_neH (chkP_some hz41) (by decide) (by decide) (xe_callLX (o := some z39) (xa_cons (xe_lamV (l := tbs T) (stt_getU hkT) (mem_law T) hu_law) xa_nil) (outc_r fun E F1 hw => xr_callU (fun _ _ _ _ h => sub_law_shift_left_0 h) (xa_cons (xe_var (i := 9) rfl) (xa_cons (xe_var (i := 11) rfl) (xa_cons (xe_var (i := 10) rfl) xa_nil))) ⟨(Ω.length + 1), pp9, s37, z16, a38, z39, rfl, (stt_getL (j := 1) rfl), hz39, rfl⟩ hw) (fun fL actL => ⟨some z39, z40, rfl, hz40, rfl⟩) cal0) xe_str isD_va isD_va)) (chkP_some hz42)) ?_
      obtain rfl := Option.some.inj hm
      exact fun σ H n => hD.nx _ rfl σ H (n.forget 10)
    · subst es
      obtain ⟨s2, hs2, hm⟩ := bnd_some hm
      cases hs2
      show XS (tSeq _ _) _ _ [some (va T (SF.mk x0)), some (va T a4), some (vr pp6), some (va T z18), some (va T y28), some (va T z30), none, some (va T y11), some (va T y21), some (vr pp9), none, some (va T z16), none] (stt Ω [] [lstA T pp6 (z31.2 : List Int), machA T pp9 s44])
      obtain ⟨z45, hz45, hm⟩ := bnd_some hm
      obtain ⟨z46, hz46, hm⟩ := bnd_some hm
      refine xs_ifN (xt_orF (xt_test (T := T) (xe_neK (chkP_some hz45) (by decide) (xe_var (i := 4) rfl) (xe_tup2 (xa_cons (xe_mcall (xe_var (i := 9) rfl) (stt_getL (j := 1) rfl) xa_nil ⟨(Ω.length + 1), pp9, s44, rfl, (stt_getL (j := 1) rfl), rfl⟩ rfl) (xa_cons (xe_mcall (xe_var (i := 9) rfl) (stt_getL (j := 1) rfl) xa_nil ⟨(Ω.length + 1), pp9, s44, rfl, (stt_getL (j := 1) rfl), rfl⟩ rfl) xa_nil))) isD_va isD_va)) (xt_test (T := T) (xe_eqU (chkP_some hz46) (by decide) (xe_snd (xe_var (i := 4) rfl)) (xe_lst (T := T) (l := ([] : List (T3 Str Int Int))) xa_nil (Nat.zero_le _)) isD_va isD_va))) ?_
      show XS (tSeq _ _) _ _ [some (va T (SF.mk x0)), some (va T a4), some (vr pp6), some (va T z18), some (va T y28), some (va T z30), none, some (va T y11), some (va T y21), some (vr pp9), none, some (va T z16), none] (stt Ω [] [lstA T pp6 (z31.2 : List Int), machA T pp9 s44])
      refine xs_setO (xn_lstV (xa_cons (xe_lamV (l := tbs T) (stt_getU hkT) (mem_law T) hu_law) xa_nil) (by rw [sizeLine_eq]; exact Nat.le_of_ble_eq_true rfl)) (fun pV => ?_)
      refine xs_drop (xe_appV (xe_var (i := 6) rfl) (xe_lamV (l := tbs T) (stt_getU hkT) (mem_law T) hu_law) (by rw [sizeLine_eq]; exact Nat.le_of_ble_eq_true rfl)) ?_
      refine xs_drop (xe_appV (xe_var (i := 6) rfl) (xe_lamV (l := tbs T) (stt_getU hkT) (mem_law T) hu_law) (by rw [sizeLine_eq]; exact Nat.le_of_ble_eq_true rfl)) ?_
      refine xs_drop (xe_appV (xe_var (i := 6) rfl) (xe_lamV (l := tbs T) (stt_getU hkT) (mem_law T) hu_law) (by rw [sizeLine_eq]; exact Nat.le_of_ble_eq_true rfl)) ?_
      refine xs_fzV (k := 6) rfl ?_
      show XS (tIfS _ _ _) _ _ [some (va T (SF.mk x0)), some (va T a4), some (vr pp6), some (va T z18), some (va T y28), some (va T z30), some (lsA [lamV _ _, lamV _ _, lamV _ _, lamV _ _]), some (va T y11), some (va T y21), some (vr pp9), none, some (va T z16), none] (stt Ω [] [lstA T pp6 (z31.2 : List Int), machA T pp9 s44])
      obtain ⟨z53, hz53, hm⟩ := bnd_some hm
      obtain ⟨z54, hz54, hm⟩ := bnd_some hm
      obtain ⟨z55, hz55, hm⟩ := bnd_some hm
      obtain ⟨z56, hz56, hm⟩ := bnd_some hm
      obtain ⟨z57, hz57, hm⟩ := bnd_some hm
      obtain ⟨z58, hz58, hm⟩ := bnd_some hm
      obtain ⟨z59, hz59, hm⟩ := bnd_some hm
      obtain ⟨z60, hz60, hm⟩ := bnd_some hm
      refine xs_ifF1 (xt_test (T := T) (xe_neK (chkP_some hz60) (by decide) (xe_fz (xn_lcAS (ys := ([(EN.no : EN Str), (EN.no : EN Str), (EN.no : EN Str), (EN.no : EN Str)] : List (EN Str))) (s0 := ([], [lstA T pp6 (z31.2 : List Int), machA T pp9 s44])) (s1 := ([], [lstA T pp6 (z31.2 : List Int), machA T pp9 z58.2])) (xi_lsA (xe_var (i := 6) rfl)) (by simp) (by rw [sizeLine_eq]; exact Nat.le_of_ble_eq_true rfl) (.cons (s1 := ([], [lstA T pp6 (z31.2 : List Int), machA T pp9 z54.2])) (fun X => xe_callBX (o := none) (Nat.le_of_ble_eq_true rfl) rfl (by simp) (outc_n fun _ => ⟨_, (xe_call (xa_cons (xe_var (i := 9) rfl) (xa_cons (xe_call (xa_cons (xe_var (i := 9) rfl) (xa_cons xe_int xa_nil)) ⟨(Ω.length + 1), pp9, s44, (0 : Int), z53, rfl, (stt_getL (j := 1) rfl), hz53, rfl⟩ cal0) (xa_cons (xe_var (i := 8) rfl) xa_nil))) ⟨(Ω.length + 1), pp9, s44, z53, y21, z54, rfl, (stt_getL (j := 1) rfl), hz54, rfl⟩ (cal1L (j := 1)))⟩) (fun fL actL => ⟨_, rfl, rfl⟩) cal0) (.cons (s1 := ([], [lstA T pp6 (z31.2 : List Int), machA T pp9 z55.2])) (fun X => xe_callBX (o := none) (Nat.le_of_ble_eq_true rfl) rfl (by simp) (outc_n fun _ => ⟨_, (xe_call (xa_cons (xe_var (i := 9) rfl) (xa_cons (xe_var (i := 11) rfl) (xa_cons xe_int xa_nil))) ⟨(Ω.length + 1), pp9, z54.2, z16, (9 : Int), z55, rfl, (stt_getL (j := 1) rfl), hz55, rfl⟩ (cal1L (j := 1)))⟩) (fun fL actL => ⟨_, rfl, rfl⟩) cal0) (.cons (s1 := ([], [lstA T pp6 (z31.2 : List Int), machA T pp9 z56.2])) (fun X => xe_callBX (o := none) (Nat.le_of_ble_eq_true rfl) rfl (by simp) (outc_n fun _ => ⟨_, (xe_call (xa_cons (xe_var (i := 9) rfl) (xa_cons (xe_var (i := 11) rfl) (xa_cons (xe_var (i := 8) rfl) xa_nil))) ⟨(Ω.length + 1), pp9, z55.2, z16, y21, z56, rfl, (stt_getL (j := 1) rfl), hz56, rfl⟩ (cal1L (j := 1)))⟩) (fun fL actL => ⟨_, rfl, rfl⟩) cal0) (.cons (s1 := ([], [lstA T pp6 (z31.2 : List Int), machA T pp9 z58.2])) (fun X => xe_callBX (o := none) (Nat.le_of_ble_eq_true rfl) rfl (by simp) (outc_n fun _ => ⟨_, (xe_call (xa_cons (xe_var (i := 9) rfl) (xa_cons (xe_lst (l := [(((1 : Int) * 2 ^ (y11).toNat) - (1 : Int))]) (xa_cons (xe_sub (xe_shl (chkP_some hz57) xe_int (xe_var (i := 7) rfl)) xe_int) xa_nil) (by show 1 ≤ sizeLine; decide)) (xa_cons (xe_sub (xe_var (i := 7) rfl) xe_int) xa_nil))) ⟨(Ω.length + 1), pp9, z56.2, ([(((1 : Int) * 2 ^ (y11).toNat) - (1 : Int))] : List Int), (y11 - (1 : Int)), z58, rfl, (stt_getL (j := 1) rfl), hz58, rfl⟩ (cal1L (j := 1)))⟩) (fun fL actL => ⟨_, rfl, rfl⟩) cal0) .nil)))))) (xe_enNL (xe_rep (xe_lst (l := [()]) (xa_cons xe_non xa_nil) (by show 1 ≤ sizeLine; decide)) xe_int isLs_LF (chkP_some hz59))) isD_va isD_va)) ?_
      obtain rfl := Option.some.inj hm
      exact fun σ H n => hD.nx _ rfl σ H (NX.cutL [] [lstA T pp6 (z31.2 : List Int), machA T pp9 z58.2] ((((((((((n.forget 2).forget 9).forget 7).forget 11).forget 3).forget 8).forget 4).forget 5).forget 6).forget 1))
    · subst es
      cases hm
  · subst es
    obtain ⟨s2, hs2, hm⟩ := bnd_some hm
    cases hs2
    show XS (tRet _) _ _ [some (va T (SF.mk x0)), none, none, none, none, none, none, none, none, none, none, none, none] (stt Ω [] [])
    obtain rfl := Option.some.inj hm
    refine xs_ret xe_bl hrt.all
  · subst es
    cases hm
end
end P

set_option Elab.async false
set_option linter.all false
set_option maxRecDepth 100000
set_option exponentiation.threshold 4000
namespace P
open PySem L2 VL
/-- a source: three numbers -/
def Src (s : List Int) : Prop := ∃ a b c : Int, s = [a, b, c]
theorem cdiv_log {i j : Int} (h : 0 < j) (h2 : j.natAbs.log2 < 9000) : CDivW i j := ⟨h, h2⟩
theorem cdiv_small {i j : Int} (h : 0 < j) (h2 : j < 2 ^ 64) : CDivW i j := ⟨h, by
  have : j.natAbs < 2 ^ 64 := by omega
  have h0 : j.natAbs ≠ 0 := by omega
  have := (Nat.log2_lt h0 (k := 64)).mpr this
  omega⟩
theorem mul_l {a b : Int} (h1 : -(2 ^ 64) < a) (h2 : a < 2 ^ 64) : IntMulOk a b := .of_left (intBits_le_64 h1 h2)
theorem mul_r {a b : Int} (h1 : -(2 ^ 64) < b) (h2 : b < 2 ^ 64) : IntMulOk a b := .of_right (intBits_le_64 h1 h2)
theorem next_log {s : List Int} {m : Int} (hs : Src s) (h : 0 < m) (h2 : m.natAbs.log2 < 9000) : ∃ r s', M__law_next s m = some (r, s') ∧ Src s' ∧ 0 ≤ r ∧ r < m := by
  obtain ⟨a, b, c, rfl⟩ := hs
  unfold M__law_next
  rw [show atI [a, b, c] (0 : Int) = some a from rfl]
  simp only [Option.bind_some]
  by_cases ha : (0 : Int) < a
  · rw [if_pos (decide_eq_true ha), chkP_eq h, chkP_eq (cdiv_log h h2)]
    exact ⟨_, _, rfl, ⟨_, _, _, rfl⟩, Int.emod_nonneg _ (by omega), Int.emod_lt_of_pos _ h⟩
  · rw [if_neg (by simpa using ha)]
    rw [show atI [a, b, c] (2 : Int) = some c from rfl]
    simp only [Option.bind_some]
    rw [show ixN [a, b, c].length (2 : Int) = some 2 from rfl]
    simp only [Option.bind_some]
    rw [show [a, b, c].set 2 (c + 1) = [a, b, c + 1] from rfl, show atI [a, b, c + 1] (1 : Int) = some b from rfl, show atI [a, b, c + 1] (2 : Int) = some (c + 1) from rfl]
    simp only [Option.bind_some]
    rw [chkP_eq (mul_l (by decide) (by decide)), chkP_eq (by decide : (0 : Int) < 2147483647)]
    simp only [Option.bind_some]
    generalize hy : ((b + 104729 * (c + 1)) + 7919) % (2147483647 : Int) = y
    have hy1 : 0 ≤ y ∧ y < 2147483647 := by omega
    generalize hz : (y * 48271) % (2147483647 : Int) = z
    have hz1 : 0 ≤ z ∧ z < 2147483647 := by omega
    generalize hu : (z * ((z / 1009) + 69621)) % (2147483647 : Int) = u
    have hu1 : 0 ≤ u ∧ u < 2147483647 := by rw [← hu]; exact ⟨Int.emod_nonneg _ (by decide), Int.emod_lt_of_pos _ (by decide)⟩
    rw [chkP_eq (mul_r (by decide) (by decide)), chkP_eq (cdiv_small (by decide) (by decide)), chkP_eq (mul_l (by omega) (by omega)), chkP_eq (cdiv_small (by decide) (by decide)), chkP_eq (mul_l (by omega) (by omega)),
      chkP_eq (by decide : (0 : Int) < 2147483399), chkP_eq (cdiv_small (by decide) (by decide)), chkP_eq h]
    exact ⟨_, _, rfl, ⟨_, _, _, rfl⟩, Int.emod_nonneg _ (by omega), Int.emod_lt_of_pos _ h⟩
theorem next_ok {s : List Int} {m : Int} (hs : Src s) (h : 0 < m) (h2 : m < 2 ^ 64) : ∃ r s', M__law_next s m = some (r, s') ∧ Src s' ∧ 0 ≤ r ∧ r < m := next_log hs h (cdiv_small (i := 0) h h2).2
theorem one_ok {s l : List Int} (hs : Src s) (h : l ≠ []) (h2 : l.length < 100) : ∃ r s', M__law_one s l = some (r, s') ∧ Src s' ∧ r ∈ l := by
  have hp : 0 < l.length := List.length_pos_iff.mpr h
  obtain ⟨r, s', e, hs', r0, r1⟩ := next_ok hs (m := (l.length : Int)) (by omega) (by omega)
  obtain ⟨k, rfl⟩ := Int.eq_ofNat_of_zero_le r0
  have lt : k < l.length := by omega
  refine ⟨l[k], s', ?_, hs', List.getElem_mem lt⟩
  unfold M__law_one
  rw [e]
  show (atI l (k : Int)).bind _ = _
  rw [atI_nat (List.getElem?_eq_getElem lt)]
  rfl
theorem src_ok (x : Int) : ∃ s, M__law_source_of x = some s ∧ Src s := by
  have key : ∀ z : Int, ∃ s, ((chkP (CPow (10 : Int) (18 : Int))).bind fun z4 => (chkP (IntMulOk z (if (decide (((10 : Int) ^ ((18 : Int)).toNat) ≤ z)) = true then (1 : Int) else 0))).bind fun z5 => (chkP (0 < (2147483647 : Int))).bind fun z6 => some ([(z * (if (decide (((10 : Int) ^ ((18 : Int)).toNat) ≤ z)) = true then (1 : Int) else 0)), (z % (2147483647 : Int)), (0 : Int)] : List Int)) = some s ∧ Src s := fun z => by
    rw [chkP_eq (by unfold CPow; decide), chkP_eq (show IntMulOk z _ from by split <;> exact mul_r (by decide) (by decide)), chkP_eq (by decide : (0 : Int) < 2147483647)]
    exact ⟨_, rfl, _, _, _, rfl⟩
  unfold M__law_source_of
  by_cases h : (0 : Int) ≤ x
  · rw [if_pos (decide_eq_true h)]
    exact key x
  · rw [if_neg (by simpa using h), chkP_eq (mul_l (by decide) (by decide))]
    exact key _
theorem next_s {s : List Int} {m : Int} (hs : Src s) (h : 0 < m) (h2 : m < 2 ^ 64) : Sat (M__law_next s m) (fun r => Src r.2 ∧ 0 ≤ r.1 ∧ r.1 < m) := by
  obtain ⟨r, s', e, h1, h2, h3⟩ := next_ok hs h h2
  exact ⟨_, e, h1, h2, h3⟩
theorem one_s {s l : List Int} (hs : Src s) (h : l ≠ []) (h2 : l.length < 100) : Sat (M__law_one s l) (fun r => Src r.2 ∧ r.1 ∈ l) := by
  obtain ⟨r, s', e, h1, h2⟩ := one_ok hs h h2
  exact ⟨_, e, h1, h2⟩
theorem src_s (x : Int) : Sat (M__law_source_of x) Src := src_ok x
theorem mach_s {s : List Int} (hs : Src s) : Sat (M__law_machine s) (fun r => ∃ (W : Nat) (c : Int), r.1 = MS.fresh (W : Int) c ∧ 8 ≤ W ∧ W ≤ 30 ∧ Src r.2) := by
  unfold M__law_machine
  refine sat_bind (next_s hs (by decide) (by decide)) fun r1 ⟨h1, a1, b1⟩ => ?_
  refine sat_let ?_
  refine sat_bind (next_s h1 (by decide) (by decide)) fun r2 ⟨h2, a2, b2⟩ => ?_
  refine sat_bind (next_s h2 (by decide) (by decide)) fun r3 ⟨h3, a3, b3⟩ => ?_
  refine sat_bind (one_s h3 (List.cons_ne_nil _ _) (by show 3 < 100; decide)) fun r4 ⟨h4, m4⟩ => ?_
  refine sat_bind (one_s h4 (List.cons_ne_nil _ _) (by show 7 < 100; decide)) fun r5 ⟨h5, m5⟩ => ?_
  simp only [List.mem_cons, List.not_mem_nil, or_false] at m4 m5
  refine sat_chk (by omega) ?_
  obtain ⟨W, e⟩ := Int.eq_ofNat_of_zero_le (a := r5.1) (by omega)
  refine sat_some ⟨W, r4.1, by rw [← e], by omega, by omega, h5⟩
theorem cell_ok (ns : List Int) (i : Int) (h : ns.length ≤ 63) : ∃ z, M__law_cell_at ns i = some z := by
  have hc := cut_len ns (some i) (some (i + 1))
  unfold M__law_cell_at
  rw [chkP_eq (size_le (n := (cut ns (some i) (some (i + 1))).length + ([0] : List Int).length) (m := 64) (by show _ + 1 ≤ 64; omega) (by decide)), Option.bind_some]
  have lt : 0 < (cut ns (some i) (some (i + 1)) ++ [(0 : Int)]).length := by rw [List.length_append]; show 0 < _ + 1; omega
  exact ⟨_, bnd_of (atI_nat (j := 0) (List.getElem?_eq_getElem lt)) rfl⟩
/-! ### the program's functions -/
theorem top_ok {W : Nat} (h : W ≤ 30) : M_top_digit (W : Int) = some ((2 ^ W - 1 : Nat) : Int) := by
  unfold M_top_digit
  refine bnd_of (chkP_eq (shl_ok (k := 1) (by decide) (by omega) (by omega))) ?_
  rw [Int.toNat_natCast, Int.one_mul, p2, Int.ofNat_sub (Nat.two_pow_pos W)]
  rfl
theorem size_ok {W : Nat} (h8 : 8 ≤ W) (h : W ≤ 30) (n : Int) : M_size_of (W : Int) n = some ((sz W n.natAbs : Nat) : Int) := by
  unfold M_size_of
  refine bnd_of (chkP_eq (cdiv_s (by omega) (by omega))) ?_
  rw [intBits_abs]
  unfold sz
  congr 1
  rw [show ((bl n.natAbs : Nat) : Int) + (W : Int) - 1 = ((bl n.natAbs + W - 1 : Nat) : Int) from by omega]
  exact (Int.natCast_ediv _ _).symm
theorem kW_le {W k : Nat} (h : W ≤ 30) (hk : k ≤ 4194304) : k * W ≤ 125829120 := Nat.le_trans (Nat.mul_le_mul hk h) (by decide)
theorem low_ok {W k : Nat} (h : W ≤ 30) (n : Int) (hk : k ≤ 4194304) : M_low_part (W : Int) n (k : Int) = some (n % 2 ^ (k * W)) := by
  have hm := kW_le h hk
  unfold M_low_part
  refine bnd_of (chkP_eq (mul_small' (by omega))) ?_
  rw [← Int.natCast_mul]
  refine bnd_of (chkP_eq (shl_ok (k := 1) (by decide) (by omega) (by omega))) ?_
  rw [Int.toNat_natCast, Int.one_mul, p2, ← Int.natCast_one, ← Int.ofNat_sub (Nat.two_pow_pos _), and_low, p2]
theorem row_loop {W : Nat} (h : W ≤ 30) : ∀ (xs : List Int) (n : Int) (row : List Int), row.length + xs.length < 16777216 →
    forM' (ρ := Unit) (fun (a15 : Int) (s14 : Int × (List Int)) => (chkP (s14.2.length < sizeLine)).bind fun z16 => (chkP (0 ≤ (W : Int))).bind fun z17 => (some (s14.1 / 2 ^ ((W : Int)).toNat)).bind fun y18 => some (Stp.nx (y18, (s14.2 ++ [(Builtin.bitAnd s14.1 ((2 ^ W - 1 : Nat) : Int))])))) xs (n, row) = some (.nx (n / 2 ^ (xs.length * W), row ++ rw_ W n xs.length))
  | [], n, row, _ => by
    show some (Stp.nx (n, row)) = some (Stp.nx (n / 2 ^ (0 * W), row ++ []))
    rw [Nat.zero_mul, Int.pow_zero, Int.ediv_one, List.append_nil]
  | x :: r, n, row, hl => by
    rw [List.length_cons] at hl
    rw [forM_cons (s' := (n / 2 ^ W, row ++ [n % 2 ^ W])) (by
      refine bnd_of (chkP_eq (size_lt (m := 16777215) (by show row.length ≤ _; omega) (by decide))) ?_
      refine bnd_of (chkP_eq (by omega)) ?_
      refine bnd_of rfl ?_
      rw [Int.toNat_natCast, and_low]), row_loop h r _ _ (by rw [List.length_append]; show row.length + 1 + r.length < _; omega)]
    rw [ediv_pow, List.length_cons, show W + r.length * W = (r.length + 1) * W from by rw [Nat.succ_mul]; omega, List.append_assoc]
    rfl
theorem row_ok {W : Nat} (h8 : 8 ≤ W) (h : W ≤ 30) : ∀ (f k : Nat) (n : Int), k ≤ 32 * 2 ^ f → k ≤ 4194304 → M_row_of (f + 1) (W : Int) n (k : Int) = some (rw_ W n k) := by
  intro f
  induction f with
  | zero =>
    intro k n hk hk2
    rw [M_row_of_succ, if_neg (by rw [decide_eq_true_iff]; omega)]
    refine bnd_of (top_ok h) ?_
    refine bnd_of rfl ?_
    refine bnd_of (chkP_eq (by omega)) ?_
    rw [Int.toNat_natCast]
    refine bnd_of (row_loop h (rng 0 k) n [] (by rw [rng_len]; show 0 + k < _; omega)) ?_
    rw [rng_len]
    rfl
  | succ f ih =>
    intro k n hk hk2
    rw [M_row_of_succ]
    by_cases q : 32 < k
    · rw [if_pos (decide_eq_true (by omega))]
      refine bnd_of (chkP_eq (cdiv_s (by decide) (by decide))) ?_
      refine bnd_of rfl ?_
      rw [show (k : Int) / 2 = ((k / 2 : Nat) : Int) from rfl]
      have hp : 32 * 2 ^ (f + 1) = 2 * (32 * 2 ^ f) := by rw [Nat.pow_succ]; omega
      have hm := kW_le (k := k / 2) h (by omega)
      refine bnd_of (low_ok h n (by omega)) ?_
      refine bnd_of (ih (k / 2) _ (by omega) (by omega)) ?_
      refine bnd_of (chkP_eq (mul_small' (by omega))) ?_
      rw [← Int.natCast_mul, Int.toNat_natCast, show (k : Int) - ((k / 2 : Nat) : Int) = ((k - k / 2 : Nat) : Int) from by omega]
      refine bnd_of (chkP_eq (by omega)) ?_
      refine bnd_of (ih (k - k / 2) _ (by omega) (by omega)) ?_
      refine bnd_of (chkP_eq (size_le (m := 4194304) (by rw [rw_len, rw_len]; omega) (by decide))) ?_
      rw [rw_mod, ← rw_app, show k / 2 + (k - k / 2) = k from by omega]
    · rw [if_neg (by rw [decide_eq_true_iff]; omega)]
      refine bnd_of (top_ok h) ?_
      refine bnd_of rfl ?_
      refine bnd_of (chkP_eq (by omega)) ?_
      rw [Int.toNat_natCast]
      refine bnd_of (row_loop h (rng 0 k) n [] (by rw [rng_len]; show 0 + k < _; omega)) ?_
      rw [rng_len]
      rfl
/-- the number as the program keeps it -/
abbrev bg (W : Nat) (n : Int) : Bg := ⟨(W : Int), dg W n.natAbs, n⟩
theorem bigof_ok {W : Nat} {S : MS} (hS : S.w = (W : Int)) (h8 : 8 ≤ W) (h : W ≤ 30) {n : Int} (hn : sz W n.natAbs ≤ 4194304) : M_big_of S n = some (bg W n) := by
  unfold M_big_of
  rw [hS]
  refine bnd_of (size_ok h8 h n) ?_
  refine bnd_of (row_ok h8 h 19 _ _ (Nat.le_trans hn (by decide)) hn) ?_
  rw [rw_dg (by omega)]
theorem big_ok {W : Nat} {S : MS} (hS : S.w = (W : Int)) (h8 : 8 ≤ W) (h : W ≤ 30) {n : Int} (hn : sz W n.natAbs ≤ 4194304) : M_big S n = some (bg W n) := by
  unfold M_big
  refine bnd_of (show M_check_machine S = some () from bnd_of (chkP_eq rfl) rfl) ?_
  refine bnd_of (show M_is_integer n = some true from rfl) ?_
  refine bnd_of (chkP_eq rfl) ?_
  exact bnd_of (bigof_ok hS h8 h hn) rfl
theorem fit_ok {W : Nat} {S : MS} (hS : S.w = (W : Int)) (a : Int) (x : Str) : M_check_fit S (bg W a) x = some () := by
  unfold M_check_fit M_check_big
  exact bnd_of (a := ()) (bnd_of (a := ()) (chkP_eq rfl) rfl) (bnd_of (a := ()) (chkP_eq hS.symm) rfl)
theorem one_big {W : Nat} {S : MS} (hS : S.w = (W : Int)) (a : Int) : M_check_one S (bg W a) = some () := by
  unfold M_check_one M_check_machine
  exact bnd_of (a := ()) (bnd_of (a := ()) (chkP_eq rfl) rfl) (bnd_of (fit_ok hS a _) rfl)
theorem two_ok {W : Nat} {S : MS} (hS : S.w = (W : Int)) (a b : Int) : M_check_two S (bg W a) (bg W b) = some () := by
  unfold M_check_two
  exact bnd_of (one_big hS a) (bnd_of (fit_ok hS b _) rfl)
/-- both have at most one digit -/
def cpt (W : Nat) (x y : Int) : Bool := decide (sz W x.natAbs ≤ 1) && decide (sz W y.natAbs ≤ 1)
theorem compact_ok {W : Nat} {S : MS} (hS : S.w = (W : Int)) (hw : W ≠ 0) (x y : Int) : M_are_compact S x y = some (cpt W x y) := by
  unfold M_are_compact cpt
  rw [hS, intBits_abs, intBits_abs]
  have e : ∀ n : Int, decide (((bl n.natAbs : Nat) : Int) ≤ (W : Int)) = decide (sz W n.natAbs ≤ 1) := fun n => decide_eq_decide.mpr (by rw [sz_one hw]; omega)
  rw [e, e]
/-- what comparing two rows of one size counts -/
def lookN (W a b : Nat) : Int := ((sz W a : Nat) : Int) - max (((sz W (a ^^^ b) : Nat) : Int) - 1) 0
theorem ldiff_ok {W : Nat} {S : MS} (hS : S.w = (W : Int)) (h8 : 8 ≤ W) (h : W ≤ 30) (a b : Nat) : M_last_difference S (a : Int) (b : Int) = some (((sz W (a ^^^ b) : Nat) : Int) - 1, S.step "looked" (lookN W a b)) := by
  unfold M_last_difference
  rw [hS]
  refine bnd_of (size_ok h8 h _) ?_
  refine bnd_of (size_ok h8 h _) ?_
  refine bnd_of rfl ?_
  refine bnd_of (chkP_eq (by decide +kernel)) ?_
  rw [bxor_nat, Int.natAbs_natCast, Int.natAbs_natCast]
  rfl
def addS (S : MS) (m n : Int) : MS := (S.enter "add" m n).step "sum" (max m n)
def takS (W : Nat) (S : MS) (a b : Nat) : MS := if sz W a = sz W b then ((S.enter "take" (sz W a : Nat) (sz W b : Nat)).step "looked" (lookN W a b)).step "sum" (sz W (a ^^^ b) : Nat) else (S.enter "take" (sz W a : Nat) (sz W b : Nat)).step "sum" (max ((sz W a : Nat) : Int) (sz W b : Nat))
/-- what a sum (t = 1), a difference (t = -1) counts -/
def joinS (W : Nat) (S : MS) (x y t : Int) : MS :=
  if cpt W x y = true then S.step "short" 1 else
  if decide (decide (x < 0) = decide (y < 0)) = decide (t = 1) then addS S (sz W x.natAbs : Nat) (sz W y.natAbs : Nat) else
  if x < 0 then takS W S y.natAbs x.natAbs else takS W S x.natAbs y.natAbs
theorem added_ok (S : MS) (a m b n : Int) : M_added S a m b n = some (a + b, addS S m n) := by
  unfold M_added
  exact bnd_of (chkP_eq (by decide +kernel)) rfl
theorem taken_ok {W : Nat} {S : MS} (hS : S.w = (W : Int)) (h8 : 8 ≤ W) (h : W ≤ 30) (a b : Nat) : M_taken S (a : Int) (b : Int) = some ((a : Int) - b, takS W S a b) := by
  unfold M_taken takS
  rw [hS]
  refine bnd_of (size_ok h8 h _) ?_
  refine bnd_of (size_ok h8 h _) ?_
  rw [Int.natAbs_natCast, Int.natAbs_natCast]
  by_cases e : sz W a = sz W b
  · rw [if_pos (decide_eq_true (by rw [e])), if_pos e]
    refine bnd_of (bnd_of (ldiff_ok (S := S.enter "take" (sz W a : Nat) (sz W b : Nat)) hS h8 h a b) (bnd_of (chkP_eq (by decide +kernel)) rfl)) ?_
    rw [show ((sz W (a ^^^ b) : Nat) : Int) - 1 + 1 = ((sz W (a ^^^ b) : Nat) : Int) from by omega]
  · rw [if_neg (by rw [decide_eq_true_iff]; omega), if_neg e]
    exact bnd_of (bnd_of (chkP_eq (by decide +kernel)) rfl) rfl
theorem joined_ok {W : Nat} {S : MS} (hS : S.w = (W : Int)) (h8 : 8 ≤ W) (h : W ≤ 30) {x y t : Int} (ht : t = 1 ∨ t = -1) : M_joined S x y t = some (x + t * y, joinS W S x y t) := by
  unfold M_joined joinS
  refine bnd_of (compact_ok hS (by omega) x y) ?_
  by_cases q : cpt W x y = true
  · rw [if_pos q, if_pos q]
    refine bnd_of (chkP_eq (by decide +kernel)) ?_
    exact bnd_of (chkP_eq (mul_small (by rcases ht with e | e <;> subst e <;> decide))) rfl
  · rw [if_neg q, if_neg q]
    by_cases s : decide (decide (x < 0) = decide (y < 0)) = decide (t = 1)
    · rw [if_pos (decide_eq_true s), if_pos s, hS]
      refine bnd_of (size_ok h8 h _) ?_
      refine bnd_of (size_ok h8 h _) ?_
      refine bnd_of (added_ok _ _ _ _ _) ?_
      congr 2
      by_cases x0 : x < 0
      · rw [if_pos (decide_eq_true x0)]
        by_cases y0 : y < 0
        · rw [decide_eq_true x0, decide_eq_true y0] at s
          rcases ht with e | e
          · subst e; omega
          · subst e; exact absurd s (by decide)
        · rw [decide_eq_true x0, decide_eq_false y0] at s
          rcases ht with e | e
          · subst e; exact absurd s (by decide)
          · subst e; omega
      · rw [if_neg (by simpa using x0)]
        by_cases y0 : y < 0
        · rw [decide_eq_false x0, decide_eq_true y0] at s
          rcases ht with e | e
          · subst e; exact absurd s (by decide)
          · subst e; omega
        · rw [decide_eq_false x0, decide_eq_false y0] at s
          rcases ht with e | e
          · subst e; omega
          · subst e; exact absurd s (by decide)
    · rw [if_neg (by simpa using s), if_neg s]
      have key : (x < 0 → ((y.natAbs : Nat) : Int) - ((x.natAbs : Nat) : Int) = x + t * y) ∧ (¬ x < 0 → ((x.natAbs : Nat) : Int) - ((y.natAbs : Nat) : Int) = x + t * y) := by
        by_cases x0 : x < 0 <;> by_cases y0 : y < 0 <;> rcases ht with e | e <;> subst e <;> first | exact ⟨fun _ => by omega, fun _ => by omega⟩ | exact absurd (by simp [x0, y0]) s
      by_cases x0 : x < 0
      · rw [if_pos (decide_eq_true x0), if_pos x0]
        refine bnd_of (taken_ok hS h8 h _ _) ?_
        rw [key.1 x0]
      · rw [if_neg (by simpa using x0), if_neg x0]
        refine bnd_of (taken_ok hS h8 h _ _) ?_
        rw [key.2 x0]
theorem joinS_w {W : Nat} {S : MS} {x y t : Int} : (joinS W S x y t).w = S.w := by
  have h1 : ∀ (S : MS) (w : Str) (n : Int), (S.step w n).w = S.w := fun _ _ _ => rfl
  have h2 : ∀ (S : MS) (w : Str) (m n : Int), (S.enter w m n).w = S.w := fun _ _ _ _ => rfl
  unfold joinS addS takS
  (repeat' split) <;> rfl
theorem joinS_lay {W : Nat} {S : MS} {x y t : Int} (h : WkOk S.wk) : WkOk (joinS W S x y t).wk := by
  unfold joinS addS takS
  (repeat' split) <;> first | exact h | exact wkok_enter h
theorem sum_sz {W : Nat} (h8 : 8 ≤ W) {x y t : Int} (ht : t = 1 ∨ t = -1) (hx : sz W x.natAbs ≤ 4194303) (hy : sz W y.natAbs ≤ 4194303) : sz W (x + t * y).natAbs ≤ 4194304 := by
  rw [sz_le (by omega)] at hx hy ⊢
  rw [show W * 4194304 = W * 4194303 + W from by omega, Nat.pow_add]
  have : 2 ^ 8 ≤ 2 ^ W := Nat.pow_le_pow_right (by decide) h8
  have h2 : 2 ^ (W * 4194303) * 2 ≤ 2 ^ (W * 4194303) * 2 ^ W := Nat.mul_le_mul_left _ (by omega)
  generalize 2 ^ (W * 4194303) = Q at *
  generalize Q * 2 ^ W = R at *
  have : (x + t * y).natAbs ≤ x.natAbs + y.natAbs := by rcases ht with e | e <;> subst e <;> omega
  omega
theorem cut_take {α : Type} (l : List α) {k : Nat} (hk : k ≤ l.length) : cut l none (some (k : Int)) = l.take k := by
  have h1 : HT.sIx l.length 0 none = 0 := rfl
  have h2 : HT.sIx l.length l.length (some (k : Int)) = k := by rw [HT.sIx_nat, Nat.min_eq_left hk]
  unfold cut
  rw [h1, h2, List.drop_zero, Nat.sub_zero]
theorem cut_drop {α : Type} (l : List α) {k : Nat} (hk : k ≤ l.length) : cut l (some (k : Int)) none = l.drop k := by
  have h1 : HT.sIx l.length 0 (some (k : Int)) = k := by rw [HT.sIx_nat, Nat.min_eq_left hk]
  have h2 : HT.sIx l.length l.length none = l.length := rfl
  unfold cut
  rw [h1, h2]
  exact List.take_of_length_le (by rw [List.length_drop]; omega)
theorem lv_foldr (B : Int) : ∀ l : List Int, l.foldr (fun d s => s * B + d) 0 = lv B l
  | [] => rfl
  | d :: r => by
    rw [List.foldr_cons, lv_foldr B r, Int.mul_comm]
    show B * lv B r + d = d + B * lv B r
    omega
theorem num_loop {W : Nat} : ∀ (xs : List Int) (m : Nat) (s : Int), (∀ x ∈ xs, 0 ≤ x ∧ x < (2 : Int) ^ W) → 0 ≤ s → s < 2 ^ (W * m) → W * (m + xs.length) + W ≤ 134217728 →
    forM' (ρ := Unit) (fun (a9 : Int) (s8 : Int) => (chkP (CShl s8 (W : Int))).bind fun z10 => (some ((s8 * 2 ^ ((W : Int)).toNat) + a9)).bind fun y11 => some (Stp.nx y11)) xs s = some (.nx (xs.foldl (fun s d => s * 2 ^ W + d) s))
  | [], m, s, _, _, _, _ => rfl
  | x :: r, m, s, hd, s0, s1, hl => by
    have hx := hd x List.mem_cons_self
    rw [List.length_cons] at hl
    have e1 : (s + 1) * 2 ^ W ≤ 2 ^ (W * m) * 2 ^ W := Int.mul_le_mul_of_nonneg_right (by omega) (Int.le_of_lt (ppos W))
    rw [Int.add_mul, Int.one_mul, ← Int.pow_add] at e1
    have e0 : 0 ≤ s * 2 ^ W := Int.mul_nonneg s0 (Int.le_of_lt (ppos W))
    have el : W * (m + (r.length + 1)) = W * m + W * r.length + W := by rw [Nat.mul_add, Nat.mul_add, Nat.mul_one]; omega
    rw [forM_cons (s' := s * 2 ^ W + x) (by
      refine bnd_of (chkP_eq (shl_ok (nat_of s0 s1) (by omega) (by omega))) ?_
      refine bnd_of rfl ?_
      rw [Int.toNat_natCast]), num_loop r (m + 1) _ (fun y hy => hd y (List.mem_cons_of_mem _ hy)) (by omega) (by rw [Nat.mul_succ]; omega) (by rw [show m + 1 + r.length = m + (r.length + 1) from by omega]; exact hl)]
    rfl
theorem num_base {W : Nat} {row : List Int} (h : W ≤ 30) (hd : ∀ x ∈ row, 0 ≤ x ∧ x < (2 : Int) ^ W) (hl : row.length ≤ 32) :
    ((forM' (ρ := Unit) (fun (a9 : Int) (s8 : Int) => (chkP (CShl s8 (W : Int))).bind fun z10 => (some ((s8 * 2 ^ ((W : Int)).toNat) + a9)).bind fun y11 => some (Stp.nx y11)) ((row).reverse) (0 : Int)).bind fun z12 => (nxt z12).bind fun s13 => some s13) = some (lv (2 ^ W) row) := by
  have := Nat.mul_le_mul h hl
  refine bnd_of (num_loop row.reverse 0 0 (fun x hx => hd x (List.mem_reverse.mp hx)) (Int.le_refl _) (by rw [Nat.mul_zero, Int.pow_zero]; exact Int.zero_lt_one) (by rw [List.length_reverse, Nat.zero_add]; omega)) ?_
  rw [List.foldl_reverse, lv_foldr]
  rfl
theorem num_ok {W : Nat} (h8 : 8 ≤ W) (h : W ≤ 30) : ∀ (f : Nat) (row : List Int), (∀ x ∈ row, 0 ≤ x ∧ x < (2 : Int) ^ W) → row.length ≤ 32 * 2 ^ f → row.length ≤ 2097152 → M_number_of (f + 1) (W : Int) row = some (lv (2 ^ W) row) := by
  intro f
  induction f with
  | zero =>
    intro row hd hl _
    rw [M_number_of_succ, Option.bind_some, if_neg (by rw [decide_eq_true_iff]; omega)]
    exact num_base h hd (by omega)
  | succ f ih =>
    intro row hd hl hl2
    rw [M_number_of_succ, Option.bind_some]
    by_cases q : 32 < row.length
    · rw [if_pos (decide_eq_true (by omega))]
      refine bnd_of (chkP_eq (cdiv_s (by decide) (by decide))) ?_
      refine bnd_of rfl ?_
      rw [show ((row.length : Nat) : Int) / 2 = ((row.length / 2 : Nat) : Int) from rfl, cut_take row (by omega), cut_drop row (by omega)]
      have hp : 32 * 2 ^ (f + 1) = 2 * (32 * 2 ^ f) := by rw [Nat.pow_succ]; omega
      have d1 : ∀ x ∈ row.take (row.length / 2), 0 ≤ x ∧ x < (2 : Int) ^ W := fun x hx => hd x (List.mem_of_mem_take hx)
      have d2 : ∀ x ∈ row.drop (row.length / 2), 0 ≤ x ∧ x < (2 : Int) ^ W := fun x hx => hd x (List.mem_of_mem_drop hx)
      refine bnd_of (ih _ d1 (by rw [List.length_take]; omega) (by rw [List.length_take]; omega)) ?_
      refine bnd_of (ih _ d2 (by rw [List.length_drop]; omega) (by rw [List.length_drop]; omega)) ?_
      have kb : row.length / 2 * W ≤ 31457280 := Nat.le_trans (Nat.mul_le_mul (show row.length / 2 ≤ 1048576 by omega) h) (by decide)
      have kb2 : W * (row.drop (row.length / 2)).length ≤ 31457310 := Nat.le_trans (Nat.mul_le_mul h (show (row.drop (row.length / 2)).length ≤ 1048577 by rw [List.length_drop]; omega)) (by decide)
      have bd := lv_bound (ppos W) d2
      rw [← Int.pow_mul] at bd
      refine bnd_of (chkP_eq (mul_small' (by omega))) ?_
      rw [← Int.natCast_mul]
      refine bnd_of (chkP_eq (shl_ok (nat_of bd.1 bd.2) (by omega) (by omega))) ?_
      rw [Int.toNat_natCast, lv_split (row.length / 2) row (by omega), ← Int.pow_mul, Nat.mul_comm W, Int.mul_comm (2 ^ (row.length / 2 * W))]
    · rw [if_neg (by rw [decide_eq_true_iff]; omega)]
      exact num_base h hd (by omega)
theorem crow_ok {W : Nat} {S : MS} (hS : S.w = (W : Int)) (h : W ≤ 30) {row : List Int} (hd : ∀ x ∈ row, 0 ≤ x ∧ x < (2 : Int) ^ W) (hl : row.length ≤ 2097152) (nm : Str) : M_check_row S row nm = some () := by
  unfold M_check_row
  refine bnd_of (chkP_eq rfl) ?_
  rw [hS]
  refine bnd_of (top_ok h) ?_
  refine bnd_of (chkP_eq (size_le (m := 2097152) hl (by decide))) ?_
  refine bnd_of (lcM_mapU (f := fun _ => true) fun x hx => ?_) ?_
  · have hx := hd x hx
    have e2 := p2 W
    have e3 := Nat.two_pow_pos W
    refine bnd_of (a := true) ?_ rfl
    unfold M_is_between
    refine bnd_of (show M_is_integer x = some true from rfl) ?_
    rw [decide_eq_true hx.1, decide_eq_true (show x ≤ ((2 ^ W - 1 : Nat) : Int) by omega)]
    rfl
  · exact bnd_of (chkP_eq (List.all_eq_true.mpr fun b hb => by obtain ⟨_, _, rfl⟩ := List.mem_map.mp hb; rfl)) rfl
theorem add_ok {W : Nat} {S : MS} (hS : S.w = (W : Int)) (h8 : 8 ≤ W) (h : W ≤ 30) {x y : Int} (hx : sz W x.natAbs ≤ 4194303) (hy : sz W y.natAbs ≤ 4194303) : M_add S (bg W x) (bg W y) = some (bg W (x + y), joinS W S x y 1) := by
  unfold M_add
  refine bnd_of (two_ok hS x y) ?_
  refine bnd_of (joined_ok hS h8 h (.inl rfl)) ?_
  refine bnd_of (bigof_ok (joinS_w.trans hS) h8 h (sum_sz h8 (.inl rfl) hx hy)) ?_
  rw [Int.one_mul]
theorem cshift_ok {W : Nat} {S : MS} (hS : S.w = (W : Int)) (a : Int) {c : Int} (hc : 0 ≤ c) : M_check_shift S (bg W a) c = some () := by
  unfold M_check_shift
  refine bnd_of (one_big hS a) ?_
  refine bnd_of (show M_is_integer c = some true from rfl) ?_
  refine bnd_of (chkP_eq rfl) ?_
  exact bnd_of (chkP_eq (decide_eq_false (by omega))) rfl
/-- what a shift to the left counts -/
def leftS (W : Nat) (S : MS) (x c : Int) : MS := if x = 0 then S else if sz W x.natAbs = 1 ∧ c < (W : Int) then S.step "short" 1 else (S.enter "left" (sz W x.natAbs : Nat) c).step "shifted" (sz W x.natAbs : Nat)
theorem leftS_w {W : Nat} {S : MS} {x c : Int} : (leftS W S x c).w = S.w := by
  unfold leftS
  (repeat' split) <;> rfl
theorem sleft_ok {W : Nat} {S : MS} (hS : S.w = (W : Int)) (h8 : 8 ≤ W) (h : W ≤ 30) {x : Int} {c : Nat} (hx : x ≠ 0 → bl x.natAbs + c ≤ 134217728) : M_shifted_left S x (c : Int) = some (x * 2 ^ c, leftS W S x c) := by
  unfold M_shifted_left leftS
  by_cases e : x = 0
  · rw [if_pos (decide_eq_true e), if_pos e, e, Int.zero_mul]
  · rw [if_neg (by simpa using e), if_neg e, hS]
    refine bnd_of (size_ok h8 h x) ?_
    refine bnd_of (a := if sz W x.natAbs = 1 ∧ (c : Int) < (W : Int) then S.step "short" 1 else (S.enter "left" (sz W x.natAbs : Nat) c).step "shifted" (sz W x.natAbs : Nat)) ?_ ?_
    · by_cases q : sz W x.natAbs = 1 ∧ (c : Int) < (W : Int)
      · rw [if_pos (by rw [decide_eq_true (by rw [q.1]; rfl), decide_eq_true q.2]; rfl), if_pos q]
        exact bnd_of (chkP_eq (by decide +kernel)) rfl
      · rw [if_neg (by rw [Bool.and_eq_true, decide_eq_true_iff, decide_eq_true_iff]; omega), if_neg q]
        exact bnd_of (chkP_eq (by decide +kernel)) rfl
    · refine bnd_of (chkP_eq (shl_ok (k := bl x.natAbs) (bl_lt _) (by omega) (by have := hx e; omega))) ?_
      rw [Int.toNat_natCast]
theorem left_ok {W : Nat} {S : MS} (hS : S.w = (W : Int)) (h8 : 8 ≤ W) (h : W ≤ 30) {x : Int} {c : Nat} (hc : x ≠ 0 → c ≤ 100000) (hx : bl x.natAbs ≤ 30000000) : M_shift_left S (bg W x) (c : Int) = some (bg W (x * 2 ^ c), leftS W S x c) := by
  unfold M_shift_left
  refine bnd_of (cshift_ok hS x (by omega)) ?_
  refine bnd_of (chkP_eq ?_) ?_
  · by_cases e : x = 0
    · rw [decide_eq_true (show (bg W x).v = 0 from e)]; rfl
    · have := hc e
      rw [decide_eq_false (show ¬ (100000 : Int) < (c : Int) from by omega)]
      exact Bool.and_false _
  · refine bnd_of (sleft_ok (x := x) hS h8 h fun e => by have := hc e; omega) ?_
    refine bnd_of (bigof_ok (leftS_w.trans hS) h8 h ?_) rfl
    rw [sz_le (by omega), ← bl_le]
    by_cases e : x = 0
    · rw [e, Int.zero_mul]; exact Nat.zero_le _
    · have hc2 := hc e
      rw [Int.natAbs_mul, Int.natAbs_pow]
      have : bl (x.natAbs * 2 ^ c) ≤ bl x.natAbs + c := by
        rw [bl_le, Nat.pow_add]
        exact Nat.mul_lt_mul_of_pos_right (bl_lt _) (Nat.two_pow_pos c)
      exact Nat.le_trans this (by omega)
/-- what the steps of a shift to the right count -/
def crsS (W : Nat) (S : MS) (neg : Bool) (z c : Int) : MS :=
  let f := if neg = true ∧ c = c / (W : Int) * (W : Int) then c / (W : Int) - 1 else c / (W : Int)
  if z ≤ f then S else (if neg = true then S.step "looked" f else S).step "shifted" (z - 1 - f)
def rightS (W : Nat) (S : MS) (x c : Int) : MS :=
  if sz W x.natAbs = 0 ∨ (1 < sz W x.natAbs ∧ x < 0 ∧ c = 0) then S else
  if sz W x.natAbs = 1 then S.step "short" 1 else crsS W (S.enter "right" (sz W x.natAbs : Nat) c) (decide (x < 0)) (sz W x.natAbs : Nat) c
theorem crsS_w {W : Nat} {S : MS} {g : Bool} {z c : Int} : (crsS W S g z c).w = S.w := by
  unfold crsS
  dsimp only
  (repeat' split) <;> rfl
theorem rightS_w {W : Nat} {S : MS} {x c : Int} : (rightS W S x c).w = S.w := by
  unfold rightS
  split
  · rfl
  · split
    · rfl
    · rw [crsS_w]; rfl
theorem crs_ok {W : Nat} {S : MS} (hS : S.w = (W : Int)) (h8 : 8 ≤ W) (h : W ≤ 30) (g : Bool) (z c : Int) : M_count_right_steps S g z c = some ((), crsS W S g z c) := by
  unfold M_count_right_steps crsS
  rw [hS]
  refine bnd_of (chkP_eq (cdiv_s (by omega) (by omega))) ?_
  refine bnd_of rfl ?_
  refine bnd_of (a := decide (g = true ∧ c = c / (W : Int) * (W : Int))) ?_ ?_
  · cases g with
    | true =>
      rw [if_pos rfl]
      refine bnd_of (chkP_eq (mul_small' (by omega))) ?_
      congr 1
      exact decide_eq_decide.mpr (by simp)
    | false =>
      rw [if_neg Bool.false_ne_true, decide_eq_false (fun z => absurd z.1 Bool.false_ne_true)]
  · refine bnd_of (a := if g = true ∧ c = c / (W : Int) * (W : Int) then c / (W : Int) - 1 else c / (W : Int)) ?_ ?_
    · by_cases q : g = true ∧ c = c / (W : Int) * (W : Int)
      · rw [if_pos (decide_eq_true q), if_pos q]; rfl
      · rw [if_neg (by simpa using q), if_neg q]
    · dsimp only
      generalize (if g = true ∧ c = c / (W : Int) * (W : Int) then c / (W : Int) - 1 else c / (W : Int)) = f
      by_cases q : z ≤ f
      · rw [if_pos (decide_eq_true q), if_pos q]
      · rw [if_neg (by simpa using q), if_neg q]
        refine bnd_of (a := if g = true then S.step "looked" f else S) ?_ (bnd_of (chkP_eq (by decide +kernel)) rfl)
        cases g with
        | true => rw [if_pos rfl, if_pos rfl]; exact bnd_of (chkP_eq (by decide +kernel)) rfl
        | false => rw [if_neg Bool.false_ne_true, if_neg Bool.false_ne_true]
/-- behind all bits nothing changes -/
theorem shr_min (x : Int) (c : Nat) : x / 2 ^ (min c (bl x.natAbs)) = x / 2 ^ c := by
  by_cases h : c ≤ bl x.natAbs
  · rw [Nat.min_eq_left h]
  · rw [Nat.min_eq_right (by omega)]
    have key : ∀ k, bl x.natAbs ≤ k → x / 2 ^ k = if x < 0 then -1 else 0 := fun k hk => by
      have hb : x.natAbs < 2 ^ k := bl_le.mp hk
      have hp := ppos k
      have hb2 : -(2 ^ k) < x ∧ x < 2 ^ k := int_of hb
      by_cases x0 : x < 0
      · rw [if_pos x0]
        have h1 : x / 2 ^ k < 0 := Int.ediv_neg_of_neg_of_pos x0 hp
        have h2 : -1 ≤ x / 2 ^ k := by
          rw [Int.le_ediv_iff_mul_le hp]
          omega
        omega
      · rw [if_neg x0]
        exact Int.ediv_eq_zero_of_lt (by omega) hb2.2
    rw [key _ (Nat.le_refl _), key _ (by omega)]
theorem sright_ok {W : Nat} {S : MS} (hS : S.w = (W : Int)) (h8 : 8 ≤ W) (h : W ≤ 30) (x : Int) (c : Nat) : M_shifted_right S x (c : Int) = some (x / 2 ^ c, rightS W S x c) := by
  unfold M_shifted_right rightS
  rw [hS]
  refine bnd_of (size_ok h8 h x) ?_
  by_cases q : sz W x.natAbs = 0 ∨ (1 < sz W x.natAbs ∧ x < 0 ∧ (c : Int) = 0)
  · rw [if_pos (by
      rw [Bool.or_eq_true, Bool.and_eq_true, Bool.and_eq_true, decide_eq_true_iff, decide_eq_true_iff, decide_eq_true_iff, decide_eq_true_iff]
      omega), if_pos q]
    congr 2
    rcases q with q | q
    · have := (sz_zero (by omega)).mp q
      have : x = 0 := by omega
      rw [this, Int.zero_ediv]
    · have : c = 0 := by omega
      rw [this, Int.pow_zero, Int.ediv_one]
  · rw [if_neg (by
      rw [Bool.or_eq_true, Bool.and_eq_true, Bool.and_eq_true, decide_eq_true_iff, decide_eq_true_iff, decide_eq_true_iff, decide_eq_true_iff]
      omega), if_neg q]
    refine bnd_of (a := if sz W x.natAbs = 1 then S.step "short" 1 else crsS W (S.enter "right" (sz W x.natAbs : Nat) c) (decide (x < 0)) (sz W x.natAbs : Nat) c) ?_ ?_
    · by_cases e : sz W x.natAbs = 1
      · rw [if_pos (decide_eq_true (by rw [e]; rfl)), if_pos e]
        exact bnd_of (chkP_eq (by decide +kernel)) rfl
      · rw [if_neg (by rw [decide_eq_true_iff]; omega), if_neg e]
        exact bnd_of (crs_ok (S := S.enter "right" (sz W x.natAbs : Nat) c) hS h8 h _ _ _) rfl
    · rw [intBits_abs, show min (c : Int) ((bl x.natAbs : Nat) : Int) = ((min c (bl x.natAbs) : Nat) : Int) from by omega]
      refine bnd_of (chkP_eq (by omega)) ?_
      rw [Int.toNat_natCast, shr_min]
theorem shr_abs (x : Int) (c : Nat) : (x / 2 ^ c).natAbs ≤ x.natAbs := by
  have hp := ppos c
  by_cases x0 : x < 0
  · have h1 : x / 2 ^ c < 0 := Int.ediv_neg_of_neg_of_pos x0 hp
    have h2 : x ≤ x / 2 ^ c := by
      rw [Int.le_ediv_iff_mul_le hp]
      have := Int.mul_le_mul_of_nonpos_left (a := x) (b := 2 ^ c) (c := 1) (by omega) (by omega)
      omega
    omega
  · have h1 : 0 ≤ x / 2 ^ c := Int.ediv_nonneg (by omega) (by omega)
    have h2 : x / 2 ^ c ≤ x := Int.ediv_le_self _ (by omega)
    omega
theorem right_ok {W : Nat} {S : MS} (hS : S.w = (W : Int)) (h8 : 8 ≤ W) (h : W ≤ 30) {x : Int} (c : Nat) (hx : sz W x.natAbs ≤ 4194304) : M_shift_right S (bg W x) (c : Int) = some (bg W (x / 2 ^ c), rightS W S x c) := by
  unfold M_shift_right
  refine bnd_of (cshift_ok hS x (by omega)) ?_
  refine bnd_of (sright_ok hS h8 h x c) ?_
  refine bnd_of (bigof_ok (rightS_w.trans hS) h8 h ?_) rfl
  rw [sz_le (by omega)] at hx ⊢
  exact Nat.lt_of_le_of_lt (shr_abs x c) hx
def liftS (S : MS) (n c : Int) : MS := (S.enter "lift" n c).step "shifted" n
theorem crs2_ok {W : Nat} {S : MS} (hS : S.w = (W : Int)) (h : W ≤ 30) {row : List Int} (hd : ∀ x ∈ row, 0 ≤ x ∧ x < (2 : Int) ^ W) (hl : row.length ≤ 2097152) {c : Int} (c0 : 0 ≤ c) (c1 : c < (W : Int)) : M_check_row_shift S row c = some () := by
  unfold M_check_row_shift
  refine bnd_of (show M_check_machine S = some () from bnd_of (a := ()) (chkP_eq rfl) rfl) ?_
  refine bnd_of (crow_ok hS h hd hl _) ?_
  refine bnd_of (a := true) ?_ (bnd_of (chkP_eq rfl) rfl)
  unfold M_is_between
  refine bnd_of (show M_is_integer c = some true from rfl) ?_
  rw [hS, decide_eq_true c0, decide_eq_true (show c ≤ (W : Int) - 1 by omega)]
  rfl
theorem lift_ok {S : MS} {v n : Int} {c k : Nat} (hv : v.natAbs < 2 ^ k) (hk : k + c ≤ 134217728) : M_lifted S v n (c : Int) = some (v * 2 ^ c, liftS S n c) := by
  unfold M_lifted
  refine bnd_of (chkP_eq (by decide +kernel)) ?_
  refine bnd_of (chkP_eq (shl_ok hv (by omega) (by omega))) ?_
  rw [Int.toNat_natCast]
  rfl
theorem rup_ok {W : Nat} {S : MS} (hS : S.w = (W : Int)) (h8 : 8 ≤ W) (h : W ≤ 30) {row : List Int} (hd : ∀ x ∈ row, 0 ≤ x ∧ x < (2 : Int) ^ W) (hl : row.length ≤ 2097152) {c : Nat} (hc : c < W) : M_shift_row_up S row (c : Int) = some ((LF.mk (rw_ W (lv (2 ^ W) row * 2 ^ c) row.length), lv (2 ^ W) row * 2 ^ c / 2 ^ (row.length * W)), liftS S (row.length : Int) c) := by
  have kb : W * row.length ≤ 62914560 := Nat.le_trans (Nat.mul_le_mul h hl) (by decide)
  have bd := lv_bound (ppos W) hd
  rw [← Int.pow_mul] at bd
  unfold M_shift_row_up
  refine bnd_of (crs2_ok hS h hd hl (by omega) (by omega)) ?_
  refine bnd_of rfl ?_
  rw [hS]
  refine bnd_of (num_ok h8 h 19 row hd (Nat.le_trans hl (by decide)) hl) ?_
  refine bnd_of (lift_ok (nat_of bd.1 bd.2) (by omega)) ?_
  have hw : (liftS S (row.length : Int) c).w = (W : Int) := hS
  show ((M_row_of 20 (liftS S (row.length : Int) c).w _ _).bind _ : Option _) = _
  rw [hw]
  refine bnd_of (row_ok h8 h 19 row.length _ (Nat.le_trans hl (by decide)) (by omega)) ?_
  refine bnd_of (chkP_eq (mul_small' (by omega))) ?_
  rw [← Int.natCast_mul]
  refine bnd_of (chkP_eq (by omega)) ?_
  rw [Int.toNat_natCast]
theorem mword_lay : ∀ w ∈ mwords, (PyData.str w).canLay0 = true := by decide +kernel
theorem tally_dat (S : MS) : Dat.ok (LF.mk S.tally) := fun x hx => ⟨mword_lay x.1 (mem_tally.mp hx).1, trivial⟩
theorem isF_same {c : Nat} {fl x : Str} : XC.isF c fl (.f c fl x) = some x := by
  unfold XC.isF
  exact if_pos ⟨rfl, rfl⟩
theorem lr_f (x : Str) : M__law_said (some (.f 0 "argument" x)) = some (EN.ok x) := by
  unfold M__law_said
  rw [onC_s rfl, onF_s isF_same]
theorem lr_z : M__law_said (some (.z 2)) = some (EN.ok ("great" : Str)) := by
  unfold M__law_said
  rw [onC_s rfl, onF_n (show XC.isF 0 "argument" (.z 2) = none from rfl), if_pos (show XC.isZ 2 (.z 2) = true by decide)]
  rfl
theorem one_z {β : Type} {o : Option XC} {r : XC} {x : Str} {k : Option β} (h : o = some r) (hr : M__law_said (some r) = some (EN.ok x)) (hl : (PyData.str x).canLay0 = true) :
    (o.bind fun z => (M__law_said (some z)).bind fun y => (chkP (Dat.ok y ∧ Dat.ok x)).bind fun _ => (chkP ((!PyData.eqv (Dat.dat y) (Dat.dat x)) = false)).bind fun _ => k) = k := by
  subst h
  refine bnd_of rfl (bnd_of hr (bnd_of (chkP_eq ⟨hl, hl⟩) (bnd_of (chkP_eq ?_) rfl)))
  show (!PyData.eqv (Dat.dat x) (Dat.dat x)) = false
  rw [(Dat.eqv (α := Str)).mpr rfl]
  rfl
theorem two_ok' {w : Str} (hl : (PyData.str w).canLay0 = true) : Dat.ok (LF.mk ([EN.ok w, EN.ok w] : List (EN Str))) := fun x hx => by
  simp only [List.mem_cons, List.not_mem_nil, or_false] at hx
  rcases hx with rfl | rfl <;> exact hl
theorem two_r {β : Type} {o1 o2 : Option XC} {x : Str} {k : Option β} (h1 : o1 = some (.f 0 "argument" x)) (h2 : o2 = some (.f 0 "argument" x)) (hl : (PyData.str x).canLay0 = true) :
    (o1.bind fun z1 => (M__law_said (some z1)).bind fun a => o2.bind fun z2 => (M__law_said (some z2)).bind fun b =>
      (chkP ((-(2 ^ 63) ≤ (2 : Int) ∧ (2 : Int) < 2 ^ 63) ∧ ([x] : List Str).length * ((2 : Int)).toNat ≤ sizeLine)).bind fun _ => (chkP ((LF.mk ([a, b] : List (EN Str))) = (LF.mk (((List.replicate ((2 : Int)).toNat ([x] : List Str)).flatten).map EN.ok)) ∧ Dat.ok (LF.mk ([a, b] : List (EN Str))))).bind fun _ => k) = k := by
  subst h1 h2
  refine bnd_of rfl (bnd_of (lr_f x) (bnd_of rfl (bnd_of (lr_f x) (bnd_of (chkP_eq ⟨by decide, ?_⟩) (bnd_of (chkP_eq ⟨rfl, two_ok' hl⟩) rfl)))))
  show 1 * 2 ≤ sizeLine
  exact size_le (m := 2) (by decide) (by decide)
theorem ly_m : (PyData.str ("machine" : Str)).canLay0 = true := by decide +kernel
theorem ln_m : Str.length ("machine" : Str) ≤ 100 := by decide +kernel
theorem ly_x : (PyData.str ("x" : Str)).canLay0 = true := by decide +kernel
theorem ln_x : Str.length ("x" : Str) ≤ 100 := by decide +kernel
theorem ly_c : (PyData.str ("count" : Str)).canLay0 = true := by decide +kernel
theorem ln_c : Str.length ("count" : Str) ≤ 100 := by decide +kernel
theorem ly_d : (PyData.str ("digits" : Str)).canLay0 = true := by decide +kernel
theorem ln_d : Str.length ("digits" : Str) ≤ 100 := by decide +kernel
theorem ly_g : (PyData.str ("great" : Str)).canLay0 = true := by decide +kernel
theorem cm_ok (S : MS) : M_check_machine S = some () := bnd_of (chkP_eq rfl) rfl
theorem cb_ok (x : Bg) (s : Str) : M_check_big x s = some () := bnd_of (chkP_eq rfl) rfl
theorem xm : X_check_machine__or4 = some (.f 0 "argument" "machine") := bnd_of (chkP_eq ln_m) rfl
theorem xo1 (S : MS) : X_check_one__or8 S = some (.f 0 "argument" "x") := bnd_of (cm_ok S) (bnd_of (chkP_eq ln_x) rfl)
section
variable {W V : Nat} {S : MS} (hS : S.w = (W : Int))
include hS
theorem fit_n (n : Int) (s : Str) : X_check_fit S (bg W n) s = none := by
  unfold X_check_fit
  refine bnd_of (cb_ok _ _) ?_
  rw [if_neg (by rw [hS]; simp)]
theorem fit_o (hV : V ≠ W) (n : Int) {s : Str} (hs : Str.length s ≤ 100) : X_check_fit S (bg V n) s = some (.f 0 "argument" s) := by
  unfold X_check_fit
  refine bnd_of (cb_ok _ _) ?_
  rw [if_pos (by
    have : ¬ ((bg V n).w = S.w) := fun e => hV (by rw [hS] at e; exact Int.ofNat.inj e)
    rw [decide_eq_false this]
    rfl)]
  exact bnd_of (chkP_eq hs) rfl
theorem one_n (n : Int) : X_check_one S (bg W n) = none := by
  unfold X_check_one
  exact bnd_of (cm_ok S) (by rw [onC_n (fit_n hS n _)])
theorem one_o (hV : V ≠ W) (n : Int) : X_check_one S (bg V n) = some (.f 0 "argument" "x") := by
  unfold X_check_one
  exact bnd_of (cm_ok S) (by rw [onC_s (fit_o hS hV n ln_x)])
theorem c13 (n : Int) : X_check_shift__or13 S (bg W n) = some (.f 0 "argument" "count") := by
  unfold X_check_shift__or13
  rw [onC_n (one_n hS n)]
  exact bnd_of (one_big hS n) (bnd_of (chkP_eq ln_c) rfl)
theorem x13 (hV : V ≠ W) (n : Int) : X_check_shift__or13 S (bg V n) = some (.f 0 "argument" "x") := by
  unfold X_check_shift__or13
  rw [onC_s (one_o hS hV n)]
theorem c17 (n : Int) (b : Bool) : X_check_shift__or17 S (bg W n) b = some (.f 0 "argument" "count") := by
  unfold X_check_shift__or17
  rw [onC_n (one_n hS n)]
  exact bnd_of (one_big hS n) (bnd_of (chkP_eq ln_c) rfl)
theorem cneg (n : Int) {c : Int} (hc : c < 0) : X_check_shift S (bg W n) c = some (.f 0 "argument" "count") := by
  unfold X_check_shift
  rw [onC_n (one_n hS n)]
  refine bnd_of (one_big hS n) (bnd_of (show M_is_integer c = some true from rfl) ?_)
  rw [if_pos (show (!true || decide (c < (0 : Int))) = true by rw [decide_eq_true hc]; rfl)]
  exact bnd_of (chkP_eq ln_c) rfl
theorem cpos (n : Int) {c : Int} (hc : 0 ≤ c) : X_check_shift S (bg W n) c = none := by
  unfold X_check_shift
  rw [onC_n (one_n hS n)]
  refine bnd_of (one_big hS n) (bnd_of (show M_is_integer c = some true from rfl) ?_)
  rw [if_neg (show ¬ (!true || decide (c < (0 : Int))) = true by rw [decide_eq_false (show ¬ c < 0 by omega)]; decide)]
theorem lneg (n : Int) {c : Int} (hc : c < 0) : X_shift_left S (bg W n) c = some (.f 0 "argument" "count") := by
  unfold X_shift_left
  rw [onC_s (cneg hS n hc)]
theorem rneg (n : Int) {c : Int} (hc : c < 0) : X_shift_right S (bg W n) c = some (.f 0 "argument" "count") := by
  unfold X_shift_right
  rw [onC_s (cneg hS n hc)]
theorem lgreat {n c : Int} (hn : n ≠ 0) (hc : 100000 < c) : X_shift_left S (bg W n) c = some (.z 2) := by
  unfold X_shift_left
  rw [onC_n (cpos hS n (by omega))]
  refine bnd_of (cshift_ok hS n (by omega)) ?_
  rw [if_pos (show ((!decide ((bg W n).v = (0 : Int))) && decide ((100000 : Int) < c)) = true by
    rw [decide_eq_false (show ¬ (bg W n).v = 0 from hn), decide_eq_true hc]; rfl)]
theorem xrow_n (h : W ≤ 30) {row : List Int} (hd : ∀ x ∈ row, 0 ≤ x ∧ x < (2 : Int) ^ W) (hl : row.length ≤ 1000) (nm : Str) : X_check_row S row nm = none := by
  unfold X_check_row
  rw [hS]
  refine bnd_of (top_ok h) ?_
  refine bnd_of (chkP_eq (size_le (m := 1000) hl (by decide))) ?_
  refine bnd_of (lcM_mapU (f := fun _ => true) fun x hx => ?_) ?_
  · have hx := hd x hx
    have e2 := p2 W
    have e3 := Nat.two_pow_pos W
    refine bnd_of (a := true) ?_ rfl
    unfold M_is_between
    refine bnd_of (show M_is_integer x = some true from rfl) ?_
    rw [decide_eq_true hx.1, decide_eq_true (show x ≤ ((2 ^ W - 1 : Nat) : Int) by omega)]
    rfl
  · rw [if_neg]
    have : ((row.map fun _ => true).all id) = true := List.all_eq_true.mpr fun b hb => by obtain ⟨_, _, rfl⟩ := List.mem_map.mp hb; rfl
    show ¬ (!(row.map fun _ => true).all id) = true
    rw [this]; decide
theorem ra (h : W ≤ 30) {row : List Int} (hd : ∀ x ∈ row, 0 ≤ x ∧ x < (2 : Int) ^ W) (hl : row.length ≤ 1000) : X_check_row_shift__or34 S row = some (.f 0 "argument" "count") := by
  unfold X_check_row_shift__or34
  refine bnd_of (cm_ok S) ?_
  rw [onC_n (xrow_n hS h hd hl _)]
  exact bnd_of (crow_ok hS h hd (by omega) _) (bnd_of (chkP_eq ln_c) rfl)
theorem rb (h : W ≤ 30) {row : List Int} (hd : ∀ x ∈ row, 0 ≤ x ∧ x < (2 : Int) ^ W) (hl : row.length ≤ 1000) (b : Bool) : X_check_row_shift__or37 S row b = some (.f 0 "argument" "count") := by
  unfold X_check_row_shift__or37
  refine bnd_of (cm_ok S) ?_
  rw [onC_n (xrow_n hS h hd hl _)]
  exact bnd_of (crow_ok hS h hd (by omega) _) (bnd_of (chkP_eq ln_c) rfl)
theorem ri (h : W ≤ 30) {row : List Int} (hd : ∀ x ∈ row, 0 ≤ x ∧ x < (2 : Int) ^ W) (hl : row.length ≤ 1000) {c : Int} (hc : c < 0 ∨ (W : Int) ≤ c) : X_check_row_shift S row c = some (.f 0 "argument" "count") := by
  unfold X_check_row_shift
  refine bnd_of (cm_ok S) ?_
  rw [onC_n (xrow_n hS h hd hl _)]
  refine bnd_of (crow_ok hS h hd (by omega) _) ?_
  rw [hS]
  refine bnd_of (a := false) ?_ ?_
  · unfold M_is_between
    refine bnd_of (show M_is_integer c = some true from rfl) ?_
    have : (decide ((0 : Int) ≤ c) && decide (c ≤ (W : Int) - 1)) = false := by
      rcases hc with hc | hc
      · rw [decide_eq_false (show ¬ 0 ≤ c by omega)]; rfl
      · rw [decide_eq_false (show ¬ c ≤ (W : Int) - 1 by omega), Bool.and_false]
    rw [this]; rfl
  · rw [if_pos (by rfl)]
    exact bnd_of (chkP_eq ln_c) rfl
theorem ru (h : W ≤ 30) {row : List Int} (hd : ∀ x ∈ row, 0 ≤ x ∧ x < (2 : Int) ^ W) (hl : row.length ≤ 1000) {c : Int} (hc : c < 0 ∨ (W : Int) ≤ c) : X_shift_row_up S row c = some (.f 0 "argument" "count") := by
  unfold X_shift_row_up
  rw [onC_s (ri hS h hd hl hc)]
theorem rd (h : W ≤ 30) {row : List Int} (hd : ∀ x ∈ row, 0 ≤ x ∧ x < (2 : Int) ^ W) (hl : row.length ≤ 1000) {c : Int} (hc : c < 0 ∨ (W : Int) ≤ c) : X_shift_row_down S row c = some (.f 0 "argument" "count") := by
  unfold X_shift_row_down
  rw [onC_s (ri hS h hd hl hc)]
theorem xmv (h : W ≤ 30) {l : List MV} (hb : (l.map fun v => MV.btw 0 ((2 ^ W - 1 : Nat) : Int) v).all id = false) (hl : l.length ≤ 1000) {nm : Str} (hs : Str.length nm ≤ 100) : X_check_row__or29 S l nm = some (.f 0 "argument" nm) := by
  unfold X_check_row__or29
  rw [hS]
  refine bnd_of (top_ok h) ?_
  refine bnd_of (chkP_eq (size_le (m := 1000) hl (by decide))) ?_
  refine bnd_of (lcM_mapU (f := fun v => MV.btw 0 ((2 ^ W - 1 : Nat) : Int) v) fun x hx => bnd_of (a := MV.btw 0 ((2 ^ W - 1 : Nat) : Int) x) rfl rfl) ?_
  rw [if_pos (by show (!(l.map _).all id) = true; rw [hb]; rfl)]
  exact bnd_of (chkP_eq hs) rfl
end
theorem all_f {f : MV → Bool} {l : List MV} {v : MV} (hv : v ∈ l) (h : f v = false) : (l.map f).all id = false := by
  rw [List.all_eq_false]
  exact ⟨f v, List.mem_map_of_mem hv, by rw [h]; decide⟩
theorem btw_hi {lo hi n : Int} (h : hi < n) : MV.btw lo hi (.i n) = false := by
  show (decide (lo ≤ n) && decide (n ≤ hi)) = false
  rw [decide_eq_false (show ¬ n ≤ hi by omega), Bool.and_false]
theorem btw_lo {lo hi n : Int} (h : n < lo) : MV.btw lo hi (.i n) = false := by
  show (decide (lo ≤ n) && decide (n ≤ hi)) = false
  rw [decide_eq_false (show ¬ lo ≤ n by omega), Bool.false_and]
theorem deep_loop : ∀ (l : List Int) (s : DPn × DT), ∃ t, forM' (ρ := Unit) (fun (_ : Int) (s3 : DPn × DT) => (some (DPn.mk ((s3.1).d + 1))).bind fun y5 => some (Stp.nx (y5, DT.mk))) l s = some (Stp.nx (DPn.mk (s.1.d + l.length), t))
  | [], s => ⟨s.2, rfl⟩
  | _ :: l, s => by
    obtain ⟨t, e⟩ := deep_loop l (DPn.mk (s.1.d + 1), DT.mk)
    refine ⟨t, ?_⟩
    show forM' _ l (DPn.mk (s.1.d + 1), DT.mk) = _
    rw [e]
    show some (Stp.nx (DPn.mk (s.1.d + 1 + l.length), t)) = some (Stp.nx (DPn.mk (s.1.d + (l.length + 1)), t))
    rw [Nat.add_assoc, Nat.add_comm 1]
theorem deep_ok {n : Int} (h1 : 1 ≤ n) (h2 : n ≤ 2000) : ∃ d, M__law_deep n = some d ∧ 1 ≤ d.a.d := by
  unfold M__law_deep
  obtain ⟨t, e⟩ := deep_loop (rng 0 n.toNat) (DPn.mk 0, DT.mk)
  refine ⟨_, bnd_of rfl (bnd_of (chkP_eq (by omega)) (bnd_of e rfl)), ?_⟩
  show 1 ≤ 0 + (rng 0 n.toNat).length
  rw [rng_len]
  omega
theorem for_same {α S ρ : Type} {b : α → S → Option (Stp S ρ)} {s : S} : ∀ {l : List α}, (∀ a ∈ l, b a s = some (Stp.nx s)) → forM' b l s = some (Stp.nx s)
  | [], _ => rfl
  | x :: l, h => by
    show (b x s).bind _ = _
    rw [h x List.mem_cons_self]
    exact for_same fun a ha => h a (List.mem_cons_of_mem _ ha)
theorem numbers_ok {W V : Nat} {S : MS} (hS : S.w = (W : Int)) (hV : V ≠ W) (x y : Int) {c : Int} (hc : c < 0) (d : LP DPn DT) : M__law_numbers_right S (bg V y) (bg W x) c d = some true := by
  unfold M__law_numbers_right
  refine bnd_of (a := Stp.nx ()) (two_r xm xm ly_m) ?_
  refine bnd_of (a := Stp.nx ()) (two_r (xo1 _) (xo1 _) ly_x) ?_
  refine bnd_of (allN_of fun a ha => ⟨Stp.nx (), ?_⟩) ?_
  · rcases List.mem_singleton.mp ha with rfl
    exact two_r (x13 hS hV _) (x13 hS hV _) ly_x
  refine bnd_of (chkP_eq (by unfold CPow; decide)) ?_
  refine bnd_of (a := Stp.nx ()) (two_r (c13 hS _) (c13 hS _) ly_c) ?_
  refine bnd_of (allN_of fun a ha => ⟨Stp.nx (), ?_⟩) ?_
  · have ha : a < 0 := by
      have e : -((10 : Int) ^ ((30 : Int)).toNat) = -1000000000000000000000000000000 := by decide
      simp only [List.mem_cons, List.not_mem_nil, or_false] at ha
      rw [e] at ha
      omega
    exact two_r (lneg hS _ ha) (rneg hS _ ha) ly_c
  refine bnd_of (allN_of fun a ha => ⟨Stp.nx (), ?_⟩) rfl
  exact two_r (c17 hS _ _) (c17 hS _ _) ly_c
theorem rows_ok {W : Nat} {S : MS} (hS : S.w = (W : Int)) (h8 : 8 ≤ W) (h30 : W ≤ 30) (x : Bg) {d : LP DPn DT} (hd : 1 ≤ d.a.d) : M__law_rows_right S x d = some true := by
  have p8 : 2 ^ 8 ≤ 2 ^ W := Nat.pow_le_pow_right (by decide) h8
  have e2 := p2 W
  have e3 := Nat.two_pow_pos W
  unfold M__law_rows_right
  have hSw : ((S.w, S.c) : Int × Int).1 = (W : Int) := hS
  rw [hSw]
  refine bnd_of rfl ?_
  refine bnd_of (a := Stp.nx ()) (two_r xm xm ly_m) ?_
  refine bnd_of (chkP_eq (shl_ok (k := 1) (by decide) (by omega) (by omega))) ?_
  refine bnd_of (chkP_eq (shl_ok (k := 1) (by decide) (by omega) (by omega))) ?_
  have hdg : ∀ (S : MS) (c : Int), X_check_row_shift__or24 S c = some (.f 0 "argument" "digits") := fun S c => bnd_of (cm_ok S) (bnd_of (chkP_eq ln_d) rfl)
  refine bnd_of (a := Stp.nx ()) (two_r (hdg _ _) (hdg _ _) ly_d) ?_
  rw [Int.toNat_natCast, Int.one_mul]
  refine bnd_of (allN_of fun a ha => ⟨Stp.nx (), ?_⟩) (bnd_of (chkP_eq hd) ?_)
  · have b1 : MV.btw 0 ((2 ^ W - 1 : Nat) : Int) (.i (2 ^ W)) = false := btw_hi (by omega)
    have b2 : MV.btw 0 ((2 ^ W - 1 : Nat) : Int) (.i (-1)) = false := btw_lo (by decide)
    have hb : ((a.map fun v => MV.btw 0 ((2 ^ W - 1 : Nat) : Int) v).all id = false) ∧ a.length ≤ 1000 := by
      simp only [List.mem_cons, List.not_mem_nil, or_false] at ha
      rcases ha with rfl | rfl | rfl | rfl | rfl | rfl | rfl | rfl | rfl | rfl | rfl | rfl | rfl | rfl
      · exact ⟨all_f (.head _) b1, Nat.le_of_ble_eq_true rfl⟩
      · exact ⟨all_f (.tail _ (.head _)) b2, by decide⟩
      · exact ⟨all_f (.head _) rfl, by decide⟩
      · exact ⟨all_f (.tail _ (.head _)) rfl, by decide⟩
      · exact ⟨all_f (.head _) rfl, by decide⟩
      · exact ⟨all_f (.head _) rfl, by decide⟩
      · exact ⟨all_f (.head _) b1, Nat.le_of_ble_eq_true rfl⟩
      · exact ⟨all_f (.head _) b2, by decide⟩
      · exact ⟨all_f (.head _) rfl, by decide⟩
      · exact ⟨all_f (.head _) rfl, by decide⟩
      · exact ⟨all_f (.head _) rfl, by decide⟩
      · exact ⟨all_f (.head _) rfl, by decide⟩
      · exact ⟨all_f (.head _) rfl, by decide⟩
      · exact ⟨all_f (.tail _ (.head _)) rfl, by decide⟩
    have q : X_check_row_shift__or28 S a (-1) = some (.f 0 "argument" "digits") := bnd_of (cm_ok S) (xmv hS h30 hb.1 hb.2 ln_d)
    exact two_r q q ly_d
  have rw_ok : ∀ r ∈ ([(LF.mk ([] : List Int)), (LF.mk ([(1 : Int), (0 : Int), (5 : Int)] : List Int))] : List (LF Int)), (∀ x ∈ r.l, 0 ≤ x ∧ x < (2 : Int) ^ W) ∧ r.l.length ≤ 1000 := fun r hr => by
    simp only [List.mem_cons, List.not_mem_nil, or_false] at hr
    rcases hr with rfl | rfl
    · exact ⟨fun x hx => (by cases hx), by decide⟩
    · refine ⟨fun x hx => ?_, by decide⟩
      simp only [List.mem_cons, List.not_mem_nil, or_false] at hx
      omega
  refine bnd_of (chkP_eq (by unfold CPow; decide)) ?_
  refine bnd_of (a := Stp.nx ()) (bnd_of (for_same fun r hr => ?_) rfl) ?_
  · obtain ⟨q1, q2⟩ := rw_ok r hr
    exact two_r (ra hS h30 q1 q2) (ra hS h30 q1 q2) ly_c
  refine bnd_of (allN_of fun a ha => ⟨Stp.nx (), bnd_of (for_same fun r hr => ?_) rfl⟩) ?_
  · obtain ⟨q1, q2⟩ := rw_ok r hr
    have hc : a < 0 ∨ (W : Int) ≤ a := by
      have e : ((10 : Int) ^ ((30 : Int)).toNat) = 1000000000000000000000000000000 := by decide
      simp only [List.mem_cons, List.not_mem_nil, or_false] at ha
      rw [e] at ha
      omega
    exact two_r (ru hS h30 q1 q2 hc) (rd hS h30 q1 q2 hc) ly_c
  refine bnd_of (allN_of fun a ha => ⟨Stp.nx (), bnd_of (for_same fun r hr => ?_) rfl⟩) rfl
  obtain ⟨q1, q2⟩ := rw_ok r hr
  exact two_r (rb hS h30 q1 q2 _) (rb hS h30 q1 q2 _) ly_c
theorem wk_ne {W : Nat} (c x y : Int) (hx : 0 ≤ x) (hy : y < 0) (hb : (2 : Int) ^ W ≤ x) (hw : W ≠ 0) : (joinS W (MS.fresh (W : Int) c) x y 1).wk ≠ [] := by
  unfold joinS
  have hc : ¬ cpt W x y = true := by
    unfold cpt
    rw [Bool.and_eq_true, decide_eq_true_iff, decide_eq_true_iff]
    intro h
    have h1 := (sz_le (k := 1) hw).mp h.1
    rw [Nat.mul_one] at h1
    have e := p2 W
    omega
  rw [if_neg hc, if_neg (by rw [decide_eq_false (show ¬ x < 0 by omega), decide_eq_true hy]; decide), if_neg (by omega)]
  unfold takS
  split <;> exact List.cons_ne_nil _ _
theorem law_right (ns : List Int) (hl : ns.length ≤ 63) : M_law ns = some true := by
  refine sat_get ?_
  unfold M_law
  obtain ⟨z1, e1⟩ := cell_ok ns 0 hl
  refine sat_eq e1 ?_
  have hc := cut_len ns (some (1 : Int)) (some 4)
  refine sat_chk (size_le (m := 64) (by show 1 + _ ≤ 64; omega) (by decide)) ?_
  refine sat_forA (fun _ => True) (fun x _ st _ => ?_) trivial fun s _ => sat_nx (sat_some rfl)
  refine sat_bind (src_s x) fun s0 g0 => ?_
  refine sat_bind (mach_s g0) fun r1 ⟨W, c, em, h8, h30, g1⟩ => ?_
  rw [em]
  have e2 := p2 W
  have p8 : 2 ^ 8 ≤ 2 ^ W := Nat.pow_le_pow_right (by decide) h8
  have p30 : 2 ^ W ≤ 2 ^ 30 := Nat.pow_le_pow_right (by decide) h30
  have hS : (MS.fresh (W : Int) c).w = (W : Int) := rfl
  have szs : ∀ {U : Nat} {n : Int}, 8 ≤ U → n.natAbs < 2 ^ 200 → sz U n.natAbs ≤ 200 := fun hU hn => (sz_le (by omega)).mpr (Nat.lt_of_lt_of_le hn (Nat.pow_le_pow_right (by decide) (Nat.le_mul_of_pos_left _ (by omega))))
  refine sat_let ?_
  show Sat ((chkP (CShl 1 (W : Int))).bind _) _
  refine sat_chk (shl_ok (k := 1) (by decide) (by omega) (by omega)) ?_
  rw [show (1 : Int) * 2 ^ ((((MS.fresh (W : Int) c).w, (MS.fresh (W : Int) c).c) : Int × Int).1).toNat = 2 ^ W from by show (1 : Int) * 2 ^ ((W : Int)).toNat = _; rw [Int.one_mul, Int.toNat_natCast]]
  refine sat_chk (mul_small' (by decide)) ?_
  refine sat_chk (by unfold CPow; decide) ?_
  refine sat_bind (one_s g1 (List.cons_ne_nil _ _) (by show 4 < 100; decide)) fun r2 ⟨g2, m2⟩ => ?_
  have q200 : (2 : Nat) ^ 200 = 1606938044258990275541962092341162602522202993782792835301376 := by decide
  have b2 : r2.1.natAbs < 2 ^ 200 ∧ r2.1 ≠ 0 := by
    have : (0 : Int) - ((10 : Int) ^ ((30 : Int)).toNat) = -1000000000000000000000000000000 := by decide
    simp only [List.mem_cons, List.not_mem_nil, or_false] at m2
    rw [this] at m2
    rw [q200]
    omega
  obtain ⟨b2, n2⟩ := b2
  have s2 := szs h8 b2
  refine sat_eq (big_ok hS h8 h30 (by omega)) ?_
  obtain ⟨V, hV, v8, v30, vW⟩ : ∃ V : Nat, (if (decide ((8 : Int) < (W : Int))) = true then ((39 : Int) - (W : Int)) else (9 : Int)) = (V : Int) ∧ 8 ≤ V ∧ V ≤ 30 ∧ V ≠ W := by
    by_cases q : 8 < W
    · rw [if_pos (decide_eq_true (by omega))]
      exact ⟨39 - W, by omega, by omega, by omega, by omega⟩
    · rw [if_neg (by rw [decide_eq_true_iff]; omega)]
      exact ⟨9, rfl, by decide, by decide, by omega⟩
  have hVM : (if (decide ((8 : Int) < (((MS.fresh (W : Int) c).w, (MS.fresh (W : Int) c).c) : Int × Int).1)) = true then ((39 : Int) - (((MS.fresh (W : Int) c).w, (MS.fresh (W : Int) c).c) : Int × Int).1) else (9 : Int)) = (V : Int) := hV
  rw [hVM]
  refine sat_chk (by omega) ?_
  have sV := szs (n := 70000) v8 (by rw [q200]; decide)
  refine sat_eq (big_ok (S := MS.fresh (V : Int) 4) rfl v8 v30 (by omega)) ?_
  refine sat_chk (by unfold CPow; decide) ?_
  refine sat_bind (next_s g2 (by decide) (by decide)) fun r3 ⟨g3, a3, b3⟩ => ?_
  obtain ⟨far, hfar⟩ := Int.eq_ofNat_of_zero_le (a := 100001 + r3.1) (by omega)
  rw [hfar]
  refine sat_let ?_
  refine sat_chk (mul_small (by decide)) ?_
  show Sat ((chkP (CShl 7 (2 * (W : Int)))).bind _) _
  refine sat_chk (shl_ok (k := 3) (by decide) (by omega) (by omega)) ?_
  have w7 : ((7 : Int) * 2 ^ (((2 : Int) * (((MS.fresh (W : Int) c).w, (MS.fresh (W : Int) c).c) : Int × Int).1)).toNat) = 7 * 2 ^ (2 * W) := by
    show (7 : Int) * 2 ^ ((2 : Int) * (W : Int)).toNat = _
    rw [show ((2 : Int) * (W : Int)).toNat = 2 * W by omega]
  have w9 : ((0 : Int) - (9 : Int) * 2 ^ ((((MS.fresh (W : Int) c).w, (MS.fresh (W : Int) c).c) : Int × Int).1).toNat) = 0 - 9 * 2 ^ W := by
    show (0 : Int) - (9 : Int) * 2 ^ ((W : Int)).toNat = _
    rw [Int.toNat_natCast]
  rw [w7, w9]
  have q2 : (2 : Nat) ^ (2 * W) = 2 ^ W * 2 ^ W := by rw [Nat.two_mul, Nat.pow_add]
  have q3 : (2 : Int) ^ (2 * W) = ((2 ^ (2 * W) : Nat) : Int) := (p2 (2 * W)).symm ▸ rfl
  have q60 : 2 ^ (2 * W) ≤ 2 ^ 60 := Nat.pow_le_pow_right (by decide) (by omega)
  have qW : 2 ^ W ≤ 2 ^ (2 * W) := Nat.pow_le_pow_right (by decide) (by omega)
  have b7 : ((7 : Int) * 2 ^ (2 * W)).natAbs < 2 ^ 200 := by
    rw [q3, q200]
    omega
  have b9 : ((0 : Int) - (9 : Int) * 2 ^ W).natAbs < 2 ^ 200 := by
    rw [q200]
    omega
  have s7 := szs h8 b7
  have s9 := szs h8 b9
  refine sat_eq (big_ok hS h8 h30 (by omega)) ?_
  refine sat_chk (shl_ok (k := 4) (by decide) (by show (0 : Int) ≤ (W : Int); omega) (by show ((4 : Nat) : Int) + (W : Int) ≤ _; omega)) ?_
  refine sat_eq (big_ok hS h8 h30 (by omega)) ?_
  refine sat_eq (add_ok hS h8 h30 (by omega) (by omega)) ?_
  refine sat_let ?_
  refine sat_bind (next_s g3 (by decide) (by decide)) fun r4 ⟨g4, a4, b4⟩ => ?_
  obtain ⟨d, ed, hd⟩ := deep_ok (n := (1998 : Int) - r4.1) (by omega) (by omega)
  refine sat_eq ed ?_
  refine sat_bind (next_s g4 (by decide) (by decide)) fun r5 ⟨g5, a5, b5⟩ => ?_
  have hS2 : (joinS W (MS.fresh (W : Int) c) (7 * 2 ^ (2 * W)) (0 - 9 * 2 ^ W) 1).w = (W : Int) := joinS_w
  have hk : WkOk (joinS W (MS.fresh (W : Int) c) (7 * 2 ^ (2 * W)) (0 - 9 * 2 ^ W) 1).wk := joinS_lay wkok_nil
  refine sat_eq (numbers_ok hS2 vW _ _ (by omega) _) (sat_chk rfl ?_)
  refine sat_eq (rows_ok hS2 h8 h30 _ hd) (sat_chk rfl ?_)
  refine sat_chk (by unfold CPow; decide) ?_
  refine sat_eq (for_same (s := joinS W (MS.fresh (W : Int) c) (7 * 2 ^ (2 * W)) (0 - 9 * 2 ^ W) 1) fun a ha => ?_) (sat_nx ?_)
  · have hc : 100000 < a := by
      have e : ((10 : Int) ^ ((30 : Int)).toNat) = 1000000000000000000000000000000 := by decide
      simp only [List.mem_cons, List.not_mem_nil, or_false] at ha
      rw [e] at ha
      omega
    exact one_z (lgreat hS2 n2 hc) lr_z ly_g
  refine sat_chk ⟨rfl, tally_dat _, wkok_dat hk⟩ ?_
  refine sat_chk ⟨fun z => wk_ne c (7 * 2 ^ (2 * W)) (0 - 9 * 2 ^ W) (by omega) (by omega) (by rw [q3]; omega) (by omega) (congrArg LF.l z), wkok_dat hk, fun _ h => (by cases h)⟩ ?_
  have sz0' : sz W (0 : Int).natAbs ≤ 4194304 := Nat.le_trans (szs (n := 0) h8 (by rw [q200]; decide)) (by decide)
  have bl2 : bl r2.1.natAbs ≤ 200 := bl_le.mpr b2
  refine sat_eq (big_ok hS2 h8 h30 sz0') ?_
  refine sat_eq (left_ok (x := 0) (c := far) hS2 h8 h30 (fun h => absurd rfl h) (Nat.le_trans (bl_le.mpr (show (0 : Int).natAbs < 2 ^ 1 by decide)) (by decide))) ?_
  have hS3 : (leftS W (joinS W (MS.fresh (W : Int) c) (7 * 2 ^ (2 * W)) (0 - 9 * 2 ^ W) 1) 0 (far : Int)).w = (W : Int) := leftS_w.trans hS2
  refine sat_eq (left_ok (x := r2.1) (c := 9) hS3 h8 h30 (fun _ => by decide) (by omega)) ?_
  refine sat_eq (right_ok (x := r2.1) (c := far) (leftS_w.trans hS3) h8 h30 (by omega)) ?_
  refine sat_chk (shl_ok (k := 1) (by decide) (by show (0 : Int) ≤ (W : Int); omega) (by show ((1 : Nat) : Int) + (W : Int) ≤ _; omega)) ?_
  have hd1 : ∀ x ∈ [(2 : Int) ^ W - 1], 0 ≤ x ∧ x < (2 : Int) ^ W := fun x hx => by
    rw [List.mem_singleton.mp hx]; omega
  have ew : ((((MS.fresh (W : Int) c).w, (MS.fresh (W : Int) c).c) : Int × Int).1) - 1 = ((W - 1 : Nat) : Int) := by show (W : Int) - 1 = _; omega
  rw [ew]
  refine sat_eq (rup_ok (c := W - 1) (rightS_w.trans (leftS_w.trans hS3)) h8 h30 hd1 (by show 1 ≤ _; decide) (by omega)) ?_
  refine sat_chk ⟨by decide, by show 1 * 4 ≤ sizeLine; exact size_le (m := 4) (by decide) (by decide)⟩ ?_
  refine sat_chk ⟨rfl, fun x hx => ?_⟩ (sat_end trivial)
  simp only [List.mem_cons, List.not_mem_nil, or_false] at hx
  rcases hx with rfl | rfl | rfl | rfl <;> trivial
end P

set_option Elab.async false
set_option linter.all false
set_option maxRecDepth 100000
set_option maxHeartbeats 0
namespace P
open PySem L2 VL

theorem Fun.ofD {K : PySem.W.Frag} {x qual : Str} {st : Stmt} {f : Addr} {fd : FuncData} (F : FunD K x qual (defArgs st) (defBody st) (defScope st) [] [] f fd) : Fun K x qual st f fd := by
  obtain ⟨oc, od, dV, kV, doc, pm, an, cdv, ct, osl, rfl, lk, hcd, hD, hK⟩ := F.ex
  rcases hD with ⟨_, rfl⟩ | ⟨e, _⟩
  · exact ⟨⟨oc, od, kV, doc, pm, an, cdv, ct, osl, rfl, lk, hcd⟩, F.kp⟩
  · exact absurd rfl e
theorem iclsB_ok {K : PySem.W.Frag} {C : Addr} (cl : Cls K C) (h : iclsB K C = true) : ICls K C := by
  obtain ⟨h1, h⟩ := He.ba h
  obtain ⟨h2, h⟩ := He.ba h
  obtain ⟨h3, h⟩ := He.ba h
  obtain ⟨h4, h5⟩ := He.ba h
  exact ⟨cl, He.eqO_ok h1, He.eqO_ok h2, of_decide_eq_true h3, of_decide_eq_true h4, of_decide_eq_true h5⟩
theorem codeIs_of {K : PySem.W.Frag} {p : He.Defn} : CodeIs K (He.fAd K p) (He.codeOf K p) := fun oc od x qual ar body sc dV kV doc pm an cdv ct osl lk hc => by
  obtain ⟨c, rfl⟩ := He.codeIn_ref hc
  rw [He.codeOf_eq lk rfl]
theorem hu_of {l : List (Addr × Str)} (nd : (l.map (·.1)).Nodup) {A : Addr} {q : Str} (hm : (A, q) ∈ l) : ∀ p ∈ l, p.1 = A → p.2 = q := by
  induction l with
  | nil => cases hm
  | cons a r ih =>
    obtain ⟨h1, h2⟩ := List.nodup_cons.mp (show (a.1 :: r.map (·.1)).Nodup from nd)
    intro p hp e
    rcases List.mem_cons.mp hm with m | m
    · rcases List.mem_cons.mp hp with z | z
      · rw [z, ← m]
      · exact absurd (List.mem_map.mpr ⟨p, z, by rw [e, ← m]⟩) h1
    · rcases List.mem_cons.mp hp with z | z
      · exact absurd (List.mem_map.mpr ⟨_, m, by rw [← e, z]⟩) h1
      · exact ih h2 m p z e
theorem gInt {K : PySem.W.Frag} {h : Heap} {mg : Str → Option Value} {x : Str} {i : Int} (X : K.In h) (G : h.Ns mainGlobals mg) (c : (He.Fa.int x i).ok K = true) : ∃ u, mg x = some u ∧ RelV (.int i) u := by
  obtain ⟨t, e⟩ := He.int_ok X G c
  exact ⟨_, e, t, rfl⟩
theorem gRef {K : PySem.W.Frag} {h : Heap} {mg : Str → Option Value} {x : Str} (X : K.In h) (G : h.Ns mainGlobals mg) (c : (He.Fa.glo x).ok K = true) : ∃ u, mg x = some u ∧ RelV (.ref (He.ga K x)) u := ⟨_, He.glo_ok X G c, rfl⟩
theorem facts {P : Program} {w : World} {K : PySem.W.Frag} {h : Heap} {mg : Str → Option Value} {f : Addr} (X : K.In h) (G : h.Ns mainGlobals mg) (hfa : mg ("law" : Str) = some (.ref f)) (c : He.SaysX fa fn [] tfs exB w h K) :
    ∃ (T : TC) (fd : FuncData), T.K = K ∧ (∀ H : Hp, (∀ p ∈ tfs.map (He.cT K), H p.2 = some (.tbl #[])) → ∀ p ∈ tbs T, H p.1 = some (.tbl #[])) ∧ (∀ (s : Shared) (v : Value), BindsTo s fd ⟨[v], []⟩ [("_law_script", v)]) ∧ ∀ base : Heap, K.In base → base.Ns mainGlobals mg → (∀ p ∈ tfs.map (He.cT K), LamX.TabB base mg p.1 p.2) → FnOk P w K mg base CX0 28 f fd ["_law_script"] (mkSp (Pre_law T)) := by
  have cd : He.SaysD fa fn K := c.t.d
  obtain ⟨cmoreX, exR⟩ := He.ba c.more
  unfold rxB at exR
  obtain ⟨exQ, exR⟩ := He.ba exR
  have mx_InvalidBound_InvalidBound := of_decide_eq_true exQ
  obtain ⟨exQ, exR⟩ := He.ba exR
  have xf_InvalidBound := xfB_ok exQ
  obtain ⟨exQ, exR⟩ := He.ba exR
  have no_InvalidBound := of_decide_eq_true exQ
  obtain ⟨exQ, exR⟩ := He.ba exR
  have mx_TooGreat_InvalidBound := of_decide_eq_true exQ
  obtain ⟨exQ, exR⟩ := He.ba exR
  have mx_TooGreat_TooGreat := of_decide_eq_true exQ
  obtain ⟨exQ, exR⟩ := He.ba exR
  have kt_Big_I := of_decide_eq_true exQ
  obtain ⟨exQ, exR⟩ := He.ba exR
  have kt_tuple_G := of_decide_eq_true exQ
  obtain ⟨exQ, exR⟩ := He.ba exR
  have kt_list_G := of_decide_eq_true exQ
  obtain ⟨exQ, exR⟩ := He.ba exR
  have kt_dict_G := of_decide_eq_true exQ
  obtain ⟨exQ, exR⟩ := He.ba exR
  have kt_Mach_G := of_decide_eq_true exQ
  obtain ⟨exQ, exR⟩ := He.ba exR
  have kt_str_G := of_decide_eq_true exQ
  obtain ⟨exQ, exR⟩ := He.ba exR
  have kt_bool_G := of_decide_eq_true exQ
  obtain ⟨exQ, exR⟩ := He.ba exR
  have kt_int_G := of_decide_eq_true exQ
  obtain ⟨exQ, exR⟩ := He.ba exR
  have kt_NoneType_G := of_decide_eq_true exQ
  obtain ⟨exQ, exR⟩ := He.ba exR
  have kt_tuple_M := of_decide_eq_true exQ
  obtain ⟨exQ, exR⟩ := He.ba exR
  have kt_list_M := of_decide_eq_true exQ
  obtain ⟨exQ, exR⟩ := He.ba exR
  have kt_Big_M := of_decide_eq_true exQ
  obtain ⟨exQ, exR⟩ := He.ba exR
  have kt_int_M := of_decide_eq_true exQ
  obtain ⟨exQ, exR⟩ := He.ba exR
  have kt_NoneType_M := of_decide_eq_true exQ
  obtain ⟨exQ, exR⟩ := He.ba exR
  have kt_Big_L := of_decide_eq_true exQ
  obtain ⟨exQ, exR⟩ := He.ba exR
  have exI_InvalidBound := exQ
  have exX_TooGreat := exR
  obtain ⟨cmore, exT⟩ := He.ba cmoreX
  obtain ⟨ex1, exr⟩ := He.ba cmore
  obtain ⟨ex2, exs⟩ := He.ba exr
  obtain ⟨ex3, ex4⟩ := He.ba exs
  let T : TC := ⟨K, fun i => match i with | 0 => He.ga K "Machine" | 1 => He.ga K "Big" | 200 => He.ga K "shift_left" | 201 => He.ga K "shift_right" | 202 => He.ga K "shift_row_up" | 203 => He.ga K "shift_row_down" | 300 => He.ga K "InvalidBound" | 301 => He.ga K "BitsError" | 302 => He.ga K "TooGreat" | 100 => (He.cT K ("_law_numbers_right", none)).2 | 150 => (He.cT K ("_law_numbers_right", none)).1 | 101 => (He.cT K ("_law_rows_right", none)).2 | 151 => (He.cT K ("_law_rows_right", none)).1 | 102 => (He.cT K ("law", none)).2 | 152 => (He.cT K ("law", none)).1 | _ => He.ga K "Big"⟩
  refine ⟨T, ?_⟩
  obtain ⟨fd_law, G_law⟩ := cd.def_ 43 (d := d_law) rfl
  cases hfa.symm.trans (He.glo_ok X G (cd.fact 86 (f := .glo "law") rfl))
  have ndT : ((tbs T).map (·.1)).Nodup := of_decide_eq_true exT
  refine ⟨fd_law, rfl, (fun H hT p hp => by
    have hp : p ∈ [((He.cT K ("_law_numbers_right", none)).2, qual__law_numbers_right), ((He.cT K ("_law_rows_right", none)).2, qual__law_rows_right), ((He.cT K ("law", none)).2, qual_law)] := hp
    simp only [List.mem_cons, List.not_mem_nil, or_false] at hp
    rcases hp with e | e | e
    · rw [e]; exact hT (He.cT K ("_law_numbers_right", none)) (List.mem_map.mpr ⟨_, by simp [tfs], rfl⟩)
    · rw [e]; exact hT (He.cT K ("_law_rows_right", none)) (List.mem_map.mpr ⟨_, by simp [tfs], rfl⟩)
    · rw [e]; exact hT (He.cT K ("law", none)) (List.mem_map.mpr ⟨_, by simp [tfs], rfl⟩)), fun s v => (FunD.bindsA (ps := ["_law_script"]) G_law fun _ _ _ _ _ _ us hl => match us, hl with | [_], _ => rfl) s [v] rfl, fun base _ _ hTB => ?_⟩
  have clM : Cls K (He.ga K "Machine") := He.cls_ok (cd.fact 0 (f := .cls "Machine") rfl)
  have mc : MCls T.K (T.C 0) := ⟨clM, (He.noat_ok (cd.fact 1 (f := .noat "Machine" "width") rfl)), (He.noat_ok (cd.fact 2 (f := .noat "Machine" "cutoff") rfl)), (He.noat_ok (cd.fact 3 (f := .noat "Machine" "counts") rfl)), (He.noat_ok (cd.fact 4 (f := .noat "Machine" "entered") rfl))⟩
  have icm : ICls T.K (T.C 0) := iclsB_ok clM ex2
  have clB : Cls K (He.ga K "Big") := He.cls_ok (cd.fact 5 (f := .cls "Big") rfl)
  have bc : BCls T.K (T.C 1) := ⟨clB, (He.noat_ok (cd.fact 6 (f := .noat "Big" "width") rfl)), (He.noat_ok (cd.fact 7 (f := .noat "Big" "side") rfl)), (He.noat_ok (cd.fact 8 (f := .noat "Big" "row") rfl)), (He.noat_ok (cd.fact 9 (f := .noat "Big" "value") rfl))⟩
  have icb : ICls T.K (T.C 1) := iclsB_ok clB ex3
  obtain ⟨e_TooGreat, m_TooGreat⟩ := excB_ok (x := "TooGreat") exX_TooGreat (He.glo_ok X G (cd.fact 10 (f := .glo "TooGreat") rfl))
  have hW : ∀ H, SqT T.K H (He.ga K "WORDS") (mwords.map V.str) := fun H => He.tupB_ok ex1 H
  obtain ⟨fd_shown, F_shown⟩ := cd.def_ 0 (d := d_shown) rfl
  have F_shown := Fun.ofD (st := s_shown) F_shown
  have c_shown : Cal P w K mg base 2 "shown" ["field"] (mkSp (Pre_shown T)) := ⟨⟨_, _, ok_shown (T := T) F_shown (He.free_ok X G (cd.fact 11 (f := .free "isinstance") rfl)) (He.free_ok X G (cd.fact 12 (f := .free "str") rfl)), He.glo_ok X G (cd.fact 13 (f := .glo "shown") rfl), F_shown.kp, (F_shown.binds (ps := ["field"]) fun _ _ _ _ _ _ us hl => match us, hl with | [_], _ => rfl)⟩⟩
  obtain ⟨fd_ix_InvalidBound, F_ix_InvalidBound⟩ := cd.def_ 51 (d := d_ix_InvalidBound) rfl
  have F_ix_InvalidBound := Fun.ofD (st := s_ix_InvalidBound) F_ix_InvalidBound
  have t_ix_InvalidBound := ixB_ok exI_InvalidBound
  have e_InvalidBound : MkC P w K mg base 3 "InvalidBound" (T.C 300) "argument" := ⟨_, _, _, t_ix_InvalidBound, ok_ix_InvalidBound (T := T) F_ix_InvalidBound t_ix_InvalidBound (He.glo_ok X G (cd.fact 14 (f := .glo "BitsError") rfl)) c_shown, (F_ix_InvalidBound.binds (ps := ["self", "argument"]) fun _ _ _ _ _ _ us hl => match us, hl with | [_, _], _ => rfl), He.glo_ok X G (cd.fact 15 (f := .glo "InvalidBound") rfl)⟩
  obtain ⟨fd_is_integer, F_is_integer⟩ := cd.def_ 1 (d := d_is_integer) rfl
  have F_is_integer := Fun.ofD (st := s_is_integer) F_is_integer
  have c_is_integer : Cal P w K mg base 1 "is_integer" ["value"] (mkSp (Pre_is_integer T)) := ⟨⟨_, _, ok_is_integer (T := T) F_is_integer (He.free_ok X G (cd.fact 11 (f := .free "isinstance") rfl)) (He.free_ok X G (cd.fact 16 (f := .free "int") rfl)) (He.free_ok X G (cd.fact 17 (f := .free "bool") rfl)), He.glo_ok X G (cd.fact 18 (f := .glo "is_integer") rfl), F_is_integer.kp, (F_is_integer.binds (ps := ["value"]) fun _ _ _ _ _ _ us hl => match us, hl with | [_], _ => rfl)⟩⟩
  obtain ⟨fd_is_between, F_is_between⟩ := cd.def_ 2 (d := d_is_between) rfl
  have F_is_between := Fun.ofD (st := s_is_between) F_is_between
  have c_is_between : Cal P w K mg base 2 "is_between" ["value", "low", "high"] (mkSp (Pre_is_between T)) := ⟨⟨_, _, ok_is_between (T := T) F_is_between c_is_integer, He.glo_ok X G (cd.fact 19 (f := .glo "is_between") rfl), F_is_between.kp, (F_is_between.binds (ps := ["value", "low", "high"]) fun _ _ _ _ _ _ us hl => match us, hl with | [_, _, _], _ => rfl)⟩⟩
  obtain ⟨fd_Mach_step, F_Mach_step⟩ := cd.def_ 44 (d := d_Mach_step) rfl
  have F_Mach_step := Fun.ofD (st := s_Mach_step) F_Mach_step
  have c_Mach_step : CalM P w K mg base 1 (T.C 0) "step" ["self", "word", "many"] (mkSp (Pre_Mach_step T)) := ⟨⟨_, _, ok_Mach_step (T := T) F_Mach_step mc , He.meth_ok (cd.fact 20 (f := .meth "Machine" "step") rfl), (F_Mach_step.binds (ps := ["self", "word", "many"]) fun _ _ _ _ _ _ us hl => match us, hl with | [_, _, _], _ => rfl)⟩, clM⟩
  obtain ⟨fd_Mach_enter, F_Mach_enter⟩ := cd.def_ 45 (d := d_Mach_enter) rfl
  have F_Mach_enter := Fun.ofD (st := s_Mach_enter) F_Mach_enter
  have c_Mach_enter : CalM P w K mg base 1 (T.C 0) "enter" ["self", "word", "m", "n"] (mkSp (Pre_Mach_enter T)) := ⟨⟨_, _, ok_Mach_enter (T := T) F_Mach_enter mc (He.free_ok X G (cd.fact 21 (f := .free "len") rfl)) (gInt X G (cd.fact 22 (f := .int "LONGEST_WALK" 1000) rfl)), He.meth_ok (cd.fact 23 (f := .meth "Machine" "enter") rfl), (F_Mach_enter.binds (ps := ["self", "word", "m", "n"]) fun _ _ _ _ _ _ us hl => match us, hl with | [_, _, _, _], _ => rfl)⟩, clM⟩
  obtain ⟨fd_Mach_tally, F_Mach_tally⟩ := cd.def_ 46 (d := d_Mach_tally) rfl
  have F_Mach_tally := Fun.ofD (st := s_Mach_tally) F_Mach_tally
  have c_Mach_tally : CalM P w K mg base 1 (T.C 0) "tally" ["self"] (mkSp (Pre_Mach_tally T)) := ⟨⟨_, _, ok_Mach_tally (T := T) F_Mach_tally mc (gRef X G (cd.fact 24 (f := .glo "WORDS") rfl)) hW, He.meth_ok (cd.fact 25 (f := .meth "Machine" "tally") rfl), (F_Mach_tally.binds (ps := ["self"]) fun _ _ _ _ _ _ us hl => match us, hl with | [_], _ => rfl)⟩, clM⟩
  obtain ⟨fd_Mach_walk, F_Mach_walk⟩ := cd.def_ 47 (d := d_Mach_walk) rfl
  have F_Mach_walk := Fun.ofD (st := s_Mach_walk) F_Mach_walk
  have c_Mach_walk : CalM P w K mg base 1 (T.C 0) "walk" ["self"] (mkSp (Pre_Mach_walk T)) := ⟨⟨_, _, ok_Mach_walk (T := T) F_Mach_walk mc (He.free_ok X G (cd.fact 26 (f := .free "list") rfl)), He.meth_ok (cd.fact 27 (f := .meth "Machine" "walk") rfl), (F_Mach_walk.binds (ps := ["self"]) fun _ _ _ _ _ _ us hl => match us, hl with | [_], _ => rfl)⟩, clM⟩
  obtain ⟨fd_Mach_parts, F_Mach_parts⟩ := cd.def_ 48 (d := d_Mach_parts) rfl
  have F_Mach_parts := Fun.ofD (st := s_Mach_parts) F_Mach_parts
  have c_Mach_parts : CalM P w K mg base 1 (T.C 0) "parts" ["self"] (mkSp (Pre_Mach_parts T)) := ⟨⟨_, _, ok_Mach_parts (T := T) F_Mach_parts mc , He.meth_ok (cd.fact 28 (f := .meth "Machine" "parts") rfl), (F_Mach_parts.binds (ps := ["self"]) fun _ _ _ _ _ _ us hl => match us, hl with | [_], _ => rfl)⟩, clM⟩
  obtain ⟨fd_Mach_init, F_Mach_init⟩ := cd.def_ 49 (d := d_Mach_init) rfl
  have c_Machine2 : CalC P w K mg base 3 "Machine" (T.C 0) ["self", "bits", "cutoff"] [] (mkSp (Pre_Machine T)) := by
    obtain ⟨ds, hv, hb⟩ := FunD.binds1 (ps := ["self", "bits", "cutoff"]) F_Mach_init 3 2 (fun e => nomatch e) rfl fun _ _ _ _ _ _ _ us its hl hi => match us, its, hl, hi with | [_, _, _], [_, _], _, _ => ⟨_, rfl, rfl⟩
    exact ⟨⟨_, _, ds, ok_Mach_init (T := T) F_Mach_init mc (gRef X G (cd.fact 24 (f := .glo "WORDS") rfl)) hW c_is_between, He.glo_ok X G (cd.fact 29 (f := .glo "Machine") rfl), He.mkr_ok (cd.fact 30 (f := .mkr "Machine") rfl), hv, hb⟩⟩
  obtain ⟨fd_Big_eq, F_Big_eq⟩ := cd.def_ 52 (d := d_Big_eq) rfl
  have F_Big_eq := Fun.ofD (st := s_Big_eq) F_Big_eq
  have ceq : CalEq P w K mg base 1 (T.C 1) (mkSp (Pre_Big_eq T)) := ⟨⟨_, _, ok_Big_eq (T := T) F_Big_eq icb (He.free_ok X G (cd.fact 11 (f := .free "isinstance") rfl)) (gRef X G (cd.fact 31 (f := .glo "Big") rfl)) bc, ex4, He.meth_ok (cd.fact 32 (f := .meth "Big" "__eq__") rfl), (F_Big_eq.binds (ps := ["self", "other"]) fun _ _ _ _ _ _ us hl => match us, hl with | [_, _], _ => rfl)⟩⟩
  obtain ⟨fd_Big_digits, F_Big_digits⟩ := cd.def_ 53 (d := d_Big_digits) rfl
  have F_Big_digits := Fun.ofD (st := s_Big_digits) F_Big_digits
  have c_Big_digits : CalM P w K mg base 1 (T.C 1) "digits" ["self"] (mkSp (Pre_Big_digits T)) := ⟨⟨_, _, ok_Big_digits (T := T) F_Big_digits bc (He.free_ok X G (cd.fact 26 (f := .free "list") rfl)), He.meth_ok (cd.fact 33 (f := .meth "Big" "digits") rfl), (F_Big_digits.binds (ps := ["self"]) fun _ _ _ _ _ _ us hl => match us, hl with | [_], _ => rfl)⟩, clB⟩
  obtain ⟨fd_Big_sign, F_Big_sign⟩ := cd.def_ 54 (d := d_Big_sign) rfl
  have F_Big_sign := Fun.ofD (st := s_Big_sign) F_Big_sign
  have c_Big_sign : CalM P w K mg base 1 (T.C 1) "sign" ["self"] (mkSp (Pre_Big_sign T)) := ⟨⟨_, _, ok_Big_sign (T := T) F_Big_sign bc, He.meth_ok (cd.fact 34 (f := .meth "Big" "sign") rfl), (F_Big_sign.binds (ps := ["self"]) fun _ _ _ _ _ _ us hl => match us, hl with | [_], _ => rfl)⟩, clB⟩
  obtain ⟨fd_Big_bits, F_Big_bits⟩ := cd.def_ 55 (d := d_Big_bits) rfl
  have F_Big_bits := Fun.ofD (st := s_Big_bits) F_Big_bits
  have c_Big_bits : CalM P w K mg base 1 (T.C 1) "bits" ["self"] (mkSp (Pre_Big_bits T)) := ⟨⟨_, _, ok_Big_bits (T := T) F_Big_bits bc, He.meth_ok (cd.fact 35 (f := .meth "Big" "bits") rfl), (F_Big_bits.binds (ps := ["self"]) fun _ _ _ _ _ _ us hl => match us, hl with | [_], _ => rfl)⟩, clB⟩
  obtain ⟨fd_order_of, F_order_of⟩ := cd.def_ 3 (d := d_order_of) rfl
  have F_order_of := Fun.ofD (st := s_order_of) F_order_of
  have c_order_of : Cal P w K mg base 1 "order_of" ["a", "b"] (mkSp (Pre_order_of T)) := ⟨⟨_, _, ok_order_of (T := T) F_order_of , He.glo_ok X G (cd.fact 36 (f := .glo "order_of") rfl), F_order_of.kp, (F_order_of.binds (ps := ["a", "b"]) fun _ _ _ _ _ _ us hl => match us, hl with | [_, _], _ => rfl)⟩⟩
  obtain ⟨fd_Big_init, F_Big_init⟩ := cd.def_ 50 (d := d_Big_init) rfl
  have F_Big_init := Fun.ofD (st := s_Big_init) F_Big_init
  have c_Big : CalC P w K mg base 2 "Big" (T.C 1) ["self", "width", "value", "row"] [] (mkSp (Pre_Big T)) := ⟨⟨_, _, [], ok_Big_init (T := T) F_Big_init bc (He.free_ok X G (cd.fact 37 (f := .free "tuple") rfl)) c_order_of, He.glo_ok X G (cd.fact 31 (f := .glo "Big") rfl), He.mkr_ok (cd.fact 38 (f := .mkr "Big") rfl), .nil, (F_Big_init.binds (ps := ["self", "width", "value", "row"]) fun _ _ _ _ _ _ us hl => match us, hl with | [_, _, _, _], _ => rfl)⟩⟩
  obtain ⟨fd_check_machine, F_check_machine⟩ := cd.def_ 4 (d := d_check_machine) rfl
  have F_check_machine := Fun.ofD (st := s_check_machine) F_check_machine
  have c_check_machine : Cal P w K mg base 5 "check_machine" ["machine"] (mkSp (Pre_check_machine T)) := ⟨⟨_, _, ok_check_machine (T := T) F_check_machine icm (He.free_ok X G (cd.fact 11 (f := .free "isinstance") rfl)) (gRef X G (cd.fact 29 (f := .glo "Machine") rfl)), He.glo_ok X G (cd.fact 39 (f := .glo "check_machine") rfl), F_check_machine.kp, (F_check_machine.binds (ps := ["machine"]) fun _ _ _ _ _ _ us hl => match us, hl with | [_], _ => rfl)⟩⟩
  obtain ⟨fd_top_digit, F_top_digit⟩ := cd.def_ 5 (d := d_top_digit) rfl
  have F_top_digit := Fun.ofD (st := s_top_digit) F_top_digit
  have c_top_digit : Cal P w K mg base 1 "top_digit" ["width"] (mkSp (Pre_top_digit T)) := ⟨⟨_, _, ok_top_digit (T := T) F_top_digit , He.glo_ok X G (cd.fact 40 (f := .glo "top_digit") rfl), F_top_digit.kp, (F_top_digit.binds (ps := ["width"]) fun _ _ _ _ _ _ us hl => match us, hl with | [_], _ => rfl)⟩⟩
  obtain ⟨fd_check_row, F_check_row⟩ := cd.def_ 6 (d := d_check_row) rfl
  have F_check_row := Fun.ofD (st := s_check_row) F_check_row
  have c_check_row : Cal P w K mg base 5 "check_row" ["machine", "value", "name"] (mkSp (Pre_check_row T)) := ⟨⟨_, _, ok_check_row (T := T) F_check_row (He.free_ok X G (cd.fact 11 (f := .free "isinstance") rfl)) (He.free_ok X G (cd.fact 26 (f := .free "list") rfl)) mc c_top_digit c_is_between (He.free_ok X G (cd.fact 41 (f := .free "all") rfl)), He.glo_ok X G (cd.fact 42 (f := .glo "check_row") rfl), F_check_row.kp, (F_check_row.binds (ps := ["machine", "value", "name"]) fun _ _ _ _ _ _ us hl => match us, hl with | [_, _, _], _ => rfl)⟩⟩
  obtain ⟨fd_size_of, F_size_of⟩ := cd.def_ 7 (d := d_size_of) rfl
  have F_size_of := Fun.ofD (st := s_size_of) F_size_of
  have c_size_of : Cal P w K mg base 2 "size_of" ["width", "n"] (mkSp (Pre_size_of T)) := ⟨⟨_, _, ok_size_of (T := T) F_size_of , He.glo_ok X G (cd.fact 43 (f := .glo "size_of") rfl), F_size_of.kp, (F_size_of.binds (ps := ["width", "n"]) fun _ _ _ _ _ _ us hl => match us, hl with | [_, _], _ => rfl)⟩⟩
  obtain ⟨fd_number_of, F_number_of⟩ := cd.def_ 8 (d := d_number_of) rfl
  have F_number_of := Fun.ofD (st := s_number_of) F_number_of
  have r_number_of : ∀ n : Nat, FnOk P w K mg base CX0 (1 + n) (He.ga K "number_of") fd_number_of ["width", "row"] (mkSp (Pre_number_of n T)) := by
    intro n
    induction n with
    | zero => exact ok0_number_of (T := T) F_number_of
    | succ n ih =>
      have i_number_of := ih
      have c_number_of : Cal P w K mg base (1 + n) "number_of" ["width", "row"] (mkSp (Pre_number_of n T)) := ⟨⟨_, _, i_number_of, He.glo_ok X G (cd.fact 44 (f := .glo "number_of") rfl), F_number_of.kp, (F_number_of.binds (ps := ["width", "row"]) fun _ _ _ _ _ _ us hl => match us, hl with | [_, _], _ => rfl)⟩⟩
      exact ok_number_of (T := T) n F_number_of (He.free_ok X G (cd.fact 21 (f := .free "len") rfl)) (gInt X G (cd.fact 45 (f := .int "LONGEST_LOOP" 32) rfl)) c_number_of (He.free_ok X G (cd.fact 46 (f := .free "reversed") rfl))
  have c_number_of : Cal P w K mg base 21 "number_of" ["width", "row"] (mkSp (Pre_number_of 20 T)) := ⟨⟨_, _, (r_number_of 20), He.glo_ok X G (cd.fact 44 (f := .glo "number_of") rfl), F_number_of.kp, (F_number_of.binds (ps := ["width", "row"]) fun _ _ _ _ _ _ us hl => match us, hl with | [_, _], _ => rfl)⟩⟩
  obtain ⟨fd_low_part, F_low_part⟩ := cd.def_ 9 (d := d_low_part) rfl
  have F_low_part := Fun.ofD (st := s_low_part) F_low_part
  have c_low_part : Cal P w K mg base 1 "low_part" ["width", "n", "size"] (mkSp (Pre_low_part T)) := ⟨⟨_, _, ok_low_part (T := T) F_low_part , He.glo_ok X G (cd.fact 47 (f := .glo "low_part") rfl), F_low_part.kp, (F_low_part.binds (ps := ["width", "n", "size"]) fun _ _ _ _ _ _ us hl => match us, hl with | [_, _, _], _ => rfl)⟩⟩
  obtain ⟨fd_row_of, F_row_of⟩ := cd.def_ 10 (d := d_row_of) rfl
  have F_row_of := Fun.ofD (st := s_row_of) F_row_of
  have r_row_of : ∀ n : Nat, FnOk P w K mg base CX0 (1 + n) (He.ga K "row_of") fd_row_of ["width", "n", "size"] (mkSp (Pre_row_of n T)) := by
    intro n
    induction n with
    | zero => exact ok0_row_of (T := T) F_row_of
    | succ n ih =>
      have i_row_of := ih
      have c_row_of : Cal P w K mg base (1 + n) "row_of" ["width", "n", "size"] (mkSp (Pre_row_of n T)) := ⟨⟨_, _, i_row_of, He.glo_ok X G (cd.fact 48 (f := .glo "row_of") rfl), F_row_of.kp, (F_row_of.binds (ps := ["width", "n", "size"]) fun _ _ _ _ _ _ us hl => match us, hl with | [_, _, _], _ => rfl)⟩⟩
      exact ok_row_of (T := T) n F_row_of (gInt X G (cd.fact 45 (f := .int "LONGEST_LOOP" 32) rfl)) c_low_part c_row_of c_top_digit (He.free_ok X G (cd.fact 49 (f := .free "range") rfl))
  have c_row_of : Cal P w K mg base 21 "row_of" ["width", "n", "size"] (mkSp (Pre_row_of 20 T)) := ⟨⟨_, _, (r_row_of 20), He.glo_ok X G (cd.fact 48 (f := .glo "row_of") rfl), F_row_of.kp, (F_row_of.binds (ps := ["width", "n", "size"]) fun _ _ _ _ _ _ us hl => match us, hl with | [_, _, _], _ => rfl)⟩⟩
  obtain ⟨fd_last_difference, F_last_difference⟩ := cd.def_ 11 (d := d_last_difference) rfl
  have F_last_difference := Fun.ofD (st := s_last_difference) F_last_difference
  have c_last_difference : Cal P w K mg base 3 "last_difference" ["machine", "a", "b"] (mkSp (Pre_last_difference T)) := ⟨⟨_, _, ok_last_difference (T := T) F_last_difference mc c_size_of (He.free_ok X G (cd.fact 50 (f := .free "max") rfl)) c_Mach_step, He.glo_ok X G (cd.fact 51 (f := .glo "last_difference") rfl), F_last_difference.kp, (F_last_difference.binds (ps := ["machine", "a", "b"]) fun _ _ _ _ _ _ us hl => match us, hl with | [_, _, _], _ => rfl)⟩⟩
  obtain ⟨fd_check_big, F_check_big⟩ := cd.def_ 12 (d := d_check_big) rfl
  have F_check_big := Fun.ofD (st := s_check_big) F_check_big
  have c_check_big : Cal P w K mg base 5 "check_big" ["value", "name"] (mkSp (Pre_check_big T)) := ⟨⟨_, _, ok_check_big (T := T) F_check_big icb (He.free_ok X G (cd.fact 11 (f := .free "isinstance") rfl)) (gRef X G (cd.fact 31 (f := .glo "Big") rfl)), He.glo_ok X G (cd.fact 52 (f := .glo "check_big") rfl), F_check_big.kp, (F_check_big.binds (ps := ["value", "name"]) fun _ _ _ _ _ _ us hl => match us, hl with | [_, _], _ => rfl)⟩⟩
  obtain ⟨fd_check_fit, F_check_fit⟩ := cd.def_ 13 (d := d_check_fit) rfl
  have F_check_fit := Fun.ofD (st := s_check_fit) F_check_fit
  have c_check_fit : Cal P w K mg base 6 "check_fit" ["machine", "value", "name"] (mkSp (Pre_check_fit T)) := ⟨⟨_, _, ok_check_fit (T := T) F_check_fit c_check_big bc mc, He.glo_ok X G (cd.fact 53 (f := .glo "check_fit") rfl), F_check_fit.kp, (F_check_fit.binds (ps := ["machine", "value", "name"]) fun _ _ _ _ _ _ us hl => match us, hl with | [_, _, _], _ => rfl)⟩⟩
  obtain ⟨fd_check_one, F_check_one⟩ := cd.def_ 14 (d := d_check_one) rfl
  have F_check_one := Fun.ofD (st := s_check_one) F_check_one
  have c_check_one : Cal P w K mg base 7 "check_one" ["machine", "x"] (mkSp (Pre_check_one T)) := ⟨⟨_, _, ok_check_one (T := T) F_check_one c_check_machine c_check_fit, He.glo_ok X G (cd.fact 54 (f := .glo "check_one") rfl), F_check_one.kp, (F_check_one.binds (ps := ["machine", "x"]) fun _ _ _ _ _ _ us hl => match us, hl with | [_, _], _ => rfl)⟩⟩
  obtain ⟨fd_check_two, F_check_two⟩ := cd.def_ 15 (d := d_check_two) rfl
  have F_check_two := Fun.ofD (st := s_check_two) F_check_two
  have c_check_two : Cal P w K mg base 8 "check_two" ["machine", "x", "y"] (mkSp (Pre_check_two T)) := ⟨⟨_, _, ok_check_two (T := T) F_check_two c_check_one c_check_fit, He.glo_ok X G (cd.fact 55 (f := .glo "check_two") rfl), F_check_two.kp, (F_check_two.binds (ps := ["machine", "x", "y"]) fun _ _ _ _ _ _ us hl => match us, hl with | [_, _, _], _ => rfl)⟩⟩
  obtain ⟨fd_big_of, F_big_of⟩ := cd.def_ 16 (d := d_big_of) rfl
  have F_big_of := Fun.ofD (st := s_big_of) F_big_of
  have c_big_of : Cal P w K mg base 22 "big_of" ["machine", "value"] (mkSp (Pre_big_of T)) := ⟨⟨_, _, ok_big_of (T := T) F_big_of mc (He.free_ok X G (cd.fact 56 (f := .free "abs") rfl)) c_size_of c_row_of c_Big, He.glo_ok X G (cd.fact 57 (f := .glo "big_of") rfl), F_big_of.kp, (F_big_of.binds (ps := ["machine", "value"]) fun _ _ _ _ _ _ us hl => match us, hl with | [_, _], _ => rfl)⟩⟩
  obtain ⟨fd_are_compact, F_are_compact⟩ := cd.def_ 17 (d := d_are_compact) rfl
  have F_are_compact := Fun.ofD (st := s_are_compact) F_are_compact
  have c_are_compact : Cal P w K mg base 2 "are_compact" ["machine", "x", "y"] (mkSp (Pre_are_compact T)) := ⟨⟨_, _, ok_are_compact (T := T) F_are_compact mc, He.glo_ok X G (cd.fact 58 (f := .glo "are_compact") rfl), F_are_compact.kp, (F_are_compact.binds (ps := ["machine", "x", "y"]) fun _ _ _ _ _ _ us hl => match us, hl with | [_, _, _], _ => rfl)⟩⟩
  obtain ⟨fd_big, F_big⟩ := cd.def_ 18 (d := d_big) rfl
  have F_big := Fun.ofD (st := s_big) F_big
  have c_big : Cal P w K mg base 23 "big" ["machine", "n"] (mkSp (Pre_big T)) := ⟨⟨_, _, ok_big (T := T) F_big c_check_machine c_is_integer c_big_of, He.glo_ok X G (cd.fact 59 (f := .glo "big") rfl), F_big.kp, (F_big.binds (ps := ["machine", "n"]) fun _ _ _ _ _ _ us hl => match us, hl with | [_, _], _ => rfl)⟩⟩
  obtain ⟨fd_check_shift, F_check_shift⟩ := cd.def_ 19 (d := d_check_shift) rfl
  have F_check_shift := Fun.ofD (st := s_check_shift) F_check_shift
  have c_check_shift : Cal P w K mg base 8 "check_shift" ["machine", "x", "count"] (mkSp (Pre_check_shift T)) := ⟨⟨_, _, ok_check_shift (T := T) F_check_shift c_check_one c_is_integer, He.glo_ok X G (cd.fact 60 (f := .glo "check_shift") rfl), F_check_shift.kp, (F_check_shift.binds (ps := ["machine", "x", "count"]) fun _ _ _ _ _ _ us hl => match us, hl with | [_, _, _], _ => rfl)⟩⟩
  obtain ⟨fd_shifted_left, F_shifted_left⟩ := cd.def_ 20 (d := d_shifted_left) rfl
  have F_shifted_left := Fun.ofD (st := s_shifted_left) F_shifted_left
  have c_shifted_left : Cal P w K mg base 3 "shifted_left" ["machine", "x", "count"] (mkSp (Pre_shifted_left T)) := ⟨⟨_, _, ok_shifted_left (T := T) F_shifted_left mc c_size_of c_Mach_step c_Mach_enter, He.glo_ok X G (cd.fact 61 (f := .glo "shifted_left") rfl), F_shifted_left.kp, (F_shifted_left.binds (ps := ["machine", "x", "count"]) fun _ _ _ _ _ _ us hl => match us, hl with | [_, _, _], _ => rfl)⟩⟩
  obtain ⟨fd_shift_left, F_shift_left⟩ := cd.def_ 21 (d := d_shift_left) rfl
  have F_shift_left := Fun.ofD (st := s_shift_left) F_shift_left
  have c_shift_left : Cal P w K mg base 23 "shift_left" ["machine", "x", "count"] (mkSp (Pre_shift_left T)) := ⟨⟨_, _, ok_shift_left (T := T) F_shift_left c_check_shift bc (gInt X G (cd.fact 62 (f := .int "GREATEST_SHIFT" 100000) rfl)) c_shifted_left c_big_of, He.glo_ok X G (cd.fact 63 (f := .glo "shift_left") rfl), F_shift_left.kp, (F_shift_left.binds (ps := ["machine", "x", "count"]) fun _ _ _ _ _ _ us hl => match us, hl with | [_, _, _], _ => rfl)⟩⟩
  obtain ⟨fd_count_right_steps, F_count_right_steps⟩ := cd.def_ 22 (d := d_count_right_steps) rfl
  have F_count_right_steps := Fun.ofD (st := s_count_right_steps) F_count_right_steps
  have c_count_right_steps : Cal P w K mg base 2 "count_right_steps" ["machine", "below", "size", "count"] (mkSp (Pre_count_right_steps T)) := ⟨⟨_, _, ok_count_right_steps (T := T) F_count_right_steps mc c_Mach_step, He.glo_ok X G (cd.fact 64 (f := .glo "count_right_steps") rfl), F_count_right_steps.kp, (F_count_right_steps.binds (ps := ["machine", "below", "size", "count"]) fun _ _ _ _ _ _ us hl => match us, hl with | [_, _, _, _], _ => rfl)⟩⟩
  obtain ⟨fd_shifted_right, F_shifted_right⟩ := cd.def_ 23 (d := d_shifted_right) rfl
  have F_shifted_right := Fun.ofD (st := s_shifted_right) F_shifted_right
  have c_shifted_right : Cal P w K mg base 3 "shifted_right" ["machine", "x", "count"] (mkSp (Pre_shifted_right T)) := ⟨⟨_, _, ok_shifted_right (T := T) F_shifted_right mc c_size_of c_Mach_step c_Mach_enter c_count_right_steps (He.free_ok X G (cd.fact 65 (f := .free "min") rfl)), He.glo_ok X G (cd.fact 66 (f := .glo "shifted_right") rfl), F_shifted_right.kp, (F_shifted_right.binds (ps := ["machine", "x", "count"]) fun _ _ _ _ _ _ us hl => match us, hl with | [_, _, _], _ => rfl)⟩⟩
  obtain ⟨fd_shift_right, F_shift_right⟩ := cd.def_ 24 (d := d_shift_right) rfl
  have F_shift_right := Fun.ofD (st := s_shift_right) F_shift_right
  have c_shift_right : Cal P w K mg base 23 "shift_right" ["machine", "x", "count"] (mkSp (Pre_shift_right T)) := ⟨⟨_, _, ok_shift_right (T := T) F_shift_right c_check_shift bc c_shifted_right c_big_of, He.glo_ok X G (cd.fact 67 (f := .glo "shift_right") rfl), F_shift_right.kp, (F_shift_right.binds (ps := ["machine", "x", "count"]) fun _ _ _ _ _ _ us hl => match us, hl with | [_, _, _], _ => rfl)⟩⟩
  obtain ⟨fd_check_row_shift, F_check_row_shift⟩ := cd.def_ 25 (d := d_check_row_shift) rfl
  have F_check_row_shift := Fun.ofD (st := s_check_row_shift) F_check_row_shift
  have c_check_row_shift : Cal P w K mg base 6 "check_row_shift" ["machine", "digits", "count"] (mkSp (Pre_check_row_shift T)) := ⟨⟨_, _, ok_check_row_shift (T := T) F_check_row_shift c_check_machine c_check_row mc c_is_between, He.glo_ok X G (cd.fact 68 (f := .glo "check_row_shift") rfl), F_check_row_shift.kp, (F_check_row_shift.binds (ps := ["machine", "digits", "count"]) fun _ _ _ _ _ _ us hl => match us, hl with | [_, _, _], _ => rfl)⟩⟩
  obtain ⟨fd_lifted, F_lifted⟩ := cd.def_ 26 (d := d_lifted) rfl
  have F_lifted := Fun.ofD (st := s_lifted) F_lifted
  have c_lifted : Cal P w K mg base 2 "lifted" ["machine", "number", "size", "count"] (mkSp (Pre_lifted T)) := ⟨⟨_, _, ok_lifted (T := T) F_lifted mc c_Mach_enter c_Mach_step, He.glo_ok X G (cd.fact 69 (f := .glo "lifted") rfl), F_lifted.kp, (F_lifted.binds (ps := ["machine", "number", "size", "count"]) fun _ _ _ _ _ _ us hl => match us, hl with | [_, _, _, _], _ => rfl)⟩⟩
  obtain ⟨fd_shift_row_up, F_shift_row_up⟩ := cd.def_ 27 (d := d_shift_row_up) rfl
  have F_shift_row_up := Fun.ofD (st := s_shift_row_up) F_shift_row_up
  have c_shift_row_up : Cal P w K mg base 22 "shift_row_up" ["machine", "digits", "count"] (mkSp (Pre_shift_row_up T)) := ⟨⟨_, _, ok_shift_row_up (T := T) F_shift_row_up c_check_row_shift (He.free_ok X G (cd.fact 21 (f := .free "len") rfl)) mc c_number_of c_lifted c_row_of, He.glo_ok X G (cd.fact 70 (f := .glo "shift_row_up") rfl), F_shift_row_up.kp, (F_shift_row_up.binds (ps := ["machine", "digits", "count"]) fun _ _ _ _ _ _ us hl => match us, hl with | [_, _, _], _ => rfl)⟩⟩
  obtain ⟨fd_lowered, F_lowered⟩ := cd.def_ 28 (d := d_lowered) rfl
  have F_lowered := Fun.ofD (st := s_lowered) F_lowered
  have c_lowered : Cal P w K mg base 2 "lowered" ["machine", "number", "size", "count"] (mkSp (Pre_lowered T)) := ⟨⟨_, _, ok_lowered (T := T) F_lowered mc c_Mach_enter c_Mach_step, He.glo_ok X G (cd.fact 71 (f := .glo "lowered") rfl), F_lowered.kp, (F_lowered.binds (ps := ["machine", "number", "size", "count"]) fun _ _ _ _ _ _ us hl => match us, hl with | [_, _, _, _], _ => rfl)⟩⟩
  obtain ⟨fd_shift_row_down, F_shift_row_down⟩ := cd.def_ 29 (d := d_shift_row_down) rfl
  have F_shift_row_down := Fun.ofD (st := s_shift_row_down) F_shift_row_down
  have c_shift_row_down : Cal P w K mg base 22 "shift_row_down" ["machine", "digits", "count"] (mkSp (Pre_shift_row_down T)) := ⟨⟨_, _, ok_shift_row_down (T := T) F_shift_row_down c_check_row_shift (He.free_ok X G (cd.fact 21 (f := .free "len") rfl)) mc c_number_of c_lowered c_row_of, He.glo_ok X G (cd.fact 72 (f := .glo "shift_row_down") rfl), F_shift_row_down.kp, (F_shift_row_down.binds (ps := ["machine", "digits", "count"]) fun _ _ _ _ _ _ us hl => match us, hl with | [_, _, _], _ => rfl)⟩⟩
  obtain ⟨fd_added, F_added⟩ := cd.def_ 30 (d := d_added) rfl
  have F_added := Fun.ofD (st := s_added) F_added
  have c_added : Cal P w K mg base 2 "added" ["machine", "a", "m", "b", "n"] (mkSp (Pre_added T)) := ⟨⟨_, _, ok_added (T := T) F_added mc c_Mach_enter (He.free_ok X G (cd.fact 50 (f := .free "max") rfl)) c_Mach_step, He.glo_ok X G (cd.fact 73 (f := .glo "added") rfl), F_added.kp, (F_added.binds (ps := ["machine", "a", "m", "b", "n"]) fun _ _ _ _ _ _ us hl => match us, hl with | [_, _, _, _, _], _ => rfl)⟩⟩
  obtain ⟨fd_taken, F_taken⟩ := cd.def_ 31 (d := d_taken) rfl
  have F_taken := Fun.ofD (st := s_taken) F_taken
  have c_taken : Cal P w K mg base 4 "taken" ["machine", "a", "b"] (mkSp (Pre_taken T)) := ⟨⟨_, _, ok_taken (T := T) F_taken mc c_size_of c_Mach_enter c_last_difference c_Mach_step (He.free_ok X G (cd.fact 50 (f := .free "max") rfl)), He.glo_ok X G (cd.fact 74 (f := .glo "taken") rfl), F_taken.kp, (F_taken.binds (ps := ["machine", "a", "b"]) fun _ _ _ _ _ _ us hl => match us, hl with | [_, _, _], _ => rfl)⟩⟩
  obtain ⟨fd_joined, F_joined⟩ := cd.def_ 32 (d := d_joined) rfl
  have F_joined := Fun.ofD (st := s_joined) F_joined
  have c_joined : Cal P w K mg base 5 "joined" ["machine", "x", "y", "turn"] (mkSp (Pre_joined T)) := ⟨⟨_, _, ok_joined (T := T) F_joined c_are_compact mc c_Mach_step (He.free_ok X G (cd.fact 56 (f := .free "abs") rfl)) c_size_of c_added c_taken, He.glo_ok X G (cd.fact 75 (f := .glo "joined") rfl), F_joined.kp, (F_joined.binds (ps := ["machine", "x", "y", "turn"]) fun _ _ _ _ _ _ us hl => match us, hl with | [_, _, _, _], _ => rfl)⟩⟩
  obtain ⟨fd_add, F_add⟩ := cd.def_ 33 (d := d_add) rfl
  have F_add := Fun.ofD (st := s_add) F_add
  have c_add : Cal P w K mg base 23 "add" ["machine", "x", "y"] (mkSp (Pre_add T)) := ⟨⟨_, _, ok_add (T := T) F_add c_check_two bc c_joined c_big_of, He.glo_ok X G (cd.fact 76 (f := .glo "add") rfl), F_add.kp, (F_add.binds (ps := ["machine", "x", "y"]) fun _ _ _ _ _ _ us hl => match us, hl with | [_, _, _], _ => rfl)⟩⟩
  obtain ⟨fd__law_source_of, F__law_source_of⟩ := cd.def_ 34 (d := d__law_source_of) rfl
  have F__law_source_of := Fun.ofD (st := s__law_source_of) F__law_source_of
  have c__law_source_of : Cal P w K mg base 1 "_law_source_of" ["_law_cell"] (mkSp (Pre__law_source_of T)) := ⟨⟨_, _, ok__law_source_of (T := T) F__law_source_of (He.free_ok X G (cd.fact 16 (f := .free "int") rfl)), He.glo_ok X G (cd.fact 77 (f := .glo "_law_source_of") rfl), F__law_source_of.kp, (F__law_source_of.binds (ps := ["_law_cell"]) fun _ _ _ _ _ _ us hl => match us, hl with | [_], _ => rfl)⟩⟩
  obtain ⟨fd__law_next, F__law_next⟩ := cd.def_ 35 (d := d__law_next) rfl
  have F__law_next := Fun.ofD (st := s__law_next) F__law_next
  have c__law_next : Cal P w K mg base 1 "_law_next" ["_law_source", "_law_times"] (mkSp (Pre__law_next T)) := ⟨⟨_, _, ok__law_next (T := T) F__law_next (He.free_ok X G (cd.fact 16 (f := .free "int") rfl)), He.glo_ok X G (cd.fact 78 (f := .glo "_law_next") rfl), F__law_next.kp, (F__law_next.binds (ps := ["_law_source", "_law_times"]) fun _ _ _ _ _ _ us hl => match us, hl with | [_, _], _ => rfl)⟩⟩
  obtain ⟨fd__law_one, F__law_one⟩ := cd.def_ 36 (d := d__law_one) rfl
  have F__law_one := Fun.ofD (st := s__law_one) F__law_one
  have c__law_one : Cal P w K mg base 2 "_law_one" ["_law_source", "_law_some"] (mkSp (Pre__law_one T)) := ⟨⟨_, _, ok__law_one (T := T) F__law_one (He.free_ok X G (cd.fact 21 (f := .free "len") rfl)) c__law_next, He.glo_ok X G (cd.fact 79 (f := .glo "_law_one") rfl), F__law_one.kp, (F__law_one.binds (ps := ["_law_source", "_law_some"]) fun _ _ _ _ _ _ us hl => match us, hl with | [_, _], _ => rfl)⟩⟩
  obtain ⟨fd__law_cell_at, F__law_cell_at⟩ := cd.def_ 37 (d := d__law_cell_at) rfl
  have F__law_cell_at := Fun.ofD (st := s__law_cell_at) F__law_cell_at
  have c__law_cell_at : Cal P w K mg base 1 "_law_cell_at" ["_law_script", "_law_index"] (mkSp (Pre__law_cell_at T)) := ⟨⟨_, _, ok__law_cell_at (T := T) F__law_cell_at , He.glo_ok X G (cd.fact 80 (f := .glo "_law_cell_at") rfl), F__law_cell_at.kp, (F__law_cell_at.binds (ps := ["_law_script", "_law_index"]) fun _ _ _ _ _ _ us hl => match us, hl with | [_, _], _ => rfl)⟩⟩
  obtain ⟨fd__law_machine, F__law_machine⟩ := cd.def_ 38 (d := d__law_machine) rfl
  have F__law_machine := Fun.ofD (st := s__law_machine) F__law_machine
  have c__law_machine : Cal P w K mg base 5 "_law_machine" ["_law_source"] (mkSp (Pre__law_machine T)) := ⟨⟨_, _, ok__law_machine (T := T) F__law_machine c__law_next c__law_one c_Machine2, He.glo_ok X G (cd.fact 81 (f := .glo "_law_machine") rfl), F__law_machine.kp, (F__law_machine.binds (ps := ["_law_source"]) fun _ _ _ _ _ _ us hl => match us, hl with | [_], _ => rfl)⟩⟩
  obtain ⟨fd__law_said, F__law_said⟩ := cd.def_ 39 (d := d__law_said) rfl
  have F__law_said := Fun.ofD (st := s__law_said) F__law_said
  have c__law_said : CalLX P w K mg base 24 26 "_law_said" ["_law_call"] (Pre__law_said T) := ok__law_said (T := T) F__law_said (He.glo_ok X G (cd.fact 15 (f := .glo "InvalidBound") rfl)) (He.glo_ok X G (cd.fact 10 (f := .glo "TooGreat") rfl)) (He.glo_ok X G (cd.fact 14 (f := .glo "BitsError") rfl)) mx_InvalidBound_InvalidBound xf_InvalidBound no_InvalidBound mx_TooGreat_InvalidBound mx_TooGreat_TooGreat (He.glo_ok X G (cd.fact 82 (f := .glo "_law_said") rfl)) (F__law_said.binds (ps := ["_law_call"]) fun _ _ _ _ _ _ us hl => match us, hl with | [_], _ => rfl)
  have c__law_said__n : CalLX P w K mg base 24 26 "_law_said" ["_law_call"] (Pre__law_said__n T) := ok__law_said__n (T := T) F__law_said (He.glo_ok X G (cd.fact 15 (f := .glo "InvalidBound") rfl)) (He.glo_ok X G (cd.fact 10 (f := .glo "TooGreat") rfl)) (He.glo_ok X G (cd.fact 14 (f := .glo "BitsError") rfl)) mx_InvalidBound_InvalidBound xf_InvalidBound no_InvalidBound mx_TooGreat_InvalidBound mx_TooGreat_TooGreat (He.glo_ok X G (cd.fact 82 (f := .glo "_law_said") rfl)) (F__law_said.binds (ps := ["_law_call"]) fun _ _ _ _ _ _ us hl => match us, hl with | [_], _ => rfl)
  obtain ⟨fd__law_deep, F__law_deep⟩ := cd.def_ 40 (d := d__law_deep) rfl
  have F__law_deep := Fun.ofD (st := s__law_deep) F__law_deep
  have c__law_deep : Cal P w K mg base 1 "_law_deep" ["_law_times"] (mkSp (Pre__law_deep T)) := ⟨⟨_, _, ok__law_deep (T := T) F__law_deep (He.free_ok X G (cd.fact 49 (f := .free "range") rfl)), He.glo_ok X G (cd.fact 83 (f := .glo "_law_deep") rfl), F__law_deep.kp, (F__law_deep.binds (ps := ["_law_times"]) fun _ _ _ _ _ _ us hl => match us, hl with | [_], _ => rfl)⟩⟩
  have cx_check_machine__or4 : CalX P w K mg base 5 "check_machine" ["machine"] (mkSpX (PreX_check_machine__or4 T)) := ⟨⟨_, _, okx_check_machine__or4 (T := T) F_check_machine (He.free_ok X G (cd.fact 11 (f := .free "isinstance") rfl)) (gRef X G (cd.fact 29 (f := .glo "Machine") rfl)) e_InvalidBound, He.glo_ok X G (cd.fact 39 (f := .glo "check_machine") rfl), F_check_machine.kp, (F_check_machine.binds (ps := ["machine"]) fun _ _ _ _ _ _ us hl => match us, hl with | [_], _ => rfl)⟩⟩
  have cx_check_one__or3 : CalX P w K mg base 7 "check_one" ["machine", "x"] (mkSpX (PreX_check_one__or3 T)) := ⟨⟨_, _, okx_check_one__or3 (T := T) F_check_one cx_check_machine__or4, He.glo_ok X G (cd.fact 54 (f := .glo "check_one") rfl), F_check_one.kp, (F_check_one.binds (ps := ["machine", "x"]) fun _ _ _ _ _ _ us hl => match us, hl with | [_, _], _ => rfl)⟩⟩
  have cx_check_shift__or2 : CalX P w K mg base 8 "check_shift" ["machine", "x", "count"] (mkSpX (PreX_check_shift__or2 T)) := ⟨⟨_, _, okx_check_shift__or2 (T := T) F_check_shift cx_check_one__or3, He.glo_ok X G (cd.fact 60 (f := .glo "check_shift") rfl), F_check_shift.kp, (F_check_shift.binds (ps := ["machine", "x", "count"]) fun _ _ _ _ _ _ us hl => match us, hl with | [_, _, _], _ => rfl)⟩⟩
  have cx_shift_left__or1 : CalX P w K mg base 23 "shift_left" ["machine", "x", "count"] (mkSpX (PreX_shift_left__or1 T)) := ⟨⟨_, _, okx_shift_left__or1 (T := T) F_shift_left cx_check_shift__or2, He.glo_ok X G (cd.fact 63 (f := .glo "shift_left") rfl), F_shift_left.kp, (F_shift_left.binds (ps := ["machine", "x", "count"]) fun _ _ _ _ _ _ us hl => match us, hl with | [_, _, _], _ => rfl)⟩⟩
  have cx_shift_right__or5 : CalX P w K mg base 23 "shift_right" ["machine", "x", "count"] (mkSpX (PreX_shift_right__or5 T)) := ⟨⟨_, _, okx_shift_right__or5 (T := T) F_shift_right cx_check_shift__or2, He.glo_ok X G (cd.fact 67 (f := .glo "shift_right") rfl), F_shift_right.kp, (F_shift_right.binds (ps := ["machine", "x", "count"]) fun _ _ _ _ _ _ us hl => match us, hl with | [_, _, _], _ => rfl)⟩⟩
  have cx_check_big__or10 : CalX P w K mg base 5 "check_big" ["value", "name"] (mkSpX (PreX_check_big__or10 T)) := ⟨⟨_, _, okx_check_big__or10 (T := T) F_check_big (He.free_ok X G (cd.fact 11 (f := .free "isinstance") rfl)) (gRef X G (cd.fact 31 (f := .glo "Big") rfl)) e_InvalidBound, He.glo_ok X G (cd.fact 52 (f := .glo "check_big") rfl), F_check_big.kp, (F_check_big.binds (ps := ["value", "name"]) fun _ _ _ _ _ _ us hl => match us, hl with | [_, _], _ => rfl)⟩⟩
  have cx_check_fit__or9 : CalX P w K mg base 6 "check_fit" ["machine", "value", "name"] (mkSpX (PreX_check_fit__or9 T)) := ⟨⟨_, _, okx_check_fit__or9 (T := T) F_check_fit cx_check_big__or10, He.glo_ok X G (cd.fact 53 (f := .glo "check_fit") rfl), F_check_fit.kp, (F_check_fit.binds (ps := ["machine", "value", "name"]) fun _ _ _ _ _ _ us hl => match us, hl with | [_, _, _], _ => rfl)⟩⟩
  have cx_check_one__or8 : CalX P w K mg base 7 "check_one" ["machine", "x"] (mkSpX (PreX_check_one__or8 T)) := ⟨⟨_, _, okx_check_one__or8 (T := T) F_check_one c_check_machine cx_check_fit__or9, He.glo_ok X G (cd.fact 54 (f := .glo "check_one") rfl), F_check_one.kp, (F_check_one.binds (ps := ["machine", "x"]) fun _ _ _ _ _ _ us hl => match us, hl with | [_, _], _ => rfl)⟩⟩
  have cx_check_shift__or7 : CalX P w K mg base 8 "check_shift" ["machine", "x", "count"] (mkSpX (PreX_check_shift__or7 T)) := ⟨⟨_, _, okx_check_shift__or7 (T := T) F_check_shift cx_check_one__or8, He.glo_ok X G (cd.fact 60 (f := .glo "check_shift") rfl), F_check_shift.kp, (F_check_shift.binds (ps := ["machine", "x", "count"]) fun _ _ _ _ _ _ us hl => match us, hl with | [_, _, _], _ => rfl)⟩⟩
  have cx_shift_left__or6 : CalX P w K mg base 23 "shift_left" ["machine", "x", "count"] (mkSpX (PreX_shift_left__or6 T)) := ⟨⟨_, _, okx_shift_left__or6 (T := T) F_shift_left cx_check_shift__or7, He.glo_ok X G (cd.fact 63 (f := .glo "shift_left") rfl), F_shift_left.kp, (F_shift_left.binds (ps := ["machine", "x", "count"]) fun _ _ _ _ _ _ us hl => match us, hl with | [_, _, _], _ => rfl)⟩⟩
  have cx_shift_right__or11 : CalX P w K mg base 23 "shift_right" ["machine", "x", "count"] (mkSpX (PreX_shift_right__or11 T)) := ⟨⟨_, _, okx_shift_right__or11 (T := T) F_shift_right cx_check_shift__or7, He.glo_ok X G (cd.fact 67 (f := .glo "shift_right") rfl), F_shift_right.kp, (F_shift_right.binds (ps := ["machine", "x", "count"]) fun _ _ _ _ _ _ us hl => match us, hl with | [_, _, _], _ => rfl)⟩⟩
  have cx_check_fit : CalX P w K mg base 6 "check_fit" ["machine", "value", "name"] (sp2 (Pre_check_fit T) (PreX_check_fit T)) := ⟨⟨_, _, FnOk.or (ok_check_fit (T := T) F_check_fit c_check_big bc mc) (okx_check_fit (T := T) F_check_fit c_check_big bc mc e_InvalidBound), He.glo_ok X G (cd.fact 53 (f := .glo "check_fit") rfl), F_check_fit.kp, (F_check_fit.binds (ps := ["machine", "value", "name"]) fun _ _ _ _ _ _ us hl => match us, hl with | [_, _, _], _ => rfl)⟩⟩
  have cx_check_one : CalX P w K mg base 7 "check_one" ["machine", "x"] (sp2 (Pre_check_one T) (PreX_check_one T)) := ⟨⟨_, _, FnOk.or (ok_check_one (T := T) F_check_one c_check_machine c_check_fit) (okx_check_one (T := T) F_check_one c_check_machine cx_check_fit), He.glo_ok X G (cd.fact 54 (f := .glo "check_one") rfl), F_check_one.kp, (F_check_one.binds (ps := ["machine", "x"]) fun _ _ _ _ _ _ us hl => match us, hl with | [_, _], _ => rfl)⟩⟩
  have c_is_integer__or14 : Cal P w K mg base 1 "is_integer" ["value"] (mkSp (Pre_is_integer__or14 T)) := ⟨⟨_, _, ok_is_integer__or14 (T := T) F_is_integer (He.free_ok X G (cd.fact 11 (f := .free "isinstance") rfl)) (He.free_ok X G (cd.fact 16 (f := .free "int") rfl)), He.glo_ok X G (cd.fact 18 (f := .glo "is_integer") rfl), F_is_integer.kp, (F_is_integer.binds (ps := ["value"]) fun _ _ _ _ _ _ us hl => match us, hl with | [_], _ => rfl)⟩⟩
  have cx_check_shift__or13 : CalX P w K mg base 8 "check_shift" ["machine", "x", "count"] (mkSpX (PreX_check_shift__or13 T)) := ⟨⟨_, _, okx_check_shift__or13 (T := T) F_check_shift cx_check_one c_is_integer__or14 e_InvalidBound, He.glo_ok X G (cd.fact 60 (f := .glo "check_shift") rfl), F_check_shift.kp, (F_check_shift.binds (ps := ["machine", "x", "count"]) fun _ _ _ _ _ _ us hl => match us, hl with | [_, _, _], _ => rfl)⟩⟩
  have cx_shift_left__or12 : CalX P w K mg base 23 "shift_left" ["machine", "x", "count"] (mkSpX (PreX_shift_left__or12 T)) := ⟨⟨_, _, okx_shift_left__or12 (T := T) F_shift_left cx_check_shift__or13, He.glo_ok X G (cd.fact 63 (f := .glo "shift_left") rfl), F_shift_left.kp, (F_shift_left.binds (ps := ["machine", "x", "count"]) fun _ _ _ _ _ _ us hl => match us, hl with | [_, _, _], _ => rfl)⟩⟩
  have cx_shift_right__or15 : CalX P w K mg base 23 "shift_right" ["machine", "x", "count"] (mkSpX (PreX_shift_right__or15 T)) := ⟨⟨_, _, okx_shift_right__or15 (T := T) F_shift_right cx_check_shift__or13, He.glo_ok X G (cd.fact 67 (f := .glo "shift_right") rfl), F_shift_right.kp, (F_shift_right.binds (ps := ["machine", "x", "count"]) fun _ _ _ _ _ _ us hl => match us, hl with | [_, _, _], _ => rfl)⟩⟩
  have cx_check_shift : CalX P w K mg base 8 "check_shift" ["machine", "x", "count"] (sp2 (Pre_check_shift T) (PreX_check_shift T)) := ⟨⟨_, _, FnOk.or (ok_check_shift (T := T) F_check_shift c_check_one c_is_integer) (okx_check_shift (T := T) F_check_shift cx_check_one c_is_integer e_InvalidBound), He.glo_ok X G (cd.fact 60 (f := .glo "check_shift") rfl), F_check_shift.kp, (F_check_shift.binds (ps := ["machine", "x", "count"]) fun _ _ _ _ _ _ us hl => match us, hl with | [_, _, _], _ => rfl)⟩⟩
  have cx_shift_left : CalX P w K mg base 23 "shift_left" ["machine", "x", "count"] (sp2 (Pre_shift_left T) (PreX_shift_left T)) := ⟨⟨_, _, FnOk.or (ok_shift_left (T := T) F_shift_left c_check_shift bc (gInt X G (cd.fact 62 (f := .int "GREATEST_SHIFT" 100000) rfl)) c_shifted_left c_big_of) (okx_shift_left (T := T) F_shift_left cx_check_shift bc (gInt X G (cd.fact 62 (f := .int "GREATEST_SHIFT" 100000) rfl)) e_TooGreat), He.glo_ok X G (cd.fact 63 (f := .glo "shift_left") rfl), F_shift_left.kp, (F_shift_left.binds (ps := ["machine", "x", "count"]) fun _ _ _ _ _ _ us hl => match us, hl with | [_, _, _], _ => rfl)⟩⟩
  have cx_shift_right : CalX P w K mg base 23 "shift_right" ["machine", "x", "count"] (sp2 (Pre_shift_right T) (PreX_shift_right T)) := ⟨⟨_, _, FnOk.or (ok_shift_right (T := T) F_shift_right c_check_shift bc c_shifted_right c_big_of) (okx_shift_right (T := T) F_shift_right cx_check_shift), He.glo_ok X G (cd.fact 67 (f := .glo "shift_right") rfl), F_shift_right.kp, (F_shift_right.binds (ps := ["machine", "x", "count"]) fun _ _ _ _ _ _ us hl => match us, hl with | [_, _, _], _ => rfl)⟩⟩
  have c_is_integer__or18 : Cal P w K mg base 1 "is_integer" ["value"] (mkSp (Pre_is_integer__or18 T)) := ⟨⟨_, _, ok_is_integer__or18 (T := T) F_is_integer (He.free_ok X G (cd.fact 11 (f := .free "isinstance") rfl)) (He.free_ok X G (cd.fact 16 (f := .free "int") rfl)) (He.free_ok X G (cd.fact 17 (f := .free "bool") rfl)), He.glo_ok X G (cd.fact 18 (f := .glo "is_integer") rfl), F_is_integer.kp, (F_is_integer.binds (ps := ["value"]) fun _ _ _ _ _ _ us hl => match us, hl with | [_], _ => rfl)⟩⟩
  have cx_check_shift__or17 : CalX P w K mg base 8 "check_shift" ["machine", "x", "count"] (mkSpX (PreX_check_shift__or17 T)) := ⟨⟨_, _, okx_check_shift__or17 (T := T) F_check_shift cx_check_one c_is_integer__or18 e_InvalidBound, He.glo_ok X G (cd.fact 60 (f := .glo "check_shift") rfl), F_check_shift.kp, (F_check_shift.binds (ps := ["machine", "x", "count"]) fun _ _ _ _ _ _ us hl => match us, hl with | [_, _, _], _ => rfl)⟩⟩
  have cx_shift_left__or16 : CalX P w K mg base 23 "shift_left" ["machine", "x", "count"] (mkSpX (PreX_shift_left__or16 T)) := ⟨⟨_, _, okx_shift_left__or16 (T := T) F_shift_left cx_check_shift__or17, He.glo_ok X G (cd.fact 63 (f := .glo "shift_left") rfl), F_shift_left.kp, (F_shift_left.binds (ps := ["machine", "x", "count"]) fun _ _ _ _ _ _ us hl => match us, hl with | [_, _, _], _ => rfl)⟩⟩
  have cx_shift_right__or19 : CalX P w K mg base 23 "shift_right" ["machine", "x", "count"] (mkSpX (PreX_shift_right__or19 T)) := ⟨⟨_, _, okx_shift_right__or19 (T := T) F_shift_right cx_check_shift__or17, He.glo_ok X G (cd.fact 67 (f := .glo "shift_right") rfl), F_shift_right.kp, (F_shift_right.binds (ps := ["machine", "x", "count"]) fun _ _ _ _ _ _ us hl => match us, hl with | [_, _, _], _ => rfl)⟩⟩
  have cu__law_numbers_right_shift_left : CalX P w K mg base 23 "shift_left" ["machine", "x", "count"] (SpU__law_numbers_right_shift_left T) := ⟨⟨_, _, FnOk.or2 (okx_shift_left__or1 (T := T) F_shift_left cx_check_shift__or2) (FnOk.or2 (okx_shift_left__or6 (T := T) F_shift_left cx_check_shift__or7) (FnOk.or2 (okx_shift_left__or12 (T := T) F_shift_left cx_check_shift__or13) (FnOk.or2 (okx_shift_left (T := T) F_shift_left cx_check_shift bc (gInt X G (cd.fact 62 (f := .int "GREATEST_SHIFT" 100000) rfl)) e_TooGreat) (okx_shift_left__or16 (T := T) F_shift_left cx_check_shift__or17)))), He.glo_ok X G (cd.fact 63 (f := .glo "shift_left") rfl), F_shift_left.kp, (F_shift_left.binds (ps := ["machine", "x", "count"]) fun _ _ _ _ _ _ us hl => match us, hl with | [_, _, _], _ => rfl)⟩⟩
  have cu__law_numbers_right_shift_right : CalX P w K mg base 23 "shift_right" ["machine", "x", "count"] (SpU__law_numbers_right_shift_right T) := ⟨⟨_, _, FnOk.or2 (okx_shift_right__or5 (T := T) F_shift_right cx_check_shift__or2) (FnOk.or2 (okx_shift_right__or11 (T := T) F_shift_right cx_check_shift__or7) (FnOk.or2 (okx_shift_right__or15 (T := T) F_shift_right cx_check_shift__or13) (FnOk.or2 (okx_shift_right (T := T) F_shift_right cx_check_shift) (okx_shift_right__or19 (T := T) F_shift_right cx_check_shift__or17)))), He.glo_ok X G (cd.fact 67 (f := .glo "shift_right") rfl), F_shift_right.kp, (F_shift_right.binds (ps := ["machine", "x", "count"]) fun _ _ _ _ _ _ us hl => match us, hl with | [_, _, _], _ => rfl)⟩⟩
  obtain ⟨fd__law_numbers_right, F__law_numbers_right⟩ := cd.def_ 41 (d := d__law_numbers_right) rfl
  have F__law_numbers_right := Fun.ofD (st := s__law_numbers_right) F__law_numbers_right
  have c__law_numbers_right : Cal P w K mg base 27 "_law_numbers_right" ["_law_machine_here", "_law_other", "_law_x_here", "_law_odd_count", "_law_deep_here"] (mkSp (Pre__law_numbers_right T)) := ⟨⟨_, _, ok__law_numbers_right (T := T) F__law_numbers_right (gRef X G (cd.fact 63 (f := .glo "shift_left") rfl)) (gRef X G (cd.fact 67 (f := .glo "shift_right") rfl)) (hTB (He.cT K ("_law_numbers_right", none)) (List.mem_map.mpr ⟨_, by simp [tfs], rfl⟩)) (hu_of ndT (mem__law_numbers_right T)) (codeIs_of (K := K) (p := ("_law_numbers_right", none))) cu__law_numbers_right_shift_left cu__law_numbers_right_shift_right c__law_said icb icm kt_Big_I kt_tuple_G kt_list_G kt_dict_G kt_Mach_G kt_str_G kt_bool_G kt_int_G kt_NoneType_G kt_tuple_M kt_list_M kt_Big_M kt_int_M kt_NoneType_M, He.glo_ok X G (cd.fact 84 (f := .glo "_law_numbers_right") rfl), F__law_numbers_right.kp, (F__law_numbers_right.binds (ps := ["_law_machine_here", "_law_other", "_law_x_here", "_law_odd_count", "_law_deep_here"]) fun _ _ _ _ _ _ us hl => match us, hl with | [_, _, _, _, _], _ => rfl)⟩⟩
  have cx_check_row_shift__or21 : CalX P w K mg base 6 "check_row_shift" ["machine", "digits", "count"] (mkSpX (PreX_check_row_shift__or21 T)) := ⟨⟨_, _, okx_check_row_shift__or21 (T := T) F_check_row_shift cx_check_machine__or4, He.glo_ok X G (cd.fact 68 (f := .glo "check_row_shift") rfl), F_check_row_shift.kp, (F_check_row_shift.binds (ps := ["machine", "digits", "count"]) fun _ _ _ _ _ _ us hl => match us, hl with | [_, _, _], _ => rfl)⟩⟩
  have cx_shift_row_up__or20 : CalX P w K mg base 22 "shift_row_up" ["machine", "digits", "count"] (mkSpX (PreX_shift_row_up__or20 T)) := ⟨⟨_, _, okx_shift_row_up__or20 (T := T) F_shift_row_up cx_check_row_shift__or21, He.glo_ok X G (cd.fact 70 (f := .glo "shift_row_up") rfl), F_shift_row_up.kp, (F_shift_row_up.binds (ps := ["machine", "digits", "count"]) fun _ _ _ _ _ _ us hl => match us, hl with | [_, _, _], _ => rfl)⟩⟩
  have cx_shift_row_down__or22 : CalX P w K mg base 22 "shift_row_down" ["machine", "digits", "count"] (mkSpX (PreX_shift_row_down__or22 T)) := ⟨⟨_, _, okx_shift_row_down__or22 (T := T) F_shift_row_down cx_check_row_shift__or21, He.glo_ok X G (cd.fact 72 (f := .glo "shift_row_down") rfl), F_shift_row_down.kp, (F_shift_row_down.binds (ps := ["machine", "digits", "count"]) fun _ _ _ _ _ _ us hl => match us, hl with | [_, _, _], _ => rfl)⟩⟩
  have cx_check_row__or25 : CalX P w K mg base 5 "check_row" ["machine", "value", "name"] (mkSpX (PreX_check_row__or25 T)) := ⟨⟨_, _, okx_check_row__or25 (T := T) F_check_row (He.free_ok X G (cd.fact 11 (f := .free "isinstance") rfl)) (He.free_ok X G (cd.fact 26 (f := .free "list") rfl)) e_InvalidBound, He.glo_ok X G (cd.fact 42 (f := .glo "check_row") rfl), F_check_row.kp, (F_check_row.binds (ps := ["machine", "value", "name"]) fun _ _ _ _ _ _ us hl => match us, hl with | [_, _, _], _ => rfl)⟩⟩
  have cx_check_row_shift__or24 : CalX P w K mg base 6 "check_row_shift" ["machine", "digits", "count"] (mkSpX (PreX_check_row_shift__or24 T)) := ⟨⟨_, _, okx_check_row_shift__or24 (T := T) F_check_row_shift c_check_machine cx_check_row__or25, He.glo_ok X G (cd.fact 68 (f := .glo "check_row_shift") rfl), F_check_row_shift.kp, (F_check_row_shift.binds (ps := ["machine", "digits", "count"]) fun _ _ _ _ _ _ us hl => match us, hl with | [_, _, _], _ => rfl)⟩⟩
  have cx_shift_row_up__or23 : CalX P w K mg base 22 "shift_row_up" ["machine", "digits", "count"] (mkSpX (PreX_shift_row_up__or23 T)) := ⟨⟨_, _, okx_shift_row_up__or23 (T := T) F_shift_row_up cx_check_row_shift__or24, He.glo_ok X G (cd.fact 70 (f := .glo "shift_row_up") rfl), F_shift_row_up.kp, (F_shift_row_up.binds (ps := ["machine", "digits", "count"]) fun _ _ _ _ _ _ us hl => match us, hl with | [_, _, _], _ => rfl)⟩⟩
  have cx_shift_row_down__or26 : CalX P w K mg base 22 "shift_row_down" ["machine", "digits", "count"] (mkSpX (PreX_shift_row_down__or26 T)) := ⟨⟨_, _, okx_shift_row_down__or26 (T := T) F_shift_row_down cx_check_row_shift__or24, He.glo_ok X G (cd.fact 72 (f := .glo "shift_row_down") rfl), F_shift_row_down.kp, (F_shift_row_down.binds (ps := ["machine", "digits", "count"]) fun _ _ _ _ _ _ us hl => match us, hl with | [_, _, _], _ => rfl)⟩⟩
  have c_is_between__or30 : Cal P w K mg base 2 "is_between" ["value", "low", "high"] (mkSp (Pre_is_between__or30 T)) := ⟨⟨_, _, ok_is_between__or30 (T := T) F_is_between c_is_integer__or18, He.glo_ok X G (cd.fact 19 (f := .glo "is_between") rfl), F_is_between.kp, (F_is_between.binds (ps := ["value", "low", "high"]) fun _ _ _ _ _ _ us hl => match us, hl with | [_, _, _], _ => rfl)⟩⟩
  have c_is_between__or31 : Cal P w K mg base 2 "is_between" ["value", "low", "high"] (mkSp (Pre_is_between__or31 T)) := ⟨⟨_, _, ok_is_between__or31 (T := T) F_is_between c_is_integer__or14, He.glo_ok X G (cd.fact 19 (f := .glo "is_between") rfl), F_is_between.kp, (F_is_between.binds (ps := ["value", "low", "high"]) fun _ _ _ _ _ _ us hl => match us, hl with | [_, _, _], _ => rfl)⟩⟩
  have c_is_between__orM : Cal P w K mg base 2 "is_between" ["value", "low", "high"] (mkSp (Pre_is_between__orM T)) := ⟨⟨_, _, ok_is_between__orM (T := T) F_is_between c_is_integer c_is_integer__or18 c_is_integer__or14, He.glo_ok X G (cd.fact 19 (f := .glo "is_between") rfl), F_is_between.kp, (F_is_between.binds (ps := ["value", "low", "high"]) fun _ _ _ _ _ _ us hl => match us, hl with | [_, _, _], _ => rfl)⟩⟩
  have cx_check_row__or29 : CalX P w K mg base 5 "check_row" ["machine", "value", "name"] (mkSpX (PreX_check_row__or29 T)) := ⟨⟨_, _, okx_check_row__or29 (T := T) F_check_row (He.free_ok X G (cd.fact 11 (f := .free "isinstance") rfl)) (He.free_ok X G (cd.fact 26 (f := .free "list") rfl)) mc c_top_digit c_is_between__orM (He.free_ok X G (cd.fact 41 (f := .free "all") rfl)) e_InvalidBound, He.glo_ok X G (cd.fact 42 (f := .glo "check_row") rfl), F_check_row.kp, (F_check_row.binds (ps := ["machine", "value", "name"]) fun _ _ _ _ _ _ us hl => match us, hl with | [_, _, _], _ => rfl)⟩⟩
  have cx_check_row_shift__or28 : CalX P w K mg base 6 "check_row_shift" ["machine", "digits", "count"] (mkSpX (PreX_check_row_shift__or28 T)) := ⟨⟨_, _, okx_check_row_shift__or28 (T := T) F_check_row_shift c_check_machine cx_check_row__or29, He.glo_ok X G (cd.fact 68 (f := .glo "check_row_shift") rfl), F_check_row_shift.kp, (F_check_row_shift.binds (ps := ["machine", "digits", "count"]) fun _ _ _ _ _ _ us hl => match us, hl with | [_, _, _], _ => rfl)⟩⟩
  have cx_shift_row_up__or27 : CalX P w K mg base 22 "shift_row_up" ["machine", "digits", "count"] (mkSpX (PreX_shift_row_up__or27 T)) := ⟨⟨_, _, okx_shift_row_up__or27 (T := T) F_shift_row_up cx_check_row_shift__or28, He.glo_ok X G (cd.fact 70 (f := .glo "shift_row_up") rfl), F_shift_row_up.kp, (F_shift_row_up.binds (ps := ["machine", "digits", "count"]) fun _ _ _ _ _ _ us hl => match us, hl with | [_, _, _], _ => rfl)⟩⟩
  have cx_shift_row_down__or32 : CalX P w K mg base 22 "shift_row_down" ["machine", "digits", "count"] (mkSpX (PreX_shift_row_down__or32 T)) := ⟨⟨_, _, okx_shift_row_down__or32 (T := T) F_shift_row_down cx_check_row_shift__or28, He.glo_ok X G (cd.fact 72 (f := .glo "shift_row_down") rfl), F_shift_row_down.kp, (F_shift_row_down.binds (ps := ["machine", "digits", "count"]) fun _ _ _ _ _ _ us hl => match us, hl with | [_, _, _], _ => rfl)⟩⟩
  have cx_check_row : CalX P w K mg base 5 "check_row" ["machine", "value", "name"] (sp2 (Pre_check_row T) (PreX_check_row T)) := ⟨⟨_, _, FnOk.or (ok_check_row (T := T) F_check_row (He.free_ok X G (cd.fact 11 (f := .free "isinstance") rfl)) (He.free_ok X G (cd.fact 26 (f := .free "list") rfl)) mc c_top_digit c_is_between (He.free_ok X G (cd.fact 41 (f := .free "all") rfl))) (okx_check_row (T := T) F_check_row (He.free_ok X G (cd.fact 11 (f := .free "isinstance") rfl)) (He.free_ok X G (cd.fact 26 (f := .free "list") rfl)) mc c_top_digit c_is_between (He.free_ok X G (cd.fact 41 (f := .free "all") rfl)) e_InvalidBound), He.glo_ok X G (cd.fact 42 (f := .glo "check_row") rfl), F_check_row.kp, (F_check_row.binds (ps := ["machine", "value", "name"]) fun _ _ _ _ _ _ us hl => match us, hl with | [_, _, _], _ => rfl)⟩⟩
  have cx_check_row_shift__or34 : CalX P w K mg base 6 "check_row_shift" ["machine", "digits", "count"] (mkSpX (PreX_check_row_shift__or34 T)) := ⟨⟨_, _, okx_check_row_shift__or34 (T := T) F_check_row_shift c_check_machine cx_check_row mc c_is_between__or31 e_InvalidBound, He.glo_ok X G (cd.fact 68 (f := .glo "check_row_shift") rfl), F_check_row_shift.kp, (F_check_row_shift.binds (ps := ["machine", "digits", "count"]) fun _ _ _ _ _ _ us hl => match us, hl with | [_, _, _], _ => rfl)⟩⟩
  have cx_shift_row_up__or33 : CalX P w K mg base 22 "shift_row_up" ["machine", "digits", "count"] (mkSpX (PreX_shift_row_up__or33 T)) := ⟨⟨_, _, okx_shift_row_up__or33 (T := T) F_shift_row_up cx_check_row_shift__or34, He.glo_ok X G (cd.fact 70 (f := .glo "shift_row_up") rfl), F_shift_row_up.kp, (F_shift_row_up.binds (ps := ["machine", "digits", "count"]) fun _ _ _ _ _ _ us hl => match us, hl with | [_, _, _], _ => rfl)⟩⟩
  have cx_shift_row_down__or35 : CalX P w K mg base 22 "shift_row_down" ["machine", "digits", "count"] (mkSpX (PreX_shift_row_down__or35 T)) := ⟨⟨_, _, okx_shift_row_down__or35 (T := T) F_shift_row_down cx_check_row_shift__or34, He.glo_ok X G (cd.fact 72 (f := .glo "shift_row_down") rfl), F_shift_row_down.kp, (F_shift_row_down.binds (ps := ["machine", "digits", "count"]) fun _ _ _ _ _ _ us hl => match us, hl with | [_, _, _], _ => rfl)⟩⟩
  have cx_check_row_shift : CalX P w K mg base 6 "check_row_shift" ["machine", "digits", "count"] (sp2 (Pre_check_row_shift T) (PreX_check_row_shift T)) := ⟨⟨_, _, FnOk.or (ok_check_row_shift (T := T) F_check_row_shift c_check_machine c_check_row mc c_is_between) (okx_check_row_shift (T := T) F_check_row_shift c_check_machine cx_check_row mc c_is_between e_InvalidBound), He.glo_ok X G (cd.fact 68 (f := .glo "check_row_shift") rfl), F_check_row_shift.kp, (F_check_row_shift.binds (ps := ["machine", "digits", "count"]) fun _ _ _ _ _ _ us hl => match us, hl with | [_, _, _], _ => rfl)⟩⟩
  have cx_shift_row_up : CalX P w K mg base 22 "shift_row_up" ["machine", "digits", "count"] (sp2 (Pre_shift_row_up T) (PreX_shift_row_up T)) := ⟨⟨_, _, FnOk.or (ok_shift_row_up (T := T) F_shift_row_up c_check_row_shift (He.free_ok X G (cd.fact 21 (f := .free "len") rfl)) mc c_number_of c_lifted c_row_of) (okx_shift_row_up (T := T) F_shift_row_up cx_check_row_shift), He.glo_ok X G (cd.fact 70 (f := .glo "shift_row_up") rfl), F_shift_row_up.kp, (F_shift_row_up.binds (ps := ["machine", "digits", "count"]) fun _ _ _ _ _ _ us hl => match us, hl with | [_, _, _], _ => rfl)⟩⟩
  have cx_shift_row_down : CalX P w K mg base 22 "shift_row_down" ["machine", "digits", "count"] (sp2 (Pre_shift_row_down T) (PreX_shift_row_down T)) := ⟨⟨_, _, FnOk.or (ok_shift_row_down (T := T) F_shift_row_down c_check_row_shift (He.free_ok X G (cd.fact 21 (f := .free "len") rfl)) mc c_number_of c_lowered c_row_of) (okx_shift_row_down (T := T) F_shift_row_down cx_check_row_shift), He.glo_ok X G (cd.fact 72 (f := .glo "shift_row_down") rfl), F_shift_row_down.kp, (F_shift_row_down.binds (ps := ["machine", "digits", "count"]) fun _ _ _ _ _ _ us hl => match us, hl with | [_, _, _], _ => rfl)⟩⟩
  have cx_check_row_shift__or37 : CalX P w K mg base 6 "check_row_shift" ["machine", "digits", "count"] (mkSpX (PreX_check_row_shift__or37 T)) := ⟨⟨_, _, okx_check_row_shift__or37 (T := T) F_check_row_shift c_check_machine cx_check_row mc c_is_between__or30 e_InvalidBound, He.glo_ok X G (cd.fact 68 (f := .glo "check_row_shift") rfl), F_check_row_shift.kp, (F_check_row_shift.binds (ps := ["machine", "digits", "count"]) fun _ _ _ _ _ _ us hl => match us, hl with | [_, _, _], _ => rfl)⟩⟩
  have cx_shift_row_up__or36 : CalX P w K mg base 22 "shift_row_up" ["machine", "digits", "count"] (mkSpX (PreX_shift_row_up__or36 T)) := ⟨⟨_, _, okx_shift_row_up__or36 (T := T) F_shift_row_up cx_check_row_shift__or37, He.glo_ok X G (cd.fact 70 (f := .glo "shift_row_up") rfl), F_shift_row_up.kp, (F_shift_row_up.binds (ps := ["machine", "digits", "count"]) fun _ _ _ _ _ _ us hl => match us, hl with | [_, _, _], _ => rfl)⟩⟩
  have cx_shift_row_down__or38 : CalX P w K mg base 22 "shift_row_down" ["machine", "digits", "count"] (mkSpX (PreX_shift_row_down__or38 T)) := ⟨⟨_, _, okx_shift_row_down__or38 (T := T) F_shift_row_down cx_check_row_shift__or37, He.glo_ok X G (cd.fact 72 (f := .glo "shift_row_down") rfl), F_shift_row_down.kp, (F_shift_row_down.binds (ps := ["machine", "digits", "count"]) fun _ _ _ _ _ _ us hl => match us, hl with | [_, _, _], _ => rfl)⟩⟩
  have cu__law_rows_right_shift_row_up : CalX P w K mg base 22 "shift_row_up" ["machine", "digits", "count"] (SpU__law_rows_right_shift_row_up T) := ⟨⟨_, _, FnOk.or2 (okx_shift_row_up__or20 (T := T) F_shift_row_up cx_check_row_shift__or21) (FnOk.or2 (okx_shift_row_up__or23 (T := T) F_shift_row_up cx_check_row_shift__or24) (FnOk.or2 (okx_shift_row_up__or27 (T := T) F_shift_row_up cx_check_row_shift__or28) (FnOk.or2 (okx_shift_row_up__or33 (T := T) F_shift_row_up cx_check_row_shift__or34) (FnOk.or2 (okx_shift_row_up (T := T) F_shift_row_up cx_check_row_shift) (okx_shift_row_up__or36 (T := T) F_shift_row_up cx_check_row_shift__or37))))), He.glo_ok X G (cd.fact 70 (f := .glo "shift_row_up") rfl), F_shift_row_up.kp, (F_shift_row_up.binds (ps := ["machine", "digits", "count"]) fun _ _ _ _ _ _ us hl => match us, hl with | [_, _, _], _ => rfl)⟩⟩
  have cu__law_rows_right_shift_row_down : CalX P w K mg base 22 "shift_row_down" ["machine", "digits", "count"] (SpU__law_rows_right_shift_row_down T) := ⟨⟨_, _, FnOk.or2 (okx_shift_row_down__or22 (T := T) F_shift_row_down cx_check_row_shift__or21) (FnOk.or2 (okx_shift_row_down__or26 (T := T) F_shift_row_down cx_check_row_shift__or24) (FnOk.or2 (okx_shift_row_down__or32 (T := T) F_shift_row_down cx_check_row_shift__or28) (FnOk.or2 (okx_shift_row_down__or35 (T := T) F_shift_row_down cx_check_row_shift__or34) (FnOk.or2 (okx_shift_row_down (T := T) F_shift_row_down cx_check_row_shift) (okx_shift_row_down__or38 (T := T) F_shift_row_down cx_check_row_shift__or37))))), He.glo_ok X G (cd.fact 72 (f := .glo "shift_row_down") rfl), F_shift_row_down.kp, (F_shift_row_down.binds (ps := ["machine", "digits", "count"]) fun _ _ _ _ _ _ us hl => match us, hl with | [_, _, _], _ => rfl)⟩⟩
  obtain ⟨fd__law_rows_right, F__law_rows_right⟩ := cd.def_ 42 (d := d__law_rows_right) rfl
  have F__law_rows_right := Fun.ofD (st := s__law_rows_right) F__law_rows_right
  have c__law_rows_right : Cal P w K mg base 27 "_law_rows_right" ["_law_machine_here", "_law_x_here", "_law_deep_here"] (mkSp (Pre__law_rows_right T)) := ⟨⟨_, _, ok__law_rows_right (T := T) F__law_rows_right mc c_Mach_parts (gRef X G (cd.fact 70 (f := .glo "shift_row_up") rfl)) (gRef X G (cd.fact 72 (f := .glo "shift_row_down") rfl)) (hTB (He.cT K ("_law_rows_right", none)) (List.mem_map.mpr ⟨_, by simp [tfs], rfl⟩)) (hu_of ndT (mem__law_rows_right T)) (codeIs_of (K := K) (p := ("_law_rows_right", none))) cu__law_rows_right_shift_row_up cu__law_rows_right_shift_row_down c__law_said icb kt_Big_L kt_tuple_M kt_list_M kt_Big_M kt_int_M kt_NoneType_M, He.glo_ok X G (cd.fact 85 (f := .glo "_law_rows_right") rfl), F__law_rows_right.kp, (F__law_rows_right.binds (ps := ["_law_machine_here", "_law_x_here", "_law_deep_here"]) fun _ _ _ _ _ _ us hl => match us, hl with | [_, _, _], _ => rfl)⟩⟩
  have cu_law_shift_left : CalX P w K mg base 23 "shift_left" ["machine", "x", "count"] (SpU_law_shift_left T) := ⟨⟨_, _, okx_shift_left (T := T) F_shift_left cx_check_shift bc (gInt X G (cd.fact 62 (f := .int "GREATEST_SHIFT" 100000) rfl)) e_TooGreat, He.glo_ok X G (cd.fact 63 (f := .glo "shift_left") rfl), F_shift_left.kp, (F_shift_left.binds (ps := ["machine", "x", "count"]) fun _ _ _ _ _ _ us hl => match us, hl with | [_, _, _], _ => rfl)⟩⟩
  have F_law := Fun.ofD (st := s_law) G_law
  exact ok_law (T := T) F_law c__law_cell_at c__law_source_of c__law_machine mc c_Mach_parts c__law_one c_big c_Machine2 c__law_next c_add c_Mach_tally c_Mach_walk c__law_deep c__law_numbers_right c__law_rows_right cu_law_shift_left c__law_said (hTB (He.cT K ("law", none)) (List.mem_map.mpr ⟨_, by simp [tfs], rfl⟩)) (hu_of ndT (mem_law T)) (codeIs_of (K := K) (p := ("law", none))) c_shift_left c_shift_right c_shift_row_up c__law_said__n
end P

open PySem PySem.W PySem.Calls PyProof.Rows in
theorem PySem.Challenge.cw_thirtybits_k39_what_shifts_refuse_holds : PySem.Challenge.rw_thirtybits_k39_what_shifts_refuse.Holds := by
  w_on; o_law
  refine HandSHeadRun.head_any (r := OpenLaw.row PySem.Challenge.rw_thirtybits_k39_what_shifts_refuse) (q := view (OpenLaw.row PySem.Challenge.rw_thirtybits_k39_what_shifts_refuse).prog [62]) (H := P.hk) (ob := P.ob) (M := 12000) (loose := P.loose) (d := HandSHeadRun.topDef (OpenLaw.row PySem.Challenge.rw_thirtybits_k39_what_shifts_refuse).prog 62) (kwd := []) P.ob_eq
    (by kernel_rfl) (fun s => by kernel_rfl) P.run (by kernel_rfl) (by kernel_rfl) (by kernel_rfl) (by rfl) (by first | assumption | decide +kernel) (by decide +kernel) ⟨rfl, rfl, rfl, rfl, rfl, by decide +kernel⟩ ?hw ?hc
  case hw => w_witness2
  case hc =>
    refine LamX.walk_ofTsE (l := PySem.Challenge.rw_thirtybits_k39_what_shifts_refuse) (n := 63) (k := 28) (x := "_law_script") (CX := fun _ => L2.CX0) rfl (by decide) (by kernel_rfl) ⟨rfl, by decide, by decide⟩ ?F (fun _ _ _ _ _ z => z)
    intro w mg fa h Y G hmg0
    obtain ⟨K, KX, c⟩ := Y
    have hmg : mg ("law" : PySem.Str) = some (.ref fa) := by
      have e : (HandSHeadRun.topDef (OpenLaw.row PySem.Challenge.rw_thirtybits_k39_what_shifts_refuse).prog 62).name = ("law" : PySem.Str) := by kernel_rfl
      rw [← e]
      exact hmg0
    obtain ⟨T, fd, eT, hTH, hb, hF⟩ := P.facts (P := (PySem.Challenge.rw_thirtybits_k39_what_shifts_refuse).prog) (w := w) KX G hmg c
    refine ⟨K, KX, fd, P.tfs.map (He.cT K), VL.mkSp (P.Pre_law T), fun p hp => ?_, fun p hp => ?_, fun p hp => ?_, hb, fun H a ns hl _ hT hS => ?_, fun base b1 b2 b3 => hF base b1 b2 b3⟩
    · obtain ⟨d, hd, rfl⟩ := List.mem_map.mp hp
      exact c.empty d hd
    · obtain ⟨d, hd, rfl⟩ := List.mem_map.mp hp
      exact c.out d hd
    · obtain ⟨d, hd, rfl⟩ := List.mem_map.mp hp
      exact PySem.W.codeHd_of_K KX (c.hd d hd)
    · obtain ⟨F, f1, f2⟩ := VL.tab_start (hTH H hT) hS
      exact ⟨F, [VL.tabA (P.tbs T)], _, _, ⟨0, ns, true, rfl, rfl, P.law_right ns hl, rfl⟩, .cons ⟨a, ns.map L2.V.int, rfl, by rw [eT]; exact f1, VL.al_of_int⟩ .nil, f2, fun F' v H' Ω' _ _ r => r.1⟩
