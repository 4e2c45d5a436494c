import PyProof.Rows.All
import Wide.All
import OpenK.AllK
import Wide.FinOn
import KE.KStateDown
import HandS.Head0
import HandS.Head1
import HandS.Head2
import HandS.HeadEnd
import HandS.HeadHook1
import HandS.HeadHook2
import HandS.HeadHook3
import HandS.HeadHook4
import HandS.ForMost
import HandS.Wide
import HandS.Evl
import HandS.Rev
import HandS.Style
import HandS.IsInst
import HandS.Defaults
import HandS.DictComp
import HandS.WideBits
import KE.GoesEnum
import HandS.TupAny
import HandS.OwnEq
import PyProof.InstNe
import HandS.TryOnly
import HandS.DeepEq
import PyProof.NeKinds
import HandS.TupLe
import HandS.CallLocal
import HandS.Lambda
import HandS.Small
import HandS.Iter
import HandS.More
import KE.KDflt
import HandS.MakeKw
import HandS.MakeKwOnly
import PyProof.Rows.ChunkEnd
import HandS.RevRange
import PyProof.Rows.CountFlat
import HandS.Flow
import HandS.Conv
import HandS.Sort
import HandS.ForExc
import HandS.RaiseMore
import PyProof.ExcBaseAll.ArithmeticError
import HandS.ExcInit
import HandS.ExcField
import HandS.FStr
import KE.KExcInit
import HandS.TryMany
import KE.KExcIs
import HandS.Flt
import KE.OsArith
import HandS.Text
import KE.KBits
import KE.BitLaws
import HandS.HeadWalk
import PySem.Challenge.RW_thirtybits_k74_whole_bytes_there_and_bac
set_option Elab.async false
set_option linter.all false
set_option maxRecDepth 100000
set_option maxHeartbeats 0
set_option Elab.async false
set_option linter.all false
set_option maxRecDepth 100000
set_option maxHeartbeats 0
namespace VL
open PySem
/-! what is looked at behind the start: the things at places that are told, not those found by walking -/
def obsL (as0 : List Addr) (fa : List He.Fa) (fn : List He.DefD) (tf : List He.Defn) (ex : PySem.W.Frag → Bool) (g : Addr → Option Obj) : He.AlX := ((He.obsD fa fn (He.frT g as0), []), ex (He.frT g as0) && He.tabsB g tf (He.frT g as0))
theorem tabL {g : Addr → Option Obj} {K : PySem.W.Frag} {p : He.Defn} (h : (PySem.W.codeHdIn K (He.cT K p).1 (He.cT K p).2 && (match g (He.cT K p).2 with
    | some o => He.emptyTab o
    | none => false)) = true) : PySem.W.codeHdIn K (He.cT K p).1 (He.cT K p).2 = true ∧ ∃ o, g (He.cT K p).2 = some o ∧ He.emptyTab o = true := by
  rw [Bool.and_eq_true] at h
  refine ⟨h.1, ?_⟩
  revert h
  generalize g (He.cT K p).2 = u
  cases u with
  | none => exact fun h => nomatch h.2
  | some o => exact fun h => ⟨o, rfl, h.2⟩
theorem saysL {as0 : List Addr} {fa : List He.Fa} {fn : List He.DefD} {tf : List He.Defn} {ex : PySem.W.Frag → Bool} {w : World} {h : Heap} (e : obsL as0 fa fn tf ex h.get? = He.valX fn [] w) : He.SaysX fa fn [] tf ex w h (He.frT h.get? as0) := by
  obtain ⟨e1, e2⟩ := Prod.mk.inj e
  rw [Bool.and_eq_true] at e2
  have ts := List.all_eq_true.mp e2.2
  refine { t := e1, more := e2.1, hd := fun p m => (tabL (ts p m)).1, out := fun p m => ?_, empty := fun p m => ?_ }
  · obtain ⟨_, o, q, z⟩ := tabL (ts p m)
    exact He.frT_none q z
  · obtain ⟨_, o, q, z⟩ := tabL (ts p m)
    rw [q, He.emptyTab_eq z]
def hookL (as0 : List Addr) (fa : List He.Fa) (fn : List He.DefD) (tf : List He.Defn) (ex : PySem.W.Frag → Bool) : PySem.W.Hook :=
  ⟨He.AlX, fun s => obsL as0 fa fn tf ex s.heap.get?, fun w => He.valX fn [] w, fun w h => ∃ K : PySem.W.Frag, K.In h ∧ He.SaysX fa fn [] tf ex w h K,
   fun _ _ e => ⟨_, He.frT_in, saysL e⟩, fun _ _ _ ⟨K, i, c⟩ k => ⟨K, i.keeps k, c.t, c.more, c.hd, c.out, fun p m => k _ _ (c.empty p m)⟩⟩
theorem obsL_eq {as0 : List Addr} {fa : List He.Fa} {fn : List He.DefD} {tf : List He.Defn} {ex : PySem.W.Frag → Bool} {g : Addr → Option Obj} {s : PySem.Shared} (h : ∀ a, g a = s.heap.get? a) : obsL as0 fa fn tf ex g = (hookL as0 fa fn tf ex).obs s := by
  show _ = obsL as0 fa fn tf ex s.heap.get?
  rw [show g = s.heap.get? from funext h]
/-- from, how many -/
def addrs (a : Nat) : Nat → List Addr
  | 0 => []
  | n + 1 => a :: addrs (a + 1) n
end VL

namespace VL
open PySem L2 PyProof.Rows
def mwords : List Str := ["short", "sum", "product", "quotient", "corrected", "restored", "shifted", "combined", "complemented", "looked"]
def ownB (K : PySem.W.Frag) (C f : Addr) : Bool := match K.lookup C with
  | some ⟨.type t, _, .cls cd, sl⟩ => (match cd.mro, sl.toList with
    | [.ref C', .type b], [_, _, _, _, some (.builtin n), _] => decide (t = "type") && (decide (C' = C) && (decide (b = "object") && (!cd.hasDel && (PySem.W.nsOkIn K cd.ns && (He.eqO (PySem.W.nsIn K cd.ns "__ne__") (some none) && (He.eqO (PySem.W.nsIn K cd.ns "__eq__") (some (some (.ref f))) &&
        (match K.lookup f with
          | some ⟨.type u, _, _, _⟩ => decide (u = "function")
          | _ => false)))))))
    | _, _ => false)
  | _ => false
abbrev aeBase : List Value := [.type "ArithmeticError", .type "Exception", .type "BaseException", .type "object"]
def excB (K : PySem.W.Frag) (C : Addr) : Bool := PySem.W.excIn K C aeBase "ArithmeticError.__new__" && (PySem.W.keepIn K (.ref C) && (decide (PySem.W.subIn K (.ref C) (.type "BaseException") = some true) && (decide (PySem.W.typeIn K (.ref C) = some (.type "type")) && decide (PySem.W.exmOne K (.ref C) (.ref C) = some true))))
def tupA (K : PySem.W.Frag) (a : Addr) : Option (List Value) := match K.lookup a with
  | some ⟨.type c, _, .seq its _, _⟩ => if (decide (c = "tuple") && decide (its.size ≤ sizeLine)) = true then some its.toList else none
  | _ => none
def pairB (K : PySem.W.Frag) (v : Value) (x : Int × List Int) : Bool := match v with
  | .ref a => match tupA K a with
    | some [u, .ref b] => He.relB (.int x.1) u && (match tupA K b with
      | some zs => He.relAll (x.2.map V.int) zs
      | none => false)
    | _ => false
  | _ => false
def pairsB (K : PySem.W.Frag) : List Value → List (Int × List Int) → Bool
  | [], [] => true
  | v :: vs, x :: xs => pairB K v x && pairsB K vs xs
  | _, _ => false
def fewB (K : PySem.W.Frag) (x : Str) (l : List (Int × List Int)) : Bool := match tupA K (He.ga K x) with
  | some vs => pairsB K vs l
  | none => false
def isVal (o : Option PySem.W.CFound) (v : Value) : Bool := match o with | some (.val a) => decide (a = v) | _ => false
def ixB (K : PySem.W.Frag) (C B0 fI : Addr) (f : Str) : Bool :=
  PySem.W.excInitIn K C aeBase "ArithmeticError.__new__" && (PySem.W.excOver K C aeBase && (PySem.W.hasDictIn K C && (decide (PySem.W.takerIn K C f = some none) && (decide (PySem.W.findIn K (.ref C) "__init__" = some (some (.ref fI))) &&
  (decide (PySem.W.typeIn K (.ref fI) = some (.type "function")) && (decide (PySem.W.findIn K (.ref C) "__setattr__" = some (some (.builtin "object.__setattr__"))) && (decide (PySem.W.subIn K (.ref C) (.type "BaseException") = some true) &&
  (decide (PySem.W.typeIn K (.ref C) = some (.type "type")) && (PySem.W.keepIn K (.ref C) && (xfB K C && (decide (PySem.W.findIn K (.ref C) f = some none) && (decide (PySem.W.specialIn K (.ref B0) "__getattribute__" = some (some (.builtin "type.__getattribute__"))) &&
  (PySem.W.readsIn K B0 (.type "type") && (isVal (PySem.W.findCls K (.ref B0) (.type "type") "__init__") (.builtin "ArithmeticError.__init__") && PySem.W.keepIn K (.ref B0)))))))))))))))
def isV (o : Option (Option Value)) (v : Value) : Bool := match o with | some (some a) => decide (a = v) | _ => false
def isN (o : Option (Option Value)) : Bool := match o with | some none => true | _ => false
def exIB (K : PySem.W.Frag) (D : Addr) : Bool :=
  (PySem.W.clsIn K D).isSome && (isV (PySem.W.findIn K (.ref D) "__getattribute__") (.builtin "BaseException.__getattribute__") && (isN (PySem.W.findIn K (.ref D) "__getattr__") && (decide (PySem.W.subIn K (.ref D) (.type "BaseException") = some true) &&
    (isV (PySem.W.findIn K (.ref D) "__class__") (.builtin "object.__class__") && (isV (PySem.W.specialIn K (.builtin "object.__class__") "__get__") (.builtin "getset_descriptor.__get__") && (decide (PySem.W.takesIn K (.builtin "object.__class__") = some true) && decide (PySem.W.mroIn K D (.type "object") = some true)))))))
def entB : List DictEntry → List (Int × Int) → Bool
  | [], [] => true
  | e :: r, p :: q => (match e.key with | .int a _ => decide (a = p.1) | _ => false) && ((match e.val with | .int a _ => decide (a = p.2) | _ => false) && (decide (e.hash = hashInt p.1) && entB r q))
  | _, _ => false
def idcB (K : PySem.W.Frag) (d : Addr) (kvs : List (Int × Int)) : Bool := (!(d == sysModules)) && match K.lookup d with
  | some ⟨.type c, none, .dict es _, sl⟩ => decide (c = "dict") && (sl.isEmpty && entB es.toList kvs)
  | _ => false
end VL
namespace P
open PySem L2 VL
def topS (i : Nat) : Stmt := PySem.Challenge.pw_thirtybits_k74_whole_bytes_there_and_bac.main.body.getD i (.Pass ⟨0, 0, 0, 0⟩)
abbrev s_is_integer : Stmt := topS 7
abbrev s_is_between : Stmt := topS 8
abbrev s_Mach_step : Stmt := inClass (topS 12) 6
abbrev s_Mach_enter : Stmt := inClass (topS 12) 7
abbrev s_Mach_reset : Stmt := inClass (topS 12) 5
abbrev s_Mach_tally : Stmt := inClass (topS 12) 3
abbrev s_Mach_walk : Stmt := inClass (topS 12) 4
abbrev s_Mach_parts : Stmt := inClass (topS 12) 2
abbrev s_Mach_init : Stmt := inClass (topS 12) 0
abbrev s_Big_eq : Stmt := inClass (topS 23) 1
abbrev s_Big_digits : Stmt := inClass (topS 23) 3
abbrev s_Big_sign : Stmt := inClass (topS 23) 2
abbrev s_Big_bits : Stmt := inClass (topS 23) 4
abbrev s_order_of : Stmt := topS 30
abbrev s_Big_init : Stmt := inClass (topS 23) 0
abbrev s_check_machine : Stmt := topS 13
abbrev s_top_digit : Stmt := topS 16
abbrev s_size_of : Stmt := topS 17
abbrev s_number_of : Stmt := topS 18
abbrev s_low_part : Stmt := topS 20
abbrev s_row_of : Stmt := topS 19
abbrev s_last_difference : Stmt := topS 21
abbrev s_check_big : Stmt := topS 24
abbrev s_check_fit : Stmt := topS 27
abbrev s_check_one : Stmt := topS 25
abbrev s_check_two : Stmt := topS 26
abbrev s_big_of : Stmt := topS 28
abbrev s_are_compact : Stmt := topS 29
abbrev s_big : Stmt := topS 31
abbrev s_plain : Stmt := topS 32
abbrev s_bit_length : Stmt := topS 33
abbrev s_check_signed : Stmt := topS 43
abbrev s_magnitude_of : Stmt := topS 44
abbrev s_least_length : Stmt := topS 45
abbrev s_byte_length : Stmt := topS 39
abbrev s_check_order : Stmt := topS 42
abbrev s_to_bytes : Stmt := topS 40
abbrev s_count_reading : Stmt := topS 46
abbrev s_from_bytes : Stmt := topS 41
abbrev s_added : Stmt := topS 49
abbrev s_taken : Stmt := topS 50
abbrev s_joined : Stmt := topS 48
abbrev s_count_complement : Stmt := topS 55
abbrev s_count_combining : Stmt := topS 56
abbrev s_bit_and : Stmt := topS 52
abbrev s_bit_or : Stmt := topS 53
abbrev s_bit_not : Stmt := topS 54
abbrev s_check_shift : Stmt := topS 61
abbrev s_shifted_left : Stmt := topS 62
abbrev s_shift_left : Stmt := topS 59
abbrev s_count_right_steps : Stmt := topS 64
abbrev s_shifted_right : Stmt := topS 63
abbrev s_shift_right : Stmt := topS 60
abbrev s__law_source_of : Stmt := topS 66
abbrev s__law_next : Stmt := topS 67
abbrev s__law_one : Stmt := topS 68
abbrev s__law_cell_at : Stmt := topS 69
abbrev s__law_power : Stmt := topS 70
abbrev s__law_machine : Stmt := topS 71
abbrev s__law_drawn : Stmt := topS 72
abbrev s__law_counted : Stmt := topS 73
abbrev s__law_back_right : Stmt := topS 74
abbrev s__law_each_right : Stmt := topS 75
abbrev s__law_joined_right : Stmt := topS 76
abbrev s__law_counts_right : Stmt := topS 77
abbrev s__law_sums_right : Stmt := topS 78
abbrev s_law : Stmt := topS 79
def iclsB (K : PySem.W.Frag) (C : Addr) : Bool := He.eqO (PySem.W.findIn K (.ref C) "__class__") (some (some (.builtin "object.__class__"))) && (He.eqO (PySem.W.specialIn K (.builtin "object.__class__") "__get__") (some (some (.builtin "getset_descriptor.__get__"))) &&
  (decide (PySem.W.takesIn K (.builtin "object.__class__") = some true) && (decide (PySem.W.mroIn K C (.type "object") = some true) && decide (PySem.W.kitOne K (.ref C) (.ref C) = some true))))
def tfs : List He.Defn := [("_law_sums_right", none)]
def d_is_integer : He.DefD := ⟨("is_integer", none), "is_integer", "is_integer", defArgs s_is_integer, defBody s_is_integer, defScope s_is_integer, [], []⟩
def d_is_between : He.DefD := ⟨("is_between", none), "is_between", "is_between", defArgs s_is_between, defBody s_is_between, defScope s_is_between, [], []⟩
def d_order_of : He.DefD := ⟨("order_of", none), "order_of", "order_of", defArgs s_order_of, defBody s_order_of, defScope s_order_of, [], []⟩
def d_check_machine : He.DefD := ⟨("check_machine", none), "check_machine", "check_machine", defArgs s_check_machine, defBody s_check_machine, defScope s_check_machine, [], []⟩
def d_top_digit : He.DefD := ⟨("top_digit", none), "top_digit", "top_digit", defArgs s_top_digit, defBody s_top_digit, defScope s_top_digit, [], []⟩
def d_size_of : He.DefD := ⟨("size_of", none), "size_of", "size_of", defArgs s_size_of, defBody s_size_of, defScope s_size_of, [], []⟩
def d_number_of : He.DefD := ⟨("number_of", none), "number_of", "number_of", defArgs s_number_of, defBody s_number_of, defScope s_number_of, [], []⟩
def d_low_part : He.DefD := ⟨("low_part", none), "low_part", "low_part", defArgs s_low_part, defBody s_low_part, defScope s_low_part, [], []⟩
def d_row_of : He.DefD := ⟨("row_of", none), "row_of", "row_of", defArgs s_row_of, defBody s_row_of, defScope s_row_of, [], []⟩
def d_last_difference : He.DefD := ⟨("last_difference", none), "last_difference", "last_difference", defArgs s_last_difference, defBody s_last_difference, defScope s_last_difference, [], []⟩
def d_check_big : He.DefD := ⟨("check_big", none), "check_big", "check_big", defArgs s_check_big, defBody s_check_big, defScope s_check_big, [], []⟩
def d_check_fit : He.DefD := ⟨("check_fit", none), "check_fit", "check_fit", defArgs s_check_fit, defBody s_check_fit, defScope s_check_fit, [], []⟩
def d_check_one : He.DefD := ⟨("check_one", none), "check_one", "check_one", defArgs s_check_one, defBody s_check_one, defScope s_check_one, [], []⟩
def d_check_two : He.DefD := ⟨("check_two", none), "check_two", "check_two", defArgs s_check_two, defBody s_check_two, defScope s_check_two, [], []⟩
def d_big_of : He.DefD := ⟨("big_of", none), "big_of", "big_of", defArgs s_big_of, defBody s_big_of, defScope s_big_of, [], []⟩
def d_are_compact : He.DefD := ⟨("are_compact", none), "are_compact", "are_compact", defArgs s_are_compact, defBody s_are_compact, defScope s_are_compact, [], []⟩
def d_big : He.DefD := ⟨("big", none), "big", "big", defArgs s_big, defBody s_big, defScope s_big, [], []⟩
def d_plain : He.DefD := ⟨("plain", none), "plain", "plain", defArgs s_plain, defBody s_plain, defScope s_plain, [], []⟩
def d_bit_length : He.DefD := ⟨("bit_length", none), "bit_length", "bit_length", defArgs s_bit_length, defBody s_bit_length, defScope s_bit_length, [], []⟩
def d_check_signed : He.DefD := ⟨("check_signed", none), "check_signed", "check_signed", defArgs s_check_signed, defBody s_check_signed, defScope s_check_signed, [], []⟩
def d_magnitude_of : He.DefD := ⟨("magnitude_of", none), "magnitude_of", "magnitude_of", defArgs s_magnitude_of, defBody s_magnitude_of, defScope s_magnitude_of, [], []⟩
def d_least_length : He.DefD := ⟨("least_length", none), "least_length", "least_length", defArgs s_least_length, defBody s_least_length, defScope s_least_length, [], []⟩
def d_byte_length : He.DefD := ⟨("byte_length", none), "byte_length", "byte_length", defArgs s_byte_length, defBody s_byte_length, defScope s_byte_length, [], [("signed", .bl false)]⟩
def d_check_order : He.DefD := ⟨("check_order", none), "check_order", "check_order", defArgs s_check_order, defBody s_check_order, defScope s_check_order, [], []⟩
def d_to_bytes : He.DefD := ⟨("to_bytes", none), "to_bytes", "to_bytes", defArgs s_to_bytes, defBody s_to_bytes, defScope s_to_bytes, [.int 1, .str "big"], [("signed", .bl false)]⟩
def d_count_reading : He.DefD := ⟨("count_reading", none), "count_reading", "count_reading", defArgs s_count_reading, defBody s_count_reading, defScope s_count_reading, [], []⟩
def d_from_bytes : He.DefD := ⟨("from_bytes", none), "from_bytes", "from_bytes", defArgs s_from_bytes, defBody s_from_bytes, defScope s_from_bytes, [.str "big"], [("signed", .bl false)]⟩
def d_added : He.DefD := ⟨("added", none), "added", "added", defArgs s_added, defBody s_added, defScope s_added, [], []⟩
def d_taken : He.DefD := ⟨("taken", none), "taken", "taken", defArgs s_taken, defBody s_taken, defScope s_taken, [], []⟩
def d_joined : He.DefD := ⟨("joined", none), "joined", "joined", defArgs s_joined, defBody s_joined, defScope s_joined, [], []⟩
def d_count_complement : He.DefD := ⟨("count_complement", none), "count_complement", "count_complement", defArgs s_count_complement, defBody s_count_complement, defScope s_count_complement, [], []⟩
def d_count_combining : He.DefD := ⟨("count_combining", none), "count_combining", "count_combining", defArgs s_count_combining, defBody s_count_combining, defScope s_count_combining, [], []⟩
def d_bit_and : He.DefD := ⟨("bit_and", none), "bit_and", "bit_and", defArgs s_bit_and, defBody s_bit_and, defScope s_bit_and, [], []⟩
def d_bit_or : He.DefD := ⟨("bit_or", none), "bit_or", "bit_or", defArgs s_bit_or, defBody s_bit_or, defScope s_bit_or, [], []⟩
def d_bit_not : He.DefD := ⟨("bit_not", none), "bit_not", "bit_not", defArgs s_bit_not, defBody s_bit_not, defScope s_bit_not, [], []⟩
def d_check_shift : He.DefD := ⟨("check_shift", none), "check_shift", "check_shift", defArgs s_check_shift, defBody s_check_shift, defScope s_check_shift, [], []⟩
def d_shifted_left : He.DefD := ⟨("shifted_left", none), "shifted_left", "shifted_left", defArgs s_shifted_left, defBody s_shifted_left, defScope s_shifted_left, [], []⟩
def d_shift_left : He.DefD := ⟨("shift_left", none), "shift_left", "shift_left", defArgs s_shift_left, defBody s_shift_left, defScope s_shift_left, [], []⟩
def d_count_right_steps : He.DefD := ⟨("count_right_steps", none), "count_right_steps", "count_right_steps", defArgs s_count_right_steps, defBody s_count_right_steps, defScope s_count_right_steps, [], []⟩
def d_shifted_right : He.DefD := ⟨("shifted_right", none), "shifted_right", "shifted_right", defArgs s_shifted_right, defBody s_shifted_right, defScope s_shifted_right, [], []⟩
def d_shift_right : He.DefD := ⟨("shift_right", none), "shift_right", "shift_right", defArgs s_shift_right, defBody s_shift_right, defScope s_shift_right, [], []⟩
def d__law_source_of : He.DefD := ⟨("_law_source_of", none), "_law_source_of", "_law_source_of", defArgs s__law_source_of, defBody s__law_source_of, defScope s__law_source_of, [], []⟩
def d__law_next : He.DefD := ⟨("_law_next", none), "_law_next", "_law_next", defArgs s__law_next, defBody s__law_next, defScope s__law_next, [], []⟩
def d__law_one : He.DefD := ⟨("_law_one", none), "_law_one", "_law_one", defArgs s__law_one, defBody s__law_one, defScope s__law_one, [], []⟩
def d__law_cell_at : He.DefD := ⟨("_law_cell_at", none), "_law_cell_at", "_law_cell_at", defArgs s__law_cell_at, defBody s__law_cell_at, defScope s__law_cell_at, [], []⟩
def d__law_power : He.DefD := ⟨("_law_power", none), "_law_power", "_law_power", defArgs s__law_power, defBody s__law_power, defScope s__law_power, [], []⟩
def d__law_machine : He.DefD := ⟨("_law_machine", none), "_law_machine", "_law_machine", defArgs s__law_machine, defBody s__law_machine, defScope s__law_machine, [], []⟩
def d__law_drawn : He.DefD := ⟨("_law_drawn", none), "_law_drawn", "_law_drawn", defArgs s__law_drawn, defBody s__law_drawn, defScope s__law_drawn, [], []⟩
def d__law_counted : He.DefD := ⟨("_law_counted", none), "_law_counted", "_law_counted", defArgs s__law_counted, defBody s__law_counted, defScope s__law_counted, [], []⟩
def d__law_back_right : He.DefD := ⟨("_law_back_right", none), "_law_back_right", "_law_back_right", defArgs s__law_back_right, defBody s__law_back_right, defScope s__law_back_right, [], []⟩
def d__law_each_right : He.DefD := ⟨("_law_each_right", none), "_law_each_right", "_law_each_right", defArgs s__law_each_right, defBody s__law_each_right, defScope s__law_each_right, [], []⟩
def d__law_joined_right : He.DefD := ⟨("_law_joined_right", none), "_law_joined_right", "_law_joined_right", defArgs s__law_joined_right, defBody s__law_joined_right, defScope s__law_joined_right, [], []⟩
def d__law_counts_right : He.DefD := ⟨("_law_counts_right", none), "_law_counts_right", "_law_counts_right", defArgs s__law_counts_right, defBody s__law_counts_right, defScope s__law_counts_right, [], []⟩
def d__law_sums_right : He.DefD := ⟨("_law_sums_right", none), "_law_sums_right", "_law_sums_right", defArgs s__law_sums_right, defBody s__law_sums_right, defScope s__law_sums_right, [], []⟩
def d_law : He.DefD := ⟨("law", none), "law", "law", defArgs s_law, defBody s_law, defScope s_law, [], []⟩
def d_Mach_step : He.DefD := ⟨("Machine", some "step"), "step", "Machine.step", defArgs s_Mach_step, defBody s_Mach_step, defScope s_Mach_step, [], []⟩
def d_Mach_enter : He.DefD := ⟨("Machine", some "enter"), "enter", "Machine.enter", defArgs s_Mach_enter, defBody s_Mach_enter, defScope s_Mach_enter, [], []⟩
def d_Mach_reset : He.DefD := ⟨("Machine", some "reset"), "reset", "Machine.reset", defArgs s_Mach_reset, defBody s_Mach_reset, defScope s_Mach_reset, [], []⟩
def d_Mach_tally : He.DefD := ⟨("Machine", some "tally"), "tally", "Machine.tally", defArgs s_Mach_tally, defBody s_Mach_tally, defScope s_Mach_tally, [], []⟩
def d_Mach_walk : He.DefD := ⟨("Machine", some "walk"), "walk", "Machine.walk", defArgs s_Mach_walk, defBody s_Mach_walk, defScope s_Mach_walk, [], []⟩
def d_Mach_parts : He.DefD := ⟨("Machine", some "parts"), "parts", "Machine.parts", defArgs s_Mach_parts, defBody s_Mach_parts, defScope s_Mach_parts, [], []⟩
def d_Mach_init : He.DefD := ⟨("Machine", some "__init__"), "__init__", "Machine.__init__", defArgs s_Mach_init, defBody s_Mach_init, defScope s_Mach_init, [.int 30, .int 70], []⟩
def d_Big_init : He.DefD := ⟨("Big", some "__init__"), "__init__", "Big.__init__", defArgs s_Big_init, defBody s_Big_init, defScope s_Big_init, [], []⟩
def d_Big_eq : He.DefD := ⟨("Big", some "__eq__"), "__eq__", "Big.__eq__", defArgs s_Big_eq, defBody s_Big_eq, defScope s_Big_eq, [], []⟩
def d_Big_digits : He.DefD := ⟨("Big", some "digits"), "digits", "Big.digits", defArgs s_Big_digits, defBody s_Big_digits, defScope s_Big_digits, [], []⟩
def d_Big_sign : He.DefD := ⟨("Big", some "sign"), "sign", "Big.sign", defArgs s_Big_sign, defBody s_Big_sign, defScope s_Big_sign, [], []⟩
def d_Big_bits : He.DefD := ⟨("Big", some "bits"), "bits", "Big.bits", defArgs s_Big_bits, defBody s_Big_bits, defScope s_Big_bits, [], []⟩
def fa0 : List He.Fa := [.cls "Machine", .noat "Machine" "width", .noat "Machine" "cutoff", .noat "Machine" "counts", .noat "Machine" "entered", .cls "Big", .noat "Big" "width", .noat "Big" "side", .noat "Big" "row", .noat "Big" "value", .free "isinstance", .free "int", .free "bool", .glo "is_integer", .glo "is_between", .meth "Machine" "step", .free "len", .int "LONGEST_WALK" 1000, .meth "Machine" "enter", .glo "WORDS", .meth "Machine" "reset", .meth "Machine" "tally", .free "list", .meth "Machine" "walk", .meth "Machine" "parts", .glo "Machine", .mkr "Machine", .glo "Big", .meth "Big" "__eq__", .meth "Big" "digits"]
def fa1 : List He.Fa := [.meth "Big" "sign", .meth "Big" "bits", .glo "order_of", .free "tuple", .mkr "Big", .glo "check_machine", .glo "top_digit", .glo "size_of", .glo "number_of", .int "LONGEST_LOOP" 32, .free "reversed", .glo "low_part", .glo "row_of", .free "range", .free "max", .glo "last_difference", .glo "check_big", .glo "check_fit", .glo "check_one", .glo "check_two", .free "abs", .glo "big_of", .glo "are_compact", .glo "big", .glo "plain", .glo "bit_length", .glo "check_signed", .glo "magnitude_of", .int "BYTE" 8, .glo "least_length"]
def fa2 : List He.Fa := [.glo "byte_length", .free "str", .glo "check_order", .int "LONGEST_ROW" 10000, .glo "to_bytes", .free "min", .glo "count_reading", .int "GREATEST_BYTE" 255, .free "all", .int "SIGN_BYTE" 128, .glo "from_bytes", .glo "added", .glo "taken", .glo "joined", .glo "count_complement", .glo "count_combining", .glo "bit_and", .glo "bit_or", .glo "bit_not", .glo "check_shift", .glo "shifted_left", .int "GREATEST_SHIFT" 100000, .glo "shift_left", .glo "count_right_steps", .glo "shifted_right", .glo "shift_right", .glo "_law_source_of", .glo "_law_next", .glo "_law_one", .glo "_law_cell_at"]
def fa3 : List He.Fa := [.glo "_law_power", .glo "_law_machine", .glo "_law_drawn", .free "dict", .glo "_law_counted", .glo "_law_back_right", .glo "_law_each_right", .glo "_law_joined_right", .glo "_law_counts_right", .free "sum", .glo "_law_sums_right", .glo "law"]
def fa : List He.Fa := fa0 ++ fa1 ++ fa2 ++ fa3
def fn : List He.DefD := [d_is_integer, d_is_between, d_order_of, d_check_machine, d_top_digit, d_size_of, d_number_of, d_low_part, d_row_of, d_last_difference, d_check_big, d_check_fit, d_check_one, d_check_two, d_big_of, d_are_compact, d_big, d_plain, d_bit_length, d_check_signed, d_magnitude_of, d_least_length, d_byte_length, d_check_order, d_to_bytes, d_count_reading, d_from_bytes, d_added, d_taken, d_joined, d_count_complement, d_count_combining, d_bit_and, d_bit_or, d_bit_not, d_check_shift, d_shifted_left, d_shift_left, d_count_right_steps, d_shifted_right, d_shift_right, d__law_source_of, d__law_next, d__law_one, d__law_cell_at, d__law_power, d__law_machine, d__law_drawn, d__law_counted, d__law_back_right, d__law_each_right, d__law_joined_right, d__law_counts_right, d__law_sums_right, d_law, d_Mach_step, d_Mach_enter, d_Mach_reset, d_Mach_tally, d_Mach_walk, d_Mach_parts, d_Mach_init, d_Big_init, d_Big_eq, d_Big_digits, d_Big_sign, d_Big_bits]
def tabsApart (K : PySem.W.Frag) : Bool := decide (((tfs.map fun p => (He.cT K p).2)).Nodup)
def exB (K : PySem.W.Frag) : Bool := He.tupB K "WORDS" (mwords.map He.Dv.str) && (iclsB K (He.ga K "Machine") && (iclsB K (He.ga K "Big") && ownB K (He.ga K "Big") (He.ma K (He.ga K "Big") "__eq__"))) && tabsApart K
def loose0 : List Str := ["BitsError", "InvalidMachine", "InvalidBound", "TooGreat", "shown", "is_integer", "is_between", "WORDS", "LONGEST_WALK", "Machine", "check_machine", "LONGEST_LOOP", "top_digit", "size_of", "number_of", "row_of", "low_part", "last_difference", "Big", "check_big", "check_one", "check_two", "check_fit", "big_of", "are_compact", "order_of", "big", "plain", "bit_length", "LONGEST_ROW"]
def loose1 : List Str := ["BYTE", "GREATEST_BYTE", "SIGN_BYTE", "byte_length", "to_bytes", "from_bytes", "check_order", "check_signed", "magnitude_of", "least_length", "count_reading", "joined", "added", "taken", "bit_and", "bit_or", "bit_not", "count_complement", "count_combining", "GREATEST_SHIFT", "shift_left", "shift_right", "check_shift", "shifted_left", "shifted_right", "count_right_steps", "_law_source_of", "_law_next", "_law_one", "_law_cell_at"]
def loose2 : List Str := ["_law_power", "_law_machine", "_law_drawn", "_law_counted", "_law_back_right", "_law_each_right", "_law_joined_right", "_law_counts_right", "_law_sums_right"]
def loose : List Str := loose0 ++ loose1 ++ loose2
abbrev R : PySem.W.OpenRow := PySem.W.OpenLaw.row PySem.Challenge.rw_thirtybits_k74_whole_bytes_there_and_bac
abbrev hk : PySem.W.Hook := hookL (addrs 0 1200) fa fn tfs exB
def ob (s : PySem.W.SharedT) : He.AlX := obsL (addrs 0 1200) fa fn tfs exB (HandSHeadRun.getT s)
theorem ob_eq (s : PySem.W.SharedT) : ob s = hk.obs s.abs := obsL_eq (HandSHeadRun.getT_eq s)
theorem run (w : World) : HandSHeadRun.RunEq R (PySem.W.view R.prog [79]) hk ob 12000 loose w := by
  intro os
  kernel_rfl
end P
set_option maxHeartbeats 200000
set_option Elab.async false
set_option linter.all false
set_option maxRecDepth 100000
/-! What a body does, by values: Holds (the frozen part, the changing things, by place), Env (the slots), XG, XE, XT, XA, XS. -/
namespace VL
open PySem L2

/-! ### the frozen part and the changing things -/
structure VA where
  P : Hp → V → Prop
  mono : ∀ {F F' : Hp} {v : V}, Same F F' → P F v → P F' v
structure OA where
  P : Hp → Hp → Prop
  mono : ∀ {F F' t : Hp}, Same F F' → P F t → P F' t

def Holds (F : Hp) (Ω : List OA) (H : Hp) : Prop :=
  ∃ ts : Nat → Hp, (∀ (i : Nat) (o : OA), Ω[i]? = some o → o.P F (ts i)) ∧ Same F H ∧ (∀ i : Nat, i < Ω.length → Same (ts i) H) ∧
    (∀ (i : Nat) (b : Addr) (o : HO), i < Ω.length → ts i b = some o → F b = none) ∧
    ∀ (i j : Nat) (b : Addr) (o : HO), i < Ω.length → j < Ω.length → i ≠ j → ts i b = some o → ts j b = none

theorem getlt {α : Type} {l : List α} {i : Nat} {a : α} (h : l[i]? = some a) : i < l.length := (List.getElem?_eq_some_iff.mp h).1
theorem nn {F : Hp} {b : Addr} {o : HO} (h : F b = some o) (h' : F b = none) : False := by rw [h] at h'; cases h'
theorem same_upd {H : Hp} {p : Addr} {o : HO} (h : H p = none) : Same H (upd H p o) := fun b x e => by
  rw [upd_ne (ne_of_none e h)]; exact e

section
variable {F F' H H' : Hp} {Ω : List OA} {o o' : OA} {i j : Nat} {a p : Addr} {u u' : HO}
theorem Holds.same (h : Holds F Ω H) : Same F H := let ⟨_, _, q, _⟩ := h; q
theorem Holds.nil (h : Same F H) : Holds F [] H := ⟨fun _ _ => none, fun i o q => by simp at q, h, fun i q => absurd q (Nat.not_lt_zero _), fun i _ _ q => absurd q (Nat.not_lt_zero _), fun i _ _ _ q => absurd q (Nat.not_lt_zero _)⟩
/-- a new frozen object -/
theorem Holds.newF (h : Holds F Ω H) (n : H p = none) : Holds (upd F p u) Ω (upd H p u) ∧ Same F (upd F p u) := by
  obtain ⟨ts, h1, h2, h3, h4, h5⟩ := h
  have nF : F p = none := h2.free n
  have sF : Same F (upd F p u) := same_upd nF
  have nt : ∀ i, i < Ω.length → ts i p = none := fun i q => (h3 i q).free n
  refine ⟨⟨ts, fun i o q => o.mono sF (h1 i o q), fun b x e => ?_, fun i q => (h3 i q).trans (same_upd n), fun i b x q e => ?_, h5⟩, sF⟩
  · by_cases hb : b = p
    · subst hb; rw [upd_same] at e ⊢; exact e
    · rw [upd_ne hb] at e ⊢; exact h2 b x e
  · have hb : b ≠ p := fun z => by subst z; exact nn e (nt i q)
    rw [upd_ne hb]; exact h4 i b x q e
theorem app_at {α : Type} {l : List α} {a : α} : (l ++ [a])[l.length]? = some a := by simp
theorem app_lt {α : Type} {l : List α} {a b : α} {i : Nat} (h : l[i]? = some b) : (l ++ [a])[i]? = some b := by
  rw [List.getElem?_append_left (getlt h)]; exact h
/-- a new changing thing, behind the others -/
theorem Holds.newO {t : Hp} (h : Holds F Ω H) (n : ∀ b x, t b = some x → H b = none) (e : Same H H') (et : Same t H') (ok : o.P F t) : Holds F (Ω ++ [o]) H' := by
  obtain ⟨ts, h1, h2, h3, h4, h5⟩ := h
  have len : (Ω ++ [o]).length = Ω.length + 1 := by simp
  refine ⟨fun k => if k = Ω.length then t else ts k, fun i x q => ?_, h2.trans e, fun i q => ?_, fun i b x q r => ?_, fun i j b x qi qj ne r => ?_⟩
  · show x.P F (if i = Ω.length then t else ts i)
    by_cases hi : i = Ω.length
    · subst hi; rw [app_at] at q; cases q; rw [if_pos rfl]; exact ok
    · rw [if_neg hi]
      have lt : i < Ω.length := by have := getlt q; omega
      rw [List.getElem?_append_left lt] at q
      exact h1 i x q
  · show Same (if i = Ω.length then t else ts i) H'
    by_cases hi : i = Ω.length
    · rw [if_pos hi]; exact et
    · rw [if_neg hi]; exact (h3 i (by omega)).trans e
  · have r : (if i = Ω.length then t else ts i) b = some x := r
    by_cases hi : i = Ω.length
    · rw [if_pos hi] at r; exact h2.free (n b x r)
    · rw [if_neg hi] at r; exact h4 i b x (by omega) r
  · have r : (if i = Ω.length then t else ts i) b = some x := r
    show (if j = Ω.length then t else ts j) b = none
    by_cases hi : i = Ω.length
    · rw [if_pos hi] at r
      rw [if_neg (fun z => ne (hi.trans z.symm))]
      exact (h3 j (by omega)).free (n b x r)
    · rw [if_neg hi] at r
      by_cases hj : j = Ω.length
      · rw [if_pos hj]
        cases q : t b with
        | none => rfl
        | some y => exact (nn (h3 i (by omega) b x r) (n b y q)).elim
      · rw [if_neg hj]; exact h5 i j b x (by omega) (by omega) ne r
theorem sng_some {b : Addr} {x : HO} (e : upd (fun _ => none) p u b = some x) : b = p := by
  by_cases h : b = p
  · exact h
  · rw [upd_ne h] at e; cases e
theorem Holds.newL (h : Holds F Ω H) (n : H p = none) (ok : o.P F (upd (fun _ => none) p u)) : Holds F (Ω ++ [o]) (upd H p u) :=
  h.newO (t := upd (fun _ => none) p u) (fun b x e => by rw [sng_some e]; exact n) (same_upd n) (fun b x e => by
    have hb := sng_some e
    subst hb; rw [upd_same] at e ⊢; exact e) ok
/-- the thing at i: its part of the heap; it may be changed there -/
theorem Holds.get (h : Holds F Ω H) (q : Ω[i]? = some o) : ∃ t, o.P F t ∧ Same t H ∧ (∀ b x, t b = some x → F b = none) ∧
    ∀ (o' : OA) (a : Addr) (u u' : HO), t a = some u → o'.P F (upd t a u') → Holds F (Ω.set i o') (upd H a u') := by
  obtain ⟨ts, h1, h2, h3, h4, h5⟩ := h
  have lt := getlt q
  refine ⟨ts i, h1 i o q, h3 i lt, fun b x e => h4 i b x lt e, fun o' a u u' ha ok => ?_⟩
  have nF : F a = none := h4 i a u lt ha
  have tj : ∀ j, j < Ω.length → j ≠ i → ts j a = none := fun j lj ne => h5 i j a u lt lj (fun z => ne z.symm) ha
  refine ⟨fun k => if k = i then upd (ts i) a u' else ts k, fun k x r => ?_, fun b x e => ?_, fun k lk b x e => ?_, fun k b x lk e => ?_, fun k m b x lk lm ne e => ?_⟩
  · show x.P F (if k = i then _ else ts k)
    by_cases hk : k = i
    · subst hk
      rw [List.getElem?_set_self lt] at r; cases r; rw [if_pos rfl]; exact ok
    · rw [if_neg hk]
      rw [List.getElem?_set_ne (fun z => hk z.symm)] at r
      exact h1 k x r
  · rw [upd_ne (ne_of_none e nF)]; exact h2 b x e
  · rw [List.length_set] at lk
    have e : (if k = i then upd (ts i) a u' else ts k) b = some x := e
    by_cases hk : k = i
    · rw [if_pos hk] at e
      by_cases hb : b = a
      · subst hb; rw [upd_same] at e ⊢; exact e
      · rw [upd_ne hb] at e ⊢; exact h3 i lt b x e
    · rw [if_neg hk] at e
      rw [upd_ne (ne_of_none e (tj k lk hk))]; exact h3 k lk b x e
  · rw [List.length_set] at lk
    have e : (if k = i then upd (ts i) a u' else ts k) b = some x := e
    by_cases hk : k = i
    · rw [if_pos hk] at e
      by_cases hb : b = a
      · subst hb; exact nF
      · rw [upd_ne hb] at e; exact h4 i b x lt e
    · rw [if_neg hk] at e; exact h4 k b x lk e
  · rw [List.length_set] at lk lm
    have e : (if k = i then upd (ts i) a u' else ts k) b = some x := e
    show (if m = i then upd (ts i) a u' else ts m) b = none
    by_cases hk : k = i
    · rw [if_pos hk] at e
      have hm : m ≠ i := fun z => ne (hk.trans z.symm)
      rw [if_neg hm]
      by_cases hb : b = a
      · subst hb; exact tj m lm hm
      · rw [upd_ne hb] at e; exact h5 i m b x lt lm (fun z => hm z.symm) e
    · rw [if_neg hk] at e
      by_cases hm : m = i
      · rw [if_pos hm]
        have hb : b ≠ a := ne_of_none e (tj k lk hk)
        rw [upd_ne hb]; exact h5 k i b x lk lt hk e
      · rw [if_neg hm]; exact h5 k m b x lk lm ne e
/-- the last thing is left -/
theorem Holds.drop (h : Holds F (Ω ++ [o]) H) : Holds F Ω H := by
  obtain ⟨ts, h1, h2, h3, h4, h5⟩ := h
  have len : (Ω ++ [o]).length = Ω.length + 1 := by simp
  exact ⟨ts, fun i x q => h1 i x (app_lt q), h2, fun i q => h3 i (by omega), fun i b x q => h4 i b x (by omega), fun i j b x qi qj => h5 i j b x (by omega) (by omega)⟩
/-- two maps with nothing in common -/
def cup (F t : Hp) : Hp := fun b => match F b with | some o => some o | none => t b
theorem cup_l {F t : Hp} : Same F (cup F t) := fun b x e => by show (match F b with | some o => some o | none => t b) = _; rw [e]
theorem cup_r {F t : Hp} (d : ∀ b x, t b = some x → F b = none) : Same t (cup F t) := fun b x e => by show (match F b with | some o => some o | none => t b) = _; rw [d b x e]; exact e
theorem cup_or {F t : Hp} {b : Addr} {x : HO} (e : cup F t b = some x) : F b = some x ∨ t b = some x := by
  have e : (match F b with | some o => some o | none => t b) = some x := e
  cases h : F b with
  | none => rw [h] at e; exact .inr e
  | some y => rw [h] at e; exact .inl e
/-- the last thing becomes frozen -/
theorem Holds.freeze (h : Holds F (Ω ++ [o]) H) : ∃ F' t, Same F F' ∧ Same t F' ∧ o.P F t ∧ Holds F' Ω H := by
  obtain ⟨ts, h1, h2, h3, h4, h5⟩ := h
  have len : (Ω ++ [o]).length = Ω.length + 1 := by simp
  have d : ∀ b x, ts Ω.length b = some x → F b = none := fun b x e => h4 Ω.length b x (by omega) e
  refine ⟨cup F (ts Ω.length), ts Ω.length, cup_l, cup_r d, h1 _ _ app_at, ts, fun i x q => x.mono cup_l (h1 i x (app_lt q)), fun b x e => ?_, fun i q => h3 i (by omega), fun i b x q e => ?_, fun i j b x qi qj => h5 i j b x (by omega) (by omega)⟩
  · rcases cup_or e with e | e
    · exact h2 b x e
    · exact h3 Ω.length (by omega) b x e
  · cases z : cup F (ts Ω.length) b with
    | none => rfl
    | some y =>
      rcases cup_or z with z | z
      · exact (nn z (h4 i b x (by omega) e)).elim
      · exact (nn z (h5 i Ω.length b x (by omega) (by omega) (by omega) e)).elim
/-- the last thing is taken into the thing at i -/
theorem Holds.merge {o2 : OA} (h : Holds F (Ω ++ [o2]) H) (q : Ω[i]? = some o) : ∃ t t2, o.P F t ∧ o2.P F t2 ∧ Same t H ∧ Same t2 H ∧ (∀ b x, t b = some x → t2 b = none) ∧
    (∀ o' : OA, o'.P F (cup t t2) → Holds F (Ω.set i o') H) := by
  obtain ⟨ts, h1, h2, h3, h4, h5⟩ := h
  have len : (Ω ++ [o2]).length = Ω.length + 1 := by simp
  have lt := getlt q
  refine ⟨ts i, ts Ω.length, h1 i o (app_lt q), h1 _ _ app_at, h3 i (by omega), h3 _ (by omega), fun b x e => h5 i Ω.length b x (by omega) (by omega) (by omega) e, fun o' ok => ?_⟩
  refine ⟨fun k => if k = i then cup (ts i) (ts Ω.length) else ts k, fun k x r => ?_, h2, fun k lk b x e => ?_, fun k b x lk e => ?_, fun k m b x lk lm ne e => ?_⟩
  · show x.P F (if k = i then _ else ts k)
    by_cases hk : k = i
    · subst hk
      rw [List.getElem?_set_self lt] at r; cases r; rw [if_pos rfl]; exact ok
    · rw [if_neg hk]
      rw [List.getElem?_set_ne (fun z => hk z.symm)] at r
      exact h1 k x (app_lt r)
  · rw [List.length_set] at lk
    have e : (if k = i then cup (ts i) (ts Ω.length) else ts k) b = some x := e
    by_cases hk : k = i
    · rw [if_pos hk] at e
      rcases cup_or e with e | e
      · exact h3 i (by omega) b x e
      · exact h3 Ω.length (by omega) b x e
    · rw [if_neg hk] at e; exact h3 k (by omega) b x e
  · rw [List.length_set] at lk
    have e : (if k = i then cup (ts i) (ts Ω.length) else ts k) b = some x := e
    by_cases hk : k = i
    · rw [if_pos hk] at e
      rcases cup_or e with e | e
      · exact h4 i b x (by omega) e
      · exact h4 Ω.length b x (by omega) e
    · rw [if_neg hk] at e; exact h4 k b x (by omega) e
  · rw [List.length_set] at lk lm
    have e : (if k = i then cup (ts i) (ts Ω.length) else ts k) b = some x := e
    show (if m = i then cup (ts i) (ts Ω.length) else ts m) b = none
    by_cases hk : k = i
    · rw [if_pos hk] at e
      have hm : m ≠ i := fun z => ne (hk.trans z.symm)
      rw [if_neg hm]
      rcases cup_or e with e | e
      · exact h5 i m b x (by omega) (by omega) (by omega) e
      · exact h5 Ω.length m b x (by omega) (by omega) (by omega) e
    · rw [if_neg hk] at e
      by_cases hm : m = i
      · rw [if_pos hm]
        cases z : cup (ts i) (ts Ω.length) b with
        | none => rfl
        | some y =>
          rcases cup_or z with z | z
          · exact (nn z (h5 k i b x (by omega) (by omega) hk e)).elim
          · exact (nn z (h5 k Ω.length b x (by omega) (by omega) (by omega) e)).elim
      · rw [if_neg hm]; exact h5 k m b x (by omega) (by omega) ne e
end

/-! ### values by what they stand for -/
structure TC where
  K : PySem.W.Frag
  C : Nat → Addr
class Rp (α : Type) where
  rep : TC → Hp → V → α → Prop
  mono : ∀ {T : TC} {F F' : Hp} {v : V} {a : α}, Same F F' → rep T F v a → rep T F' v a
def va (T : TC) {α : Type} [Rp α] (a : α) : VA := ⟨fun F v => Rp.rep T F v a, Rp.mono⟩
def vr (p : Addr) : VA := ⟨fun _ v => v = .ref p, fun _ h => h⟩
def vx (v0 : V) : VA := ⟨fun _ v => v = v0, fun _ h => h⟩
instance : Rp Int := ⟨fun _ _ v n => v = .int n, fun _ h => h⟩
instance : Rp Bool := ⟨fun _ _ v n => v = .bl n, fun _ h => h⟩
instance : Rp Str := ⟨fun _ _ v n => v = .str n, fun _ h => h⟩
instance : Rp Unit := ⟨fun _ _ v _ => v = .non, fun _ h => h⟩
/-- a list that stays, a tuple of one kind, a pair, a triple -/
structure LF (α : Type) where
  l : List α
structure TF (α : Type) where
  l : List α
/-- the script -/
structure SF (α : Type) where
  l : List α
structure T3 (α β γ : Type) where
  a : α
  b : β
  c : γ
def Al {α : Type} [Rp α] (T : TC) (F : Hp) (vs : List V) (l : List α) : Prop := Paired (fun v a => Rp.rep T F v a) vs l
theorem Al.mono {α : Type} [Rp α] {T : TC} {F F' : Hp} (e : Same F F') : ∀ {vs : List V} {l : List α}, Al T F vs l → Al T F' vs l
  | _, _, .nil => .nil
  | _, _, .cons h t => .cons (Rp.mono e h) (Al.mono e t)
theorem Same.tup {K : PySem.W.Frag} {H H' : Hp} {a : Addr} {xs : List V} (e : Same H H') (h : SqT K H a xs) : SqT K H' a xs := by
  rcases h with (h | ⟨o, h⟩) | h
  · exact .inl (.inl (e _ _ h))
  · exact .inl (.inr ⟨o, e _ _ h⟩)
  · exact .inr h
instance {α : Type} [Rp α] : Rp (LF α) := ⟨fun T F v l => ∃ p vs, v = .ref p ∧ F p = some (.lst vs) ∧ Al T F vs l.l, fun e ⟨p, vs, h1, h2, h3⟩ => ⟨p, vs, h1, e _ _ h2, h3.mono e⟩⟩
instance {α : Type} [Rp α] : Rp (SF α) := ⟨fun T F v l => ∃ p vs, v = .ref p ∧ SqL T.K F p vs ∧ Al T F vs l.l, fun e ⟨p, vs, h1, h2, h3⟩ => ⟨p, vs, h1, e.seq h2, h3.mono e⟩⟩
instance {α : Type} [Rp α] : Rp (TF α) := ⟨fun T F v l => ∃ p vs, v = .ref p ∧ SqT T.K F p vs ∧ Al T F vs l.l, fun e ⟨p, vs, h1, h2, h3⟩ => ⟨p, vs, h1, Same.tup e h2, h3.mono e⟩⟩
instance {α β : Type} [Rp α] [Rp β] : Rp (α × β) := ⟨fun T F v l => ∃ p x y, v = .ref p ∧ SqT T.K F p [x, y] ∧ Rp.rep T F x l.1 ∧ Rp.rep T F y l.2, fun e ⟨p, x, y, h1, h2, h3, h4⟩ => ⟨p, x, y, h1, Same.tup e h2, Rp.mono e h3, Rp.mono e h4⟩⟩
instance {α β γ : Type} [Rp α] [Rp β] [Rp γ] : Rp (T3 α β γ) := ⟨fun T F v l => ∃ p x y z, v = .ref p ∧ SqT T.K F p [x, y, z] ∧ Rp.rep T F x l.a ∧ Rp.rep T F y l.b ∧ Rp.rep T F z l.c, fun e ⟨p, x, y, z, h1, h2, h3, h4, h5⟩ => ⟨p, x, y, z, h1, Same.tup e h2, Rp.mono e h3, Rp.mono e h4, Rp.mono e h5⟩⟩
theorem al_int {T : TC} {F : Hp} : ∀ {vs : List V} {l : List Int}, Al T F vs l → vs = l.map V.int
  | _, _, .nil => rfl
  | _, _, .cons h t => by rw [List.map_cons, ← al_int t, show _ = V.int _ from h]
theorem al_of_int {T : TC} {F : Hp} : ∀ {l : List Int}, Al T F (l.map V.int) l
  | [] => .nil
  | x :: r => .cons (show V.int x = V.int x from rfl) al_of_int
theorem al_len {α : Type} [Rp α] {T : TC} {F : Hp} : ∀ {vs : List V} {l : List α}, Al T F vs l → vs.length = l.length
  | _, _, .nil => rfl
  | _, _, .cons _ t => congrArg (· + 1) (al_len t)
theorem al_get {α : Type} [Rp α] {T : TC} {F : Hp} : ∀ {vs : List V} {l : List α} {i : Nat} {a : α}, Al T F vs l → l[i]? = some a → ∃ v, vs[i]? = some v ∧ Rp.rep T F v a
  | _, _, _, _, .nil, e => by simp at e
  | _, _, 0, _, .cons h _, e => by cases e; exact ⟨_, rfl, h⟩
  | _, _, i + 1, _, .cons _ t, e => al_get (i := i) t e
theorem al_set {α : Type} [Rp α] {T : TC} {F : Hp} {v : V} {a : α} (h : Rp.rep T F v a) : ∀ {vs : List V} {l : List α} (i : Nat), Al T F vs l → Al T F (vs.set i v) (l.set i a)
  | _, _, _, .nil => .nil
  | _, _, 0, .cons _ t => .cons h t
  | _, _, i + 1, .cons q t => .cons q (al_set h i t)
theorem al_app {α : Type} [Rp α] {T : TC} {F : Hp} : ∀ {vs ws : List V} {l m : List α}, Al T F vs l → Al T F ws m → Al T F (vs ++ ws) (l ++ m)
  | _, _, _, _, .nil, h => h
  | _, _, _, _, .cons q t, h => .cons q (al_app t h)
theorem al_take {α : Type} [Rp α] {T : TC} {F : Hp} : ∀ {vs : List V} {l : List α} (n : Nat), Al T F vs l → Al T F (vs.take n) (l.take n)
  | _, _, 0, _ => .nil
  | _, _, _ + 1, .nil => .nil
  | _, _, n + 1, .cons q t => .cons q (al_take n t)
theorem al_drop {α : Type} [Rp α] {T : TC} {F : Hp} : ∀ {vs : List V} {l : List α} (n : Nat), Al T F vs l → Al T F (vs.drop n) (l.drop n)
  | _, _, 0, h => h
  | _, _, _ + 1, .nil => .nil
  | _, _, n + 1, .cons _ t => al_drop n t
theorem al_rev {α : Type} [Rp α] {T : TC} {F : Hp} : ∀ {vs : List V} {l : List α}, Al T F vs l → Al T F vs.reverse l.reverse
  | _, _, .nil => .nil
  | _, _, .cons h t => by rw [List.reverse_cons, List.reverse_cons]; exact al_app (al_rev t) (.cons h .nil)

/-- a list that changes -/
def lstA (T : TC) {α : Type} [Rp α] (p : Addr) (l : List α) : OA := ⟨fun F t => ∃ vs, t p = some (.lst vs) ∧ Al T F vs l, fun e ⟨vs, h1, h2⟩ => ⟨vs, h1, h2.mono e⟩⟩

/-! ### slots -/
def Env (F : Hp) (σ : St) (Γ : List (Option VA)) : Prop := σ.length = Γ.length ∧ ∀ (i : Nat) (A : VA), Γ[i]? = some (some A) → ∃ v, σ[i]? = some (some v) ∧ A.P F v
theorem Env.mono {F F' : Hp} {σ : St} {Γ : List (Option VA)} (h : Env F σ Γ) (e : Same F F') : Env F' σ Γ := ⟨h.1, fun i A q => let ⟨v, h1, h2⟩ := h.2 i A q; ⟨v, h1, A.mono e h2⟩⟩
theorem Env.set {F : Hp} {σ : St} {Γ : List (Option VA)} {i : Nat} {v : V} {A : VA} (h : Env F σ Γ) (a : A.P F v) : Env F (σ.set i (some v)) (Γ.set i (some A)) := by
  refine ⟨by rw [List.length_set, List.length_set]; exact h.1, fun k B q => ?_⟩
  by_cases hk : i = k
  · subst hk
    have lt : i < Γ.length := by have := getlt q; rwa [List.length_set] at this
    rw [List.getElem?_set_self lt] at q
    cases q
    exact ⟨v, by rw [List.getElem?_set_self (by rw [h.1]; exact lt)], a⟩
  · rw [List.getElem?_set_ne hk] at q
    obtain ⟨w, h1, h2⟩ := h.2 k B q
    exact ⟨w, by rw [List.getElem?_set_ne hk]; exact h1, h2⟩
/-- what is known of slots is left -/
theorem Env.weak {F : Hp} {σ : St} {Γ Γ' : List (Option VA)} (h : Env F σ Γ) (hl : Γ'.length = Γ.length) (k : ∀ (i : Nat) A, Γ'[i]? = some (some A) → Γ[i]? = some (some A)) : Env F σ Γ' := ⟨h.1.trans hl.symm, fun i A q => h.2 i A (k i A q)⟩

/-! ### expressions -/
def XG (te : TE) (Γ : List (Option VA)) (Ω : List OA) (R : Hp → V → List OA → Prop) : Prop :=
  ∀ F σ H, Env F σ Γ → Holds F Ω H → ∀ Q : VK, (∀ F' v H' Ω', Same F F' → Holds F' Ω' H' → R F' v Ω' → Q v H') → te σ H Q
abbrev XE (te : TE) (Γ : List (Option VA)) (Ω : List OA) (A : VA) (Ω2 : List OA) : Prop := XG te Γ Ω fun F v Ω' => A.P F v ∧ Ω' = Ω2
def XT (t : TT) (Γ : List (Option VA)) (Ω : List OA) (b : Bool) (Ω2 : List OA) : Prop :=
  ∀ F σ H, Env F σ Γ → Holds F Ω H → ∀ Q : Bool → Hp → Prop, (∀ F' H', Same F F' → Holds F' Ω2 H' → Q b H') → t σ H Q
def AlA (F : Hp) (vs : List V) (As : List VA) : Prop := Paired (fun v (A : VA) => A.P F v) vs As
theorem AlA.mono {F F' : Hp} (e : Same F F') : ∀ {vs : List V} {As : List VA}, AlA F vs As → AlA F' vs As
  | _, _, .nil => .nil
  | _, _, .cons (b := A) h t => .cons (A.mono e h) (AlA.mono e t)
theorem AlA.len {F : Hp} : ∀ {vs : List V} {As : List VA}, AlA F vs As → vs.length = As.length
  | _, _, .nil => rfl
  | _, _, .cons _ t => congrArg (· + 1) (AlA.len t)
theorem AlA.app {F : Hp} : ∀ {vs ws : List V} {As Bs : List VA}, AlA F vs As → AlA F ws Bs → AlA F (vs ++ ws) (As ++ Bs)
  | _, _, _, _, .nil, h => h
  | _, _, _, _, .cons q t, h => .cons q (AlA.app t h)
def XA (t : TA) (Γ : List (Option VA)) (Ω : List OA) (As : List VA) (Ω2 : List OA) : Prop :=
  ∀ F σ H, Env F σ Γ → Holds F Ω H → ∀ Q : List V → Hp → Prop, (∀ F' vs H', Same F F' → Holds F' Ω2 H' → AlA F' vs As → Q vs H') → t σ H Q
/-- a one-place, two-place operation on values, a call on values -/
def RO (r : R2) (Ω : List OA) (A B C : VA) : Prop := ∀ F H x y, Holds F Ω H → A.P F x → B.P F y → ∀ Q : VK, (∀ F' v H', Same F F' → Holds F' Ω H' → C.P F' v → Q v H') → r x y H Q
def RU (r : V → Hp → VK → Prop) (Ω : List OA) (A C : VA) : Prop := ∀ F H x, Holds F Ω H → A.P F x → ∀ Q : VK, (∀ F' v H', Same F F' → Holds F' Ω H' → C.P F' v → Q v H') → r x H Q
def RC (r : List V → Hp → VK → Prop) (Ω : List OA) (As : List VA) (C : VA) : Prop := ∀ F H vs, Holds F Ω H → AlA F vs As → ∀ Q : VK, (∀ F' v H', Same F F' → Holds F' Ω H' → C.P F' v → Q v H') → r vs H Q

section
variable {T : TC} {Γ : List (Option VA)} {Ω Ω1 Ω2 : List OA} {A B C : VA} {ta tb te : TE} {t u : TT} {i j n m : Int} {b c : Bool}
theorem xe_var {i : Nat} (h : Γ[i]? = some (some A)) : XE (tVar i) Γ Ω A Ω := fun F σ H e hh Q q => by
  obtain ⟨v, h1, h2⟩ := e.2 i A h
  exact ⟨v, h1, q F v H Ω (Same.refl F) hh ⟨h2, rfl⟩⟩
theorem xe_c {v : V} (h : ∀ F, A.P F v) : XE (tC v) Γ Ω A Ω := fun F σ H e hh Q q => q F v H Ω (Same.refl F) hh ⟨h F, rfl⟩
theorem xe_int : XE (tC (.int n)) Γ Ω (va T n) Ω := xe_c fun _ => rfl
theorem xe_bl : XE (tC (.bl b)) Γ Ω (va T b) Ω := xe_c fun _ => rfl
theorem xe_str {s : Str} : XE (tC (.str s)) Γ Ω (va T s) Ω := xe_c fun _ => rfl
theorem xe_op {r : R2} (ha : XE ta Γ Ω A Ω1) (hb : XE tb Γ Ω1 B Ω2) (hr : RO r Ω2 A B C) : XE (tOp r ta tb) Γ Ω C Ω2 := fun F σ H e hh Q q => by
  refine ha F σ H e hh _ fun F1 x H1 Ω' e1 hh1 ⟨a1, o1⟩ => ?_
  subst o1
  refine hb F1 σ H1 (e.mono e1) hh1 _ fun F2 y H2 Ω'' e2 hh2 ⟨a2, o2⟩ => ?_
  subst o2
  exact hr F2 H2 x y hh2 (A.mono e2 a1) a2 Q fun F3 v H3 e3 hh3 a3 => q F3 v H3 _ ((e1.trans e2).trans e3) hh3 ⟨a3, rfl⟩
theorem xe_un {r : V → Hp → VK → Prop} (ha : XE ta Γ Ω A Ω1) (hr : RU r Ω1 A C) : XE (tUn r ta) Γ Ω C Ω1 := fun F σ H e hh Q q => by
  refine ha F σ H e hh _ fun F1 x H1 Ω' e1 hh1 ⟨a1, o1⟩ => ?_
  subst o1
  exact hr F1 H1 x hh1 a1 Q fun F3 v H3 e3 hh3 a3 => q F3 v H3 _ (e1.trans e3) hh3 ⟨a3, rfl⟩
theorem xa_nil : XA tNil Γ Ω [] Ω := fun F σ H e hh Q q => q F [] H (Same.refl F) hh .nil
theorem xa_cons {tr : TA} {As : List VA} (ha : XE ta Γ Ω A Ω1) (hr : XA tr Γ Ω1 As Ω2) : XA (tCons ta tr) Γ Ω (A :: As) Ω2 := fun F σ H e hh Q q => by
  refine ha F σ H e hh _ fun F1 x H1 Ω' e1 hh1 ⟨a1, o1⟩ => ?_
  subst o1
  refine hr F1 σ H1 (e.mono e1) hh1 _ fun F2 xs H2 e2 hh2 a2 => ?_
  exact q F2 (x :: xs) H2 (e1.trans e2) hh2 (.cons (A.mono e2 a1) a2)
theorem xe_cb {r : List V → Hp → VK → Prop} {t : TA} {As : List VA} (ha : XA t Γ Ω As Ω1) (hr : RC r Ω1 As C) : XE (tCB r t) Γ Ω C Ω1 := fun F σ H e hh Q q => by
  refine ha F σ H e hh _ fun F1 xs H1 e1 hh1 a1 => ?_
  exact hr F1 H1 xs hh1 a1 Q fun F3 v H3 e3 hh3 a3 => q F3 v H3 _ (e1.trans e3) hh3 ⟨a3, rfl⟩
/-- the same with another word for it -/
theorem XG.imp {R R' : Hp → V → List OA → Prop} (h : XG te Γ Ω R) (k : ∀ F v Ω', R F v Ω' → R' F v Ω') : XG te Γ Ω R' := fun F σ H e hh Q q => h F σ H e hh Q fun F' v H' Ω' e' hh' r => q F' v H' Ω' e' hh' (k _ _ _ r)
theorem XE.to (h : XE te Γ Ω A Ω1) (k : ∀ F v, A.P F v → B.P F v) : XE te Γ Ω B Ω1 := h.imp fun F v Ω' ⟨a, o⟩ => ⟨k F v a, o⟩
theorem xe_eq {α : Type} [Rp α] {a a' : α} (h : XE te Γ Ω (va T a) Ω1) (e : a = a') : XE te Γ Ω (va T a') Ω1 := e ▸ h

/-! ints -/
theorem ro_I0 {g : Int → Int → V} (h : ∀ F, C.P F (g i j)) : RO (rI0 g) Ω (va T i) (va T j) C := fun F H x y hh a1 a2 Q q => ⟨i, j, a1, a2, q F _ H (Same.refl F) hh (h F)⟩
theorem ro_I {D : Int → Int → Prop} {g : Int → Int → V} (hd : D i j) (h : ∀ F, C.P F (g i j)) : RO (rI D g) Ω (va T i) (va T j) C := fun F H x y hh a1 a2 Q q => ⟨i, j, a1, a2, hd, q F _ H (Same.refl F) hh (h F)⟩
theorem ro_int {g : Int → Int → Int} : RO (rI0 fun i j => .int (g i j)) Ω (va T i) (va T j) (va T (g i j)) := ro_I0 fun _ => rfl
theorem ro_intD {D : Int → Int → Prop} {g : Int → Int → Int} (hd : D i j) : RO (rI D fun i j => .int (g i j)) Ω (va T i) (va T j) (va T (g i j)) := ro_I hd fun _ => rfl
theorem ro_bl {g : Int → Int → Bool} : RO (rI0 fun i j => .bl (g i j)) Ω (va T i) (va T j) (va T (g i j)) := ro_I0 fun _ => rfl
theorem ru_int {g : Int → Int} : RU (rU fun i => .int (g i)) Ω (va T i) (va T (g i)) := fun F H x hh a1 Q q => ⟨i, a1, q F _ H (Same.refl F) hh rfl⟩
theorem ro_eqI : RO rEq Ω (va T i) (va T j) (va T (decide (i = j))) := fun F H x y hh a1 a2 Q q => by
  have a1 : x = .int i := a1
  have a2 : y = .int j := a2
  subst a1 a2
  refine ⟨rfl, q F _ H (Same.refl F) hh ?_⟩
  show V.bl _ = V.bl _
  congr 1
  exact decide_eq_decide.mpr ⟨V.int.inj, fun h => by rw [h]⟩
theorem ro_neI : RO rNe Ω (va T i) (va T j) (va T (!decide (i = j))) := fun F H x y hh a1 a2 Q q => by
  have a1 : x = .int i := a1
  have a2 : y = .int j := a2
  subst a1 a2
  refine ⟨rfl, q F _ H (Same.refl F) hh ?_⟩
  show V.bl _ = V.bl _
  congr 2
  exact decide_eq_decide.mpr ⟨V.int.inj, fun h => by rw [h]⟩
theorem ro_eqB : RO rEq Ω (va T b) (va T c) (va T (decide (b = c))) := fun F H x y hh a1 a2 Q q => by
  have a1 : x = .bl b := a1
  have a2 : y = .bl c := a2
  subst a1 a2
  refine ⟨rfl, q F _ H (Same.refl F) hh ?_⟩
  show V.bl _ = V.bl _
  congr 1
  exact decide_eq_decide.mpr ⟨V.bl.inj, fun h => by rw [h]⟩
/-! tests -/
theorem xt_test (h : XE te Γ Ω (va T b) Ω1) : XT (tTest te) Γ Ω b Ω1 := fun F σ H e hh Q q => by
  refine h F σ H e hh _ fun F1 x H1 Ω' e1 hh1 ⟨a1, o1⟩ => ?_
  subst o1
  exact ⟨b, a1, q F1 H1 e1 hh1⟩
theorem xt_tB (h : XE te Γ Ω (va T b) Ω1) : XT (tB te) Γ Ω b Ω1 := xt_test (T := T) h
theorem xt_and (h1 : XT t Γ Ω b Ω1) (h2 : b = true → XT u Γ Ω1 c Ω2) (h3 : b = false → Ω1 = Ω2) : XT (tAnd t u) Γ Ω (b && c) Ω2 := fun F σ H e hh Q q => by
  refine h1 F σ H e hh _ fun F1 H1 e1 hh1 => ?_
  cases b with
  | true => rw [if_pos rfl]; exact h2 rfl F1 σ H1 (e.mono e1) hh1 Q fun F2 H2 e2 hh2 => q F2 H2 (e1.trans e2) hh2
  | false => rw [if_neg Bool.false_ne_true]; exact q F1 H1 e1 (h3 rfl ▸ hh1)
theorem xt_or (h1 : XT t Γ Ω b Ω1) (h2 : b = false → XT u Γ Ω1 c Ω2) (h3 : b = true → Ω1 = Ω2) : XT (tOr t u) Γ Ω (b || c) Ω2 := fun F σ H e hh Q q => by
  refine h1 F σ H e hh _ fun F1 H1 e1 hh1 => ?_
  cases b with
  | false => rw [if_neg Bool.false_ne_true]; exact h2 rfl F1 σ H1 (e.mono e1) hh1 Q fun F2 H2 e2 hh2 => q F2 H2 (e1.trans e2) hh2
  | true => rw [if_pos rfl]; exact q F1 H1 e1 (h3 rfl ▸ hh1)
theorem xt_not (h1 : XT t Γ Ω b Ω1) : XT (tNot t) Γ Ω (!b) Ω1 := fun F σ H e hh Q q => h1 F σ H e hh _ q
theorem xt_eq (h : XT t Γ Ω b Ω1) (e : b = c) : XT t Γ Ω c Ω1 := e ▸ h
theorem xe_if (h : XT t Γ Ω b Ω1) (h1 : b = true → XE ta Γ Ω1 A Ω2) (h2 : b = false → XE tb Γ Ω1 A Ω2) : XE (tIf t ta tb) Γ Ω A Ω2 := fun F σ H e hh Q q => by
  refine h F σ H e hh _ fun F1 H1 e1 hh1 => ?_
  cases b with
  | true => rw [if_pos rfl]; exact h1 rfl F1 σ H1 (e.mono e1) hh1 Q fun F2 v H2 Ω' e2 hh2 r => q F2 v H2 Ω' (e1.trans e2) hh2 r
  | false => rw [if_neg Bool.false_ne_true]; exact h2 rfl F1 σ H1 (e.mono e1) hh1 Q fun F2 v H2 Ω' e2 hh2 r => q F2 v H2 Ω' (e1.trans e2) hh2 r
theorem xe_andV (h1 : XE ta Γ Ω (va T b) Ω) (h2 : b = true → XE tb Γ Ω (va T c) Ω) : XE (tAndV ta tb) Γ Ω (va T (b && c)) Ω := fun F σ H e hh Q q => by
  refine h1 F σ H e hh _ fun F1 x H1 Ω' e1 hh1 ⟨a1, o1⟩ => ?_
  subst o1
  refine ⟨b, a1, ?_⟩
  cases b with
  | true => rw [if_pos rfl]; exact h2 rfl F1 σ H1 (e.mono e1) hh1 Q fun F2 v H2 Ω'' e2 hh2 r => q F2 v H2 Ω'' (e1.trans e2) hh2 r
  | false => rw [if_neg Bool.false_ne_true]; exact q F1 _ H1 _ e1 hh1 ⟨rfl, rfl⟩
theorem xe_notV (h1 : XE ta Γ Ω (va T b) Ω1) : XE (tNotV ta) Γ Ω (va T (!b)) Ω1 := fun F σ H e hh Q q => by
  refine h1 F σ H e hh _ fun F1 x H1 Ω' e1 hh1 ⟨a1, o1⟩ => ?_
  exact ⟨b, a1, q F1 _ H1 _ e1 hh1 ⟨rfl, o1⟩⟩
theorem xe_chain {r r' : R2} {D : VA} {tc : TE} (ha : XE ta Γ Ω A Ω) (hb : XE tb Γ Ω B Ω) (hr : RO r Ω A B (va T b)) (hc : b = true → XE tc Γ Ω D Ω) (hr' : b = true → RO r' Ω B D (va T c)) : XE (tChain r r' ta tb tc) Γ Ω (va T (b && c)) Ω := fun F σ H e hh Q q => by
  refine ha F σ H e hh _ fun F1 x H1 Ω' e1 hh1 ⟨a1, o1⟩ => ?_
  subst o1
  refine hb F1 σ H1 (e.mono e1) hh1 _ fun F2 y H2 Ω'' e2 hh2 ⟨a2, o2⟩ => ?_
  subst o2
  refine hr F2 H2 x y hh2 (A.mono e2 a1) a2 _ fun F3 v H3 e3 hh3 a3 => ⟨b, a3, ?_⟩
  cases b with
  | true =>
    rw [if_pos rfl]
    refine hc rfl F3 σ H3 (e.mono ((e1.trans e2).trans e3)) hh3 _ fun F4 z H4 Ω3 e4 hh4 ⟨a4, o4⟩ => ?_
    subst o4
    exact hr' rfl F4 H4 y z hh4 (B.mono (e3.trans e4) a2) a4 Q fun F5 w H5 e5 hh5 a5 => q F5 w H5 _ ((((e1.trans e2).trans e3).trans e4).trans e5) hh5 ⟨a5, rfl⟩
  | false => rw [if_neg Bool.false_ne_true]; exact q F3 _ H3 _ ((e1.trans e2).trans e3) hh3 ⟨rfl, rfl⟩
end
end VL

set_option Elab.async false
set_option linter.all false
set_option maxRecDepth 100000
/-! lists, fields, calls, statements -/
namespace VL
open PySem L2

/-! ### defs' promises -/
/-- a promise: of the arguments As in the state Ω, what comes of it -/
abbrev PreT := List VA → List OA → (Hp → V → List OA → Prop) → Prop
def mkSp (Pre : PreT) : Sp := fun vs H Q _ => ∃ F Ω As R, Pre As Ω R ∧ AlA F vs As ∧ Holds F Ω H ∧ ∀ F' v H' Ω', Same F F' → Holds F' Ω' H' → R F' v Ω' → Q v H'
/-- hands back a, leaves Ω2 -/
abbrev RV (A : VA) (Ω2 : List OA) : Hp → V → List OA → Prop := fun F v Ω' => A.P F v ∧ Ω' = Ω2
/-- hands back a new changing thing -/
abbrev RN (Ω2 : List OA) (o : Addr → OA) : Hp → V → List OA → Prop := fun F v Ω' => ∃ p, v = .ref p ∧ Ω' = Ω2 ++ [o p]

/-! ### the changing things by place: those of the caller at the places ks, then a def's own -/
def apk (Ω : List OA) : List (Nat × OA) → List OA
  | [] => Ω
  | p :: r => (apk Ω r).set p.1 p.2
def stt (Ω : List OA) (ks : List (Nat × OA)) (L : List OA) : List OA := apk Ω ks ++ L
theorem apk_len {Ω : List OA} : ∀ ks : List (Nat × OA), (apk Ω ks).length = Ω.length
  | [] => rfl
  | p :: r => by unfold apk; rw [List.length_set, apk_len r]
/-- the places differ and are there -/
structure Okk (Ω : List OA) (keys : List Nat) : Prop where
  nd : keys.Nodup
  lt : ∀ k ∈ keys, k < Ω.length
theorem apk_get {Ω : List OA} : ∀ {ks : List (Nat × OA)} {i : Nat} {k : Nat} {o : OA}, (ks.map (·.1)).Nodup → k < Ω.length → ks[i]? = some (k, o) → (apk Ω ks)[k]? = some o
  | [], _, _, _, _, _, h => by simp at h
  | p :: r, 0, k, o, _, lt, h => by
    cases h
    unfold apk
    rw [List.getElem?_set_self (by rw [apk_len]; exact lt)]
  | p :: r, i + 1, k, o, nd, lt, h => by
    have h : r[i]? = some (k, o) := h
    unfold apk
    obtain ⟨h1, h2⟩ := List.nodup_cons.mp (show (p.1 :: r.map (·.1)).Nodup from nd)
    have ne : p.1 ≠ k := fun e => h1 (List.mem_map.mpr ⟨(k, o), List.mem_of_getElem? h, e.symm⟩)
    rw [List.getElem?_set_ne ne]
    exact apk_get h2 lt h
theorem apk_set {Ω : List OA} : ∀ {ks : List (Nat × OA)} {i : Nat} {k : Nat} {o o' : OA}, (ks.map (·.1)).Nodup → ks[i]? = some (k, o) → (apk Ω ks).set k o' = apk Ω (ks.set i (k, o'))
  | [], _, _, _, _, _, h => by simp at h
  | p :: r, 0, k, o, o', _, h => by
    cases h
    show ((apk Ω r).set k o).set k o' = (apk Ω r).set k o'
    rw [List.set_set]
  | p :: r, i + 1, k, o, o', nd, h => by
    have h : r[i]? = some (k, o) := h
    obtain ⟨h1, h2⟩ := List.nodup_cons.mp (show (p.1 :: r.map (·.1)).Nodup from nd)
    have ne : p.1 ≠ k := fun e => h1 (List.mem_map.mpr ⟨(k, o), List.mem_of_getElem? h, e.symm⟩)
    show ((apk Ω r).set p.1 p.2).set k o' = (apk Ω (r.set i (k, o'))).set p.1 p.2
    rw [List.set_comm _ _ ne, apk_set h2 h]
theorem apk_self {Ω : List OA} : ∀ {ks : List (Nat × OA)}, (∀ p ∈ ks, Ω[p.1]? = some p.2) → apk Ω ks = Ω
  | [], _ => rfl
  | p :: r, h => by
    unfold apk
    rw [apk_self fun q hq => h q (List.mem_cons_of_mem _ hq)]
    apply List.ext_getElem?
    intro k
    have hp := h p List.mem_cons_self
    by_cases e : p.1 = k
    · subst e; rw [List.getElem?_set_self (getlt hp), hp]
    · rw [List.getElem?_set_ne e]
section
variable {Ω : List OA} {keys : List Nat} {ks : List (Nat × OA)} {L : List OA} {i j k : Nat} {o o' : OA}
theorem stt_get (ok : Okk Ω keys) (h : ks[i]? = some (k, o)) (hk : ks.map (·.1) = keys := by rfl) : (stt Ω ks L)[k]? = some o := by
  subst hk
  have hm : k ∈ ks.map (·.1) := List.mem_map.mpr ⟨(k, o), List.mem_of_getElem? h, rfl⟩
  have lt := ok.lt k hm
  unfold stt
  rw [List.getElem?_append_left (by rw [apk_len]; exact lt)]
  exact apk_get ok.nd lt h
theorem stt_set (ok : Okk Ω keys) (h : ks[i]? = some (k, o)) (hk : ks.map (·.1) = keys := by rfl) : (stt Ω ks L).set k o' = stt Ω (ks.set i (k, o')) L := by
  subst hk
  have hm : k ∈ ks.map (·.1) := List.mem_map.mpr ⟨(k, o), List.mem_of_getElem? h, rfl⟩
  have lt := ok.lt k hm
  unfold stt
  rw [List.set_append_left _ _ (by rw [apk_len]; exact lt), apk_set ok.nd h]
theorem stt_getL (h : L[j]? = some o) : (stt Ω ks L)[Ω.length + j]? = some o := by
  unfold stt
  rw [List.getElem?_append_right (by rw [apk_len]; omega), apk_len, Nat.add_sub_cancel_left]
  exact h
theorem stt_setL : (stt Ω ks L).set (Ω.length + j) o' = stt Ω ks (L.set j o') := by
  unfold stt
  rw [List.set_append_right _ _ (by rw [apk_len]; omega), apk_len, Nat.add_sub_cancel_left]
theorem stt_app : stt Ω ks L ++ [o] = stt Ω ks (L ++ [o]) := List.append_assoc _ _ _
theorem stt_self (h : ∀ p ∈ ks, Ω[p.1]? = some p.2) : stt Ω ks [] = Ω := by
  unfold stt
  rw [apk_self h, List.append_nil]
theorem stt_nil : stt Ω ks [] = apk Ω ks := List.append_nil _
theorem apk_out {Ω : List OA} : ∀ {ks : List (Nat × OA)}, k ∉ ks.map (·.1) → (apk Ω ks)[k]? = Ω[k]?
  | [], _ => rfl
  | p :: r, h => by
    unfold apk
    have h : k ∉ p.1 :: r.map (·.1) := h
    rw [List.getElem?_set_ne (fun e => h (by rw [e]; exact List.mem_cons_self))]
    exact apk_out fun m => h (List.mem_cons_of_mem _ m)
theorem stt_getU (h : Ω[k]? = some o) (hn : k ∉ ks.map (·.1) := by simp) : (stt Ω ks L)[k]? = some o := by
  unfold stt
  rw [List.getElem?_append_left (by rw [apk_len]; exact getlt h), apk_out hn]
  exact h
theorem ne_kL (h : k < Ω.length) : k ≠ Ω.length + j := by omega
theorem cal0 : stt (stt Ω ks L) [] [] = stt Ω ks L := List.append_nil _
theorem stt_one {Ω : List OA} : stt Ω [(k, o)] [] = Ω.set k o := List.append_nil _
theorem cal1 (ok : Okk Ω keys) (h : ks[i]? = some (k, o)) (hk : ks.map (·.1) = keys := by rfl) : stt (stt Ω ks L) [(k, o')] [] = stt Ω (ks.set i (k, o')) L := stt_one.trans (stt_set ok h hk)
theorem cal1L : stt (stt Ω ks L) [(Ω.length + j, o')] [] = stt Ω ks (L.set j o') := stt_one.trans stt_setL
theorem okk0 : Okk Ω [] := ⟨by simp, fun k h => by cases h⟩
theorem okk1 (h : Ω[k]? = some o) : Okk Ω [k] := ⟨by simp, fun m hm => by rw [List.mem_singleton.mp hm]; exact getlt h⟩
end
section
variable {T : TC} {Γ : List (Option VA)} {Ω Ω1 Ω2 : List OA} {A B C : VA} {As : List VA} {ta tb te : TE} {t u : TT} {i j n m : Int} {b c : Bool}
theorem xg_call {Pre : PreT} {E : XK} {t : TA} {R : Hp → V → List OA → Prop} (ha : XA t Γ Ω As Ω1) (hp : Pre As Ω1 R) : XG (tCall (mkSp Pre) [] E t) Γ Ω R := fun F σ H e hh Q q => by
  refine ha F σ H e hh _ fun F1 xs H1 e1 hh1 a1 => ?_
  refine ⟨F1, Ω1, As, R, hp, by rw [List.append_nil]; exact a1, hh1, fun F' v H' Ω' e' hh' r => q F' v H' Ω' (e1.trans e') hh' r⟩
theorem xg_callD {Pre : PreT} {E : XK} {t : TA} {dvs : List V} {Ds : List VA} {R : Hp → V → List OA → Prop} (ha : XA t Γ Ω As Ω1) (hd : ∀ F, AlA F dvs Ds) (hp : Pre (As ++ Ds) Ω1 R) : XG (tCall (mkSp Pre) dvs E t) Γ Ω R := fun F σ H e hh Q q => by
  refine ha F σ H e hh _ fun F1 xs H1 e1 hh1 a1 => ?_
  exact ⟨F1, Ω1, As ++ Ds, R, hp, a1.app (hd F1), hh1, fun F' v H' Ω' e' hh' r => q F' v H' Ω' (e1.trans e') hh' r⟩
/-! ### the state ahead of a statement -/
def NX (F0 : Hp) (Γ : List (Option VA)) (Ω : List OA) : St → Hp → Prop := fun σ H => ∃ F, Same F0 F ∧ Env F σ Γ ∧ Holds F Ω H
def RT (F0 : Hp) (R : Hp → V → List OA → Prop) : VK → Prop := fun Q => ∀ F v H Ω, Same F0 F → Holds F Ω H → R F v Ω → Q v H
def XS (t : TS) (D : Ends) (F0 : Hp) (Γ : List (Option VA)) (Ω : List OA) : Prop := ∀ σ H, NX F0 Γ Ω σ H → t D σ H
theorem RT.mono {F0 F1 : Hp} {R : Hp → V → List OA → Prop} {Q : VK} (k : RT F0 R Q) (e : Same F0 F1) : RT F1 R Q := fun F v H Ω f hh r => k F v H Ω (e.trans f) hh r
variable {D : Ends} {F0 : Hp} {t1 t2 ts : TS} {R : Hp → V → List OA → Prop}
theorem xs_set {k : Nat} (h : XE te Γ Ω A Ω1) (q : XS ts D F0 (Γ.set k (some A)) Ω1) : XS (tSeq (tAsg te (gName k)) ts) D F0 Γ Ω := fun σ H ⟨F, f0, e, hh⟩ =>
  h F σ H e hh _ fun F1 v H1 Ω' e1 hh1 ⟨a1, o1⟩ => q _ H1 ⟨F1, f0.trans e1, (e.mono e1).set a1, o1 ▸ hh1⟩
theorem xs_setN {k : Nat} {o : Addr → OA} (h : XG te Γ Ω (RN Ω1 o)) (q : ∀ p, XS ts D F0 (Γ.set k (some (vr p))) (Ω1 ++ [o p])) : XS (tSeq (tAsg te (gName k)) ts) D F0 Γ Ω := fun σ H ⟨F, f0, e, hh⟩ =>
  h F σ H e hh _ fun F1 v H1 Ω' e1 hh1 ⟨p, a1, o1⟩ => q p _ H1 ⟨F1, f0.trans e1, (e.mono e1).set (A := vr p) a1, o1 ▸ hh1⟩
theorem xs_drop (h : XE te Γ Ω A Ω1) (q : XS ts D F0 Γ Ω1) : XS (tSeq (tDrop te) ts) D F0 Γ Ω := fun σ H ⟨F, f0, e, hh⟩ =>
  h F σ H e hh _ fun F1 v H1 Ω' e1 hh1 ⟨_, o1⟩ => q σ H1 ⟨F1, f0.trans e1, e.mono e1, o1 ▸ hh1⟩
/-- the same as the block's last statement -/
theorem xs_set1 {k : Nat} (h : XE te Γ Ω A Ω1) (q : ∀ σ H, NX F0 (Γ.set k (some A)) Ω1 σ H → D.nx σ H) : XS (tAsg te (gName k)) D F0 Γ Ω := fun σ H ⟨F, f0, e, hh⟩ =>
  h F σ H e hh _ fun F1 v H1 Ω' e1 hh1 ⟨a1, o1⟩ => q _ H1 ⟨F1, f0.trans e1, (e.mono e1).set a1, o1 ▸ hh1⟩
theorem xs_drop1 (h : XE te Γ Ω A Ω1) (q : ∀ σ H, NX F0 Γ Ω1 σ H → D.nx σ H) : XS (tDrop te) D F0 Γ Ω := fun σ H ⟨F, f0, e, hh⟩ =>
  h F σ H e hh _ fun F1 v H1 Ω' e1 hh1 ⟨_, o1⟩ => q σ H1 ⟨F1, f0.trans e1, e.mono e1, o1 ▸ hh1⟩
theorem xs_ret (h : XG te Γ Ω R) (q : RT F0 R D.rt) : XS (tRet te) D F0 Γ Ω := fun σ H ⟨F, f0, e, hh⟩ =>
  h F σ H e hh _ fun F1 v H1 Ω' e1 hh1 r => q F1 v H1 Ω' (f0.trans e1) hh1 r
theorem xs_retN (q : ∀ F H, Same F0 F → Holds F Ω H → R F .non Ω) (k : RT F0 R D.rt) : XS tRetN D F0 Γ Ω := fun σ H ⟨F, f0, e, hh⟩ => k F .non H Ω f0 hh (q F H f0 hh)
/-- what is made in a def and not told is left -/
theorem RT.drop {Q : VK} {A : VA} {o : OA} (k : RT F0 (RV A Ω) Q) : RT F0 (RV A (Ω ++ [o])) Q := fun F v H Ω' f hh ⟨a, e⟩ => by
  subst e
  exact k F v H Ω f hh.drop ⟨a, rfl⟩
theorem xs_ifT (h : XT t Γ Ω true Ω1) (q : XS t1 { D with nx := ts D } F0 Γ Ω1) : XS (tSeq (tIfS t t1 t2) ts) D F0 Γ Ω := fun σ H ⟨F, f0, e, hh⟩ =>
  h F σ H e hh _ fun F1 H1 e1 hh1 => by rw [if_pos rfl]; exact q σ H1 ⟨F1, f0.trans e1, e.mono e1, hh1⟩
theorem xs_ifF (h : XT t Γ Ω false Ω1) (q : XS t2 { D with nx := ts D } F0 Γ Ω1) : XS (tSeq (tIfS t t1 t2) ts) D F0 Γ Ω := fun σ H ⟨F, f0, e, hh⟩ =>
  h F σ H e hh _ fun F1 H1 e1 hh1 => by rw [if_neg Bool.false_ne_true]; exact q σ H1 ⟨F1, f0.trans e1, e.mono e1, hh1⟩
theorem xs_ifT1 (h : XT t Γ Ω true Ω1) (q : XS t1 D F0 Γ Ω1) : XS (tIfS t t1 t2) D F0 Γ Ω := fun σ H ⟨F, f0, e, hh⟩ =>
  h F σ H e hh _ fun F1 H1 e1 hh1 => by rw [if_pos rfl]; exact q σ H1 ⟨F1, f0.trans e1, e.mono e1, hh1⟩
theorem xs_ifF1 (h : XT t Γ Ω false Ω1) (q : XS t2 D F0 Γ Ω1) : XS (tIfS t t1 t2) D F0 Γ Ω := fun σ H ⟨F, f0, e, hh⟩ =>
  h F σ H e hh _ fun F1 H1 e1 hh1 => by rw [if_neg Bool.false_ne_true]; exact q σ H1 ⟨F1, f0.trans e1, e.mono e1, hh1⟩
/-- a statement, a word between, the rest -/
theorem xs_cut {Γ' : List (Option VA)} {Ω' : List OA} (h : XS t1 { D with nx := NX F0 Γ' Ω' } F0 Γ Ω) (k : XS ts D F0 Γ' Ω') : XS (Evl.tCut t1 ts) D F0 Γ Ω := fun σ H n => ⟨NX F0 Γ' Ω', h σ H n, fun σ' H' m => k σ' H' m⟩
/-- what is known is left -/
theorem NX.weak {Γ' : List (Option VA)} {σ : St} {H : Hp} (h : NX F0 Γ Ω σ H) (hl : Γ'.length = Γ.length) (k : ∀ (i : Nat) A, Γ'[i]? = some (some A) → Γ[i]? = some (some A)) : NX F0 Γ' Ω σ H :=
  let ⟨F, f0, e, hh⟩ := h
  ⟨F, f0, e.weak hl k, hh⟩
theorem NX.drop {o : OA} {σ : St} {H : Hp} (h : NX F0 Γ (Ω ++ [o]) σ H) : NX F0 Γ Ω σ H := let ⟨F, f0, e, hh⟩ := h; ⟨F, f0, e, hh.drop⟩
/-- what an expression makes anew becomes frozen -/
theorem xe_fz {α : Type} [Rp α] {l : List α} (h : XG te Γ Ω (RN Ω1 fun p => lstA T p l)) : XE te Γ Ω (va T (LF.mk l)) Ω1 := fun F σ H e hh Q q =>
  h F σ H e hh Q fun F1 v H1 Ω' e1 hh1 ⟨p, hv, o1⟩ => by
    subst o1
    obtain ⟨F', t, s1, s2, ⟨vs, ht, al⟩, hh'⟩ := hh1.freeze
    exact q F' v H1 _ (e1.trans s1) hh' ⟨⟨p, vs, hv, s2 _ _ ht, al.mono s1⟩, rfl⟩
theorem xs_seq (h : XS t1 { D with nx := ts D } F0 Γ Ω) : XS (tSeq t1 ts) D F0 Γ Ω := h
/-! ### tests whose second part may be undefined -/
theorem xt_andO {mb : Option Bool} {v : Bool} (h1 : XT t Γ Ω b Ω) (hm : (if b = true then mb else some false) = some v) (h2 : ∀ v, mb = some v → XT u Γ Ω v Ω) : XT (tAnd t u) Γ Ω v Ω := fun F σ H e hh Q q => by
  refine h1 F σ H e hh _ fun F1 H1 e1 hh1 => ?_
  cases b with
  | true =>
    rw [if_pos rfl] at hm ⊢
    exact h2 v hm F1 σ H1 (e.mono e1) hh1 Q fun F2 H2 e2 hh2 => q F2 H2 (e1.trans e2) hh2
  | false =>
    rw [if_neg Bool.false_ne_true] at hm ⊢
    cases hm
    exact q F1 H1 e1 hh1
/-- a known way through a test -/
theorem xt_orF (h1 : XT t Γ Ω false Ω1) (h2 : XT u Γ Ω1 false Ω2) : XT (tOr t u) Γ Ω false Ω2 := xt_or (b := false) (c := false) h1 (fun _ => h2) (fun h => nomatch h)
theorem xt_notF (h1 : XT t Γ Ω true Ω1) : XT (tNot t) Γ Ω false Ω1 := xt_not h1
/-- what an expression's value must be to go on -/
def chk (b : Bool) : Option Unit := if b = true then some () else none
theorem xs_setO {k : Nat} {ks : List (Nat × OA)} {L : List OA} {o : Addr → OA} {Ω0 : List OA} (h : XG te Γ Ω0 (RN (stt Ω ks L) o)) (q : ∀ p, XS ts D F0 (Γ.set k (some (vr p))) (stt Ω ks (L ++ [o p]))) : XS (tSeq (tAsg te (gName k)) ts) D F0 Γ Ω0 :=
  xs_setN h fun p => by rw [stt_app]; exact q p
theorem xe_call {Pre : PreT} {E : XK} {t : TA} {Ω' : List OA} (ha : XA t Γ Ω As Ω1) (hp : Pre As Ω1 (RV A Ω')) (he : Ω' = Ω2) : XE (tCall (mkSp Pre) [] E t) Γ Ω A Ω2 := he ▸ xg_call ha hp
theorem xn_call {Pre : PreT} {E : XK} {t : TA} {Ω' : List OA} {o : Addr → OA} (ha : XA t Γ Ω As Ω1) (hp : Pre As Ω1 (RN Ω' o)) (he : Ω' = Ω2) : XG (tCall (mkSp Pre) [] E t) Γ Ω (RN Ω2 o) := he ▸ xg_call ha hp
theorem NX.forget {σ : L2.St} {H : Hp} (h : NX F0 Γ Ω σ H) (k : Nat) : NX F0 (Γ.set k none) Ω σ H := h.weak (by rw [List.length_set]) fun i A q => by
  by_cases e : k = i
  · subst e
    have lt : k < Γ.length := by have := getlt q; rwa [List.length_set] at this
    rw [List.getElem?_set_self lt] at q
    cases q
  · rwa [List.getElem?_set_ne e] at q
/-- nothing -/
def nilA : OA := ⟨fun _ _ => True, fun _ _ => trivial⟩
theorem Holds.freezeAt {F H : Hp} {Ω : List OA} {o : OA} {i : Nat} (h : Holds F Ω H) (q : Ω[i]? = some o) : ∃ F' t, Same F F' ∧ Same t F' ∧ o.P F t ∧ Holds F' (Ω.set i nilA) H := by
  obtain ⟨ts, h1, h2, h3, h4, h5⟩ := h
  have lt := getlt q
  have d : ∀ b x, ts i b = some x → F b = none := fun b x e => h4 i b x lt e
  refine ⟨cup F (ts i), ts i, cup_l, cup_r d, h1 _ _ q, fun k => if k = i then (fun _ => none) else ts k, fun k x r => ?_, fun b x e => ?_, fun k r b x e => ?_, fun k b x r e => ?_, fun k m b x r r2 ne e => ?_⟩
  · show x.P _ (if k = i then (fun _ => none) else ts k)
    by_cases hk : k = i
    · subst hk
      rw [List.getElem?_set_self lt] at r
      cases r
      exact trivial
    · rw [if_neg hk]
      rw [List.getElem?_set_ne (fun z => hk z.symm)] at r
      exact x.mono cup_l (h1 k x r)
  · rcases cup_or e with e | e
    · exact h2 b x e
    · exact h3 i lt b x e
  · rw [List.length_set] at r
    have e : (if k = i then (fun _ => none) else ts k) b = some x := e
    by_cases hk : k = i
    · rw [if_pos hk] at e; cases e
    · rw [if_neg hk] at e; exact h3 k r b x e
  · rw [List.length_set] at r
    have e : (if k = i then (fun _ => none) else ts k) b = some x := e
    by_cases hk : k = i
    · rw [if_pos hk] at e; cases e
    · rw [if_neg hk] at e
      cases z : cup F (ts i) b with
      | none => rfl
      | some y =>
        rcases cup_or z with z | z
        · exact (nn z (h4 k b x r e)).elim
        · exact (nn z (h5 k i b x r lt hk e)).elim
  · rw [List.length_set] at r r2
    have e : (if k = i then (fun _ => none) else ts k) b = some x := e
    show (if m = i then (fun _ => none) else ts m) b = none
    by_cases hm : m = i
    · rw [if_pos hm]
    · rw [if_neg hm]
      by_cases hk : k = i
      · rw [if_pos hk] at e; cases e
      · rw [if_neg hk] at e; exact h5 k m b x r r2 ne e
theorem NX.fzJ {α : Type} [Rp α] {l : List α} {p : Addr} {k j : Nat} {ks : List (Nat × OA)} {L : List OA} {σ : L2.St} {H : Hp} (h : NX F0 Γ (stt Ω ks L) σ H) (hk : Γ[k]? = some (some (vr p))) (hj : L[j]? = some (lstA T p l)) : NX F0 (Γ.set k (some (va T (LF.mk l)))) (stt Ω ks (L.set j nilA)) σ H := by
  obtain ⟨F, f0, e, hh⟩ := h
  obtain ⟨F', t, s1, s2, ⟨vs, ht, al⟩, hh'⟩ := hh.freezeAt (stt_getL hj)
  rw [stt_setL] at hh'
  obtain ⟨v, h1, h2⟩ := e.2 k _ hk
  have e2 := (e.mono s1).set (i := k) (v := v) (A := va T (LF.mk l)) ⟨p, vs, h2, s2 _ _ ht, al.mono s1⟩
  have es : σ.set k (some v) = σ := by
    apply List.ext_getElem?
    intro m
    by_cases hm : k = m
    · subst hm; rw [List.getElem?_set_self (getlt h1)]; exact h1.symm
    · rw [List.getElem?_set_ne hm]
  rw [es] at e2
  exact ⟨F', f0.trans s1, e2, hh'⟩
theorem xs_fzJ {α : Type} [Rp α] {l : List α} {p : Addr} {k j : Nat} {ks : List (Nat × OA)} {L : List OA} (hk : Γ[k]? = some (some (vr p))) (hj : L[j]? = some (lstA T p l)) (q : XS ts D F0 (Γ.set k (some (va T (LF.mk l)))) (stt Ω ks (L.set j nilA))) : XS ts D F0 Γ (stt Ω ks L) := fun σ H n => q σ H (n.fzJ hk hj)
/-- one of a def's own things stays, the others are left -/
theorem Holds.sel {F H : Hp} {Ω L : List OA} {o : OA} {j : Nat} (h : Holds F (Ω ++ L) H) (q : L[j]? = some o) : Holds F (Ω ++ [o]) H := by
  obtain ⟨ts, h1, h2, h3, h4, h5⟩ := h
  have lj := getlt q
  have len : (Ω ++ L).length = Ω.length + L.length := List.length_append
  have len1 : (Ω ++ [o]).length = Ω.length + 1 := by simp
  have ix : ∀ k, k < Ω.length + 1 → (if k = Ω.length then Ω.length + j else k) < (Ω ++ L).length := fun k hk => by
    split <;> omega
  have inj : ∀ k m, k < Ω.length + 1 → m < Ω.length + 1 → k ≠ m → (if k = Ω.length then Ω.length + j else k) ≠ (if m = Ω.length then Ω.length + j else m) := fun k m hk hm ne => by
    split <;> split <;> omega
  refine ⟨fun k => ts (if k = Ω.length then Ω.length + j else k), fun k x r => ?_, h2, fun k r => h3 _ (ix k (by omega)), fun k b x r e => h4 _ b x (ix k (by omega)) e, fun k m b x r r2 ne e => h5 _ _ b x (ix k (by omega)) (ix m (by omega)) (inj k m (by omega) (by omega) ne) e⟩
  by_cases hk : k = Ω.length
  · subst hk
    rw [app_at] at r
    cases r
    show o.P F (ts (if Ω.length = Ω.length then Ω.length + j else Ω.length))
    rw [if_pos rfl]
    refine h1 _ _ ?_
    rw [List.getElem?_append_right (by omega), Nat.add_sub_cancel_left]
    exact q
  · have lt : k < Ω.length := by have := getlt r; omega
    show x.P F (ts (if k = Ω.length then Ω.length + j else k))
    rw [if_neg hk]
    rw [List.getElem?_append_left lt] at r
    refine h1 _ _ ?_
    rw [List.getElem?_append_left lt]
    exact r
theorem Holds.all {F H : Hp} {Ω : List OA} {ks : List (Nat × OA)} {L : List OA} (h : Holds F (stt Ω ks L) H) : Holds F (stt Ω ks []) H := by
  obtain ⟨ts, h1, h2, h3, h4, h5⟩ := h
  have len : (stt Ω ks L).length = (apk Ω ks).length + L.length := List.length_append
  have e : stt Ω ks [] = apk Ω ks := stt_nil
  rw [e]
  exact ⟨ts, fun i o q => h1 i o (by unfold stt; rw [List.getElem?_append_left (getlt q)]; exact q), h2, fun i q => h3 i (by omega), fun i b x q => h4 i b x (by omega), fun i j b x qi qj => h5 i j b x (by omega) (by omega)⟩
theorem RT.all {Q : VK} {A : VA} {ks : List (Nat × OA)} {L : List OA} (k : RT F0 (RV A (stt Ω ks [])) Q) : RT F0 (RV A (stt Ω ks L)) Q := fun F v H Ω' f hh ⟨a, e⟩ => by
  subst e
  exact k F v H _ f hh.all ⟨a, rfl⟩
theorem RT.allN {Q : VK} {o : Addr → OA} {ks : List (Nat × OA)} {L : List OA} (k : RT F0 (RN (stt Ω ks []) o) Q) : RT F0 (RN (stt Ω ks L) o) Q := fun F v H Ω' f hh ⟨p, a, e⟩ => by
  subst e
  rw [stt_app] at hh
  refine k F v H _ f (Holds.sel (Ω := apk Ω ks) (o := o p) (j := L.length) hh app_at) ⟨p, a, ?_⟩
  rw [stt_nil]
/-! ### loops -/
inductive Stp (S ρ : Type) where
  | nx (s : S) | rt (r : ρ) | bk (s : S)
def whileM {S ρ : Type} (c : S → Option Bool) (b : S → Option (Stp S ρ)) : Nat → S → Option (Stp S ρ)
  | 0, _ => none
  | n + 1, s => (c s).bind fun v => if v = true then (b s).bind fun
      | .nx s' => whileM c b n s'
      | .rt r => some (.rt r)
      | .bk s' => some (.nx s')
    else some (.nx s)
def forM' {α S ρ : Type} (b : α → S → Option (Stp S ρ)) : List α → S → Option (Stp S ρ)
  | [], s => some (.nx s)
  | x :: r, s => (b x s).bind fun
      | .nx s' => forM' b r s'
      | .rt v => some (.rt v)
      | .bk s' => some (.nx s')
/-- what a loop hands on -/
def nxt {S ρ : Type} : Stp S ρ → Option S
  | .nx s => some s
  | _ => none
def aft {S ρ : Type} (st : Stp S ρ) (k : S → Option ρ) : Option ρ := match st with
  | .nx s => k s
  | .rt r => some r
  | .bk _ => none
/-- what a block's end must lead to: st by the block's own word -/
structure To {S ρ : Type} (D : Ends) (F0 : Hp) (st : Stp S ρ) (N B : S → St → Hp → Prop) (RR : ρ → Hp → V → List OA → Prop) : Prop where
  nx : ∀ s, st = .nx s → ∀ σ H, N s σ H → D.nx σ H
  ct : ∀ s, st = .nx s → ∀ σ H, N s σ H → D.ct σ H
  bk : ∀ s, st = .bk s → ∀ σ H, B s σ H → D.bk σ H
  rt : ∀ r, st = .rt r → RT F0 (RR r) D.rt
theorem bnd_some {α β : Type} {o : Option α} {f : α → Option β} {r : β} (h : o.bind f = some r) : ∃ a, o = some a ∧ f a = some r := by
  cases o with
  | none => cases h
  | some a => exact ⟨a, rfl, h⟩
/-- what a for's target does with its item -/
def Tgt (g : TG) (A : VA) (f : List (Option VA) → List (Option VA)) (js : List Nat) : Prop := ∀ F σ Γ x H Ω, Env F σ Γ → Holds F Ω H → A.P F x → ∀ Q : L2.St → Hp → Prop,
  (∀ F' σ' H', Same F F' → Env F' σ' (f Γ) → Holds F' Ω H' → (∀ vs, (∀ j ∈ js, j ∈ vs) → wipe σ' vs = wipe σ vs) → Q σ' H') → g x σ H Q
theorem wipe_set {σ : L2.St} {j : Nat} {v : Option V} : ∀ {vs : List Nat}, j ∈ vs → wipe (σ.set j v) vs = wipe σ vs := by
  intro vs hj
  apply List.ext_getElem?
  intro k
  have len : (wipe (σ.set j v) vs).length = (wipe σ vs).length := by rw [wipe_length, wipe_length, List.length_set]
  by_cases hk : k ∈ vs
  · have : ∀ (τ : L2.St) (vs : List Nat), k ∈ vs → k < τ.length → (wipe τ vs)[k]? = some none := by
      intro τ vs
      induction vs with
      | nil => intro h; cases h
      | cons a r ih =>
        intro h lt
        unfold wipe
        by_cases ha : a = k
        · subst ha; rw [List.getElem?_set_self (by rw [wipe_length]; exact lt)]
        · rw [List.getElem?_set_ne ha]
          rcases List.mem_cons.mp h with z | z
          · exact absurd z.symm ha
          · exact ih z lt
    by_cases lt : k < σ.length
    · rw [this σ vs hk lt, this _ vs hk (by rw [List.length_set]; exact lt)]
    · rw [List.getElem?_eq_none (by rw [wipe_length, List.length_set]; omega), List.getElem?_eq_none (by rw [wipe_length]; omega)]
  · rw [wipe_out hk, wipe_out hk]
    have ne : j ≠ k := fun e => hk (e ▸ hj)
    rw [List.getElem?_set_ne ne]
theorem tgt_name {k : Nat} : Tgt (gName k) A (fun Γ => Γ.set k (some A)) [k] := fun F σ Γ x H Ω e hh a Q q => q F _ H (Same.refl F) (e.set a) hh fun vs h => wipe_set (h k List.mem_cons_self)
theorem tgt_pair {α β : Type} [Rp α] [Rp β] {x : α × β} {k l : Nat} : Tgt (gTup T.K 2 (gCons (gName k) (gCons (gName l) gNil))) (va T x) (fun Γ => (Γ.set k (some (va T x.1))).set l (some (va T x.2))) [k, l] := fun F σ Γ v H Ω e hh a Q q => by
  obtain ⟨p, y, z, rfl, ht, ry, rz⟩ := a
  refine ⟨p, [y, z], rfl, Same.tup hh.same ht, rfl, y, [z], rfl, z, [], rfl, rfl, ?_⟩
  exact q F _ H (Same.refl F) ((e.set (A := va T x.1) ry).set (A := va T x.2) rz) hh fun vs h => (wipe_set (h l (by simp))).trans (wipe_set (h k (by simp)))
structure Wk {α : Type} (J : It) (Sx : Hp → Prop) (xs : List α) (A : α → VA) : Prop where
  mono : ∀ F F', Same F F' → Sx F → Sx F'
  go : ∀ (i : Nat) F Ω H, Sx F → Holds F Ω H → i < xs.length → J.go i H
  stop : ∀ F Ω H, Sx F → Holds F Ω H → J.stop xs.length H
  yld : ∀ (i : Nat) a F Ω H x H', Sx F → Holds F Ω H → xs[i]? = some a → J.yld i H x H' → ∃ F', Same F F' ∧ Holds F' Ω H' ∧ (A a).P F' x
def XI {α : Type} (wi : TI) (Γ : List (Option VA)) (Ω : List OA) (xs : List α) (A : α → VA) (Ω2 : List OA) : Prop :=
  ∀ F σ H, Env F σ Γ → Holds F Ω H → ∀ R : It → Hp → Prop, (∀ F' J H' Sx, Same F F' → Holds F' Ω2 H' → Wk J Sx xs A → Sx F' → R J H') → wi σ H R
theorem xs_for {α S ρ : Type} {bd : α → S → Option (Stp S ρ)} {s0 : S} {st : Stp S ρ} {wi : TI} {tb : TS} {g : TG} {xs : List α} {A : α → VA} {f : α → List (Option VA) → List (Option VA)} (G : S → List (Option VA)) (O : S → List OA) (RR : ρ → Hp → V → List OA → Prop)
    (hm : forM' bd xs s0 = some st) (hi : XI wi (G s0) Ω xs A (O s0)) {js : List Nat} (ht : ∀ a, Tgt g (A a) (f a) js)
    (hb : ∀ a s s', a ∈ xs → bd a s = some s' → ∀ F1 D', Same F0 F1 → To D' F1 s' (fun s => NX F1 (G s) (O s)) (fun s => NX F1 (G s) (O s)) RR → XS tb D' F1 (f a (G s)) (O s))
    (hn : ∀ s, st = .nx s → ∀ σ H, NX F0 (G s) (O s) σ H → D.nx σ H) (hr : ∀ r, st = .rt r → RT F0 (RR r) D.rt) : XS (tFor wi g tb) D F0 (G s0) Ω := by
  rintro σ H ⟨F, f0, e, hh⟩
  refine hi F σ H e hh _ fun F1 J H1 Sx e1 hh1 W sx => ?_
  refine ⟨fun i m σ H => m = xs.length - i ∧ i ≤ xs.length ∧ ∃ s F, forM' bd (xs.drop i) s = some st ∧ Same F0 F ∧ Sx F ∧ Env F σ (G s) ∧ Holds F (O s) H, ⟨xs.length, by simp, Nat.zero_le _, s0, F1, by rw [List.drop_zero]; exact hm, f0.trans e1, sx, e.mono e1, hh1⟩, ?_⟩
  rintro i m σ H ⟨rfl, hi, s, F, hs, f0, sx, e, hh⟩
  by_cases hlt : i < xs.length
  · refine .inr ⟨W.go i F (O s) H sx hh hlt, ?_⟩
    have hx : xs[i]? = some xs[i] := List.getElem?_eq_getElem hlt
    rw [List.drop_eq_getElem_cons hlt] at hs
    obtain ⟨s', h1, hs⟩ := bnd_some hs
    refine ⟨fun σ' H' => ∃ s2, s' = .nx s2 ∧ ∃ F, Same F0 F ∧ Sx F ∧ Env F σ' (G s2) ∧ Holds F (O s2) H', ?_, fun x H' y => ?_⟩
    · rintro σ' H' ⟨s2, rfl, F', f0', sx', e', hh'⟩
      exact ⟨xs.length - (i + 1), by omega, rfl, hlt, s2, F', hs, f0', sx', e', hh'⟩
    · obtain ⟨F2, e2, hh2, a2⟩ := W.yld i _ F (O s) H x H' sx hh hx y
      refine ht xs[i] F2 σ (G s) x H' (O s) (e.mono e2) hh2 a2 _ fun F3 σ3 H3 e3 en3 hh3 _ => ?_
      have sx3 := W.mono _ _ (e2.trans e3) sx
      have f3 : Same F0 F3 := f0.trans (e2.trans e3)
      have gN : ∀ (s2 : S) (σ' : L2.St) (H' : Hp), NX F3 (G s2) (O s2) σ' H' → ∃ F, Same F0 F ∧ Sx F ∧ Env F σ' (G s2) ∧ Holds F (O s2) H' := fun s2 σ' H' ⟨F4, f4, e4, hh4⟩ => ⟨F4, f3.trans f4, W.mono _ _ f4 sx3, e4, hh4⟩
      have gW : ∀ (s2 : S) (σ' : L2.St) (H' : Hp), NX F3 (G s2) (O s2) σ' H' → NX F0 (G s2) (O s2) σ' H' := fun s2 σ' H' ⟨F4, f4, e4, hh4⟩ => ⟨F4, f3.trans f4, e4, hh4⟩
      refine hb xs[i] s s' (List.getElem_mem hlt) h1 F3 { D with nx := fun σ' H' => ∃ s2, s' = .nx s2 ∧ ∃ F, Same F0 F ∧ Sx F ∧ Env F σ' (G s2) ∧ Holds F (O s2) H', ct := fun σ' H' => ∃ s2, s' = .nx s2 ∧ ∃ F, Same F0 F ∧ Sx F ∧ Env F σ' (G s2) ∧ Holds F (O s2) H', bk := D.nx } f3 ⟨fun s2 z σ' H' n2 => ⟨s2, z, gN s2 σ' H' n2⟩, fun s2 z σ' H' n2 => ⟨s2, z, gN s2 σ' H' n2⟩, fun s2 z σ' H' n2 => ?_, fun r z => ?_⟩ σ3 H3 ⟨F3, Same.refl _, en3, hh3⟩
      · subst z
        cases hs
        exact hn s2 rfl σ' H' (gW s2 σ' H' n2)
      · subst z
        cases hs
        exact (hr r rfl).mono f3
  · have ei : i = xs.length := by omega
    subst ei
    refine .inl ⟨W.stop F (O s) H sx hh, ?_⟩
    rw [List.drop_length] at hs
    cases hs
    exact hn s rfl σ H ⟨F, f0, e, hh⟩
theorem xs_forS {α S ρ : Type} {bd : α → S → Option (Stp S ρ)} {s0 : S} {st : Stp S ρ} {wi : TI} {tb : TS} {g : TG} {xs : List α} {A : α → VA} {f : α → List (Option VA) → List (Option VA)} (G : S → List (Option VA)) (O : S → List OA) (RR : ρ → Hp → V → List OA → Prop)
    (hm : forM' bd xs s0 = some st) (hi : XI wi (G s0) Ω xs A (O s0)) {js : List Nat} (ht : ∀ a, Tgt g (A a) (f a) js)
    (hb : ∀ a s s', a ∈ xs → bd a s = some s' → ∀ F1 D', Same F0 F1 → To D' F1 s' (fun s => NX F1 (G s) (O s)) (fun s => NX F1 (G s) (O s)) RR → XS tb D' F1 (f a (G s)) (O s))
    (hn : ∀ s, st = .nx s → XS ts D F0 (G s) (O s)) (hr : ∀ r, st = .rt r → RT F0 (RR r) D.rt) : XS (tSeq (tFor wi g tb) ts) D F0 (G s0) Ω :=
  xs_seq (xs_for G O RR hm hi ht hb (fun s e σ H n => hn s e σ H n) hr)
end
end VL

set_option Elab.async false
set_option linter.all false
set_option maxRecDepth 100000
/-! lists, fields, the machine, the numbers, defs -/
namespace VL
open PySem L2

theorem alA_map {α : Type} [Rp α] {T : TC} {F : Hp} : ∀ {vs : List V} {l : List α}, AlA F vs (l.map (va T)) → Al T F vs l
  | _, [], h => by cases h; exact .nil
  | _, a :: r, h => by cases h with | cons h t => exact .cons h (alA_map t)
def cut {α : Type} (l : List α) (lo hi : Option Int) : List α := (l.drop (HT.sIx l.length 0 lo)).take (HT.sIx l.length l.length hi - HT.sIx l.length 0 lo)
theorem cut_len {α : Type} (l : List α) (lo hi : Option Int) : (cut l lo hi).length ≤ l.length := by
  unfold cut
  rw [List.length_take, List.length_drop]
  omega
theorem al_cut {α : Type} [Rp α] {T : TC} {F : Hp} {vs : List V} {l : List α} (lo hi : Option Int) (h : Al T F vs l) : Al T F (cutV vs lo hi) (cut l lo hi) := by
  unfold cut cutV
  rw [al_len h]
  exact al_take _ (al_drop _ h)
theorem al_at {α : Type} [Rp α] {T : TC} {F : Hp} {vs : List V} {l : List α} {i : Int} {a : α} (h : Al T F vs l) (e : atI l i = some a) : ∃ v, atI vs i = some v ∧ Rp.rep T F v a := by
  unfold atI at e ⊢
  rw [al_len h]
  cases hx : ixN l.length i with
  | none => rw [hx] at e; cases e
  | some k =>
    rw [hx] at e
    exact al_get h e

section
variable {T : TC} {Γ : List (Option VA)} {Ω Ω1 Ω2 Ω3 : List OA} {A B C : VA} {As : List VA} {ta tb te : TE} {t u : TT} {i j n m : Int} {b c : Bool} {α : Type} [Rp α] {l l2 : List α} {F0 : Hp} {D : Ends} {ts : TS}

/-! ### what a list holds, whoever holds it -/
def IsL (T : TC) (Ω : List OA) (A : VA) (l : List α) : Prop := ∀ F H v, Holds F Ω H → A.P F v → ∃ p vs, v = .ref p ∧ SqL T.K H p vs ∧ Al T F vs l
def IsLs (T : TC) (Ω : List OA) (A : VA) (l : List α) : Prop := ∀ F H v, Holds F Ω H → A.P F v → ∃ p vs, v = .ref p ∧ H p = some (.lst vs) ∧ Al T F vs l
def IsT (T : TC) (Ω : List OA) (A : VA) (l : List α) : Prop := ∀ F H v, Holds F Ω H → A.P F v → ∃ p vs, v = .ref p ∧ SqT T.K H p vs ∧ Al T F vs l
theorem isLs_LF : IsLs T Ω (va T (LF.mk l)) l := fun F H v hh ⟨p, vs, h1, h2, h3⟩ => ⟨p, vs, h1, hh.same _ _ h2, h3⟩
theorem isL_LF : IsL T Ω (va T (LF.mk l)) l := fun F H v hh ⟨p, vs, h1, h2, h3⟩ => ⟨p, vs, h1, SqL.of (hh.same _ _ h2), h3⟩
theorem isL_SF : IsL T Ω (va T (SF.mk l)) l := fun F H v hh ⟨p, vs, h1, h2, h3⟩ => ⟨p, vs, h1, hh.same.seq h2, h3⟩
theorem isT_TF : IsT T Ω (va T (TF.mk l)) l := fun F H v hh ⟨p, vs, h1, h2, h3⟩ => ⟨p, vs, h1, Same.tup hh.same h2, h3⟩
theorem isLs_M {k : Nat} {p : Addr} (h : Ω[k]? = some (lstA T p l)) : IsLs T Ω (vr p) l := fun F H v hh e => by
  obtain ⟨t, ⟨vs, h1, h2⟩, st, _⟩ := hh.get h
  exact ⟨p, vs, e, st _ _ h1, h2⟩
theorem isL_M {k : Nat} {p : Addr} (h : Ω[k]? = some (lstA T p l)) : IsL T Ω (vr p) l := fun F H v hh e => by
  obtain ⟨t, ⟨vs, h1, h2⟩, st, _⟩ := hh.get h
  exact ⟨p, vs, e, SqL.of (st _ _ h1), h2⟩

def rLen (K : PySem.W.Frag) : List V → Hp → VK → Prop := fun xs H Q => ∃ p ys, xs = [.ref p] ∧ (SqL K H p ys ∨ SqT K H p ys) ∧ Q (.int ys.length) H
theorem cr_len {X : Cx} : CallR X (.builtin "len") (rLen X.K) := call_len_seq
theorem alA1 {F : Hp} {vs : List V} (h : AlA F vs [A]) : ∃ v, vs = [v] ∧ A.P F v := by
  cases h with
  | cons h t => cases t; exact ⟨_, rfl, h⟩
theorem alA2 {F : Hp} {vs : List V} (h : AlA F vs [A, B]) : ∃ v w, vs = [v, w] ∧ A.P F v ∧ B.P F w := by
  cases h with
  | cons h t => cases t with | cons h2 t => cases t; exact ⟨_, _, rfl, h, h2⟩
theorem rc_lenL (h : IsL T Ω A l) : RC (rLen T.K) Ω [A] (va T (l.length : Int)) := fun F H vs hh a Q q => by
  obtain ⟨v, rfl, a1⟩ := alA1 a
  obtain ⟨p, ws, e, hs, al⟩ := h F H v hh a1
  refine ⟨p, ws, by rw [e], .inl hs, q F _ H (Same.refl F) hh ?_⟩
  show V.int _ = V.int _
  rw [al_len al]
theorem rc_lenT (h : IsT T Ω A l) : RC (rLen T.K) Ω [A] (va T (l.length : Int)) := fun F H vs hh a Q q => by
  obtain ⟨v, rfl, a1⟩ := alA1 a
  obtain ⟨p, ws, e, hs, al⟩ := h F H v hh a1
  refine ⟨p, ws, by rw [e], .inr hs, q F _ H (Same.refl F) hh ?_⟩
  show V.int _ = V.int _
  rw [al_len al]
theorem xe_lenL (ha : XE te Γ Ω A Ω1) (h : IsL T Ω1 A l) : XE (tCB (rLen T.K) (tCons te tNil)) Γ Ω (va T (l.length : Int)) Ω1 := xe_cb (xa_cons ha xa_nil) (rc_lenL h)
theorem xe_lenT (ha : XE te Γ Ω A Ω1) (h : IsT T Ω1 A l) : XE (tCB (rLen T.K) (tCons te tNil)) Γ Ω (va T (l.length : Int)) Ω1 := xe_cb (xa_cons ha xa_nil) (rc_lenT h)
theorem ro_ixL {a : α} (h : IsL T Ω A l) (e : atI l i = some a) : RO (rIx T.K) Ω A (va T i) (va T a) := fun F H x y hh a1 a2 Q q => by
  obtain ⟨p, ws, rfl, hs, al⟩ := h F H x hh a1
  obtain ⟨v, hv, rv⟩ := al_at al e
  exact .inl ⟨p, ws, i, v, rfl, a2, hs, hv, q F v H (Same.refl F) hh rv⟩
/-! new lists -/
theorem xe_lst {ta : TA} (h : XA ta Γ Ω (l.map (va T)) Ω1) (hz : l.length ≤ sizeLine) : XE (tLst ta) Γ Ω (va T (LF.mk l)) Ω1 := fun F σ H e hh Q q => by
  refine h F σ H e hh _ fun F1 xs H1 e1 hh1 a1 => ?_
  have al := alA_map a1
  refine ⟨by rw [al_len al]; exact hz, fun p hp => ?_⟩
  obtain ⟨hh2, e2⟩ := hh1.newF (u := .lst xs) hp
  exact q _ _ _ _ (e1.trans e2) hh2 ⟨⟨p, xs, rfl, upd_same, al.mono e2⟩, rfl⟩
theorem xn_lst {ta : TA} (h : XA ta Γ Ω (l.map (va T)) Ω1) (hz : l.length ≤ sizeLine) : XG (tLst ta) Γ Ω (RN Ω1 fun p => lstA T p l) := fun F σ H e hh Q q => by
  refine h F σ H e hh _ fun F1 xs H1 e1 hh1 a1 => ?_
  have al := alA_map a1
  refine ⟨by rw [al_len al]; exact hz, fun p hp => ?_⟩
  exact q F1 _ _ _ e1 (hh1.newL (o := lstA T p l) hp ⟨xs, upd_same, al⟩) ⟨p, rfl, rfl⟩
theorem xe_tup2 {β : Type} [Rp β] {a : α} {x : β} {ta : TA} (h : XA ta Γ Ω [va T a, va T x] Ω1) : XE (tTup ta) Γ Ω (va T (a, x)) Ω1 := fun F σ H e hh Q q => by
  refine h F σ H e hh _ fun F1 xs H1 e1 hh1 a1 => ?_
  obtain ⟨v, w, rfl, h1, h2⟩ := alA2 a1
  refine ⟨by show 2 ≤ sizeLine; decide, fun p hp => ?_⟩
  obtain ⟨hh2, e2⟩ := hh1.newF (u := .tup [v, w]) hp
  exact q _ _ _ _ (e1.trans e2) hh2 ⟨⟨p, v, w, rfl, SqT.of upd_same, Rp.mono e2 h1, Rp.mono e2 h2⟩, rfl⟩
theorem xe_tup3 {β γ : Type} [Rp β] [Rp γ] {a : α} {x : β} {y : γ} {ta : TA} (h : XA ta Γ Ω [va T a, va T x, va T y] Ω1) : XE (tTup ta) Γ Ω (va T (T3.mk a x y)) Ω1 := fun F σ H e hh Q q => by
  refine h F σ H e hh _ fun F1 xs H1 e1 hh1 a1 => ?_
  cases a1 with
  | cons h1 a1 =>
    obtain ⟨v, w, rfl, h2, h3⟩ := alA2 a1
    refine ⟨by show 3 ≤ sizeLine; decide, fun p hp => ?_⟩
    obtain ⟨hh2, e2⟩ := hh1.newF (u := .tup [_, v, w]) hp
    exact q _ _ _ _ (e1.trans e2) hh2 ⟨⟨p, _, v, w, rfl, SqT.of upd_same, Rp.mono e2 h1, Rp.mono e2 h2, Rp.mono e2 h3⟩, rfl⟩
theorem xe_tupF {ta : TA} (h : XA ta Γ Ω (l.map (va T)) Ω1) (hz : l.length ≤ sizeLine) : XE (tTup ta) Γ Ω (va T (TF.mk l)) Ω1 := fun F σ H e hh Q q => by
  refine h F σ H e hh _ fun F1 xs H1 e1 hh1 a1 => ?_
  have al := alA_map a1
  refine ⟨by rw [al_len al]; exact hz, fun p hp => ?_⟩
  obtain ⟨hh2, e2⟩ := hh1.newF (u := .tup xs) hp
  exact q _ _ _ _ (e1.trans e2) hh2 ⟨⟨p, xs, rfl, SqT.of upd_same, al.mono e2⟩, rfl⟩
/-- xs + ys -/
theorem ro_cat (h : IsLs T Ω A l) (h2 : IsLs T Ω B l2) (hz : l.length + l2.length ≤ sizeLine) : RO rCat Ω A B (va T (LF.mk (l ++ l2))) := fun F H x y hh a1 a2 Q q => by
  obtain ⟨p, vs, rfl, hp, al⟩ := h F H x hh a1
  obtain ⟨p2, vs2, rfl, hp2, al2⟩ := h2 F H y hh a2
  refine ⟨p, p2, vs, vs2, rfl, rfl, hp, hp2, by rw [al_len al, al_len al2]; exact hz, fun d hd => ?_⟩
  obtain ⟨hh2, e2⟩ := hh.newF (u := .lst (vs ++ vs2)) hd
  exact q _ _ _ e2 hh2 ⟨d, _, rfl, upd_same, (al_app al al2).mono e2⟩
theorem al_repF {vs : List V} {F : Hp} (h : Al T F vs l) : ∀ n : Nat, Al T F (List.replicate n vs).flatten (List.replicate n l).flatten
  | 0 => .nil
  | n + 1 => by rw [List.replicate_succ, List.flatten_cons, List.replicate_succ, List.flatten_cons]; exact al_app h (al_repF h n)
theorem ro_rep (h : IsLs T Ω A l) (h1 : -(2 ^ 63) ≤ i) (h2 : i < 2 ^ 63) (hz : l.length * i.toNat ≤ sizeLine) : RO rRep Ω A (va T i) (va T (LF.mk (List.replicate i.toNat l).flatten)) := fun F H x y hh a1 a2 Q q => by
  obtain ⟨p, vs, rfl, hp, al⟩ := h F H x hh a1
  refine ⟨p, i, vs, rfl, a2, hp, h1, h2, by rw [al_len al]; exact hz, fun d hd => ?_⟩
  obtain ⟨hh2, e2⟩ := hh.newF (u := .lst (List.replicate i.toNat vs).flatten) hd
  exact q _ _ _ e2 hh2 ⟨d, _, rfl, upd_same, (al_repF al _).mono e2⟩
/-- list(xs) -/
def rList (K : PySem.W.Frag) : List V → Hp → VK → Prop := fun xs H Q => ∃ p ys, xs = [.ref p] ∧ (SqL K H p ys ∨ SqT K H p ys) ∧ ∀ l, H l = none → Q (.ref l) (upd H l (.lst ys))
theorem cr_list {X : Cx} : CallR X (.type "list") (rList X.K) := call_list_of
theorem xe_listT (ha : XE te Γ Ω A Ω1) (h : IsT T Ω1 A l) : XE (tCB (rList T.K) (tCons te tNil)) Γ Ω (va T (LF.mk l)) Ω1 := xe_cb (xa_cons ha xa_nil) fun F H vs hh a Q q => by
  obtain ⟨v, rfl, a1⟩ := alA1 a
  obtain ⟨p, ws, e, hs, al⟩ := h F H v hh a1
  refine ⟨p, ws, by rw [e], .inr hs, fun d hd => ?_⟩
  obtain ⟨hh2, e2⟩ := hh.newF (u := .lst ws) hd
  exact q _ _ _ e2 hh2 ⟨d, _, rfl, upd_same, al.mono e2⟩
/-- tuple(xs): of a list, a new one; of a tuple, itself -/
def rTuple (K : PySem.W.Frag) : List V → Hp → VK → Prop := fun xs H Q => ∃ p ys, xs = [.ref p] ∧ ((SqL K H p ys ∧ ∀ l, H l = none → Q (.ref l) (upd H l (.tup ys))) ∨ (SqT K H p ys ∧ Q (.ref p) H))
theorem cr_tuple {X : Cx} : CallR X (.type "tuple") (rTuple X.K) := call_tuple_of
theorem xe_tupleL (ha : XE te Γ Ω A Ω1) (h : IsL T Ω1 A l) : XE (tCB (rTuple T.K) (tCons te tNil)) Γ Ω (va T (TF.mk l)) Ω1 := xe_cb (xa_cons ha xa_nil) fun F H vs hh a Q q => by
  obtain ⟨v, rfl, a1⟩ := alA1 a
  obtain ⟨p, ws, e, hs, al⟩ := h F H v hh a1
  refine ⟨p, ws, by rw [e], .inl ⟨hs, fun d hd => ?_⟩⟩
  obtain ⟨hh2, e2⟩ := hh.newF (u := .tup ws) hd
  exact q _ _ _ e2 hh2 ⟨d, _, rfl, SqT.of upd_same, al.mono e2⟩
theorem xe_tupleT (ha : XE te Γ Ω (va T (TF.mk l)) Ω1) : XE (tCB (rTuple T.K) (tCons te tNil)) Γ Ω (va T (TF.mk l)) Ω1 := xe_cb (xa_cons ha xa_nil) fun F H vs hh a Q q => by
  obtain ⟨v, rfl, a1⟩ := alA1 a
  obtain ⟨p, ws, e, hs, al⟩ := id a1
  exact ⟨p, ws, by rw [e], .inr ⟨Same.tup hh.same hs, q F _ H (Same.refl F) hh (e ▸ a1)⟩⟩
/-! slices -/
def XO (to : TO) (Γ : List (Option VA)) (Ω : List OA) (o : Option Int) : Prop := ∀ F σ H, Env F σ Γ → Holds F Ω H → ∀ Q : Option Int → Hp → Prop, (∀ F' H', Same F F' → Holds F' Ω H' → Q o H') → to σ H Q
theorem xo_none : XO tNoPart Γ Ω none := fun F σ H e hh Q q => q F H (Same.refl F) hh
theorem xo_some (h : XE te Γ Ω (va T i) Ω) : XO (tPart te) Γ Ω (some i) := fun F σ H e hh Q q => by
  refine h F σ H e hh _ fun F1 x H1 Ω' e1 hh1 ⟨a1, o1⟩ => ?_
  subst o1
  exact ⟨i, a1, q F1 H1 e1 hh1⟩
theorem xe_sliceL {tl th : TO} {lo hi : Option Int} (ha : XE te Γ Ω A Ω1) (hl : XO tl Γ Ω1 lo) (hu : XO th Γ Ω1 hi) (h : IsL T Ω1 A l) : XE (tSl (rSlL T.K) te tl th) Γ Ω (va T (LF.mk (cut l lo hi))) Ω1 := fun F σ H e hh Q q => by
  refine ha F σ H e hh _ fun F1 x H1 Ω' e1 hh1 ⟨a1, o1⟩ => ?_
  subst o1
  refine hl F1 σ H1 (e.mono e1) hh1 _ fun F2 H2 e2 hh2 => ?_
  refine hu F2 σ H2 ((e.mono e1).mono e2) hh2 _ fun F3 H3 e3 hh3 => ?_
  obtain ⟨p, ws, rfl, hs, al⟩ := h F3 H3 x hh3 (A.mono (e2.trans e3) a1)
  refine ⟨p, ws, rfl, hs, fun d hd => ?_⟩
  obtain ⟨hh4, e4⟩ := hh3.newF (u := .lst (cutV ws lo hi)) hd
  exact q _ _ _ _ (((e1.trans e2).trans e3).trans e4) hh4 ⟨⟨d, _, rfl, upd_same, (al_cut lo hi al).mono e4⟩, rfl⟩
theorem xe_revL (ha : XE te Γ Ω A Ω1) (h : IsL T Ω1 A l) : XE (tRevL T.K te) Γ Ω (va T (LF.mk l.reverse)) Ω1 := fun F σ H e hh Q q => by
  refine ha F σ H e hh _ fun F1 x H1 Ω' e1 hh1 ⟨a1, o1⟩ => ?_
  subst o1
  obtain ⟨p, ws, rfl, hs, al⟩ := h F1 H1 x hh1 a1
  refine ⟨p, ws, rfl, hs, fun d hd => ?_⟩
  obtain ⟨hh4, e4⟩ := hh1.newF (u := .lst ws.reverse) hd
  exact q _ _ _ _ (e1.trans e4) hh4 ⟨⟨d, _, rfl, upd_same, (al_rev al).mono e4⟩, rfl⟩
/-! lists that change -/
theorem xe_app {k : Nat} {p : Addr} {a : α} (h0 : Ω[k]? = some (lstA T p l2)) (hk : Ω1[k]? = some (lstA T p l)) (ha : XE ta Γ Ω (vr p) Ω) (hb : XE tb Γ Ω (va T a) Ω1) (hz : l.length < sizeLine) :
    XE (tBM T.K "list" rAppend ta (tCons tb tNil)) Γ Ω (va T ()) (Ω1.set k (lstA T p (l ++ [a]))) := fun F σ H e hh Q q => by
  refine ha F σ H e hh _ fun F1 x H1 Ω' e1 hh1 ⟨a1, o1⟩ => ?_
  subst o1
  obtain ⟨p0, vs0, e0, h00, _⟩ := isLs_M h0 F1 H1 x hh1 a1
  have a1 : x = .ref p := a1
  subst a1
  cases e0
  refine ⟨.inl ⟨rfl, _, SqL.of h00⟩, ?_⟩
  refine hb F1 σ H1 (e.mono e1) hh1 _ fun F2 y H2 Ω'' e2 hh2 ⟨a2, o2⟩ => ?_
  subst o2
  obtain ⟨t, ⟨vs, h1, al⟩, st, _, wr⟩ := hh2.get hk
  refine ⟨p, vs, y, rfl, rfl, st _ _ h1, by rw [al_len al]; exact hz, ?_⟩
  exact q F2 _ _ _ (e1.trans e2) (wr (lstA T p (l ++ [a])) p _ _ h1 ⟨_, upd_same, al_app al (.cons a2 .nil)⟩) ⟨rfl, rfl⟩
/-- xs[i] = e, xs a name's own list -/
theorem xs_setL {k : Nat} {p : Addr} {a : α} {to ti : TE} {jn : Nat} (hv : XE te Γ Ω (va T a) Ω1) (ho : XE to Γ Ω1 (vr p) Ω1) (hi : XE ti Γ Ω1 (va T i) Ω1) (hk : Ω1[k]? = some (lstA T p l)) (hj : ixN l.length i = some jn) (q : XS ts D F0 Γ (Ω1.set k (lstA T p (l.set jn a)))) :
    XS (tSeq (tAsg te (gSub to ti rSetL)) ts) D F0 Γ Ω := fun σ H ⟨F, f0, e, hh⟩ => by
  refine hv F σ H e hh _ fun F1 v H1 Ω' e1 hh1 ⟨a1, o1⟩ => ?_
  subst o1
  refine ho F1 σ H1 (e.mono e1) hh1 _ fun F2 o H2 Ω' e2 hh2 ⟨a2, o2⟩ => ?_
  subst o2
  refine hi F2 σ H2 ((e.mono e1).mono e2) hh2 _ fun F3 x H3 Ω' e3 hh3 ⟨a3, o3⟩ => ?_
  subst o3
  obtain ⟨t, ⟨vs, h1, al⟩, st, _, wr⟩ := hh3.get hk
  refine ⟨p, vs, i, jn, a2, a3, st _ _ h1, by rw [al_len al]; exact hj, ?_⟩
  exact q σ _ ⟨F3, f0.trans ((e1.trans e2).trans e3), ((e.mono e1).mono e2).mono e3, wr (lstA T p (l.set jn a)) p _ _ h1 ⟨_, upd_same, al_set (Rp.mono (e2.trans e3) a1) jn al⟩⟩
/-! walks -/
theorem wk_list {p : Addr} {vs : List V} : Wk (Itl T.K p) (fun F => SqL T.K F p vs ∧ Al T F vs l) l (fun a => va T a) where
  mono := fun F F' e ⟨h1, h2⟩ => ⟨e.seq h1, h2.mono e⟩
  go := fun i F Ω H ⟨h1, h2⟩ hh hi => ⟨vs, vs[i]'(by rw [al_len h2]; exact hi), hh.same.seq h1, List.getElem?_eq_getElem _⟩
  stop := fun F Ω H ⟨h1, h2⟩ hh => ⟨vs, hh.same.seq h1, by rw [al_len h2]; exact Nat.le_refl _⟩
  yld := fun i a F Ω H x H' ⟨h1, h2⟩ hh hx y => by
    obtain ⟨e, y⟩ := y
    subst e
    obtain ⟨v, hv, rv⟩ := al_get h2 hx
    have ev := y vs (hh.same.seq h1)
    rw [hv] at ev
    cases ev
    exact ⟨F, Same.refl F, hh, rv⟩
theorem wk_tup {p : Addr} {vs : List V} : Wk (Itt T.K p) (fun F => SqT T.K F p vs ∧ Al T F vs l) l (fun a => va T a) where
  mono := fun F F' e ⟨h1, h2⟩ => ⟨Same.tup e h1, h2.mono e⟩
  go := fun i F Ω H ⟨h1, h2⟩ hh hi => ⟨vs, vs[i]'(by rw [al_len h2]; exact hi), Same.tup hh.same h1, List.getElem?_eq_getElem _⟩
  stop := fun F Ω H ⟨h1, h2⟩ hh => ⟨vs, Same.tup hh.same h1, by rw [al_len h2]; exact Nat.le_refl _⟩
  yld := fun i a F Ω H x H' ⟨h1, h2⟩ hh hx y => by
    obtain ⟨e, y⟩ := y
    subst e
    obtain ⟨v, hv, rv⟩ := al_get h2 hx
    have ev := y vs (Same.tup hh.same h1)
    rw [hv] at ev
    cases ev
    exact ⟨F, Same.refl F, hh, rv⟩
theorem wk_range {n : Nat} {lo : Int} : Wk (Itr lo n) (fun _ => True) ((List.range n).map fun (k : Nat) => lo + (k : Int)) (fun a => va T a) where
  mono := fun _ _ _ _ => trivial
  go := fun i F Ω H _ _ hi => by
    have hi : i < n := by simpa using hi
    exact hi
  stop := fun F Ω H _ _ => by show n ≤ _; simp
  yld := fun i a F Ω H x H' _ hh hx y => by
    obtain ⟨e, y⟩ := y
    subst e y
    refine ⟨F, Same.refl F, hh, ?_⟩
    show V.int _ = V.int a
    rw [List.getElem?_map] at hx
    cases hr : (List.range n)[i]? with
    | none => rw [hr] at hx; cases hx
    | some k =>
      rw [hr] at hx
      have hk : i = k := by
        obtain ⟨h1, h2⟩ := List.getElem?_eq_some_iff.mp hr
        rw [List.getElem_range] at h2
        exact h2
      subst hk
      cases hx
      rfl
theorem xi_list (ha : XE te Γ Ω A Ω1) (h : ∀ F v, A.P F v → ∃ p vs, v = .ref p ∧ SqL T.K F p vs ∧ Al T F vs l) : XI (iList T.K te) Γ Ω l (fun a => va T a) Ω1 := fun F σ H e hh R r => by
  refine ha F σ H e hh _ fun F1 x H1 Ω' e1 hh1 ⟨a1, o1⟩ => ?_
  subst o1
  obtain ⟨p, vs, rfl, h1, al⟩ := h F1 x a1
  exact ⟨p, rfl, ⟨vs, hh1.same.seq h1⟩, r F1 _ H1 _ e1 hh1 wk_list ⟨h1, al⟩⟩
theorem xi_LF (ha : XE te Γ Ω (va T (LF.mk l)) Ω1) : XI (iList T.K te) Γ Ω l (fun a => va T a) Ω1 := xi_list ha fun F v ⟨p, vs, h1, h2, h3⟩ => ⟨p, vs, h1, SqL.of h2, h3⟩
theorem xi_TF (ha : XE te Γ Ω (va T (TF.mk l)) Ω1) : XI (iTup T.K te) Γ Ω l (fun a => va T a) Ω1 := fun F σ H e hh R r => by
  refine ha F σ H e hh _ fun F1 x H1 Ω' e1 hh1 ⟨a1, o1⟩ => ?_
  subst o1
  obtain ⟨p, vs, rfl, h1, al⟩ := id a1
  exact ⟨p, rfl, ⟨vs, Same.tup hh1.same h1⟩, r F1 _ H1 _ e1 hh1 wk_tup ⟨h1, al⟩⟩
/-- the ints from lo on, so many -/
def rng (lo : Int) (n : Nat) : List Int := (List.range n).map fun (k : Nat) => lo + (k : Int)
theorem xi_range1 {ta : TA} (ha : XA ta Γ Ω [va T i] Ω1) (h1 : -(2 ^ 62) ≤ i) (h2 : i < 2 ^ 62) : XI (iRng1 ta) Γ Ω (rng 0 i.toNat) (fun a => va T a) Ω1 := fun F σ H e hh R r => by
  refine ha F σ H e hh _ fun F1 vs H1 e1 hh1 a1 => ?_
  obtain ⟨v, rfl, b1⟩ := alA1 a1
  have b1 : v = .int i := b1
  subst b1
  exact ⟨i, rfl, h1, h2, r F1 _ H1 _ e1 hh1 wk_range trivial⟩
theorem rev_get {β : Type} {xs : List β} {i : Nat} {a : β} (h : xs.reverse[i]? = some a) : i < xs.length ∧ xs[xs.length - 1 - i]? = some a := by
  have lt : i < xs.length := by have := getlt h; rwa [List.length_reverse] at this
  rw [List.getElem?_reverse lt] at h
  exact ⟨lt, h⟩
theorem wk_revL {p : Addr} {vs : List V} : Wk (Itv T.K p vs.length) (fun F => SqL T.K F p vs ∧ Al T F vs l) l.reverse (fun a => va T a) where
  mono := fun F F' e ⟨h1, h2⟩ => ⟨e.seq h1, h2.mono e⟩
  go := fun i F Ω H ⟨h1, h2⟩ hh hi => by
    rw [List.length_reverse, ← al_len h2] at hi
    exact ⟨hi, vs, _, hh.same.seq h1, List.getElem?_eq_getElem (by omega)⟩
  stop := fun F Ω H ⟨h1, h2⟩ hh => by show vs.length ≤ _; rw [List.length_reverse, al_len h2]; exact Nat.le_refl _
  yld := fun i a F Ω H x H' ⟨h1, h2⟩ hh hx y => by
    obtain ⟨e, y⟩ := y
    subst e
    obtain ⟨lt, hx⟩ := rev_get hx
    obtain ⟨v, hv, rv⟩ := al_get h2 hx
    have ev := y vs (hh.same.seq h1)
    rw [al_len h2, hv] at ev
    cases ev
    exact ⟨F, Same.refl F, hh, rv⟩
theorem xi_revL (ha : XE te Γ Ω (va T (LF.mk l)) Ω1) : XI (_root_.RT.iRevA T.K te) Γ Ω l.reverse (fun a => va T a) Ω1 := fun F σ H e hh R r => by
  refine ha F σ H e hh _ fun F1 x H1 Ω' e1 hh1 ⟨a1, o1⟩ => ?_
  subst o1
  obtain ⟨p, vs, rfl, h1, al⟩ := id a1
  exact ⟨p, vs, rfl, .inl ⟨SqL.of (hh1.same _ _ h1), r F1 _ H1 _ e1 hh1 wk_revL ⟨SqL.of h1, al⟩⟩⟩

/-! ### a list comprehension -/
/-- b x s: whether the item is taken, its value, the state behind -/
def lcM {β γ S : Type} (b : β → S → Option (Option γ × S)) : List β → S → Option (List γ × S)
  | [], s => some ([], s)
  | x :: r, s => (b x s).bind fun (o, s') => (lcM b r s').bind fun (ys, s'') => some ((match o with | some y => y :: ys | none => ys), s'')
/-- what is known behind the wiping of the slots vs -/
def wip (Γ : List (Option VA)) : List Nat → List (Option VA)
  | [] => Γ
  | i :: r => (wip Γ r).set i none
theorem env_none {F : Hp} {σ : L2.St} {k : Nat} (h : Env F σ Γ) : Env F (σ.set k none) (Γ.set k none) := by
  refine ⟨by rw [List.length_set, List.length_set]; exact h.1, fun i A q => ?_⟩
  by_cases hk : k = i
  · subst hk
    have lt : k < Γ.length := by have := getlt q; rwa [List.length_set] at this
    rw [List.getElem?_set_self lt] at q
    cases q
  · rw [List.getElem?_set_ne hk] at q
    obtain ⟨w, h1, h2⟩ := h.2 i A q
    exact ⟨w, by rw [List.getElem?_set_ne hk]; exact h1, h2⟩
theorem wip_env {F : Hp} {σ : L2.St} (h : Env F σ Γ) : ∀ vs : List Nat, Env F (wipe σ vs) (wip Γ vs)
  | [] => h
  | i :: r => env_none (wip_env h r)
theorem wipe_wipe {σ : L2.St} (vs : List Nat) : wipe (wipe σ vs) vs = wipe σ vs := by
  have : ∀ (r : List Nat) (τ : L2.St), (∀ i ∈ r, i ∈ vs) → wipe (wipe τ r) vs = wipe τ vs := by
    intro r
    induction r with
    | nil => intro τ _; rfl
    | cons a r ih =>
      intro τ h
      show wipe ((wipe τ r).set a none) vs = _
      rw [wipe_set (h a List.mem_cons_self)]
      exact ih τ fun i hi => h i (List.mem_cons_of_mem _ hi)
  exact this vs σ fun _ h => h
theorem set_last {β : Type} {l : List β} {a b : β} : (l ++ [a]).set l.length b = l ++ [b] := by
  rw [List.set_append_right _ _ (Nat.le_refl _)]; simp
theorem xn_lc {β γ S : Type} [Rp γ] {b : β → S → Option (Option γ × S)} {xs : List β} {s0 s1 : S} {ys : List γ} {wi : TI} {g : TG} {tt : TT} {vs : List Nat} {A : β → VA} {f : β → List (Option VA) → List (Option VA)} {js : List Nat} (O : S → List OA)
    (hm : lcM b xs s0 = some (ys, s1)) (hi : XI wi Γ Ω xs A (O s0)) (ht : ∀ a, Tgt g (A a) (f a) js) (hj : ∀ j ∈ js, j ∈ vs) (hz : xs.length ≤ sizeLine)
    (hb : ∀ a s o s', a ∈ xs → b a s = some (o, s') → ∀ X : OA, (o = none → XT tt (f a (wip Γ vs)) (O s ++ [X]) false (O s' ++ [X])) ∧
      (∀ y, o = some y → XT tt (f a (wip Γ vs)) (O s ++ [X]) true (O s ++ [X]) ∧ XE te (f a (wip Γ vs)) (O s ++ [X]) (va T y) (O s' ++ [X]))) :
    XG (tLc wi g tt te vs) Γ Ω (RN (O s1) fun p => lstA T p ys) := by
  intro F σ H e hh Q q
  refine hi F σ H e hh _ fun F1 J H1 Sx e1 hh1 W sx => fun d hd => ?_
  refine ⟨fun i m H => m = xs.length - i ∧ i ≤ xs.length ∧ ∃ s F acc r, lcM b (xs.drop i) s = some (r, s1) ∧ acc ++ r = ys ∧ acc.length ≤ i ∧ Same F1 F ∧ Sx F ∧ Holds F (O s ++ [lstA T d acc]) H,
    ⟨xs.length, by simp, Nat.zero_le _, s0, F1, [], ys, by rw [List.drop_zero]; exact hm, rfl, Nat.zero_le _, Same.refl _, sx, hh1.newL (o := lstA T d ([] : List γ)) hd ⟨[], upd_same, .nil⟩⟩, ?_⟩
  rintro i m H ⟨rfl, hi, s, F, acc, r, hs, he, hl, f1, sx, hh⟩
  by_cases hlt : i < xs.length
  · refine .inr ⟨W.go i F _ H sx hh hlt, ?_⟩
    have hx : xs[i]? = some xs[i] := List.getElem?_eq_getElem hlt
    rw [List.drop_eq_getElem_cons hlt] at hs
    obtain ⟨⟨o, s'⟩, h1, hs⟩ := bnd_some hs
    obtain ⟨⟨r2, s2⟩, h2, hs⟩ := bnd_some hs
    cases hs
    refine ⟨fun H' => ∃ s F acc r, lcM b (xs.drop (i + 1)) s = some (r, s1) ∧ acc ++ r = ys ∧ acc.length ≤ i + 1 ∧ Same F1 F ∧ Sx F ∧ Holds F (O s ++ [lstA T d acc]) H', fun H' n => ⟨xs.length - (i + 1), by omega, rfl, hlt, n⟩, fun x H' y => ?_⟩
    obtain ⟨F2, e2, hh2, a2⟩ := W.yld i _ F _ H x H' sx hh hx y
    have en : Env F2 (wipe σ vs) (wip Γ vs) := wip_env ((e.mono e1).mono (f1.trans e2)) vs
    refine ht xs[i] F2 (wipe σ vs) (wip Γ vs) x H' _ en hh2 a2 _ fun F3 σ3 H3 e3 en3 hh3 hw => ⟨(hw vs hj).trans (wipe_wipe vs), ?_⟩
    obtain ⟨c1, c2⟩ := hb xs[i] s o s' (List.getElem_mem hlt) h1 (lstA T d acc)
    have f3 : Same F1 F3 := f1.trans (e2.trans e3)
    have sx3 := W.mono _ _ (e2.trans e3) sx
    cases o with
    | none =>
      refine c1 rfl F3 σ3 H3 en3 hh3 _ fun F4 H4 e4 hh4 => ?_
      rw [if_neg Bool.false_ne_true]
      exact ⟨s', F4, acc, r2, h2, he, by omega, f3.trans e4, W.mono _ _ e4 sx3, hh4⟩
    | some y =>
      obtain ⟨c3, c4⟩ := c2 y rfl
      refine c3 F3 σ3 H3 en3 hh3 _ fun F4 H4 e4 hh4 => ?_
      rw [if_pos rfl]
      refine c4 F4 σ3 H4 (en3.mono e4) hh4 _ fun F5 v H5 Ω5 e5 hh5 ⟨a5, o5⟩ => ?_
      subst o5
      have hk : (O s' ++ [lstA T d acc])[(O s').length]? = some (lstA T d acc) := app_at
      obtain ⟨t, ⟨ws, w1, al⟩, st, _, wr⟩ := hh5.get hk
      refine ⟨ws, st _ _ w1, by rw [al_len al]; omega, ?_⟩
      have hh6 := wr (lstA T d (acc ++ [y])) d _ (.lst (ws ++ [v])) w1 ⟨_, upd_same, al_app al (.cons a5 .nil)⟩
      rw [set_last] at hh6
      refine ⟨s', F5, acc ++ [y], r2, h2, by rw [List.append_assoc]; exact he, by rw [List.length_append]; simp; omega, f3.trans (e4.trans e5), W.mono _ _ (e4.trans e5) sx3, hh6⟩
  · have ei : i = xs.length := by omega
    subst ei
    refine .inl ⟨W.stop F _ H sx hh, ?_⟩
    rw [List.drop_length] at hs
    cases hs
    rw [List.append_nil] at he
    subst he
    exact q F (.ref d) H _ (e1.trans f1) hh ⟨d, rfl, rfl⟩
theorem xn_lcS {β γ S : Type} [Rp γ] {b : β → S → Option (Option γ × S)} {xs : List β} {s0 s1 : S} {ys : List γ} {wi : TI} {g : TG} {tt : TT} {vs : List Nat} {A : β → VA} {f : β → List (Option VA) → List (Option VA)} {js : List Nat} {Ω0 : List OA} (ks : S → List (Nat × OA)) (L : S → List OA)
    (hm : lcM b xs s0 = some (ys, s1)) (hi : XI wi Γ Ω0 xs A (stt Ω (ks s0) (L s0))) (ht : ∀ a, Tgt g (A a) (f a) js) (hj : ∀ j ∈ js, j ∈ vs) (hz : xs.length ≤ sizeLine)
    (hb : ∀ a s o s', a ∈ xs → b a s = some (o, s') → ∀ X : OA, (o = none → XT tt (f a (wip Γ vs)) (stt Ω (ks s) (L s ++ [X])) false (stt Ω (ks s') (L s' ++ [X]))) ∧
      (∀ y, o = some y → XT tt (f a (wip Γ vs)) (stt Ω (ks s) (L s ++ [X])) true (stt Ω (ks s) (L s ++ [X])) ∧ XE te (f a (wip Γ vs)) (stt Ω (ks s) (L s ++ [X])) (va T y) (stt Ω (ks s') (L s' ++ [X])))) :
    XG (tLc wi g tt te vs) Γ Ω0 (RN (stt Ω (ks s1) (L s1)) fun p => lstA T p ys) :=
  xn_lc (fun s => stt Ω (ks s) (L s)) hm hi ht hj hz fun a s o s' ha h X => by
    simp only [stt_app]
    exact hb a s o s' ha h X
/-- no test -/
theorem xt_yes : XT tYes Γ Ω true Ω := fun F σ H e hh Q q => q F H (Same.refl F) hh
end
end VL

set_option Elab.async false
set_option linter.all false
set_option maxRecDepth 100000
/-! defs, the machine, the numbers -/
namespace VL
open PySem L2
open PyProof.Rows (envOfC)

/-! ### a def by its body -/
/-- a body at a promise's arguments -/
def Bod (X : Cx) (body : List Stmt) (Γ : List (Option VA)) (Ω : List OA) (F0 : Hp) (R : Hp → V → List OA → Prop) : Prop :=
  ∃ t, PSs X body t ∧ ∀ D : Ends, RT F0 R D.rt → (∀ F σ H Ω', Same F0 F → Holds F Ω' H → R F .non Ω' → D.nx σ H) → XS t D F0 Γ Ω
theorem start_env {F : Hp} {N : List Str} {vs : List V} {As : List VA} (h : AlA F vs As) : Env F (L2.start N vs) (As.map some ++ List.replicate (N.length - As.length) none) := by
  have hl := h.len
  refine ⟨by unfold L2.start; simp [hl], fun i A q => ?_⟩
  by_cases hi : i < As.length
  · rw [List.getElem?_append_left (by simpa using hi), List.getElem?_map] at q
    have : ∀ {vs : List V} {As : List VA} {i : Nat}, AlA F vs As → (As[i]?).map some = some (some A) → ∃ v, vs[i]? = some v ∧ A.P F v := by
      intro vs As i h
      induction h generalizing i with
      | nil => intro q; simp at q
      | cons a t ih =>
        intro q
        cases i with
        | zero => simp at q; subst q; exact ⟨_, rfl, a⟩
        | succ i => simpa using ih (by simpa using q)
    obtain ⟨v, h1, h2⟩ := this h q
    refine ⟨v, ?_, h2⟩
    unfold L2.start
    rw [List.getElem?_append_left (by rw [List.length_map]; exact getlt h1), List.getElem?_map, h1]
    rfl
  · rw [List.getElem?_append_right (by simpa using hi), List.getElem?_replicate] at q
    split at q <;> cases q
section
variable {P : Program} {w : World} {K : PySem.W.Frag} {mg : Str → Option Value} {base : Heap}
theorem fn_ok {x qual : Str} {st : Stmt} {f : Addr} {fd : FuncData} {N ps : List Str} {k : Nat} {Pre : PreT} (F : Fun K x qual st f fd) (S : FnScope N ps (defScope st)) (hl : ∀ As Ω R, Pre As Ω R → As.length = ps.length)
    (hb : ∀ (cdv : Value) (A : Around) (outer : List PySem.Env) (s : Shared) (H : Hp) (E : XK), Room k (A.deeper (envOfC qual (defScope st) s.heap.objs.size f cdv)) → ∀ As Ω R F0, Pre As Ω R →
      Bod (cxOf CX0 P w K mg base N qual (defScope st) f cdv A outer s H E).nox (defBody st) (As.map some ++ List.replicate (N.length - As.length) none) Ω F0 R) : FnOk P w K mg base CX0 (k + 1) f fd ps (mkSp Pre) := by
  refine F.ok S (fun vs H Q E h => ?_) (fun cdv A outer s H vs Q E hr h => ?_)
  · obtain ⟨F, Ω, As, R, hp, ha, _⟩ := h
    rw [ha.len]; exact hl _ _ _ hp
  · obtain ⟨F0, Ω, As, R, hp, ha, hh, hq⟩ := h
    obtain ⟨t, h1, h2⟩ := hb cdv A outer s H E hr As Ω R F0 hp
    refine ⟨t, h1, h2 _ (fun F v H Ω' e hh r => hq F v H Ω' e hh r) (fun F σ H Ω' e hh r => hq F .non H Ω' e hh r) _ _ ⟨F0, Same.refl F0, start_env ha, hh⟩⟩

/-! ### a def that may be called -/
structure Cal (P : Program) (w : World) (K : PySem.W.Frag) (mg : Str → Option Value) (base : Heap) (k : Nat) (x : Str) (ps : List Str) (sp : Sp) : Prop where
  ex : ∃ f fd, FnOk P w K mg base CX0 k f fd ps sp ∧ mg x = some (.ref f) ∧ PySem.W.keepIn K (.ref f) = true ∧ Binds K fd ps []
theorem pe_cal {X : Cx} {k : Nat} {x : Str} {ps : List Str} {sp : Sp} {p pos : Pos} {e : Expr} {es : List Expr} {t : TA} (C : Cal X.prog X.w X.K X.mg X.base k x ps sp) (hr : Room k X.A) (hg : Gl X x) (ha : PA X (e :: es) t)
    (hdb : (x == ("__debug__" : Str)) = false := by decide) (he : starEach (e :: es) X.env = (false, eval e X.env) :: starEach es X.env := by rfl) (hpl : (backTo pos (starEach es X.env)).any (·.1) = false := by rfl) :
    PE X (.Call (.Name x p) (e :: es) [] pos) (tCall sp [] E0 t) := by
  obtain ⟨f, fd, F, hm, hk, hb⟩ := C.ex
  exact pe_call F hr hg hm hk hb .nil pass0 ha hdb he hpl
/-- a method -/
structure CalM (P : Program) (w : World) (K : PySem.W.Frag) (mg : Str → Option Value) (base : Heap) (k : Nat) (C : Addr) (m : Str) (ps : List Str) (sp : Sp) : Prop where
  ex : ∃ f fd, FnOk P w K mg base CX0 k f fd ps sp ∧ Meth K C m f ∧ Binds K fd ps []
  cl : Cls K C
end

/-! ### the machine -/
structure MS where
  w : Int
  c : Int
  cnt : Str → Int
  wk : List (T3 Str Int Int)
def mf (s : MS) (d e : Addr) : List (Str × V) := [("width", .int s.w), ("cutoff", .int s.c), ("counts", .ref d), ("entered", .ref e)]
def mkv (s : MS) : List (Key × V) := mwords.map fun w => (Sum.inr w, V.int (s.cnt w))
def MachAt (T : TC) (p dx d e : Addr) (ws : List V) (s : MS) (F t : Hp) : Prop := t p = some (.ins (T.C 0) dx (mf s d e)) ∧ t d = some (.dK (mkv s)) ∧ t e = some (.lst ws) ∧ Al T F ws s.wk
def machA (T : TC) (p : Addr) (s : MS) : OA := ⟨fun F t => ∃ dx d e ws, MachAt T p dx d e ws s F t, fun h ⟨dx, d, e, ws, h1, h2, h3, h4⟩ => ⟨dx, d, e, ws, h1, h2, h3, h4.mono h⟩⟩
section
variable {T : TC} {Γ : List (Option VA)} {Ω Ω1 Ω2 : List OA} {A B C : VA} {ta tb te : TE} {s : MS} {p : Addr} {k : Nat}
/-- machine.width, machine.cutoff -/
theorem xe_mw (cl : Cls T.K (T.C 0)) (na : NoAttr T.K (T.C 0) "width") (ha : XE ta Γ Ω (vr p) Ω1) (hk : Ω1[k]? = some (machA T p s)) : XE (tFld T.K ta "width") Γ Ω (va T s.w) Ω1 := fun F σ H e hh Q q => by
  refine ha F σ H e hh _ fun F1 x H1 Ω' e1 hh1 ⟨a1, o1⟩ => ?_
  subst o1
  obtain ⟨t, ⟨dx, d, en, ws, h1, h2, h3, h4⟩, st, _⟩ := hh1.get hk
  exact ⟨p, _, dx, _, _, a1, st _ _ h1, cl, na, rfl, q F1 _ H1 _ e1 hh1 ⟨rfl, rfl⟩⟩
theorem xe_mc (cl : Cls T.K (T.C 0)) (na : NoAttr T.K (T.C 0) "cutoff") (ha : XE ta Γ Ω (vr p) Ω1) (hk : Ω1[k]? = some (machA T p s)) : XE (tFld T.K ta "cutoff") Γ Ω (va T s.c) Ω1 := fun F σ H e hh Q q => by
  refine ha F σ H e hh _ fun F1 x H1 Ω' e1 hh1 ⟨a1, o1⟩ => ?_
  subst o1
  obtain ⟨t, ⟨dx, d, en, ws, h1, h2, h3, h4⟩, st, _⟩ := hh1.get hk
  exact ⟨p, _, dx, _, _, a1, st _ _ h1, cl, na, rfl, q F1 _ H1 _ e1 hh1 ⟨rfl, rfl⟩⟩
end

/-! ### the numbers -/
structure Bg where
  w : Int
  row : List Int
  v : Int
/-- the sign of a number -/
def sgn (v : Int) : Int := if v < 0 then -1 else if v = 0 then 0 else 1
instance : Rp Bg := ⟨fun T F v b => ∃ p dx r vs, v = .ref p ∧ F p = some (.ins (T.C 1) dx [("width", .int b.w), ("side", .int (sgn b.v)), ("row", .ref r), ("value", .int b.v)]) ∧ SqT T.K F r vs ∧ Al T F vs b.row,
  fun e ⟨p, dx, r, vs, h1, h2, h3, h4⟩ => ⟨p, dx, r, vs, h1, e _ _ h2, Same.tup e h3, h4.mono e⟩⟩
section
variable {T : TC} {Γ : List (Option VA)} {Ω Ω1 Ω2 : List OA} {A B C : VA} {ta tb te : TE} {x : Bg} {p : Addr} {k : Nat}
theorem xe_bw (cl : Cls T.K (T.C 1)) (na : NoAttr T.K (T.C 1) "width") (ha : XE ta Γ Ω (va T x) Ω1) : XE (tFld T.K ta "width") Γ Ω (va T x.w) Ω1 := fun F σ H e hh Q q => by
  refine ha F σ H e hh _ fun F1 v H1 Ω' e1 hh1 ⟨⟨p, dx, r, vs, h1, h2, h3, h4⟩, o1⟩ => ?_
  subst o1
  exact ⟨p, _, dx, _, _, h1, hh1.same _ _ h2, cl, na, rfl, q F1 _ H1 _ e1 hh1 ⟨rfl, rfl⟩⟩
theorem xe_bs (cl : Cls T.K (T.C 1)) (na : NoAttr T.K (T.C 1) "side") (ha : XE ta Γ Ω (va T x) Ω1) : XE (tFld T.K ta "side") Γ Ω (va T (sgn x.v)) Ω1 := fun F σ H e hh Q q => by
  refine ha F σ H e hh _ fun F1 v H1 Ω' e1 hh1 ⟨⟨p, dx, r, vs, h1, h2, h3, h4⟩, o1⟩ => ?_
  subst o1
  exact ⟨p, _, dx, _, _, h1, hh1.same _ _ h2, cl, na, rfl, q F1 _ H1 _ e1 hh1 ⟨rfl, rfl⟩⟩
theorem xe_br (cl : Cls T.K (T.C 1)) (na : NoAttr T.K (T.C 1) "row") (ha : XE ta Γ Ω (va T x) Ω1) : XE (tFld T.K ta "row") Γ Ω (va T (TF.mk x.row)) Ω1 := fun F σ H e hh Q q => by
  refine ha F σ H e hh _ fun F1 v H1 Ω' e1 hh1 ⟨⟨p, dx, r, vs, h1, h2, h3, h4⟩, o1⟩ => ?_
  subst o1
  exact ⟨p, _, dx, _, _, h1, hh1.same _ _ h2, cl, na, rfl, q F1 _ H1 _ e1 hh1 ⟨⟨r, vs, rfl, h3, h4⟩, rfl⟩⟩
theorem xe_bv (cl : Cls T.K (T.C 1)) (na : NoAttr T.K (T.C 1) "value") (ha : XE ta Γ Ω (va T x) Ω1) : XE (tFld T.K ta "value") Γ Ω (va T x.v) Ω1 := fun F σ H e hh Q q => by
  refine ha F σ H e hh _ fun F1 v H1 Ω' e1 hh1 ⟨⟨p, dx, r, vs, h1, h2, h3, h4⟩, o1⟩ => ?_
  subst o1
  exact ⟨p, _, dx, _, _, h1, hh1.same _ _ h2, cl, na, rfl, q F1 _ H1 _ e1 hh1 ⟨rfl, rfl⟩⟩
end
/-! ### things in the making -/
def rawA (t0 : Hp) : OA := ⟨fun _ t => Same t0 t, fun _ h => h⟩
section
variable {F F' H H' : Hp} {Ω : List OA} {o o' : OA} {i j : Nat} {a p : Addr} {u u' : HO}
theorem Holds.conv (h : Holds F Ω H) (q : Ω[i]? = some o) (k : ∀ t, o.P F t → o'.P F t) : Holds F (Ω.set i o') H := by
  obtain ⟨ts, h1, h2, h3, h4, h5⟩ := h
  have lt := getlt q
  refine ⟨ts, fun k x r => ?_, h2, fun k r => h3 k (by rwa [List.length_set] at r), fun k b x r => h4 k b x (by rwa [List.length_set] at r), fun k m b x r r2 => h5 k m b x (by rwa [List.length_set] at r) (by rwa [List.length_set] at r2)⟩
  by_cases hk : i = k
  · subst hk
    rw [List.getElem?_set_self lt] at r
    cases r
    exact k _ (h1 _ _ q)
  · rw [List.getElem?_set_ne hk] at r
    exact h1 k x r
/-- the thing at i, its part of the heap laid open -/
theorem Holds.opened (h : Holds F Ω H) (q : Ω[i]? = some o) : ∃ t, o.P F t ∧ Same t H ∧ Holds F (Ω.set i (rawA t)) H := by
  obtain ⟨ts, h1, h2, h3, h4, h5⟩ := h
  have lt := getlt q
  refine ⟨ts i, h1 i o q, h3 i lt, ts, fun k x r => ?_, h2, fun k r => h3 k (by rwa [List.length_set] at r), fun k b x r => h4 k b x (by rwa [List.length_set] at r), fun k m b x r r2 => h5 k m b x (by rwa [List.length_set] at r) (by rwa [List.length_set] at r2)⟩
  by_cases hk : i = k
  · subst hk
    rw [List.getElem?_set_self lt] at r
    cases r
    exact Same.refl _
  · rw [List.getElem?_set_ne hk] at r
    exact h1 k x r
theorem Holds.rawWrite {t : Hp} (h : Holds F Ω H) (q : Ω[i]? = some (rawA t)) (ha : t a = some u) : Holds F (Ω.set i (rawA (upd t a u'))) (upd H a u') := by
  obtain ⟨t2, s2, st, _, wr⟩ := h.get q
  refine wr (rawA (upd t a u')) a u u' (s2 _ _ ha) fun b x e => ?_
  by_cases hb : b = a
  · subst hb; rw [upd_same] at e ⊢; exact e
  · rw [upd_ne hb] at e ⊢; exact s2 _ _ e
theorem Holds.rawHas {t : Hp} (h : Holds F Ω H) (q : Ω[i]? = some (rawA t)) : Same t H := let ⟨_, s2, st, _⟩ := h.get q; fun b x e => st _ _ (s2 b x e)
end
/-- a new instance, nothing in it -/
def newA (C p : Addr) : OA := ⟨fun _ t => ∃ dx, t p = some (.ins C dx []), fun _ h => h⟩
section
variable {T : TC} {Γ : List (Option VA)} {Ω Ω1 Ω2 : List OA} {A B C : VA} {As Ds : List VA} {ta tb te : TE} {D : Ends} {F0 : Hp} {ts : TS}
theorem xn_make {C : Addr} {Pre : PreT} {E : XK} {t : TA} {dvs : List V} {o : Addr → OA} (ha : XA t Γ Ω As Ω1) (hd : ∀ F, AlA F dvs Ds) (hp : ∀ x, Pre (vr x :: (As ++ Ds)) (Ω1 ++ [newA C x]) (RV (va T ()) (Ω1 ++ [o x]))) :
    XG (tMake C (mkSp Pre) dvs E t) Γ Ω (RN Ω1 o) := fun F σ H e hh Q q => by
  refine ha F σ H e hh _ fun F1 xs H1 e1 hh1 a1 => ?_
  intro x dx nx ndx nex
  have hh2 : Holds F1 (Ω1 ++ [newA C x]) (upd (upd H1 dx (.own x)) x (.ins C dx [])) := by
    refine hh1.newO (t := upd (fun _ => none) x (.ins C dx [])) (fun b y r => by rw [sng_some r]; exact nx) (fun b y r => ?_) (fun b y r => ?_) ⟨dx, upd_same⟩
    · rw [upd_ne (ne_of_none r nx), upd_ne (ne_of_none r ndx)]; exact r
    · have hb := sng_some r
      subst hb
      rw [upd_same] at r ⊢; exact r
  refine ⟨F1, Ω1 ++ [newA C x], vr x :: (As ++ Ds), _, hp x, .cons rfl (a1.app (hd F1)), hh2, fun F' v H' Ω' e' hh' ⟨hv, ho⟩ => ⟨hv, ?_⟩⟩
  subst ho
  exact q F' _ H' _ (e1.trans e') hh' ⟨x, rfl, rfl⟩
def bigA (T : TC) (p : Addr) (b : Bg) : OA := ⟨fun F t => ∃ dx r vs, t p = some (.ins (T.C 1) dx [("width", .int b.w), ("side", .int (sgn b.v)), ("row", .ref r), ("value", .int b.v)]) ∧ SqT T.K F r vs ∧ Al T F vs b.row,
  fun e ⟨dx, r, vs, h2, h3, h4⟩ => ⟨dx, r, vs, h2, Same.tup e h3, h4.mono e⟩⟩
theorem xe_fzB {b : Bg} (h : XG te Γ Ω (RN Ω1 fun p => bigA T p b)) : XE te Γ Ω (va T b) Ω1 := fun F σ H e hh Q q =>
  h F σ H e hh Q fun F1 v H1 Ω' e1 hh1 ⟨p, hv, o1⟩ => by
    subst o1
    obtain ⟨F', t, s1, s2, ⟨dx, r, vs, h2, h3, h4⟩, hh'⟩ := hh1.freeze
    exact q F' v H1 _ (e1.trans s1) hh' ⟨⟨p, dx, r, vs, hv, s2 _ _ h2, Same.tup s1 h3, h4.mono s1⟩, rfl⟩
end
/-! ### what the machine's methods do -/
def MS.step (s : MS) (w : Str) (n : Int) : MS := { s with cnt := fun x => if x = w then s.cnt x + n else s.cnt x }
def MS.enter (s : MS) (w : Str) (m n : Int) : MS := { s with wk := if s.wk.length < 1000 then s.wk ++ [T3.mk w m n] else s.wk }
def MS.fresh (w c : Int) : MS := ⟨w, c, fun _ => 0, []⟩
def MS.reset (s : MS) : MS := MS.fresh s.w s.c
theorem mwords_nd : mwords.Nodup := by decide +kernel
theorem val_words {f : Str → Int} : ∀ {ws : List Str} {w : Str}, w ∈ ws → valV (ws.map fun w => ((Sum.inr w : Key), V.int (f w))) (Sum.inr w) = some (V.int (f w)) := by
  intro ws w hw
  unfold valV
  induction ws with
  | nil => cases hw
  | cons a r ih =>
    rw [List.map_cons, List.find?_cons]
    by_cases h : a = w
    · subst h; simp
    · have : decide ((Sum.inr a : Key) = Sum.inr w) = false := decide_eq_false fun e => h (Sum.inr.inj e)
      simp only [this]
      rcases List.mem_cons.mp hw with e | e
      · exact absurd e.symm h
      · exact ih e
end VL

set_option Elab.async false
set_option linter.all false
set_option maxRecDepth 100000
/-! the machine's methods, the numbers' -/
namespace VL
open PySem L2
theorem putK_words {f : Str → Int} {w : Str} (n : Int) {ws : List Str} (hw : w ∈ ws) :
    putK (ws.map fun x => ((Sum.inr x : Key), V.int (f x))) (Sum.inr w) (V.int n) = ws.map fun x => ((Sum.inr x : Key), V.int (if x = w then n else f x)) := by
  have any : ((ws.map fun x => ((Sum.inr x : Key), V.int (f x))).any fun kv => decide (kv.1 = Sum.inr w)) = true :=
    List.any_eq_true.mpr ⟨_, List.mem_map.mpr ⟨w, hw, rfl⟩, decide_eq_true rfl⟩
  unfold putK
  rw [if_pos any, List.map_map]
  apply List.map_congr_left
  intro x _
  show (if (Sum.inr x : Key) = Sum.inr w then ((Sum.inr x : Key), V.int n) else (Sum.inr x, V.int (f x))) = _
  by_cases e : x = w
  · rw [if_pos (by rw [e]), if_pos e]
  · rw [if_neg (fun z => e (Sum.inr.inj z)), if_neg e]
theorem mwords_len (s : MS) : (mkv s).length < sizeLine := by
  unfold mkv
  rw [List.length_map]
  decide +kernel
section
variable {T : TC} {Γ : List (Option VA)} {Ω Ω1 Ω2 : List OA} {A B C : VA} {As Ds : List VA} {ta tb te : TE} {D : Ends} {F0 : Hp} {ts : TS} {s : MS} {p : Addr} {k : Nat}
/-- what the machine's class must be -/
structure MCls (K : PySem.W.Frag) (C : Addr) : Prop where
  cl : Cls K C
  nw : NoAttr K C "width"
  nc : NoAttr K C "cutoff"
  nt : NoAttr K C "counts"
  ne : NoAttr K C "entered"
structure BCls (K : PySem.W.Frag) (C : Addr) : Prop where
  cl : Cls K C
  nw : NoAttr K C "width"
  ns : NoAttr K C "side"
  nr : NoAttr K C "row"
  nv : NoAttr K C "value"
theorem look_ne {a b : Str} {v : V} {fs : List (Str × V)} (h : (b == a) = false) : ((a, v) :: fs).lookup b = fs.lookup b := by
  rw [List.lookup_cons, h]
theorem mf_counts (d e : Addr) : (mf s d e).lookup ("counts" : Str) = some (V.ref d) := by
  unfold mf
  rw [look_ne (by decide +kernel), look_ne (by decide +kernel)]
  rfl
theorem mf_entered (d e : Addr) : (mf s d e).lookup ("entered" : Str) = some (V.ref e) := by
  unfold mf
  rw [look_ne (by decide +kernel), look_ne (by decide +kernel), look_ne (by decide +kernel)]
  rfl
theorem putF_hit {f : Str} {v x : V} {fs : List (Str × V)} : putF f v ((f, x) :: fs) = (f, v) :: fs := by
  show (if f = f then (f, v) :: fs else _) = _
  rw [if_pos rfl]
theorem putF_miss {f g : Str} {v x : V} {fs : List (Str × V)} (h : ¬ g = f) : putF f v ((g, x) :: fs) = (g, x) :: putF f v fs := by
  show (if g = f then _ else (g, x) :: putF f v fs) = _
  rw [if_neg h]
/-- self.counts[word] += many -/
theorem xs_step {wd : Str} {n : Int} (mc : MCls T.K (T.C 0)) (h0 : Γ[0]? = some (some (vr p))) (h1 : Γ[1]? = some (some (va T wd))) (h2 : Γ[2]? = some (some (va T n))) (hk : Ω[k]? = some (machA T p s)) (hw : wd ∈ mwords)
    (q : ∀ σ H, NX F0 Γ (Ω.set k (machA T p (s.step wd n))) σ H → D.nx σ H) : XS (sDAug (tFld T.K (tVar 0) "counts") (tVar 1) (tVar 2) rAdd) D F0 Γ Ω := fun σ H ⟨F, f0, e, hh⟩ => by
  obtain ⟨v0, a0, b0⟩ := e.2 0 _ h0
  obtain ⟨v1, a1, b1⟩ := e.2 1 _ h1
  obtain ⟨v2, a2, b2⟩ := e.2 2 _ h2
  have b1 : v1 = .str wd := b1
  have b2 : v2 = .int n := b2
  subst b1 b2
  obtain ⟨t, ⟨dx, d, en, ws, m1, m2, m3, m4⟩, st, _, wr⟩ := hh.get hk
  refine ⟨v0, a0, p, _, dx, _, _, b0, st _ _ m1, mc.cl, mc.nt, mf_counts d en, .str wd, a1, d, .int (s.cnt wd), rfl, ?_, .int n, a2, s.cnt wd, n, rfl, rfl, ?_⟩
  · have g := DGet.k (k := Sum.inr wd) (st _ _ m2)
    rw [show valV (mkv s) (Sum.inr wd) = some (V.int (s.cnt wd)) from val_words hw] at g
    exact g
  · refine ⟨_, DPut.k (k := Sum.inr wd) (st _ _ m2) (mwords_len s), q σ _ ⟨F, f0, e, wr (machA T p (s.step wd n)) d _ _ m2 ⟨dx, d, en, ws, ?_, ?_, ?_, m4⟩⟩⟩
    · rw [upd_ne (by intro z; rw [z, m2] at m1; cases m1)]; exact m1
    · rw [upd_same]
      unfold mkv
      rw [putK_words _ hw]
      congr 2
      apply List.map_congr_left
      intro x _
      show (Sum.inr x, V.int _) = (Sum.inr x, V.int (if x = wd then s.cnt x + n else s.cnt x))
      by_cases z : x = wd
      · rw [if_pos z, if_pos z, z]
      · rw [if_neg z, if_neg z]
    · rw [upd_ne (by intro z; rw [z, m2] at m3; cases m3)]; exact m3
/-- if len(self.entered) < 1000: self.entered.append((word, m, n)) -/
theorem xs_enter {wd : Str} {m n : Int} (mc : MCls T.K (T.C 0)) (h0 : Γ[0]? = some (some (vr p))) (h1 : Γ[1]? = some (some (va T wd))) (h2 : Γ[2]? = some (some (va T m))) (h3 : Γ[3]? = some (some (va T n))) (hk : Ω[k]? = some (machA T p s))
    (q : ∀ σ H, NX F0 Γ (Ω.set k (machA T p (s.enter wd m n))) σ H → D.nx σ H) :
    XS (tIfS (tTest (tOp (rI0 fun i j => .bl (decide (i < j))) (tCB (rLen T.K) (tCons (tFld T.K (tVar 0) "entered") tNil)) (tC (.int 1000))))
      (tDrop (tBM T.K "list" rAppend (tFld T.K (tVar 0) "entered") (tCons (tTup (tCons (tVar 1) (tCons (tVar 2) (tCons (tVar 3) tNil)))) tNil))) tNext) D F0 Γ Ω := fun σ H ⟨F, f0, e, hh⟩ => by
  obtain ⟨v0, a0, b0⟩ := e.2 0 _ h0
  obtain ⟨v1, a1, b1⟩ := e.2 1 _ h1
  obtain ⟨v2, a2, b2⟩ := e.2 2 _ h2
  obtain ⟨v3, a3, b3⟩ := e.2 3 _ h3
  obtain ⟨t, ⟨dx, d, en, ws, m1, m2, m3, m4⟩, st, _, wr⟩ := hh.get hk
  refine ⟨v0, a0, p, _, dx, _, _, b0, st _ _ m1, mc.cl, mc.ne, mf_entered d en, en, ws, rfl, .inl (SqL.of (st _ _ m3)), (ws.length : Int), 1000, rfl, rfl, _, rfl, ite2 (fun h => ?_) (fun h => ?_)⟩
  · have lt : ws.length < 1000 := by have := of_decide_eq_true h; omega
    refine ⟨v0, a0, p, _, dx, _, _, b0, st _ _ m1, mc.cl, mc.ne, mf_entered d en, .inl ⟨rfl, _, SqL.of (st _ _ m3)⟩, v1, a1, v2, a2, v3, a3, by show 3 ≤ sizeLine; decide, fun x hx => ?_⟩
    obtain ⟨hh2, e2⟩ := hh.newF (u := .tup [v1, v2, v3]) hx
    obtain ⟨t', ⟨dx', d', en', ws', m1', m2', m3', m4'⟩, st', _, wr'⟩ := hh2.get hk
    have nx : ∀ b y, H b = some y → b ≠ x := fun b y r => ne_of_none r hx
    have i1 := (st' _ _ m1').symm.trans ((upd_ne (nx _ _ (st _ _ m1))).trans (st _ _ m1))
    have i1 : mf s d' en' = mf s d en := by
      have := Option.some.inj i1
      injection this
    have i2 : en' = en := by
      unfold mf at i1
      injection i1 with _ i1
      injection i1 with _ i1
      injection i1 with _ i1
      injection i1 with i1 _
      injection i1 with _ i1
      injection i1
    subst i2
    have i3 := (st' _ _ m3').symm.trans ((upd_ne (nx _ _ (st _ _ m3))).trans (st _ _ m3))
    cases i3
    refine ⟨en', ws, _, rfl, rfl, st' _ _ m3', Nat.lt_trans lt (by decide), q σ _ ⟨_, f0.trans e2, e.mono e2, wr' (machA T p (s.enter wd m n)) en' _ _ m3' ⟨dx', d', en', _, ?_, ?_, upd_same, ?_⟩⟩⟩
    · rw [upd_ne (by intro z; rw [z, m3'] at m1'; cases m1')]; exact m1'
    · rw [upd_ne (by intro z; rw [z, m3'] at m2'; cases m2')]; exact m2'
    · have hl : s.wk.length < 1000 := by rw [← al_len m4]; exact lt
      show Al T _ _ (if s.wk.length < 1000 then s.wk ++ [T3.mk wd m n] else s.wk)
      rw [if_pos hl]
      exact al_app m4' (.cons ⟨x, v1, v2, v3, rfl, SqT.of upd_same, Rp.mono (α := Str) e2 b1, Rp.mono (α := Int) e2 b2, Rp.mono (α := Int) e2 b3⟩ .nil)
  · have ge : ¬ s.wk.length < 1000 := by
      intro z
      apply h
      rw [← al_len m4] at z
      exact decide_eq_true (by omega)
    refine q σ H ⟨F, f0, e, ?_⟩
    have es : s.enter wd m n = s := by
      unfold MS.enter
      rw [if_neg ge]
    rw [es]
    have : Ω.set k (machA T p s) = Ω := by
      apply List.ext_getElem?
      intro j
      by_cases z : k = j
      · subst z; rw [List.getElem?_set_self (getlt hk), hk]
      · rw [List.getElem?_set_ne z]
    rw [this]
    exact hh
/-! ### a thing in the making: its attributes stored one by one -/
theorem xs_fldV {C : Addr} {f : Str} {v0 : V} {t : Hp} {dx : Addr} {fs : List (Str × V)} {j : Nat} (cl : Cls T.K C) (na : NoAttr T.K C f) (h : XE te Γ Ω (vx v0) Ω) (hj : Γ[j]? = some (some (vr p))) (hk : Ω[k]? = some (rawA t)) (ht : t p = some (.ins C dx fs)) (hl : fs.length < 1000)
    (q : XS ts D F0 Γ (Ω.set k (rawA (upd t p (.ins C dx (putF f v0 fs)))))) : XS (tSeq (sFld T.K (tVar j) te f) ts) D F0 Γ Ω := fun σ H ⟨F, f0, e, hh⟩ => by
  refine h F σ H e hh _ fun F1 v H1 Ω' e1 hh1 ⟨a1, o1⟩ => ?_
  subst o1
  have a1 : v = v0 := a1
  subst a1
  obtain ⟨x, h1, h2⟩ := e.2 j _ hj
  refine ⟨x, h1, p, C, dx, fs, h2, hh1.rawHas hk _ _ ht, cl, na, hl, ?_⟩
  exact q σ _ ⟨F1, f0.trans e1, e.mono e1, hh1.rawWrite hk ht⟩
theorem xs_fldN {C : Addr} {f : Str} {u : HO} {t : Hp} {dx : Addr} {fs : List (Str × V)} {j : Nat} (cl : Cls T.K C) (na : NoAttr T.K C f) (h : XG te Γ Ω (RN Ω fun r => rawA (upd (fun _ => none) r u))) (hj : Γ[j]? = some (some (vr p))) (hk : Ω[k]? = some (rawA t)) (ht : t p = some (.ins C dx fs)) (hl : fs.length < 1000)
    (q : ∀ r, t r = none → XS ts D F0 Γ (Ω.set k (rawA (upd (upd t r u) p (.ins C dx (putF f (.ref r) fs)))))) : XS (tSeq (sFld T.K (tVar j) te f) ts) D F0 Γ Ω := fun σ H ⟨F, f0, e, hh⟩ => by
  refine h F σ H e hh _ fun F1 v H1 Ω' e1 hh1 ⟨r, a1, o1⟩ => ?_
  subst o1 a1
  obtain ⟨x, h1, h2⟩ := e.2 j _ hj
  obtain ⟨t1, t2, s1, s2, _, _, dj, kk⟩ := hh1.merge hk
  have nt : t r = none := by
    cases z : t r with
    | none => rfl
    | some y => exact (nn (s2 r u upd_same) (dj r y (s1 _ _ z))).elim
  have hh2 : Holds F1 (Ω.set k (rawA (upd t r u))) H1 := kk _ fun b y e => by
    by_cases hb : b = r
    · subst hb
      rw [upd_same] at e
      cases e
      refine cup_r (fun c y z => ?_) b u (s2 b u upd_same)
      cases w : t1 c with
      | none => rfl
      | some y2 => exact (nn z (dj c y2 w)).elim
    · rw [upd_ne hb] at e
      exact cup_l b y (s1 b y e)
  have hk2 : (Ω.set k (rawA (upd t r u)))[k]? = some (rawA (upd t r u)) := List.getElem?_set_self (getlt hk)
  have np : p ≠ r := ne_of_none ht nt
  have ht2 : upd t r u p = some (.ins C dx fs) := by rw [upd_ne np]; exact ht
  refine ⟨x, h1, p, C, dx, fs, h2, hh2.rawHas hk2 _ _ ht2, cl, na, hl, ?_⟩
  have hh3 := hh2.rawWrite (u' := .ins C dx (putF f (.ref r) fs)) hk2 ht2
  rw [List.set_set] at hh3
  exact q r nt σ _ ⟨F1, f0.trans e1, e.mono e1, hh3⟩
theorem NX.conv {o o' : OA} {σ : L2.St} {H : Hp} (h : NX F0 Γ Ω σ H) (hk : Ω[k]? = some o) (c : ∀ F t, Same F0 F → o.P F t → o'.P F t) : NX F0 Γ (Ω.set k o') σ H :=
  let ⟨F, f0, e, hh⟩ := h
  ⟨F, f0, e, hh.conv hk fun t => c F t f0⟩
/-- {word: 0 for word in WORDS} -/
theorem xn_zeros {aW : Addr} {i : Nat} {vs : List Nat} (hW : ∀ H, SqT T.K H aW (mwords.map V.str)) (hi : i ∈ vs) (hlt : i < Γ.length) :
    XG (tDc (iTup T.K (tC (.ref aW))) (gName i) tYes (tVar i) (tC (.int 0)) vs) Γ Ω (RN Ω fun r => rawA (upd (fun _ => none) r (.dK (mwords.map fun w => (Sum.inr w, V.int 0))))) := fun F σ H e hh Q q => by
  refine ⟨aW, rfl, ⟨_, hW H⟩, fun d hd => ?_⟩
  refine dc_tup (xs := mwords.map V.str) (fun m H' => Holds F (Ω ++ [rawA (upd (fun _ => none) d (.dK ((mwords.take m).map fun w => (Sum.inr w, V.int 0))))]) H') (hh.newL hd (Same.refl _)) (fun _ H' _ _ => hW H') (fun m x H' hx p => ?_) (fun H' p => ?_)
  · rw [List.getElem?_map] at hx
    cases hw : mwords[m]? with
    | none => rw [hw] at hx; cases hx
    | some wd =>
      rw [hw] at hx
      cases hx
      refine ⟨(wipe_set hi).trans (wipe_wipe vs), ?_⟩
      simp only [tYes, ↓reduceIte]
      have li : i < (wipe σ vs).length := by rw [wipe_length, e.1]; exact hlt
      refine ⟨.str wd, by rw [List.getElem?_set_self li], _, Sum.inr wd, rfl, p.rawHas app_at d _ upd_same, ?_, ?_⟩
      · rw [List.length_map, List.length_take]
        exact Nat.lt_of_le_of_lt (Nat.min_le_right _ _) (by decide +kernel)
      · have hh2 := p.rawWrite (u' := .dK (putK ((mwords.take m).map fun w => ((Sum.inr w : Key), V.int 0)) (Sum.inr wd) (.int 0))) app_at upd_same
        rw [set_last, upd_upd] at hh2
        have nin : valV ((mwords.take m).map fun w => ((Sum.inr w : Key), V.int 0)) (Sum.inr wd) = none := by
          cases z : valV ((mwords.take m).map fun w => ((Sum.inr w : Key), V.int 0)) (Sum.inr wd) with
          | none => rfl
          | some y =>
            have hm := valV_in z
            rw [List.map_map] at hm
            obtain ⟨w2, h2, e2⟩ := List.mem_map.mp hm
            have e2 : w2 = wd := Sum.inr.inj e2
            subst e2
            obtain ⟨j2, h3, h4⟩ := List.mem_take_iff_getElem.mp h2
            have hlt3 : j2 < mwords.length := by omega
            have eq2 : mwords[j2]? = some w2 := by rw [List.getElem?_eq_getElem hlt3, h4]
            have := nd_ix mwords_nd eq2 hw
            omega
        rw [putK_new _ nin] at hh2
        rw [List.take_add_one, hw, List.map_append, putK_new _ nin]
        exact hh2
  · rw [show (mwords.map V.str).length = mwords.length from List.length_map _, List.take_length] at p
    exact q F (.ref d) H' _ (Same.refl F) p ⟨d, rfl, rfl⟩
/-- the whole of a machine's __init__ behind its checks: four stores -/
theorem mf_put {w c : Int} {d e : Addr} : putF "entered" (.ref e) (putF "counts" (.ref d) (putF "cutoff" (.int c) (putF "width" (.int w) []))) = ([("width", .int w), ("cutoff", .int c), ("counts", .ref d), ("entered", .ref e)] : List (Str × V)) := by
  rw [show putF "width" (.int w) [] = [(("width" : Str), V.int w)] from rfl, putF_miss (f := "cutoff") (g := "width") (by decide +kernel), show putF "cutoff" (.int c) [] = [(("cutoff" : Str), V.int c)] from rfl,
    putF_miss (f := "counts") (g := "width") (by decide +kernel), putF_miss (f := "counts") (g := "cutoff") (by decide +kernel), show putF "counts" (.ref d) [] = [(("counts" : Str), V.ref d)] from rfl,
    putF_miss (f := "entered") (g := "width") (by decide +kernel), putF_miss (f := "entered") (g := "cutoff") (by decide +kernel), putF_miss (f := "entered") (g := "counts") (by decide +kernel)]
  all_goals rfl
theorem mf_reset {d e d2 e2 : Addr} : putF "entered" (.ref e2) (putF "counts" (.ref d2) (mf s d e)) = mf s d2 e2 := by
  unfold mf
  rw [putF_miss (f := "counts") (g := "width") (by decide +kernel), putF_miss (f := "counts") (g := "cutoff") (by decide +kernel), putF_hit,
    putF_miss (f := "entered") (g := "width") (by decide +kernel), putF_miss (f := "entered") (g := "cutoff") (by decide +kernel), putF_miss (f := "entered") (g := "counts") (by decide +kernel), putF_hit]
theorem set_get {l : List OA} {k : Nat} {o o' : OA} (h : l[k]? = some o) : (l.set k o')[k]? = some o' := List.getElem?_set_self (getlt h)
/-- self.width = bits; self.cutoff = cutoff; self.counts = {..}; self.entered = [] -/
theorem xs_minit {w c : Int} {aW : Addr} {i : Nat} {vs : List Nat} (mc : MCls T.K (T.C 0)) (hW : ∀ H, SqT T.K H aW (mwords.map V.str)) (hi : i ∈ vs) (hlt : i < Γ.length)
    (h0 : Γ[0]? = some (some (vr p))) (h1 : Γ[1]? = some (some (va T w))) (h2 : Γ[2]? = some (some (va T c))) (hk : Ω[k]? = some (newA (T.C 0) p)) (q : ∀ σ H, NX F0 Γ (Ω.set k (machA T p (MS.fresh w c))) σ H → D.nx σ H) :
    XS (tSeq (sFld T.K (tVar 0) (tVar 1) "width") (tSeq (sFld T.K (tVar 0) (tVar 2) "cutoff") (tSeq (sFld T.K (tVar 0) (tDc (iTup T.K (tC (.ref aW))) (gName i) tYes (tVar i) (tC (.int 0)) vs) "counts") (sFld T.K (tVar 0) (tLst tNil) "entered")))) D F0 Γ Ω := by
  intro σ H ⟨F, f0, e, hh⟩
  obtain ⟨t, ⟨dx, ht⟩, _, hh2⟩ := hh.opened hk
  have hk2 : (Ω.set k (rawA t))[k]? = some (rawA t) := set_get hk
  have iv : ∀ {j : Nat} {n : Int} {Ω' : List OA}, Γ[j]? = some (some (va T n)) → XE (tVar j) Γ Ω' (vx (.int n)) Ω' := fun h => (xe_var h).to fun F v a => a
  refine xs_fldV (D := D) (ts := (tSeq (sFld T.K (tVar 0) (tVar 2) "cutoff") (tSeq (sFld T.K (tVar 0) (tDc (iTup T.K (tC (.ref aW))) (gName i) tYes (tVar i) (tC (.int 0)) vs) "counts") (sFld T.K (tVar 0) (tLst tNil) "entered")))) mc.cl mc.nw (iv h1) h0 hk2 ht (by decide) ?_ σ H ⟨F, Same.refl F, e, hh2⟩
  rw [List.set_set]
  refine xs_fldV mc.cl mc.nc (iv h2) h0 (set_get hk) upd_same (by show 1 < 1000; decide) ?_
  rw [List.set_set, upd_upd]
  refine xs_fldN mc.cl mc.nt (xn_zeros hW hi hlt) h0 (set_get hk) upd_same (by rw [show putF "width" (V.int w) [] = [(("width" : Str), V.int w)] from rfl, putF_miss (by decide +kernel)]; show 2 < 1000; decide) fun d hd => ?_
  rw [List.set_set]
  refine fun σ H n => xs_fldN (ts := tNext) mc.cl mc.ne (u := .lst []) (p := p) ?_ h0 (set_get hk) upd_same ?_ (fun en he => ?_) σ H n
  · exact fun F σ H e hh Q q => ⟨Nat.zero_le _, fun r hr => q F (.ref r) _ _ (Same.refl F) (hh.newL (o := rawA (upd (fun _ => none) r (.lst []))) hr (Same.refl _)) ⟨r, rfl, rfl⟩⟩
  · rw [show putF "width" (V.int w) [] = [(("width" : Str), V.int w)] from rfl, putF_miss (by decide +kernel), show putF "cutoff" (V.int c) [] = [(("cutoff" : Str), V.int c)] from rfl, putF_miss (by decide +kernel), putF_miss (by decide +kernel)]
    show 3 < 1000
    decide
  · rw [List.set_set, mf_put]
    intro σ H n
    have npd : d ≠ p := fun z => by rw [z, upd_same] at hd; cases hd
    have npe : en ≠ p := fun z => by rw [z, upd_same] at he; cases he
    have nde : d ≠ en := fun z => by rw [← z, upd_ne npd, upd_same] at he; cases he
    have n2 := n.conv (o' := machA T p (MS.fresh w c)) (set_get hk) fun F t f st => ⟨dx, d, en, [], st p _ upd_same, st d _ (by rw [upd_ne npd, upd_ne nde, upd_ne npd, upd_same]; rfl), st en _ (by rw [upd_ne npe, upd_same]), .nil⟩
    rw [List.set_set] at n2
    obtain ⟨F2, f2, e2, hh3⟩ := n2
    exact q σ H ⟨F2, f0.trans f2, e2, hh3⟩
/-- self.counts = {..}; self.entered = [] -/
theorem xs_mreset {aW : Addr} {i : Nat} {vs : List Nat} (mc : MCls T.K (T.C 0)) (hW : ∀ H, SqT T.K H aW (mwords.map V.str)) (hi : i ∈ vs) (hlt : i < Γ.length)
    (h0 : Γ[0]? = some (some (vr p))) (hk : Ω[k]? = some (machA T p s)) (q : ∀ σ H, NX F0 Γ (Ω.set k (machA T p s.reset)) σ H → D.nx σ H) :
    XS (tSeq (sFld T.K (tVar 0) (tDc (iTup T.K (tC (.ref aW))) (gName i) tYes (tVar i) (tC (.int 0)) vs) "counts") (sFld T.K (tVar 0) (tLst tNil) "entered")) D F0 Γ Ω := by
  intro σ H ⟨F, f0, e, hh⟩
  obtain ⟨t, ⟨dx, d0, e0, ws, ht, _⟩, _, hh2⟩ := hh.opened hk
  have hk2 : (Ω.set k (rawA t))[k]? = some (rawA t) := set_get hk
  refine xs_fldN (D := D) (ts := sFld T.K (tVar 0) (tLst tNil) "entered") mc.cl mc.nt (xn_zeros hW hi hlt) h0 hk2 ht (by show 4 < 1000; decide) (fun d hd => ?_) σ H ⟨F, Same.refl F, e, hh2⟩
  rw [List.set_set]
  refine fun σ H n => xs_fldN (ts := tNext) mc.cl mc.ne (u := .lst []) (p := p) ?_ h0 (set_get hk) upd_same ?_ (fun en he => ?_) σ H n
  · exact fun F σ H e hh Q q => ⟨Nat.zero_le _, fun r hr => q F (.ref r) _ _ (Same.refl F) (hh.newL (o := rawA (upd (fun _ => none) r (.lst []))) hr (Same.refl _)) ⟨r, rfl, rfl⟩⟩
  · unfold mf
    rw [putF_miss (by decide +kernel), putF_miss (by decide +kernel), putF_hit]
    show 4 < 1000
    decide
  · rw [List.set_set, mf_reset]
    intro σ H n
    have npd : d ≠ p := fun z => by rw [z, ht] at hd; cases hd
    have npe : en ≠ p := fun z => by rw [z, upd_same] at he; cases he
    have nde : d ≠ en := fun z => by rw [← z, upd_ne npd, upd_same] at he; cases he
    have n2 := n.conv (o' := machA T p s.reset) (set_get hk) fun F t f st => ⟨dx, d, en, [], st p _ upd_same, st d _ (by rw [upd_ne npd, upd_ne nde, upd_ne npd, upd_same]; rfl), st en _ (by rw [upd_ne npe, upd_same]), .nil⟩
    rw [List.set_set] at n2
    obtain ⟨F2, f2, e2, hh3⟩ := n2
    exact q σ H ⟨F2, f0.trans f2, e2, hh3⟩
/-- self.counts[word] -/
theorem xe_cnt {wd : Str} {i j : Nat} (mc : MCls T.K (T.C 0)) (ha : Γ[j]? = some (some (vr p))) (hy : Γ[i]? = some (some (va T wd))) (hk : Ω[k]? = some (machA T p s)) (hw : wd ∈ mwords) : XE (tDGet (tFld T.K (tVar j) "counts") (tVar i)) Γ Ω (va T (s.cnt wd)) Ω := fun F σ H e hh Q q => by
  obtain ⟨v0, a0, b0⟩ := e.2 j _ ha
  obtain ⟨v1, a1, b1⟩ := e.2 i _ hy
  have b1 : v1 = .str wd := b1
  subst b1
  obtain ⟨t, ⟨dx, d, en, ws, m1, m2, m3, m4⟩, st, _⟩ := hh.get hk
  refine ⟨v0, a0, p, _, dx, _, _, b0, st _ _ m1, mc.cl, mc.nt, mf_counts d en, .str wd, a1, d, .int (s.cnt wd), rfl, ?_, q F _ H _ (Same.refl F) hh ⟨rfl, rfl⟩⟩
  have g := DGet.k (k := Sum.inr wd) (st _ _ m2)
  rw [show valV (mkv s) (Sum.inr wd) = some (V.int (s.cnt wd)) from val_words hw] at g
  exact g
/-- self.entered, as a list -/
theorem xe_walk {j : Nat} (mc : MCls T.K (T.C 0)) (ha : Γ[j]? = some (some (vr p))) (hk : Ω[k]? = some (machA T p s)) : XE (tCB (rList T.K) (tCons (tFld T.K (tVar j) "entered") tNil)) Γ Ω (va T (LF.mk s.wk)) Ω := fun F σ H e hh Q q => by
  obtain ⟨v0, a0, b0⟩ := e.2 j _ ha
  obtain ⟨t, ⟨dx, d, en, ws, m1, m2, m3, m4⟩, st, _⟩ := hh.get hk
  refine ⟨v0, a0, p, _, dx, _, _, b0, st _ _ m1, mc.cl, mc.ne, mf_entered d en, en, ws, rfl, .inl (SqL.of (st _ _ m3)), fun l hl => ?_⟩
  obtain ⟨hh2, e2⟩ := hh.newF (u := .lst ws) hl
  exact q _ _ _ _ e2 hh2 ⟨⟨l, ws, rfl, upd_same, m4.mono e2⟩, rfl⟩
/-- the words of the tally -/
theorem xi_words {aW : Addr} (hW : ∀ H, SqT T.K H aW (mwords.map V.str)) : XI (iTup T.K (tC (.ref aW))) Γ Ω mwords (fun a => va T a) Ω := fun F σ H e hh R r => by
  have al : ∀ l : List Str, Al T F (l.map V.str) l := fun l => by
    induction l with
    | nil => exact .nil
    | cons a r ih => exact .cons rfl ih
  exact ⟨aW, rfl, ⟨_, hW H⟩, r F _ H _ (Same.refl F) hh wk_tup ⟨hW F, al mwords⟩⟩
theorem lcM_all {β γ : Type} (f : β → γ) : ∀ l : List β, lcM (fun x (_ : Unit) => some (some (f x), ())) l () = some (l.map f, ())
  | [] => rfl
  | x :: r => by
    show ((lcM (fun x (_ : Unit) => some (some (f x), ())) r ()).bind fun (ys, s'') => some (f x :: ys, s'')) = _
    rw [lcM_all f r]
    rfl
def MS.tally (s : MS) : List (Str × Int) := mwords.map fun w => (w, s.cnt w)
theorem xe_tally {aW : Addr} {i j : Nat} {vs : List Nat} (mc : MCls T.K (T.C 0)) (hW : ∀ H, SqT T.K H aW (mwords.map V.str)) (hi : i ∈ vs) (ha : ((wip Γ vs).set i none)[j]? = some (some (vr p))) (hlt : i < (wip Γ vs).length) (hk : Ω[k]? = some (machA T p s)) :
    XE (tLc (iTup T.K (tC (.ref aW))) (gName i) tYes (tTup (tCons (tVar i) (tCons (tDGet (tFld T.K (tVar j) "counts") (tVar i)) tNil))) vs) Γ Ω (va T (LF.mk s.tally)) Ω := by
  refine xe_fz (xn_lc (fun _ : Unit => Ω) (lcM_all (fun w => (w, s.cnt w)) mwords) (xi_words hW) (fun a => tgt_name) (fun m hm => by rw [List.mem_singleton.mp hm]; exact hi) (by decide +kernel) fun a s1 o s2 hm h X => ⟨fun e => ?_, fun y e => ?_⟩)
  · subst e; cases h
  · subst e
    cases h
    have hj : ((wip Γ vs).set i (some (va T a)))[j]? = some (some (vr p)) := by
      have ne : i ≠ j := fun z => by
        subst z
        rw [List.getElem?_set_self hlt] at ha
        cases ha
      rw [List.getElem?_set_ne ne] at ha ⊢
      exact ha
    have hi' : ((wip Γ vs).set i (some (va T a)))[i]? = some (some (va T a)) := List.getElem?_set_self hlt
    exact ⟨xt_yes, xe_tup2 (xa_cons (xe_var hi') (xa_cons (xe_cnt mc hj hi' (app_lt hk) hm) xa_nil))⟩
/-- a frozen thing stored -/
theorem xs_fldR {C : Addr} {f : Str} {t : Hp} {dx : Addr} {fs : List (Str × V)} {j : Nat} {row : List Int} (cl : Cls T.K C) (na : NoAttr T.K C f) (h : ∀ Ω', XE te Γ Ω' (va T (TF.mk row)) Ω') (hj : Γ[j]? = some (some (vr p))) (hk : Ω[k]? = some (rawA t)) (ht : t p = some (.ins C dx fs)) (hl : fs.length < 1000)
    (q : ∀ F1 r vs, Same F0 F1 → SqT T.K F1 r vs → Al T F1 vs row → XS ts D F1 Γ (Ω.set k (rawA (upd t p (.ins C dx (putF f (.ref r) fs)))))) : XS (tSeq (sFld T.K (tVar j) te f) ts) D F0 Γ Ω := fun σ H ⟨F, f0, e, hh⟩ => by
  refine h Ω F σ H e hh _ fun F1 v H1 Ω' e1 hh1 ⟨⟨r, vs, hv, s1, a1⟩, o1⟩ => ?_
  subst o1 hv
  obtain ⟨x, h1, h2⟩ := e.2 j _ hj
  refine ⟨x, h1, p, C, dx, fs, h2, hh1.rawHas hk _ _ ht, cl, na, hl, ?_⟩
  exact q F1 r vs (f0.trans e1) s1 a1 σ _ ⟨F1, Same.refl F1, e.mono e1, hh1.rawWrite hk ht⟩
/-- a number's __init__ -/
theorem bg_put {w s v : Int} {r : Addr} : putF "value" (.int v) (putF "row" (.ref r) (putF "side" (.int s) (putF "width" (.int w) []))) = ([("width", .int w), ("side", .int s), ("row", .ref r), ("value", .int v)] : List (Str × V)) := by
  rw [show putF "width" (V.int w) [] = [(("width" : Str), V.int w)] from rfl, putF_miss (f := "side") (g := "width") (by decide +kernel), show putF "side" (V.int s) [] = [(("side" : Str), V.int s)] from rfl,
    putF_miss (f := "row") (g := "width") (by decide +kernel), putF_miss (f := "row") (g := "side") (by decide +kernel), show putF "row" (V.ref r) [] = [(("row" : Str), V.ref r)] from rfl,
    putF_miss (f := "value") (g := "width") (by decide +kernel), putF_miss (f := "value") (g := "side") (by decide +kernel), putF_miss (f := "value") (g := "row") (by decide +kernel)]
  rfl
theorem xs_binit {ts1 : TE} {w v : Int} {row : List Int} (bc : BCls T.K (T.C 1)) (h0 : Γ[0]? = some (some (vr p))) (h1 : Γ[1]? = some (some (va T w))) (h2 : Γ[2]? = some (some (va T v)))
    (hs : ∀ Ω', XE ts1 Γ Ω' (va T (sgn v)) Ω') (h3 : ∀ Ω', XE te Γ Ω' (va T (TF.mk row)) Ω') (hk : Ω[k]? = some (newA (T.C 1) p)) (q : ∀ σ H, NX F0 Γ (Ω.set k (bigA T p ⟨w, row, v⟩)) σ H → D.nx σ H) :
    XS (tSeq (sFld T.K (tVar 0) (tVar 1) "width") (tSeq (sFld T.K (tVar 0) ts1 "side") (tSeq (sFld T.K (tVar 0) te "row") (sFld T.K (tVar 0) (tVar 2) "value")))) D F0 Γ Ω := by
  intro σ H ⟨F, f0, e, hh⟩
  obtain ⟨t, ⟨dx, ht⟩, _, hh2⟩ := hh.opened hk
  have hk2 : (Ω.set k (rawA t))[k]? = some (rawA t) := set_get hk
  have iv : ∀ {j : Nat} {n : Int} {Ω' : List OA}, Γ[j]? = some (some (va T n)) → XE (tVar j) Γ Ω' (vx (.int n)) Ω' := fun h => (xe_var h).to fun F v a => a
  refine xs_fldV (D := D) (ts := (tSeq (sFld T.K (tVar 0) ts1 "side") (tSeq (sFld T.K (tVar 0) te "row") (sFld T.K (tVar 0) (tVar 2) "value")))) bc.cl bc.nw (iv h1) h0 hk2 ht (by decide) ?_ σ H ⟨F, Same.refl F, e, hh2⟩
  rw [List.set_set]
  refine xs_fldV (v0 := .int (sgn v)) bc.cl bc.ns ((hs _).to fun F u a => a) h0 (set_get hk) upd_same (by show 1 < 1000; decide) ?_
  rw [List.set_set, upd_upd]
  refine xs_fldR bc.cl bc.nr h3 h0 (set_get hk) upd_same (by rw [show putF "width" (V.int w) [] = [(("width" : Str), V.int w)] from rfl, putF_miss (by decide +kernel)]; show 2 < 1000; decide) fun F1 r vs e1 s1 a1 => ?_
  rw [List.set_set, upd_upd]
  refine fun σ H n => xs_fldV (ts := tNext) bc.cl bc.nv (iv h2) h0 (set_get hk) upd_same ?_ ?_ σ H n
  · rw [show putF "width" (V.int w) [] = [(("width" : Str), V.int w)] from rfl, putF_miss (by decide +kernel), show putF "side" (V.int (sgn v)) [] = [(("side" : Str), V.int (sgn v))] from rfl, putF_miss (by decide +kernel), putF_miss (by decide +kernel)]
    show 3 < 1000
    decide
  · rw [List.set_set, upd_upd, bg_put]
    intro σ H n
    have n2 := n.conv (o' := bigA T p ⟨w, row, v⟩) (set_get hk) fun F t f st => ⟨dx, r, vs, st p _ upd_same, Same.tup f s1, a1.mono f⟩
    rw [List.set_set] at n2
    obtain ⟨F2, f2, e2, hh3⟩ := n2
    exact q σ H ⟨F2, f0.trans (e1.trans f2), e2, hh3⟩
end
end VL

set_option Elab.async false
set_option linter.all false
set_option maxRecDepth 100000
/-! what the printed texts lean on -/
namespace VL
open PySem L2
open PyProof.Rows (envOfC)
section
variable {P : Program} {w : World} {K : PySem.W.Frag} {mg : Str → Option Value} {base : Heap}
theorem fn_okD {x qual : Str} {params : Arguments} {body : List Stmt} {scope : Scope} {dvs : List V} {f : Addr} {fd : FuncData} {N ps : List Str} {k : Nat} {Pre : PreT} (F : FunD K x qual params body scope dvs [] f fd) (S : FnScope N ps scope) (hl : ∀ As Ω R, Pre As Ω R → As.length = ps.length)
    (hb : ∀ (cdv : Value) (A : Around) (outer : List PySem.Env) (s : Shared) (H : Hp) (E : XK), Room k (A.deeper (envOfC qual scope s.heap.objs.size f cdv)) → ∀ As Ω R F0, Pre As Ω R →
      Bod (cxOf CX0 P w K mg base N qual scope f cdv A outer s H E).nox body (As.map some ++ List.replicate (N.length - As.length) none) Ω F0 R) : FnOk P w K mg base CX0 (k + 1) f fd ps (mkSp Pre) := by
  refine F.ok S (fun vs H Q E h => ?_) (fun cdv A outer s H vs Q E hr h => ?_)
  · obtain ⟨F, Ω, As, R, hp, ha, _⟩ := h
    rw [ha.len]; exact hl _ _ _ hp
  · obtain ⟨F0, Ω, As, R, hp, ha, hh, hq⟩ := h
    obtain ⟨t, h1, h2⟩ := hb cdv A outer s H E hr As Ω R F0 hp
    exact ⟨t, h1.nox, h2 _ (fun F v H Ω' e hh r => hq F v H Ω' e hh r) (fun F σ H Ω' e hh r => hq F .non H Ω' e hh r) _ _ ⟨F0, Same.refl F0, start_env ha, hh⟩⟩
/-- a class that may be made: dvs fill up what is not written -/
structure CalC (P : Program) (w : World) (K : PySem.W.Frag) (mg : Str → Option Value) (base : Heap) (k : Nat) (x : Str) (C : Addr) (ps : List Str) (dvs : List V) (sp : Sp) : Prop where
  ex : ∃ f fd ds, FnOk P w K mg base CX0 k f fd ps sp ∧ mg x = some (.ref C) ∧ Mk K C f ∧ Vals dvs ds ∧ Binds K fd ps ds
section
variable {X : Cx} {k : Nat} {x m : Str} {C : Addr} {ps : List Str} {dvs : List V} {sp : Sp} {p pos apos : Pos} {e o : Expr} {es : List Expr} {t : TA} {ta : TE}
theorem pe_calC (c : CalC X.prog X.w X.K X.mg X.base k x C ps dvs sp) (hr : Room (k + 1) X.A) (hg : Gl X x) (ha : PA X (e :: es) t)
    (hdb : (x == ("__debug__" : Str)) = false := by decide) (he : starEach (e :: es) X.env = (false, eval e X.env) :: starEach es X.env := by rfl) (hpl : (backTo pos (starEach es X.env)).any (·.1) = false := by rfl) :
    PE X (.Call (.Name x p) (e :: es) [] pos) (tMake C sp dvs E0 t) := by
  obtain ⟨f, fd, ds, F, hm, M, hv, hb⟩ := c.ex
  exact pe_make M F hr hg hm hb hv pass0 ha hdb he hpl
theorem pe_calM {pl : Sem Bool} (he : PE X o ta) (c : CalM X.prog X.w X.K X.mg X.base k C m ps sp) (hr : Room k X.A) (ha : PA X (e :: es) t)
    (hst : starEach (e :: es) X.env = (false, eval e X.env) :: starEach es X.env := by rfl) (hpl : (backTo pos (starEach es X.env)).any (·.1) = false := by rfl)
    (ht : eval (.Call (.Attribute o m apos) (e :: es) [] pos) X.env = (do
      let ov ← eval o X.env
      standAt apos.atName
      let (f, first) ← holding [ov] (getMethod ov m pl)
      callWith pos f first (backTo pos (starEach (e :: es) X.env)) (backToKw pos (keywordEach [] X.env))) := by rfl) :
    PE X (.Call (.Attribute o m apos) (e :: es) [] pos) (tMeth C m sp [] E0 ta t) := by
  obtain ⟨f, fd, F, hm, hb⟩ := c.ex
  exact pe_meth he c.cl hm F hr hb .nil pass0 ha hst hpl ht
theorem pe_calM0 {pl : Sem Bool} (he : PE X o ta) (c : CalM X.prog X.w X.K X.mg X.base k C m ps sp) (hr : Room k X.A)
    (ht : eval (.Call (.Attribute o m apos) [] [] pos) X.env = (do
      let ov ← eval o X.env
      standAt apos.atName
      let (f, first) ← holding [ov] (getMethod ov m pl)
      callWith pos f first (backTo pos (starEach [] X.env)) (backToKw pos (keywordEach [] X.env))) := by rfl) :
    PE X (.Call (.Attribute o m apos) [] [] pos) (tMeth C m sp [] E0 ta tNil) := by
  obtain ⟨f, fd, F, hm, hb⟩ := c.ex
  exact pe_meth0 he c.cl hm F hr hb .nil pass0 ht
/-- a module's constant -/
theorem pe_gl {x : Str} {v : V} {pos : Pos} (hg : Gl X x) (hm : ∃ u, X.mg x = some u ∧ RelV v u) (hd : (x == ("__debug__" : Str)) = false := by decide) : PE X (.Name x pos) (tC v) := by
  obtain ⟨u, h1, h2⟩ := hm
  exact pe_glob hg h1 h2 hd
end
end
section
variable {X : Cx}
theorem op_mulG : OpR X (binaryOp .Mult) (rI IntMulOk fun i j => .int (i * j)) := L2.opI fun _ _ _ _ _ _ _ hc q => PyProof.Rows.mul_int q hc
/-- + of ints, of lists; * of ints, of a list and an int -/
def rAddQ : R2 := fun x y H Q => rI0 (fun i j => .int (i + j)) x y H Q ∨ rCat x y H Q
theorem op_addQ : OpR X (binaryOp .Add) rAddQ := op_add.or op_cat
def rMulQ : R2 := fun x y H Q => rI IntMulOk (fun i j => .int (i * j)) x y H Q ∨ rRep x y H Q
theorem op_mulQ : OpR X (binaryOp .Mult) rMulQ := op_mulG.or op_rep
/-- int(x) -/
def rInt : List V → Hp → VK → Prop := fun xs H Q => (∃ i, xs = [.int i] ∧ Q (.int i) H) ∨ ∃ k, xs = [.bl k] ∧ Q (.int (if k then 1 else 0)) H
theorem cr_int : CallR X (.type "int") rInt := call_int1
def rAbs : List V → Hp → VK → Prop := fun xs H Q => ∃ i, xs = [.int i] ∧ Q (.int (if i < 0 then -i else i)) H
theorem cr_abs : CallR X (.builtin "abs") rAbs := call_abs
def rMax2 : List V → Hp → VK → Prop := fun xs H Q => ∃ i j, xs = [.int i, .int j] ∧ Q (.int (if j > i then j else i)) H
theorem cr_max2 (hc : X.calm = true) : CallR X (.builtin "max") rMax2 := call_max2 hc
def rMin2 : List V → Hp → VK → Prop := fun xs H Q => ∃ i j, xs = [.int i, .int j] ∧ Q (.int (if j < i then j else i)) H
theorem cr_min2 (hc : X.calm = true) : CallR X (.builtin "min") rMin2 := call_min2 hc
/-- x op= y by the operator's rule -/
theorem ip_of {op : Operator} {r : R2} (h : OpR X (inplaceOp op) r) : PIp X op r := h
end
section
variable {T : TC} {Γ : List (Option VA)} {Ω Ω1 Ω2 : List OA} {A B C : VA} {As Ds : List VA} {ta tb te : TE} {t u : TT} {D : Ends} {F0 : Hp} {ts : TS} {i j : Int} {b c : Bool} {α : Type} [Rp α] {l l2 : List α} {p : Addr} {k : Nat} {s : MS} {R : Hp → V → List OA → Prop}
theorem ro_or1 {r r' : R2} (h : RO r Ω A B C) : RO (fun x y H Q => r x y H Q ∨ r' x y H Q) Ω A B C := fun F H x y hh a1 a2 Q q => .inl (h F H x y hh a1 a2 Q q)
theorem ro_or2 {r r' : R2} (h : RO r' Ω A B C) : RO (fun x y H Q => r x y H Q ∨ r' x y H Q) Ω A B C := fun F H x y hh a1 a2 Q q => .inr (h F H x y hh a1 a2 Q q)
theorem xe_add (ha : XE ta Γ Ω (va T i) Ω1) (hb : XE tb Γ Ω1 (va T j) Ω2) : XE (tOp rAddQ ta tb) Γ Ω (va T (i + j)) Ω2 := xe_op ha hb (ro_or1 ro_int)
theorem xe_sub (ha : XE ta Γ Ω (va T i) Ω1) (hb : XE tb Γ Ω1 (va T j) Ω2) : XE (tOp (rI0 fun i j => .int (i - j)) ta tb) Γ Ω (va T (i - j)) Ω2 := xe_op ha hb ro_int
theorem xe_mul (h : IntMulOk i j) (ha : XE ta Γ Ω (va T i) Ω1) (hb : XE tb Γ Ω1 (va T j) Ω2) : XE (tOp rMulQ ta tb) Γ Ω (va T (i * j)) Ω2 := xe_op ha hb (ro_or1 (ro_intD h))
theorem xe_fdiv (h : CDivW i j) (ha : XE ta Γ Ω (va T i) Ω1) (hb : XE tb Γ Ω1 (va T j) Ω2) : XE (tOp (rI CDivW fun i j => .int (i / j)) ta tb) Γ Ω (va T (i / j)) Ω2 := xe_op ha hb (ro_intD h)
theorem xe_mod (h : 0 < j) (ha : XE ta Γ Ω (va T i) Ω1) (hb : XE tb Γ Ω1 (va T j) Ω2) : XE (tOp (rI (fun _ j => 0 < j) fun i j => .int (i % j)) ta tb) Γ Ω (va T (i % j)) Ω2 := xe_op ha hb (ro_intD (D := fun _ j => 0 < j) h)
theorem xe_shl (h : CShl i j) (ha : XE ta Γ Ω (va T i) Ω1) (hb : XE tb Γ Ω1 (va T j) Ω2) : XE (tOp (rI CShl fun i j => .int (i * 2 ^ j.toNat)) ta tb) Γ Ω (va T (i * 2 ^ j.toNat)) Ω2 := xe_op ha hb (ro_intD h)
theorem xe_shr (h : 0 ≤ j) (ha : XE ta Γ Ω (va T i) Ω1) (hb : XE tb Γ Ω1 (va T j) Ω2) : XE (tOp (rI (fun _ j => 0 ≤ j) fun i j => .int (i / 2 ^ j.toNat)) ta tb) Γ Ω (va T (i / 2 ^ j.toNat)) Ω2 := xe_op ha hb (ro_intD (D := fun _ j => 0 ≤ j) h)
theorem xe_pow (h : CPow i j) (ha : XE ta Γ Ω (va T i) Ω1) (hb : XE tb Γ Ω1 (va T j) Ω2) : XE (tOp (rI CPow fun i j => .int (i ^ j.toNat)) ta tb) Γ Ω (va T (i ^ j.toNat)) Ω2 := xe_op ha hb (ro_intD h)
theorem xe_band (ha : XE ta Γ Ω (va T i) Ω1) (hb : XE tb Γ Ω1 (va T j) Ω2) : XE (tOp (rI0 fun i j => .int (Builtin.bitAnd i j)) ta tb) Γ Ω (va T (Builtin.bitAnd i j)) Ω2 := xe_op ha hb ro_int
theorem xe_neg (ha : XE ta Γ Ω (va T i) Ω1) : XE (tUn (rU fun i => .int (-i)) ta) Γ Ω (va T (-i)) Ω1 := xe_un ha ru_int
theorem xe_cat {A B : VA} (ha : XE ta Γ Ω A Ω1) (hb : XE tb Γ Ω1 B Ω2) (h : IsLs T Ω2 A l) (h2 : IsLs T Ω2 B l2) (hz : l.length + l2.length ≤ sizeLine) : XE (tOp rAddQ ta tb) Γ Ω (va T (LF.mk (l ++ l2))) Ω2 := xe_op ha hb (ro_or2 (ro_cat h h2 hz))
theorem xe_rep {A : VA} (ha : XE ta Γ Ω A Ω1) (hb : XE tb Γ Ω1 (va T i) Ω2) (h : IsLs T Ω2 A l) (h1 : (-(2 ^ 63) ≤ i ∧ i < 2 ^ 63) ∧ l.length * i.toNat ≤ sizeLine) : XE (tOp rMulQ ta tb) Γ Ω (va T (LF.mk (List.replicate i.toNat l).flatten)) Ω2 := xe_op ha hb (ro_or2 (ro_rep h h1.1.1 h1.1.2 h1.2))
theorem xe_ix {A : VA} {a : α} (ha : XE ta Γ Ω A Ω1) (hb : XE tb Γ Ω1 (va T i) Ω2) (h : IsL T Ω2 A l) (e : atI l i = some a) : XE (tOp (rIx T.K) ta tb) Γ Ω (va T a) Ω2 := xe_op ha hb (ro_ixL h e)
theorem xe_int1 (ha : XE te Γ Ω (va T i) Ω1) : XE (tCB rInt (tCons te tNil)) Γ Ω (va T i) Ω1 := xe_cb (xa_cons ha xa_nil) fun F H vs hh a Q q => by
  obtain ⟨v, rfl, a1⟩ := alA1 a
  have a1 : v = .int i := a1
  subst a1
  exact .inl ⟨i, rfl, q F _ H (Same.refl F) hh rfl⟩
theorem xe_intb (ha : XE te Γ Ω (va T b) Ω1) : XE (tCB rInt (tCons te tNil)) Γ Ω (va T (if b = true then (1 : Int) else 0)) Ω1 := xe_cb (xa_cons ha xa_nil) fun F H vs hh a Q q => by
  obtain ⟨v, rfl, a1⟩ := alA1 a
  have a1 : v = .bl b := a1
  subst a1
  refine .inr ⟨b, rfl, q F _ H (Same.refl F) hh ?_⟩
  cases b <;> rfl
theorem xe_abs (ha : XE te Γ Ω (va T i) Ω1) : XE (tCB rAbs (tCons te tNil)) Γ Ω (va T ((i.natAbs : Nat) : Int)) Ω1 := xe_cb (xa_cons ha xa_nil) fun F H vs hh a Q q => by
  obtain ⟨v, rfl, a1⟩ := alA1 a
  have a1 : v = .int i := a1
  subst a1
  refine ⟨i, rfl, q F _ H (Same.refl F) hh ?_⟩
  show V.int _ = V.int _
  congr 1
  split <;> omega
theorem xe_max2 (ha : XE ta Γ Ω (va T i) Ω1) (hb : XE tb Γ Ω1 (va T j) Ω2) : XE (tCB rMax2 (tCons ta (tCons tb tNil))) Γ Ω (va T (max i j)) Ω2 := xe_cb (xa_cons ha (xa_cons hb xa_nil)) fun F H vs hh a Q q => by
  obtain ⟨v, w, rfl, a1, a2⟩ := alA2 a
  have a1 : v = .int i := a1
  have a2 : w = .int j := a2
  subst a1 a2
  refine ⟨i, j, rfl, q F _ H (Same.refl F) hh ?_⟩
  show V.int _ = V.int _
  congr 1
  split <;> omega
theorem xe_min2 (ha : XE ta Γ Ω (va T i) Ω1) (hb : XE tb Γ Ω1 (va T j) Ω2) : XE (tCB rMin2 (tCons ta (tCons tb tNil))) Γ Ω (va T (min i j)) Ω2 := xe_cb (xa_cons ha (xa_cons hb xa_nil)) fun F H vs hh a Q q => by
  obtain ⟨v, w, rfl, a1, a2⟩ := alA2 a
  have a1 : v = .int i := a1
  have a2 : w = .int j := a2
  subst a1 a2
  refine ⟨i, j, rfl, q F _ H (Same.refl F) hh ?_⟩
  show V.int _ = V.int _
  congr 1
  split <;> omega
theorem xe_sum {l : List Int} {A : VA} (ha : XE te Γ Ω A Ω1) (h : IsL T Ω1 A l) : XE (tCB (rSum T.K) (tCons te tNil)) Γ Ω (va T l.sum) Ω1 := xe_cb (xa_cons ha xa_nil) fun F H vs hh a Q q => by
  obtain ⟨v, rfl, a1⟩ := alA1 a
  obtain ⟨p, ws, e, hs, al⟩ := h F H v hh a1
  rw [al_int al] at hs
  exact ⟨p, l, by rw [e], hs, q F _ H (Same.refl F) hh rfl⟩
theorem xe_bits (ha : XE te Γ Ω (va T i) Ω1) : XE (tBits te) Γ Ω (va T ((Builtin.Int.intBits i : Nat) : Int)) Ω1 := fun F σ H e hh Q q => by
  refine ha F σ H e hh _ fun F1 x H1 Ω' e1 hh1 ⟨a1, o1⟩ => ?_
  subst o1
  exact ⟨i, a1, q F1 _ H1 _ e1 hh1 ⟨rfl, rfl⟩⟩
theorem xe_ite {a a' : α} (h : XT t Γ Ω b Ω1) (h1 : XE ta Γ Ω1 (va T a) Ω2) (h2 : XE tb Γ Ω1 (va T a') Ω2) : XE (tIf t ta tb) Γ Ω (va T (if b = true then a else a')) Ω2 :=
  xe_if h (fun e => xe_eq h1 (by rw [if_pos e])) (fun e => xe_eq h2 (by rw [if_neg (by rw [e]; exact Bool.false_ne_true)]))
theorem xe_ifT (h : XT t Γ Ω true Ω1) (h1 : XE ta Γ Ω1 A Ω2) : XE (tIf t ta tb) Γ Ω A Ω2 := xe_if h (fun _ => h1) (fun e => nomatch e)
theorem xe_ifF (h : XT t Γ Ω false Ω1) (h1 : XE tb Γ Ω1 A Ω2) : XE (tIf t ta tb) Γ Ω A Ω2 := xe_if h (fun e => nomatch e) (fun _ => h1)
theorem xe_lt (ha : XE ta Γ Ω (va T i) Ω1) (hb : XE tb Γ Ω1 (va T j) Ω2) : XE (tOp (rI0 fun i j => .bl (decide (i < j))) ta tb) Γ Ω (va T (decide (i < j))) Ω2 := (xe_op ha hb ro_bl)
theorem xe_le (ha : XE ta Γ Ω (va T i) Ω1) (hb : XE tb Γ Ω1 (va T j) Ω2) : XE (tOp (rI0 fun i j => .bl (decide (i ≤ j))) ta tb) Γ Ω (va T (decide (i ≤ j))) Ω2 := (xe_op ha hb ro_bl)
theorem xe_gt (ha : XE ta Γ Ω (va T i) Ω1) (hb : XE tb Γ Ω1 (va T j) Ω2) : XE (tOp (rI0 fun i j => .bl (decide (j < i))) ta tb) Γ Ω (va T (decide (j < i))) Ω2 := (xe_op ha hb (ro_bl (g := fun i j => decide (j < i))))
theorem xe_ge (ha : XE ta Γ Ω (va T i) Ω1) (hb : XE tb Γ Ω1 (va T j) Ω2) : XE (tOp (rI0 fun i j => .bl (decide (j ≤ i))) ta tb) Γ Ω (va T (decide (j ≤ i))) Ω2 := (xe_op ha hb (ro_bl (g := fun i j => decide (j ≤ i))))
/-! == by values, by data -/
def rEqX (K : PySem.W.Frag) : R2 := fun x y H Q => rEq x y H Q ∨ rEqD K x y H Q
theorem op_eqX {X : Cx} (hu : X.A.units + 64 < cLine) : OpR X (compareOp .Eq) (rEqX X.K) := op_eq.or (op_eqD hu)
def rNeX (K : PySem.W.Frag) : R2 := fun x y H Q => rNe x y H Q ∨ rNeD K x y H Q
theorem op_neX {X : Cx} (hu : X.A.units + 64 < cLine) : OpR X (compareOp .NotEq) (rNeX X.K) := op_ne.or (op_neD hu)
theorem xe_eqI (ha : XE ta Γ Ω (va T i) Ω1) (hb : XE tb Γ Ω1 (va T j) Ω2) : XE (tOp (rEqX T.K) ta tb) Γ Ω (va T (decide (i = j))) Ω2 := xe_op ha hb (ro_or1 ro_eqI)
theorem xe_neI (ha : XE ta Γ Ω (va T i) Ω1) (hb : XE tb Γ Ω1 (va T j) Ω2) : XE (tOp (rNeX T.K) ta tb) Γ Ω (va T (!decide (i = j))) Ω2 := xe_op ha hb (ro_or1 ro_neI)
theorem xe_eqB (ha : XE ta Γ Ω (va T b) Ω1) (hb : XE tb Γ Ω1 (va T c) Ω2) : XE (tOp (rEqX T.K) ta tb) Γ Ω (va T (decide (b = c))) Ω2 := xe_op ha hb (ro_or1 ro_eqB)
/-! statements, further -/
theorem xs_ifN {t1 : TS} (h : XT t Γ Ω false Ω1) (q : XS ts D F0 Γ Ω1) : XS (tSeq (tIfS t t1 tNext) ts) D F0 Γ Ω := xs_ifF h q
theorem nt {b : Bool} (h : ¬ b = true) : b = false := by cases b with
  | true => exact absurd rfl h
  | false => rfl
variable {n : Int}
theorem xs_augI {k : Nat} {g : Int → Int → Int} (hx : Γ[k]? = some (some (va T i))) (h : XE te Γ Ω (va T j) Ω1) (e : g i j = n) (q : XS ts D F0 (Γ.set k (some (va T n))) Ω1) : XS (tSeq (tAug k te (rI0 fun i j => .int (g i j))) ts) D F0 Γ Ω := fun σ H ⟨F, f0, en, hh⟩ => by
  subst e
  obtain ⟨x, h1, h2⟩ := en.2 k _ hx
  refine ⟨x, h1, ?_⟩
  refine h F σ H en hh _ fun F1 v H1 Ω' e1 hh1 ⟨a1, o1⟩ => ?_
  exact ⟨i, j, h2, a1, q _ H1 ⟨F1, f0.trans e1, (en.mono e1).set (A := va T (g i j)) rfl, o1 ▸ hh1⟩⟩
theorem xs_augI1 {k : Nat} {g : Int → Int → Int} (hx : Γ[k]? = some (some (va T i))) (h : XE te Γ Ω (va T j) Ω1) (e : g i j = n) (q : ∀ σ H, NX F0 (Γ.set k (some (va T n))) Ω1 σ H → D.nx σ H) : XS (tAug k te (rI0 fun i j => .int (g i j))) D F0 Γ Ω := fun σ H m => xs_augI (ts := tNext) hx h e q σ H m
theorem xs_augD {k : Nat} {Dd : Int → Int → Prop} {g : Int → Int → Int} (hx : Γ[k]? = some (some (va T i))) (hd : Dd i j) (h : XE te Γ Ω (va T j) Ω1) (e : g i j = n) (q : XS ts D F0 (Γ.set k (some (va T n))) Ω1) : XS (tSeq (tAug k te (rI Dd fun i j => .int (g i j))) ts) D F0 Γ Ω := fun σ H ⟨F, f0, en, hh⟩ => by
  subst e
  obtain ⟨x, h1, h2⟩ := en.2 k _ hx
  refine ⟨x, h1, ?_⟩
  refine h F σ H en hh _ fun F1 v H1 Ω' e1 hh1 ⟨a1, o1⟩ => ?_
  exact ⟨i, j, h2, a1, hd, q _ H1 ⟨F1, f0.trans e1, (en.mono e1).set (A := va T (g i j)) rfl, o1 ▸ hh1⟩⟩
theorem xs_augD1 {k : Nat} {Dd : Int → Int → Prop} {g : Int → Int → Int} (hx : Γ[k]? = some (some (va T i))) (hd : Dd i j) (h : XE te Γ Ω (va T j) Ω1) (e : g i j = n) (q : ∀ σ H, NX F0 (Γ.set k (some (va T n))) Ω1 σ H → D.nx σ H) : XS (tAug k te (rI Dd fun i j => .int (g i j))) D F0 Γ Ω := fun σ H m => xs_augD (ts := tNext) hx hd h e q σ H m
theorem xs_par2 {k l : Nat} {ta : TA} (h : XA ta Γ Ω [A, B] Ω1) (q : XS ts D F0 ((Γ.set k (some A)).set l (some B)) Ω1) : XS (tSeq (tPar k l ta) ts) D F0 Γ Ω := fun σ H ⟨F, f0, en, hh⟩ => by
  refine h F σ H en hh _ fun F1 vs H1 e1 hh1 a1 => ?_
  obtain ⟨v, w, rfl, b1, b2⟩ := alA2 a1
  exact ⟨v, w, rfl, q _ H1 ⟨F1, f0.trans e1, ((en.mono e1).set b1).set b2, hh1⟩⟩
theorem xs_asgG {g : TG} {f : List (Option VA) → List (Option VA)} {js : List Nat} (h : XE te Γ Ω A Ω1) (ht : Tgt g A f js) (q : XS ts D F0 (f Γ) Ω1) : XS (tSeq (tAsg te g) ts) D F0 Γ Ω := fun σ H ⟨F, f0, en, hh⟩ => by
  refine h F σ H en hh _ fun F1 v H1 Ω' e1 hh1 ⟨a1, o1⟩ => ?_
  subst o1
  exact ht F1 σ Γ v H1 _ (en.mono e1) hh1 a1 _ fun F2 σ2 H2 e2 en2 hh2 _ => q σ2 H2 ⟨F2, f0.trans (e1.trans e2), en2, hh2⟩
theorem mf_none {m : Str} {d e : Addr} (h : (m == "width" || m == "cutoff" || m == "counts" || m == "entered") = false) : (mf s d e).lookup m = none := by
  simp only [Bool.or_eq_false_iff] at h
  unfold mf
  rw [look_ne h.1.1.1, look_ne h.1.1.2, look_ne h.1.2, look_ne h.2]
  rfl
/-- a method of the machine -/
theorem xe_mcall {m : Str} {Pre : PreT} {E : XK} {ta : TE} {t : TA} {Ω' : List OA} (ha : XE ta Γ Ω (vr p) Ω) (hk : Ω[k]? = some (machA T p s)) (hx : XA t Γ Ω As Ω1) (hp : Pre (vr p :: As) Ω1 (RV A Ω')) (he : Ω' = Ω2)
    (hm : (m == "width" || m == "cutoff" || m == "counts" || m == "entered") = false := by decide +kernel) : XE (tMeth (T.C 0) m (mkSp Pre) [] E ta t) Γ Ω A Ω2 := fun F σ H e hh Q q => by
  subst he
  refine ha F σ H e hh _ fun F1 x H1 Ωa e1 hh1 ⟨a1, o1⟩ => ?_
  subst o1
  obtain ⟨t0, ⟨dx, d, en, ws, m1, m2, m3, m4⟩, st, _⟩ := hh1.get hk
  refine ⟨p, dx, _, a1, st _ _ m1, mf_none hm, ?_⟩
  refine hx F1 σ H1 (e.mono e1) hh1 _ fun F2 vs H2 e2 hh2 a2 => ?_
  refine ⟨F2, Ω1, vr p :: As, _, hp, ?_, hh2, fun F' v H' Ω3 e' hh' r => q F' v H' Ω3 ((e1.trans e2).trans e') hh' r⟩
  rw [List.append_nil]
  exact .cons a1 a2
end
section
variable {T : TC} {Γ : List (Option VA)} {Ω Ω1 Ω2 : List OA} {A B C : VA} {ta tb te tc : TE} {i j : Int} {b : Bool}
def rIsi (K : PySem.W.Frag) : List V → Hp → VK → Prop := fun xs H Q => ∃ (x c : V) (t u : Value) (b : Bool), xs = [x, c] ∧ ClsV c u ∧ TyX K H x t ∧ PySem.W.kitOne K t u = some b ∧ Q (.bl b) H
theorem cr_isi {X : Cx} : CallR X (.builtin "isinstance") (rIsi X.K) := call_isi
/-- what a class must be that isinstance asks for -/
structure ICls (K : PySem.W.Frag) (C : Addr) : Prop where
  cl : Cls K C
  ha : PySem.W.findIn K (.ref C) "__class__" = some (some (.builtin "object.__class__"))
  hn : PySem.W.specialIn K (.builtin "object.__class__") "__get__" = some (some (.builtin "getset_descriptor.__get__"))
  htk : PySem.W.takesIn K (.builtin "object.__class__") = some true
  hm : PySem.W.mroIn K C (.type "object") = some true
  kit : PySem.W.kitOne K (.ref C) (.ref C) = some true
theorem xe_isi {c : V} {t u : Value} (ha : XE ta Γ Ω A Ω1) (hb : XE tc Γ Ω1 (vx c) Ω1) (hc : ClsV c u) (ht : ∀ F H v, Holds F Ω1 H → A.P F v → TyX T.K H v t) (hk : PySem.W.kitOne T.K t u = some b) :
    XE (tCB (rIsi T.K) (tCons ta (tCons tc tNil))) Γ Ω (va T b) Ω1 := xe_cb (xa_cons ha (xa_cons hb xa_nil)) fun F H vs hh a Q q => by
  obtain ⟨v, w, rfl, a1, a2⟩ := alA2 a
  have a2 : w = c := a2
  subst a2
  exact ⟨v, w, t, u, b, rfl, hc, ht F H v hh a1, hk, q F _ H (Same.refl F) hh rfl⟩
theorem xe_vx {c : V} : XE (tC c) Γ Ω (vx c) Ω := xe_c fun _ => rfl
theorem ty_int {F H : Hp} {v : V} (_ : Holds F Ω H) (a : (va T i).P F v) : TyX T.K H v (.type "int") := by
  have a : v = .int i := a
  subst a
  exact .base (.int i)
theorem ty_mach {F H : Hp} {v : V} {p : Addr} {k : Nat} {s : MS} (ic : ICls T.K (T.C 0)) (hk : Ω[k]? = some (machA T p s)) (hh : Holds F Ω H) (a : (vr p).P F v) : TyX T.K H v (.ref (T.C 0)) := by
  have a : v = .ref p := a
  subst a
  obtain ⟨t, ⟨dx, d, en, ws, m1, _⟩, st, _⟩ := hh.get hk
  exact .base (.ins (st _ _ m1) ic.cl ic.ha ic.hn ic.htk ic.hm)
theorem ty_big {F H : Hp} {v : V} {x : Bg} (ic : ICls T.K (T.C 1)) (hh : Holds F Ω H) (a : (va T x).P F v) : TyX T.K H v (.ref (T.C 1)) := by
  obtain ⟨p, dx, r, vs, rfl, h2, _⟩ := a
  exact .base (.ins (hh.same _ _ h2) ic.cl ic.ha ic.hn ic.htk ic.hm)
end
section
variable {X : Cx} {K : PySem.W.Frag} {e o tg l : Expr} {es : List Expr} {f m name : Str} {pos p1 p2 p3 apos cpos : Pos} {te ta tl : TE} {t : TA} {k : Nat} {id Tn : String} {r : V → List V → Hp → VK → Prop}
/-! the rules, the written part named (within a comprehension's block) -/
theorem pe_fldK (he : PE X e ta) (hb : attributeBase e f X.env (eval e X.env) = eval e X.env) (hK : X.K = K) : PE X (.Attribute e f pos) (tFld K ta f) := hK ▸ pe_fld he hb
theorem cr_lenK (hK : X.K = K) : CallR X (.builtin "len") (rLen K) := hK ▸ cr_len
theorem cr_listK (hK : X.K = K) : CallR X (.type "list") (rList K) := hK ▸ cr_list
theorem cr_isiK (hK : X.K = K) : CallR X (.builtin "isinstance") (rIsi K) := hK ▸ cr_isi
theorem cr_sumK (hc : X.calm = true) (hK : X.K = K) : CallR X (.builtin "sum") (rSum K) := hK ▸ cr_sum hc
theorem ix_seqK (hK : X.K = K) : IxR X (rIx K) := hK ▸ ix_seq
theorem sl_listK (hK : X.K = K) : SlR X (rSlL K) := hK ▸ sl_list
theorem op_eqXK (hu : X.A.units + 64 < cLine) (hK : X.K = K) : OpR X (compareOp .Eq) (rEqX K) := hK ▸ op_eqX hu
theorem op_neXK (hu : X.A.units + 64 < cLine) (hK : X.K = K) : OpR X (compareOp .NotEq) (rNeX K) := hK ▸ op_neX hu
theorem pe_revLK (he : PE X e te) (hK : X.K = K) : PE X (.Subscript e (.Slice none none (some (.UnaryOp .USub (.Constant (.int 1) k p1) p2)) p3) pos) (tRevL K te) := hK ▸ pe_revL he
theorem pi_listK (hl : PE X l tl) (hK : X.K = K) : PI X tg l (iList K tl) := hK ▸ pi_list hl
theorem pg_tupK {es : List Expr} {k : Nat} {t : TGs} {n : Nat} (hK : X.K = K) (hc : X.calm = true) (h : PGs X es t)
    (hn : (assignEach es X.env).length = n := by rfl) (hst : (assignEach es X.env).findIdx? (·.1) = none := by rfl) : PG X (.Tuple es k pos) (gTup K n t) := hK ▸ pg_tup hc h hn hst
theorem pi_tupK (hl : PE X l tl) (hK : X.K = K) : PI X tg l (iTup K tl) := hK ▸ pi_tup hl
end
theorem neK_ {α : Type} [DecidableEq α] {a b : α} (h : a = b) : (!decide (a = b)) = false := by rw [decide_eq_true h]; rfl
/-! ### promises of the machine's and the numbers' methods -/
def Pre_Mach_step (T : TC) : PreT := fun As Ω R => ∃ (k : Nat) (p : Addr) (s : MS) (wd : Str) (n : Int), As = [vr p, va T wd, va T n] ∧ Ω[k]? = some (machA T p s) ∧ wd ∈ mwords ∧ R = RV (va T ()) (stt Ω [(k, machA T p (s.step wd n))] [])
def Pre_Mach_enter (T : TC) : PreT := fun As Ω R => ∃ (k : Nat) (p : Addr) (s : MS) (wd : Str) (m n : Int), As = [vr p, va T wd, va T m, va T n] ∧ Ω[k]? = some (machA T p s) ∧ R = RV (va T ()) (stt Ω [(k, machA T p (s.enter wd m n))] [])
def Pre_Mach_reset (T : TC) : PreT := fun As Ω R => ∃ (k : Nat) (p : Addr) (s : MS), As = [vr p] ∧ Ω[k]? = some (machA T p s) ∧ R = RV (va T ()) (stt Ω [(k, machA T p s.reset)] [])
def Pre_Mach_tally (T : TC) : PreT := fun As Ω R => ∃ (k : Nat) (p : Addr) (s : MS), As = [vr p] ∧ Ω[k]? = some (machA T p s) ∧ R = RV (va T (LF.mk s.tally)) Ω
def Pre_Mach_walk (T : TC) : PreT := fun As Ω R => ∃ (k : Nat) (p : Addr) (s : MS), As = [vr p] ∧ Ω[k]? = some (machA T p s) ∧ R = RV (va T (LF.mk s.wk)) Ω
def Pre_Mach_parts (T : TC) : PreT := fun As Ω R => ∃ (k : Nat) (p : Addr) (s : MS), As = [vr p] ∧ Ω[k]? = some (machA T p s) ∧ R = RV (va T (s.w, s.c)) Ω
def Pre_Machine (T : TC) : PreT := fun As Ω R => ∃ (Ω0 : List OA) (p : Addr) (w c : Int), As = [vr p, va T w, va T c] ∧ ((8 ≤ w ∧ w ≤ 30) ∧ 2 ≤ c ∧ c ≤ 1000) ∧ Ω = Ω0 ++ [newA (T.C 0) p] ∧ R = RV (va T ()) (Ω0 ++ [machA T p (MS.fresh w c)])
def Pre_Big (T : TC) : PreT := fun As Ω R => ∃ (Ω0 : List OA) (p : Addr) (w v : Int) (row : List Int) (B : VA), (B = va T (LF.mk row) ∨ B = va T (TF.mk row)) ∧ As = [vr p, va T w, va T v, B] ∧ Ω = Ω0 ++ [newA (T.C 1) p] ∧ R = RV (va T ()) (Ω0 ++ [bigA T p ⟨w, row, v⟩])
/-- what must hold to go on -/
noncomputable def chkP (p : Prop) : Option Unit := @ite _ p (Classical.propDecidable p) (some ()) none
theorem chkP_some {p : Prop} {r : Unit} (h : chkP p = some r) : p := by
  unfold chkP at h
  split at h
  · assumption
  · cases h
end VL

set_option Elab.async false
set_option linter.all false
set_option maxRecDepth 100000
/-! == of data; new things side by side -/
namespace VL
open PySem L2
class Dat (α : Type) [Rp α] where
  dat : α → PyData
  ok : α → Prop
  dep : Nat
  dp : ∀ {T : TC} {F H : Hp} {v : V} {a : α}, Same F H → Rp.rep T F v a → Dp T.K H v (dat a)
  lay : ∀ {a : α}, ok a → (dat a).canLay0 = true
  depth : ∀ {a : α}, (dat a).depth ≤ dep
  eqv : ∀ {a b : α}, PyData.eqv (dat a) (dat b) = true ↔ a = b
instance : Dat Int := ⟨.int, fun _ => True, 0, fun _ h => by
    rw [show _ = V.int _ from h]; exact .int _, fun _ => rfl, Nat.le_refl _, fun {a b} => by
    show (a == b) = true ↔ a = b
    exact beq_iff_eq⟩
instance : Dat Bool := ⟨.bool, fun _ => True, 0, fun _ h => by
    rw [show _ = V.bl _ from h]; exact .bl _, fun _ => rfl, Nat.le_refl _, fun {a b} => by
    show (a == b) = true ↔ a = b
    exact beq_iff_eq⟩
instance : Dat Str := ⟨.str, fun s => (PyData.str s).canLay0 = true, 0, fun _ h => by
    rw [show _ = V.str _ from h]; exact .str _, fun h => h, Nat.le_refl _, fun {a b} => by
    show (a == b) = true ↔ a = b
    exact beq_iff_eq⟩
section
variable {α : Type} [Rp α] [Dat α]
theorem dp_all {T : TC} {F H : Hp} (e : Same F H) : ∀ {vs : List V} {l : List α}, Al T F vs l → DpAll T.K H vs (l.map Dat.dat)
  | _, _, .nil => .nil
  | _, _, .cons h t => .cons (Dat.dp e h) (dp_all e t)
theorem lay_all : ∀ {l : List α}, (∀ x ∈ l, Dat.ok x) → PyData.canLayAll0 (l.map Dat.dat) = true
  | [], _ => rfl
  | x :: r, h => by
    show (PyData.canLay0 (Dat.dat x) && PyData.canLayAll0 (r.map Dat.dat)) = true
    rw [Dat.lay (h x List.mem_cons_self), lay_all fun y hy => h y (List.mem_cons_of_mem _ hy)]
    rfl
theorem dep_all : ∀ {l : List α}, PyData.depthAll (l.map Dat.dat) ≤ Dat.dep α
  | [] => Nat.zero_le _
  | x :: r => by
    show max (PyData.depth (Dat.dat x)) (PyData.depthAll (r.map Dat.dat)) ≤ _
    exact Nat.max_le.mpr ⟨Dat.depth, dep_all⟩
theorem eqv_all : ∀ {l m : List α}, PyData.eqvAll (l.map Dat.dat) (m.map Dat.dat) = true ↔ l = m
  | [], [] => by simp [PyData.eqvAll]
  | [], _ :: _ => by simp [PyData.eqvAll]
  | _ :: _, [] => by simp [PyData.eqvAll]
  | x :: r, y :: s => by
    simp only [List.map_cons, PyData.eqvAll, Bool.and_eq_true, Dat.eqv, eqv_all, List.cons.injEq]
end
theorem depth_list {ds : List PyData} : (PyData.list ds).depth = PyData.depthAll ds + 1 := by simp [PyData.depth]
theorem depth_tuple {ds : List PyData} : (PyData.tuple ds).depth = PyData.depthAll ds + 1 := by simp [PyData.depth]
instance {α : Type} [Rp α] [Dat α] : Dat (LF α) := ⟨fun l => .list (l.l.map Dat.dat), fun l => ∀ x ∈ l.l, Dat.ok x, Dat.dep α + 1, fun e ⟨p, vs, h1, h2, h3⟩ => by
    rw [h1]; exact .lst (SqL.of (e _ _ h2)) (dp_all e h3), fun h => by show PyData.canLayAll0 _ = true; exact lay_all h, fun {a} => by rw [depth_list]; exact Nat.succ_le_succ dep_all, fun {a b} => by
    show PyData.eqvAll _ _ = true ↔ a = b
    rw [eqv_all]
    cases a; cases b; simp⟩
instance {α : Type} [Rp α] [Dat α] : Dat (TF α) := ⟨fun l => .tuple (l.l.map Dat.dat), fun l => ∀ x ∈ l.l, Dat.ok x, Dat.dep α + 1, fun e ⟨p, vs, h1, h2, h3⟩ => by
    rw [h1]; exact .tup (Same.tup e h2) (dp_all e h3), fun h => by show PyData.canLayAll0 _ = true; exact lay_all h, fun {a} => by rw [depth_tuple]; exact Nat.succ_le_succ dep_all, fun {a b} => by
    show PyData.eqvAll _ _ = true ↔ a = b
    rw [eqv_all]
    cases a; cases b; simp⟩
instance {α β : Type} [Rp α] [Rp β] [Dat α] [Dat β] : Dat (α × β) := ⟨fun l => .tuple [Dat.dat l.1, Dat.dat l.2], fun l => Dat.ok l.1 ∧ Dat.ok l.2, max (Dat.dep α) (Dat.dep β) + 1, fun e ⟨p, x, y, h1, h2, h3, h4⟩ => by
    rw [h1]; exact .tup (Same.tup e h2) (.cons (Dat.dp e h3) (.cons (Dat.dp e h4) .nil)), fun h => by
    show (PyData.canLay0 (Dat.dat _) && (PyData.canLay0 (Dat.dat _) && true)) = true
    rw [Dat.lay h.1, Dat.lay h.2]; rfl, fun {a} => by
    rw [depth_tuple]
    refine Nat.succ_le_succ ?_
    show max (PyData.depth (Dat.dat a.1)) (max (PyData.depth (Dat.dat a.2)) 0) ≤ _
    have h1 := Dat.depth (a := a.1)
    have h2 := Dat.depth (a := a.2)
    omega, fun {a b} => by
    show (PyData.eqv (Dat.dat a.1) (Dat.dat b.1) && (PyData.eqv (Dat.dat a.2) (Dat.dat b.2) && true)) = true ↔ a = b
    rw [Bool.and_true, Bool.and_eq_true, Dat.eqv, Dat.eqv]
    exact Prod.ext_iff.symm⟩
instance {α β γ : Type} [Rp α] [Rp β] [Rp γ] [Dat α] [Dat β] [Dat γ] : Dat (T3 α β γ) := ⟨fun l => .tuple [Dat.dat l.a, Dat.dat l.b, Dat.dat l.c], fun l => Dat.ok l.a ∧ Dat.ok l.b ∧ Dat.ok l.c, max (Dat.dep α) (max (Dat.dep β) (Dat.dep γ)) + 1, fun e ⟨p, x, y, z, h1, h2, h3, h4, h5⟩ => by
    rw [h1]; exact .tup (Same.tup e h2) (.cons (Dat.dp e h3) (.cons (Dat.dp e h4) (.cons (Dat.dp e h5) .nil))), fun h => by
    show (PyData.canLay0 (Dat.dat _) && (PyData.canLay0 (Dat.dat _) && (PyData.canLay0 (Dat.dat _) && true))) = true
    rw [Dat.lay h.1, Dat.lay h.2.1, Dat.lay h.2.2]; rfl, fun {a} => by
    rw [depth_tuple]
    refine Nat.succ_le_succ ?_
    show max (PyData.depth (Dat.dat a.a)) (max (PyData.depth (Dat.dat a.b)) (max (PyData.depth (Dat.dat a.c)) 0)) ≤ _
    have h1 := Dat.depth (a := a.a)
    have h2 := Dat.depth (a := a.b)
    have h3 := Dat.depth (a := a.c)
    omega, fun {a b} => by
    show (PyData.eqv (Dat.dat a.a) (Dat.dat b.a) && (PyData.eqv (Dat.dat a.b) (Dat.dat b.b) && (PyData.eqv (Dat.dat a.c) (Dat.dat b.c) && true))) = true ↔ a = b
    rw [Bool.and_true, Bool.and_eq_true, Bool.and_eq_true, Dat.eqv, Dat.eqv, Dat.eqv]
    cases a; cases b; simp⟩
/-- == -/
def eqD {α : Type} [Rp α] [Dat α] (x y : α) : Bool := PyData.eqv (Dat.dat x) (Dat.dat y)
theorem eqD_iff {α : Type} [Rp α] [Dat α] {x y : α} : eqD x y = true ↔ x = y := Dat.eqv
/-- A is data d -/
def IsD (T : TC) (Ω : List OA) (A : VA) (d : PyData) : Prop := ∀ F H v, Holds F Ω H → A.P F v → Dp T.K H v d
section
variable {T : TC} {Γ : List (Option VA)} {Ω Ω1 Ω2 Ω3 : List OA} {A B C : VA} {ta tb te : TE} {D : Ends} {F0 : Hp} {ts : TS} {b : Bool} {α : Type} [Rp α] [Dat α] {x y : α} {l m : List α} {p : Addr} {k : Nat}
theorem isD_va : IsD T Ω (va T x) (Dat.dat x) := fun F H v hh a => Dat.dp hh.same a
theorem shp {x : α} (h : Dat.ok x) (hd : Dat.dep α ≤ 64) : SeqAt.shaped (Dat.dat x) = true := by
  unfold SeqAt.shaped
  rw [Dat.lay h, Bool.true_and]
  exact decide_eq_true (Nat.le_trans Dat.depth hd)
theorem ro_eqD {d e : PyData} (h1 : IsD T Ω A d) (h2 : IsD T Ω B e) (s1 : SeqAt.shaped d = true) (s2 : SeqAt.shaped e = true) : RO (rEqX T.K) Ω A B (va T (PyData.eqv d e)) := fun F H x y hh a1 a2 Q q =>
  .inr ⟨d, e, h1 F H x hh a1, h2 F H y hh a2, s1, s2, q F _ H (Same.refl F) hh rfl⟩
theorem ro_neD {d e : PyData} (h1 : IsD T Ω A d) (h2 : IsD T Ω B e) (s1 : SeqAt.shaped d = true) (s2 : SeqAt.shaped e = true) : RO (rNeX T.K) Ω A B (va T (!PyData.eqv d e)) := fun F H x y hh a1 a2 Q q =>
  .inr ⟨d, e, h1 F H x hh a1, h2 F H y hh a2, s1, s2, q F _ H (Same.refl F) hh rfl⟩
theorem xe_neK (h : x = y ∧ Dat.ok x) (hd : Dat.dep α ≤ 64) (ha : XE ta Γ Ω A Ω1) (hb : XE tb Γ Ω1 B Ω2) (i1 : IsD T Ω2 A (Dat.dat x)) (i2 : IsD T Ω2 B (Dat.dat y)) : XE (tOp (rNeX T.K) ta tb) Γ Ω (va T false) Ω2 := by
  obtain ⟨h, o⟩ := h
  subst h
  have := xe_op ha hb (ro_neD i1 i2 (shp o hd) (shp o hd))
  rw [Dat.eqv.mpr rfl] at this
  exact this
theorem xe_appE {k : Nat} {p : Addr} {a : α} {l l2 : List α} {Ω2 : List OA} (h0 : Ω[k]? = some (lstA T p l2)) (hk : Ω1[k]? = some (lstA T p l)) (ha : XE ta Γ Ω (vr p) Ω) (hb : XE tb Γ Ω (va T a) Ω1) (hz : l.length < sizeLine) (he : Ω1.set k (lstA T p (l ++ [a])) = Ω2) :
    XE (tBM T.K "list" rAppend ta (tCons tb tNil)) Γ Ω (va T ()) Ω2 := he ▸ xe_app h0 hk ha hb hz
/-- == of data -/
theorem xe_eqD (h : Dat.ok x ∧ Dat.ok y) (hd : Dat.dep α ≤ 64) (ha : XE ta Γ Ω A Ω1) (hb : XE tb Γ Ω1 B Ω2) (i1 : IsD T Ω2 A (Dat.dat x)) (i2 : IsD T Ω2 B (Dat.dat y)) : XE (tOp (rEqX T.K) ta tb) Γ Ω (va T (eqD x y)) Ω2 := xe_op ha hb (ro_eqD i1 i2 (shp h.1 hd) (shp h.2 hd))
/-- things made in a turn are left -/
theorem Holds.cutL {F H : Hp} {Ω : List OA} {ks : List (Nat × OA)} {L M : List OA} (h : Holds F (stt Ω ks (L ++ M)) H) : Holds F (stt Ω ks L) H := by
  have e : stt Ω ks (L ++ M) = stt Ω ks L ++ M := (List.append_assoc _ _ _).symm
  rw [e] at h
  obtain ⟨ts, h1, h2, h3, h4, h5⟩ := h
  have len : (stt Ω ks L ++ M).length = (stt Ω ks L).length + M.length := List.length_append
  exact ⟨ts, fun i o q => h1 i o (by rw [List.getElem?_append_left (getlt q)]; exact q), h2, fun i q => h3 i (by omega), fun i b x q => h4 i b x (by omega), fun i j b x qi qj => h5 i j b x (by omega) (by omega)⟩
theorem NX.cutL {ks : List (Nat × OA)} {σ : L2.St} {H : Hp} {L' : List OA} (L M : List OA) (h : NX F0 Γ (stt Ω ks L') σ H) (e : L' = L ++ M := by rfl) : NX F0 Γ (stt Ω ks L) σ H := by
  subst e
  let ⟨F, f0, en, hh⟩ := h
  exact ⟨F, f0, en, hh.cutL⟩
end
/-! ### keyword arguments -/
/-- the parameters' values out of those that are written, by place -/
def prm {α : Type} (ix : List Nat) (l : List α) : List α := ix.filterMap fun i => l[i]?
theorem prm_rel {R : V → Value → Prop} : ∀ (ix : List Nat) {vs : List V} {us : List Value}, Paired R vs us → Paired R (prm ix vs) (prm ix us)
  | [], _, _, _ => .nil
  | i :: r, vs, us, h => by
    have hl := PySem.Paired.length h
    have ih := prm_rel r h
    have key : ∀ (vs : List V) (us : List Value), Paired R vs us → ∀ i : Nat, (vs[i]? = none ∧ us[i]? = none) ∨ ∃ v u, vs[i]? = some v ∧ us[i]? = some u ∧ R v u := by
      intro vs us h
      induction h with
      | nil => intro i; exact .inl ⟨by simp, by simp⟩
      | cons a t ih =>
        intro i
        cases i with
        | zero => exact .inr ⟨_, _, rfl, rfl, a⟩
        | succ i => simpa using ih i
    unfold prm
    rw [List.filterMap_cons, List.filterMap_cons]
    rcases key vs us h i with ⟨h1, h2⟩ | ⟨v, u, h1, h2, rr⟩
    · rw [h1, h2]; exact ih
    · rw [h1, h2]; exact .cons rr ih
theorem prm_relA {F : Hp} : ∀ (ix : List Nat) {vs : List V} {As : List VA}, AlA F vs As → AlA F (prm ix vs) (prm ix As)
  | [], _, _, _ => .nil
  | i :: r, vs, As, h => by
    have ih := prm_relA r h
    have key : ∀ (vs : List V) (As : List VA), AlA F vs As → ∀ i : Nat, (vs[i]? = none ∧ As[i]? = none) ∨ ∃ v A, vs[i]? = some v ∧ As[i]? = some A ∧ A.P F v := by
      intro vs As h
      induction h with
      | nil => intro i; exact .inl ⟨by simp, by simp⟩
      | cons a t ih =>
        intro i
        cases i with
        | zero => exact .inr ⟨_, _, rfl, rfl, a⟩
        | succ i => simpa using ih i
    unfold prm
    rw [List.filterMap_cons, List.filterMap_cons]
    rcases key vs As h i with ⟨h1, h2⟩ | ⟨v, u, h1, h2, rr⟩
    · rw [h1, h2]; exact ih
    · rw [h1, h2]; exact .cons rr ih
structure CalK (P : Program) (w : World) (K : PySem.W.Frag) (mg : Str → Option Value) (base : Heap) (k : Nat) (x : Str) (ps : List Str) (n : Nat) (ks : List Str) (ix : List Nat) (sp : Sp) : Prop where
  ex : ∃ f fd, FnOk P w K mg base CX0 k f fd ps sp ∧ mg x = some (.ref f) ∧ PySem.W.keepIn K (.ref f) = true ∧ KBn K fd ps n ks (fun us ws => prm ix (us ++ ws)) (fun vs zs => prm ix (vs ++ zs))
section
variable {X : Cx} {k n : Nat} {x : Str} {ps ks : List Str} {ix : List Nat} {sp : Sp} {p pos : Pos} {e : Expr} {es : List Expr} {kws : List Keyword} {t tk : TA}
end
section
variable {T : TC} {Γ : List (Option VA)} {Ω Ω1 Ω2 Ω3 : List OA} {A : VA} {As Ks : List VA}
end
end VL

set_option Elab.async false
set_option linter.all false
set_option maxRecDepth 100000
/-! frozen dicts from texts to ints; zip; pairs by place -/
namespace VL
open PySem L2 PyProof.Rows
structure DF where
  l : List (Str × Int)
def dkv (l : List (Str × Int)) : List (Key × V) := l.map fun q => (Sum.inr q.1, V.int q.2)
instance : Rp DF := ⟨fun T F v d => ∃ p od, v = .ref p ∧ F p = some (.frz od (.dK (dkv d.l))), fun e ⟨p, od, h1, h2⟩ => ⟨p, od, h1, e _ _ h2⟩⟩
/-- what an expression makes is locked for good -/
def tFz (te : TE) : TE := fun σ H Q => te σ H fun v H1 => ∃ p kvs, v = .ref p ∧ H1 p = some (.dK kvs) ∧ ∀ od, Q v (upd H1 p (.frz od (.dK kvs)))
theorem pe_fz {X : Cx} {e : Expr} {te : TE} (he : PE X e te) : PE X e (tFz te) := by
  refine ⟨fun pins s σ H Q I hw => ?_⟩
  refine thn (he.run pins s σ H _ I hw) fun u s1 ⟨x, H1, I1, rx, p, kvs, ex, hp, q⟩ => ?_
  obtain ⟨od, I2⟩ := I1.lock hp trivial
  exact ⟨x, _, I2, rx, q od⟩
/-! ### a dict on its way -/
def rawD (p : Addr) (kvs : List (Key × V)) : OA := ⟨fun _ t => t p = some (.dK kvs), fun _ h => h⟩
theorem Holds.newD {F H : Hp} {Ω : List OA} {p : Addr} {kvs : List (Key × V)} (h : Holds F Ω H) (n : H p = none) : Holds F (Ω ++ [rawD p kvs]) (upd H p (.dK kvs)) := by
  refine h.newO (t := upd (fun _ => none) p (.dK kvs)) (fun b x e => ?_) (same_upd n) (fun b x e => ?_) upd_same
  · by_cases hb : b = p
    · rw [hb]; exact n
    · rw [upd_ne hb] at e; cases e
  · by_cases hb : b = p
    · subst hb; rw [upd_same] at e ⊢; exact e
    · rw [upd_ne hb] at e; cases e
theorem Holds.fzD {F H : Hp} {Ω : List OA} {p : Addr} {kvs : List (Key × V)} {u : HO} (h : Holds F (Ω ++ [rawD p kvs]) H) : H p = some (.dK kvs) ∧ Holds (upd F p u) Ω (upd H p u) ∧ Same F (upd F p u) := by
  obtain ⟨ts, h1, h2, h3, h4, h5⟩ := h
  have len : (Ω ++ [rawD p kvs]).length = Ω.length + 1 := by simp
  have tp : ts Ω.length p = some (.dK kvs) := h1 Ω.length (rawD p kvs) app_at
  have nF : F p = none := h4 Ω.length p _ (by omega) tp
  have sF : Same F (upd F p u) := same_upd nF
  have nt : ∀ i, i < Ω.length → ts i p = none := fun i q => h5 Ω.length i p _ (by omega) (by omega) (by omega) tp
  refine ⟨h3 Ω.length (by omega) p _ tp, ⟨ts, fun i o q => o.mono sF (h1 i o (app_lt q)), fun b x e => ?_, fun i q b x e => ?_, fun i b x q e => ?_, fun i j b x qi qj ne e => h5 i j b x (by omega) (by omega) ne e⟩, sF⟩
  · by_cases hb : b = p
    · subst hb; rw [upd_same] at e ⊢; exact e
    · rw [upd_ne hb] at e ⊢; exact h2 b x e
  · by_cases hb : b = p
    · subst hb; rw [nt i q] at e; cases e
    · rw [upd_ne hb]; exact h3 i (by omega) b x e
  · by_cases hb : b = p
    · subst hb; rw [nt i q] at e; cases e
    · rw [upd_ne hb]; exact h4 i b x (by omega) e
section
variable {T : TC} {Γ : List (Option VA)} {Ω Ω1 Ω2 Ω3 : List OA} {A B C : VA} {ta tb te : TE} {D : Ends} {F0 : Hp} {ts : TS}
/-- keys that differ: merging leaves them as they are -/
theorem any_dkv {k : Str} : ∀ {l : List (Str × Int)}, (k ∉ l.map (·.1)) → ((dkv l).any fun kv => decide (kv.1 = (Sum.inr k : Key))) = false := by
  intro l h
  rw [List.any_eq_false]
  intro x hx
  obtain ⟨y, hy, rfl⟩ := List.mem_map.mp hx
  have : y.1 ≠ k := fun e => h (List.mem_map.mpr ⟨y, hy, e⟩)
  simp [this]
theorem merge_dkv : ∀ {l acc : List (Str × Int)}, ((acc ++ l).map (·.1)).Nodup → mergeK (dkv acc) (dkv l) = dkv (acc ++ l)
  | [], acc, _ => by rw [List.append_nil]; rfl
  | x :: r, acc, h => by
    have hx : x.1 ∉ acc.map (·.1) := fun m => by
      rw [List.map_append, List.nodup_append] at h
      exact h.2.2 _ m _ (by simp) rfl
    have e : mergeK (dkv acc) (dkv (x :: r)) = mergeK (putK (dkv acc) (Sum.inr x.1) (V.int x.2)) (dkv r) := rfl
    have e2 : putK (dkv acc) (Sum.inr x.1) (V.int x.2) = dkv (acc ++ [x]) := by
      unfold putK
      rw [any_dkv hx]
      show dkv acc ++ [(Sum.inr x.1, V.int x.2)] = _
      unfold dkv
      rw [List.map_append]
      rfl
    rw [e, e2, merge_dkv (l := r) (acc := acc ++ [x]) (by rw [List.append_assoc]; exact h), List.append_assoc]
    rfl
theorem merge0 {l : List (Str × Int)} (h : (l.map (·.1)).Nodup) : mergeK [] (dkv l) = dkv l := merge_dkv (acc := []) h
theorem val_dkv {k : Str} {v : Int} : ∀ {l : List (Str × Int)}, l.lookup k = some v → valV (dkv l) (Sum.inr k) = some (V.int v)
  | [], h => by cases h
  | x :: r, h => by
    by_cases e : x.1 = k
    · have hb : (k == x.1) = true := by rw [e]; exact beq_self_eq_true k
      have h2 : (match k == x.1 with | true => some x.2 | false => r.lookup k) = some v := h
      rw [hb] at h2
      have h3 : x.2 = v := Option.some.inj h2
      show valV ((Sum.inr x.1, V.int x.2) :: dkv r) (Sum.inr k) = _
      rw [valV_pos (p := ((Sum.inr x.1 : Key), V.int x.2)) (by show (Sum.inr x.1 : Key) = Sum.inr k; rw [e])]
      show some (V.int x.2) = _
      rw [h3]
    · have hb : (k == x.1) = false := by
        cases q : k == x.1 with
        | false => rfl
        | true => exact absurd (beq_iff_eq.mp q).symm e
      have h2 : (match k == x.1 with | true => some x.2 | false => r.lookup k) = some v := h
      rw [hb] at h2
      have ih := val_dkv (l := r) h2
      show valV ((Sum.inr x.1, V.int x.2) :: dkv r) (Sum.inr k) = _
      unfold valV at ih ⊢
      rw [List.find?_cons_of_neg (by simp [e])]
      exact ih
/-! ### a display -/
def XPs (trs : List (TE × TE)) (Γ : List (Option VA)) (Ω : List OA) (kvs : List (Str × Int)) : Prop :=
  ∀ F σ H, Env F σ Γ → Holds F Ω H → ∀ Q : List (V × V) → Hp → Prop, (∀ F' H', Same F F' → Holds F' Ω H' → Q (kvs.map fun q => (V.str q.1, V.int q.2)) H') → tPairs trs σ H Q
theorem xps_nil : XPs [] Γ Ω [] := fun F σ H e hh Q q => q F H (Same.refl F) hh
theorem xps_cons {tk tv : TE} {trs : List (TE × TE)} {k : Str} {v : Int} {r : List (Str × Int)} (hk : XE tk Γ Ω (va T k) Ω) (hv : XE tv Γ Ω (va T v) Ω) (hr : XPs trs Γ Ω r) : XPs ((tk, tv) :: trs) Γ Ω ((k, v) :: r) := fun F σ H e hh Q q => by
  refine hk F σ H e hh _ fun F1 x H1 Ω' e1 hh1 ⟨a1, o1⟩ => ?_
  subst o1
  refine hv F1 σ H1 (e.mono e1) hh1 _ fun F2 y H2 Ω' e2 hh2 ⟨a2, o2⟩ => ?_
  subst o2
  have a1 : x = V.str k := a1
  have a2 : y = V.int v := a2
  subst a1 a2
  exact hr F2 σ H2 ((e.mono e1).mono e2) hh2 _ fun F3 H3 e3 hh3 => q F3 H3 ((e1.trans e2).trans e3) hh3
theorem xe_disp {trs : List (TE × TE)} {kvs : List (Str × Int)} {ks : List (Nat × OA)} {L : List OA} (h : ∀ X, XPs trs Γ (stt Ω ks (L ++ [X])) kvs) (hn : (kvs.map (·.1)).Nodup) (h15 : kvs.length ≤ 15) : XE (tFz (tDisp trs)) Γ (stt Ω ks L) (va T (DF.mk kvs)) (stt Ω ks L) := fun F σ H e hh Q q => by
  intro p hp
  have hh1 := hh.newD (kvs := []) hp
  rw [stt_app] at hh1
  refine h (rawD p []) F σ _ e hh1 _ fun F2 H2 e2 hh2 => ?_
  rw [← stt_app] at hh2
  refine ⟨(hh2.fzD (u := .dK [])).1, dkv kvs, ?_, by unfold dkv; rw [List.length_map]; exact h15, p, _, rfl, upd_same, fun od => ?_⟩
  · unfold dkv
    rw [List.map_map]
    rfl
  · obtain ⟨_, hh3, e3⟩ := hh2.fzD (u := .frz od (.dK (mergeK [] (dkv kvs))))
    have eu : upd (upd H2 p (.dK (mergeK [] (dkv kvs)))) p (.frz od (.dK (mergeK [] (dkv kvs)))) = upd H2 p (.frz od (.dK (mergeK [] (dkv kvs)))) := by
      funext b
      by_cases hb : b = p
      · subst hb; rw [upd_same, upd_same]
      · rw [upd_ne hb, upd_ne hb, upd_ne hb]
    rw [eu]
    exact q _ _ _ _ (e2.trans e3) hh3 ⟨⟨p, od, rfl, by rw [upd_same, merge0 hn]⟩, rfl⟩
/-! ### dict(pairs) -/
def rDictP (K : PySem.W.Frag) : List V → Hp → VK → Prop := fun xs H Q => ∃ (a : Addr) (ps : List Addr) (kvs : List (Key × V)), xs = [.ref a] ∧ SqL K H a (ps.map V.ref) ∧ Paired (fun p kv => SqT K H p [kV kv.1, kv.2]) ps kvs ∧
    ∀ p, H p = none → Q (.ref p) (upd H p (.dK (mergeK [] kvs)))
theorem cr_dictPK {X : Cx} {K : PySem.W.Frag} (hc : X.calm = true) (hK : X.K = K) : CallR X (.type "dict") (rDictP K) := hK ▸ call_dictP hc
theorem pairs_al {F : Hp} : ∀ {vs : List V} {l : List (Str × Int)}, Al T F vs l → ∃ ps : List Addr, vs = ps.map V.ref ∧ Paired (fun p kv => SqT T.K F p [kV kv.1, kv.2]) ps (dkv l)
  | _, _, .nil => ⟨[], rfl, .nil⟩
  | _, _, .cons h t => by
    obtain ⟨p, x, y, hv, hs, h1, h2⟩ := h
    have h1 : x = V.str _ := h1
    have h2 : y = V.int _ := h2
    obtain ⟨ps, e, pr⟩ := pairs_al t
    subst h1 h2
    exact ⟨p :: ps, by rw [hv, e]; rfl, .cons hs pr⟩
theorem paired_imp {α β : Type} {R R' : α → β → Prop} (k : ∀ a b, R a b → R' a b) : ∀ {xs : List α} {ys : List β}, Paired R xs ys → Paired R' xs ys
  | _, _, .nil => .nil
  | _, _, .cons h t => .cons (k _ _ h) (paired_imp k t)
theorem fz_upd {H : Hp} {p : Addr} {u u' : HO} : upd (upd H p u) p u' = upd H p u' := by
  funext b
  by_cases hb : b = p
  · subst hb; rw [upd_same, upd_same]
  · rw [upd_ne hb, upd_ne hb, upd_ne hb]
theorem xe_dictP {l : List (Str × Int)} (ha : XE te Γ Ω A Ω1) (h : IsL T Ω1 A l) (hn : (l.map (·.1)).Nodup) : XE (tFz (tCB (rDictP T.K) (tCons te tNil))) Γ Ω (va T (DF.mk l)) Ω1 := fun F σ H e hh Q q => by
  refine ha F σ H e hh _ fun F1 x H1 Ω' e1 hh1 ⟨a1, o1⟩ => ?_
  subst o1
  obtain ⟨p, ws, ev, hs, al⟩ := h F1 H1 x hh1 a1
  obtain ⟨ps, ew, pr⟩ := pairs_al al
  refine ⟨p, ps, dkv l, by rw [ev], (by rw [← ew]; exact hs), paired_imp (fun a b q => Same.tup hh1.same q) pr, fun d hd => ?_⟩
  refine ⟨d, _, rfl, upd_same, fun od => ?_⟩
  rw [fz_upd]
  obtain ⟨hh3, e3⟩ := hh1.newF (u := .frz od (.dK (mergeK [] (dkv l)))) hd
  exact q _ _ _ _ (e1.trans e3) hh3 ⟨⟨d, od, rfl, by rw [upd_same, merge0 hn]⟩, rfl⟩
/-! ### == where it is known to hold -/
def rEqF : R2 := fun x y H Q => ∃ a b oa ob ks ls, x = .ref a ∧ y = .ref b ∧ H a = some (.frz oa (.dK ks)) ∧ H b = some (.frz ob (.dK ls)) ∧ ks.length = ls.length ∧ (∀ p ∈ ks, valV ls p.1 = some p.2 ∧ flatB p.2 = true) ∧ Q (.bl true) H
theorem op_eqF {X : Cx} (units : X.A.units < cLine) : OpR X (compareOp .Eq) rEqF := by
  intro pins s σ H x y v u Q inv r1 r2 h
  obtain ⟨a, b, oa, ob, ks, ls, rfl, rfl, ha, hb, len, vals, q⟩ := h
  obtain rfl : v = Value.ref a := r1
  obtain rfl : u = Value.ref b := r2
  have okA : ObjOk X.prog X.w H s.heap a (.dK ks) := (show s.heap.get? a = some oa ∧ ObjOk X.prog X.w H s.heap a (.dK ks) from inv.hok a _ ha).2
  have okB : ObjOk X.prog X.w H s.heap b (.dK ls) := (show s.heap.get? b = some ob ∧ ObjOk X.prog X.w H s.heap b (.dK ls) from inv.hok b _ hb).2
  obtain ⟨_, n1, w1, k1, d1⟩ := okA
  obtain ⟨_, n2, w2, k2, d2⟩ := okB
  have same : w1.length = w2.length := by rw [← k1.length, ← k2.length]; exact len
  exact PySem.W.keq_eq (r := true) (knd := mixKind X.prog X.w) n1 n2 d1 d2 units (fun _ => hits_all k2 k1 vals) (fin_bl inv q (by simp [same]))
/-- the same keys, the same numbers -/
def sameD (l m : List (Str × Int)) : Prop := l.length = m.length ∧ ∀ x ∈ l, m.lookup x.1 = some x.2
theorem xe_eqDF {l m : List (Str × Int)} (ha : XE ta Γ Ω (va T (DF.mk l)) Ω1) (hb : XE tb Γ Ω1 (va T (DF.mk m)) Ω2) (h : sameD l m) : XE (tOp rEqF ta tb) Γ Ω (va T true) Ω2 := xe_op ha hb fun F H x y hh a1 a2 Q q => by
  obtain ⟨p, o1, rfl, h1⟩ := a1
  obtain ⟨p2, o2, rfl, h2⟩ := a2
  refine ⟨p, p2, o1, o2, dkv l, dkv m, rfl, rfl, hh.same _ _ h1, hh.same _ _ h2, by unfold dkv; rw [List.length_map, List.length_map]; exact h.1, fun z hz => ?_, q F _ H (Same.refl F) hh rfl⟩
  obtain ⟨x, hx, rfl⟩ := List.mem_map.mp hz
  exact ⟨val_dkv (h.2 x hx), rfl⟩
/-! ### a pair's part -/
theorem xe_fst {α β : Type} [Rp α] [Rp β] {z : α × β} (ha : XE te Γ Ω (va T z) Ω1) : XE (tOp (rIx T.K) te (tC (.int 0))) Γ Ω (va T z.1) Ω1 := xe_op ha (xe_int (T := T) (n := 0)) fun F H x y hh a1 a2 Q q => by
  obtain ⟨p, u, v, rfl, hs, r1, r2⟩ := a1
  exact .inr (.inl ⟨p, _, 0, u, rfl, a2, Same.tup hh.same hs, rfl, q F u H (Same.refl F) hh r1⟩)
def rSumT (K : PySem.W.Frag) : List V → Hp → VK → Prop := fun vs H Q => ∃ (a : Addr) (ns : List Int), vs = [V.ref a] ∧ SqT K H a (ns.map V.int) ∧ Q (.int ns.sum) H
end
end VL

set_option Elab.async false
set_option linter.all false
set_option maxRecDepth 100000
/-! enumerate over a tuple; a truth whose second part may have no value; slices of tuples -/
namespace VL
open PySem L2 PyProof.Rows
/-- the tuple at a, its items in new pairs with their places -/
def IteT (K : PySem.W.Frag) (a : Addr) : It :=
  ⟨fun i H => ∃ xs x, SqT K H a xs ∧ xs[i]? = some x, fun i H v H' => ∃ p x, v = .ref p ∧ H p = none ∧ H' = upd H p (.tup [.int (i : Nat), x]) ∧ ∀ xs, SqT K H a xs → xs[i]? = some x, fun i H => ∃ xs, SqT K H a xs ∧ xs.length = i⟩
def iEnumT (K : PySem.W.Frag) (ta : TA) : TI := fun σ H R => ta σ H fun vs H1 => ∃ a xs, vs = [.ref a] ∧ SqT K H1 a xs ∧ R (IteT K a) H1
section
variable {T : TC} {Γ : List (Option VA)} {Ω Ω1 Ω2 Ω3 : List OA} {A B C : VA} {ta tb te : TE} {b : Bool} {α : Type} [Rp α] {l : List α}
/-- the items with their places -/
def nums (l : List α) : List (Int × α) := (rng 0 l.length).zip l
/-! ### a truth whose second part may have no value -/
theorem xe_andO {mb : Option Bool} {v : Bool} (h1 : XE ta Γ Ω (va T b) Ω) (hm : (if b = true then mb else some false) = some v) (h2 : ∀ v, mb = some v → XE tb Γ Ω (va T v) Ω) : XE (tAndV ta tb) Γ Ω (va T v) Ω := fun F σ H e hh Q q => by
  refine h1 F σ H e hh _ fun F1 x H1 Ω' e1 hh1 ⟨a1, o1⟩ => ?_
  subst o1
  refine ⟨b, a1, ?_⟩
  cases b with
  | true =>
    rw [if_pos rfl] at hm ⊢
    exact h2 v hm F1 σ H1 (e.mono e1) hh1 Q fun F2 y H2 Ω'' e2 hh2 r => q F2 y H2 Ω'' (e1.trans e2) hh2 r
  | false =>
    rw [if_neg Bool.false_ne_true] at hm ⊢
    cases hm
    exact q F1 _ H1 _ e1 hh1 ⟨rfl, rfl⟩
/-! ### a pair of a new list and a value -/
def RNP (T : TC) (Ω2 : List OA) (o : Addr → OA) (B : VA) : Hp → V → List OA → Prop := fun F v Ω' => ∃ p t w, v = .ref t ∧ SqT T.K F t [.ref p, w] ∧ B.P F w ∧ Ω' = Ω2 ++ [o p]
def RNQ (T : TC) (Ω2 : List OA) (p : Addr) (B : VA) : Hp → V → List OA → Prop := fun F v Ω' => ∃ t w, v = .ref t ∧ SqT T.K F t [.ref p, w] ∧ B.P F w ∧ Ω' = Ω2
end
end VL

set_option Elab.async false
set_option linter.all false
set_option maxRecDepth 100000
/-! == and != by the text's own __eq__ -/
namespace VL
open PySem L2 PyProof.Rows
/-- the class at C: a plain one, with its own __eq__ at f, without __ne__ -/
theorem ns_some {K : PySem.W.Frag} {h : Heap} {N : Addr} {mp : Str → Option Value} {k : Str} {v : Value} (X : K.In h) (ns : h.Ns N mp) (found : PySem.W.nsIn K N k = some (some v)) : mp k = some v := by
  obtain ⟨ob, ents, cnt, at1, data1, _, find1⟩ := ns
  unfold PySem.W.nsIn at found
  split at found
  · rename_i c d ents2 n' sl q
    have same := X _ _ q
    rw [at1] at same
    cases same
    cases data1
    split at found
    · rename_i entry hit
      cases found
      rw [← find1]
      unfold nsFind findBy
      rw [← Array.find?_toList, hit] <;> rfl
    · split at found <;> cases found
  · cases found
theorem lookup_eq : typeLookup (.type "object") "__eq__" = pure (some (.builtin "object.__eq__")) := by rw [typeLookup_type, builtinLookup_eq_fast]; kernel_rfl
theorem own_ne {K : PySem.W.Frag} {h : Heap} {C f x dx : Addr} {mA : Str → Option Value} (X : K.In h) (q : ownB K C f = true) (hx : ObjM h x dx C mA) : h.OwnEqNoNe x C f "object" [.type "object"] := by
  unfold ownB at q
  split at q
  · rename_i t dd cd sl lk
    split at q
    · rename_i C' b k0 k1 k2 k3 n k5 em es
      obtain ⟨q1, q⟩ := He.ba q
      obtain ⟨q2, q⟩ := He.ba q
      obtain ⟨q3, q⟩ := He.ba q
      obtain ⟨q4, q⟩ := He.ba q
      obtain ⟨q5, q⟩ := He.ba q
      obtain ⟨q6, q⟩ := He.ba q
      obtain ⟨q7, q8⟩ := He.ba q
      have q1 := of_decide_eq_true q1
      have q2 := of_decide_eq_true q2
      have q3 := of_decide_eq_true q3
      subst q1 q2 q3
      obtain ⟨nm, bases, mro, ns, qn, hd, sn, sub, ab, col, del⟩ := cd
      simp only [Bool.not_eq_true'] at em q4 q5 q6 q7
      subst em q4
      obtain ⟨sl⟩ := sl
      simp only at es
      subst es
      split at q8
      · rename_i u fd2 fdt fsl lf
        have q8 := of_decide_eq_true q8
        subst q8
        exact ⟨_, _, nm, qn, ns, bases, hd, sn, sub, ab, col, dd, k0, k1, k2, k3, k5, n, _, _, hx.obj, rfl, X _ _ lk, .of_isNs (PySem.W.isNs_of_in X q5), (ns_some X (.of_isNs (PySem.W.isNs_of_in X q5)) (He.eqO_ok q7)), X _ _ lf, rfl, PySem.F.mro_object, lookup_eq, PySem.W.nsMap_none_of_in X q5 (He.eqO_ok q6)⟩
      · cases q8
    · cases q
  · cases q
/-- x == y, x != y of two instances of the class at C: what its own __eq__ promises -/
def rOwnEq (C : Addr) (sp : Sp) : R2 := fun x y H Q => ∃ a b dx dy fs gs, x = .ref a ∧ y = .ref b ∧ H a = some (.ins C dx fs) ∧ H b = some (.ins C dy gs) ∧ sp [x, y] H (fun v H' => ∃ r, v = .bl r ∧ Q (.bl r) H') E0
def rOwnNe (C : Addr) (sp : Sp) : R2 := fun x y H Q => ∃ a b dx dy fs gs, x = .ref a ∧ y = .ref b ∧ H a = some (.ins C dx fs) ∧ H b = some (.ins C dy gs) ∧ sp [x, y] H (fun v H' => ∃ r, v = .bl r ∧ Q (.bl (!r)) H') E0
section
variable {X : Cx} {n : Nat} {C f : Addr} {fd : FuncData} {ps : List Str} {sp : Sp}
/-- the call of __eq__ at a place with room -/
theorem call_own {A : Around} (F : FnOk X.prog X.w X.K X.mg X.base CX0 n f fd ps sp) (hb : Binds X.K fd ps []) (room : Room n A) (fr : A.frames = X.A.frames) {pins : List (Addr × Obj)} {σ : L2.St} {H : Hp} {s : Shared} {x y : V} {u v : Value} {Q : VK} (I : Inv X pins σ H s) (r1 : RelV x u) (r2 : RelV y v) (q : sp [x, y] H Q E0) :
    wpAny (model X.prog X.w) A (call (.ref f) [u, v]) (EP X pins σ Q) X.xe s := by
  have e0 : Env0 X.prog X.w X.K X.mg X.base A X.stack s H := by
    have b := I.env0
    exact ⟨by rw [fr]; exact b.frames, b.mod, b.bs, b.bsz, b.funs, b.frf, b.hok, b.bare⟩
  have len := F.len _ _ _ _ q
  have two : Vals [x, y] [u, v] := .cons r1 (.cons r2 .nil)
  refine wpAny_call (codeAny_mono (F.run A X.stack s H ⟨[u, v], []⟩ [u, v] [x, y] Q E0 room e0 (by
    have z := hb s [u, v] I.kIn (by simpa using len)
    simpa using z) two q) fun res s' out => ?_)
  cases res with
  | error e => exact False.elim out
  | ok fl =>
    cases fl with
    | ret w => exact I.after out
    | next => exact False.elim out
    | brk => exact False.elim out
    | cont => exact False.elim out
theorem op_ownNe (F : FnOk X.prog X.w X.K X.mg X.base CX0 n f fd ps sp) (own : ownB X.K C f = true) (hb : Binds X.K fd ps []) (room : Room (n + 1) X.A) : OpR X (compareOp .NotEq) (rOwnNe C sp) := by
  intro pins s σ H x y v u Q I r1 r2 h
  obtain ⟨a, b, dx, dy, fs, gs, rfl, rfl, ha, hb', q⟩ := h
  obtain rfl : v = Value.ref a := r1
  obtain rfl : u = Value.ref b := r2
  obtain ⟨mA, J, _⟩ := ins_get I.hok ha
  obtain ⟨mB, J', _⟩ := ins_get I.hok hb'
  have ne := own_ne I.kIn own J
  have hy := J'.obj
  have r3 := call_own F hb room.in1 rfl I (show RelV (V.ref a) (Value.ref a) from rfl) (show RelV (V.ref b) (Value.ref b) from rfl) q
  obtain ⟨hp, g, d, t, os⟩ := s
  refine compareOp_ne_ownEq PySem.F.cmp_object ne hy rfl ?_ (wpAny_mono r3 (fun w s' z => ?_) fun _ _ z => z)
  · have := room.un
    omega
  · obtain ⟨z, H', I', rz, r, ez, q'⟩ := z
    subst ez
    obtain rfl : w = Value.bool r := rz
    exact ⟨r, rfl, .bl (!r), H', I', rfl, q'⟩
theorem op_ownEq (F : FnOk X.prog X.w X.K X.mg X.base CX0 n f fd ps sp) (own : PySem.W.findIn X.K (.ref C) "__eq__" = some (some (.ref f))) (isf : PySem.W.isFn X.K (.ref f) = true) (hb : Binds X.K fd ps []) (room : Room n X.A) : OpR X (compareOp .Eq) (rOwnEq C sp) := by
  intro pins s σ H x y v u Q I r1 r2 h
  obtain ⟨a, b, dx, dy, fs, gs, rfl, rfl, ha, hb', q⟩ := h
  obtain rfl : v = Value.ref a := r1
  obtain rfl : u = Value.ref b := r2
  obtain ⟨mA, J, _⟩ := ins_get I.hok ha
  obtain ⟨mB, J', _⟩ := ins_get I.hok hb'
  obtain ⟨od, J, _⟩ := J.look
  obtain ⟨od', J', _⟩ := J'.look
  obtain ⟨m, fr⟩ := I.fr
  have r3 := call_own F hb room rfl I (show RelV (V.ref a) (Value.ref a) from rfl) (show RelV (V.ref b) (Value.ref b) from rfl) q
  show wpAny (model X.prog X.w) X.A (richCompare .Eq (.ref a) (.ref b)) (EP X pins σ Q) X.xe s
  refine PySem.W.cmp_K (tb := .ref C) (op := .Eq) room.units0 fr I.ok.mod.kin J J'.type (by simp [PySem.W.notFirst]) own isf (wpAny_mono r3 (fun w s' z => ?_) fun _ _ z => z)
  obtain ⟨z, H', I', rz, r, ez, q'⟩ := z
  subst ez
  obtain rfl : w = Value.bool r := rz
  exact ⟨.bl r, H', I', rfl, q'⟩
end
section
variable {T : TC} {Γ : List (Option VA)} {Ω Ω1 Ω2 Ω3 : List OA} {A B C : VA} {ta tb te : TE} {x y : Bg} {r : Bool}
theorem xe_ownNe {Pre : PreT} {Ω' : List OA} (ha : XE ta Γ Ω (va T x) Ω1) (hb : XE tb Γ Ω1 (va T y) Ω2) (hp : Pre [va T x, va T y] Ω2 (RV (va T r) Ω')) (he : Ω' = Ω2) : XE (tOp (rOwnNe (T.C 1) (mkSp Pre)) ta tb) Γ Ω (va T (!r)) Ω2 := xe_op ha hb fun F H u v hh a1 a2 Q q => by
  subst he
  obtain ⟨p, dx, r1, vs, rfl, h1, h2, h3⟩ := id a1
  obtain ⟨p2, dx2, r2, vs2, rfl, g1, g2, g3⟩ := id a2
  refine ⟨p, p2, dx, dx2, _, _, rfl, rfl, hh.same _ _ h1, hh.same _ _ g1, F, _, _, _, hp, .cons a1 (.cons a2 .nil), hh, fun F' w H' Ω'' s' hh' ⟨aw, eo⟩ => ?_⟩
  subst eo
  exact ⟨r, aw, q F' _ H' s' hh' rfl⟩
theorem xe_ownEq {Pre : PreT} {Ω' : List OA} (ha : XE ta Γ Ω (va T x) Ω1) (hb : XE tb Γ Ω1 (va T y) Ω2) (hp : Pre [va T x, va T y] Ω2 (RV (va T r) Ω')) (he : Ω' = Ω2) : XE (tOp (rOwnEq (T.C 1) (mkSp Pre)) ta tb) Γ Ω (va T r) Ω2 := xe_op ha hb fun F H u v hh a1 a2 Q q => by
  subst he
  obtain ⟨p, dx, r1, vs, rfl, h1, h2, h3⟩ := id a1
  obtain ⟨p2, dx2, r2, vs2, rfl, g1, g2, g3⟩ := id a2
  refine ⟨p, p2, dx, dx2, _, _, rfl, rfl, hh.same _ _ h1, hh.same _ _ g1, F, _, _, _, hp, .cons a1 (.cons a2 .nil), hh, fun F' w H' Ω'' s' hh' ⟨aw, eo⟩ => ?_⟩
  subst eo
  exact ⟨r, aw, q F' _ H' s' hh' rfl⟩
/-- a method of a number -/
theorem xe_mcallB {m : Str} {Pre : PreT} {E : XK} {t : TA} {As : List VA} {Ω' : List OA} (ha : XE ta Γ Ω (va T x) Ω1) (hx : XA t Γ Ω1 As Ω2) (hp : Pre (va T x :: As) Ω2 (RV A Ω')) (he : Ω' = Ω3)
    (hm : (m == "width" || m == "side" || m == "row" || m == "value") = false := by decide +kernel) : XE (tMeth (T.C 1) m (mkSp Pre) [] E ta t) Γ Ω A Ω3 := fun F σ H e hh Q q => by
  subst he
  refine ha F σ H e hh _ fun F1 v H1 Ωa e1 hh1 ⟨a1, o1⟩ => ?_
  subst o1
  obtain ⟨p, dx, r1, vs, rfl, h1, h2, h3⟩ := id a1
  simp only [Bool.or_eq_false_iff] at hm
  refine ⟨p, dx, _, rfl, hh1.same _ _ h1, by rw [look_ne hm.1.1.1, look_ne hm.1.1.2, look_ne hm.1.2, look_ne hm.2]; rfl, ?_⟩
  refine hx F1 σ H1 (e.mono e1) hh1 _ fun F2 ws H2 e2 hh2 a2 => ?_
  refine ⟨F2, Ω2, va T x :: As, _, hp, ?_, hh2, fun F' w H' Ω3 e' hh' r => q F' w H' Ω3 ((e1.trans e2).trans e') hh' r⟩
  rw [List.append_nil]
  exact .cons ((va T x).mono e2 a1) a2
end
structure CalEq (P : Program) (w : World) (K : PySem.W.Frag) (mg : Str → Option Value) (base : Heap) (n : Nat) (C : Addr) (sp : Sp) : Prop where
  ex : ∃ f fd, FnOk P w K mg base CX0 n f fd ["self", "other"] sp ∧ ownB K C f = true ∧ Meth K C "__eq__" f ∧ Binds K fd ["self", "other"] []
section
variable {X : Cx} {n : Nat} {C : Addr} {sp : Sp}
theorem op_neC (c : CalEq X.prog X.w X.K X.mg X.base n C sp) (room : Room (n + 1) X.A) : OpR X (compareOp .NotEq) (rOwnNe C sp) := by
  obtain ⟨f, fd, F, own, _, hb⟩ := c.ex
  exact op_ownNe F own hb room
theorem op_eqC (c : CalEq X.prog X.w X.K X.mg X.base n C sp) (room : Room (n + 1) X.A) : OpR X (compareOp .Eq) (rOwnEq C sp) := by
  obtain ⟨f, fd, F, own, me, hb⟩ := c.ex
  exact op_ownEq F me.1 me.2 hb (room.mono (Nat.le_succ n))
end
end VL

set_option Elab.async false
set_option linter.all false
set_option maxRecDepth 100000
/-! bits joined; tuples of four -/
namespace VL
open PySem L2
structure T4 (α β γ δ : Type) where
  a : α
  b : β
  c : γ
  d : δ
instance {α β γ δ : Type} [Rp α] [Rp β] [Rp γ] [Rp δ] : Rp (T4 α β γ δ) := ⟨fun T F v l => ∃ p x y z u, v = .ref p ∧ SqT T.K F p [x, y, z, u] ∧ Rp.rep T F x l.a ∧ Rp.rep T F y l.b ∧ Rp.rep T F z l.c ∧ Rp.rep T F u l.d,
  fun e ⟨p, x, y, z, u, h1, h2, h3, h4, h5, h6⟩ => ⟨p, x, y, z, u, h1, Same.tup e h2, Rp.mono e h3, Rp.mono e h4, Rp.mono e h5, Rp.mono e h6⟩⟩
section
variable {T : TC} {Γ : List (Option VA)} {Ω Ω1 Ω2 Ω3 : List OA} {A B C : VA} {As : List VA} {ta tb te : TE} {t u : TT} {i j n m : Int} {b c : Bool}
theorem xe_bor (ha : XE ta Γ Ω (va T i) Ω1) (hb : XE tb Γ Ω1 (va T j) Ω2) : XE (tOp (rI0 fun i j => .int (Builtin.bitOr i j)) ta tb) Γ Ω (va T (Builtin.bitOr i j)) Ω2 := xe_op ha hb ro_int
theorem xe_bxor (ha : XE ta Γ Ω (va T i) Ω1) (hb : XE tb Γ Ω1 (va T j) Ω2) : XE (tOp (rI0 fun i j => .int (Builtin.bitXor i j)) ta tb) Γ Ω (va T (Builtin.bitXor i j)) Ω2 := xe_op ha hb ro_int
theorem xe_bnot (ha : XE ta Γ Ω (va T i) Ω1) : XE (tUn (rU fun i => .int (Builtin.bitNot i)) ta) Γ Ω (va T (Builtin.bitNot i)) Ω1 := xe_un ha ru_int
theorem cal0' {Ω : List OA} : stt Ω [] [] = Ω := List.append_nil _
end
end VL

set_option Elab.async false
set_option linter.all false
set_option maxRecDepth 100000
/-! texts compared; items of a dict; enumerate over a list; lists unpacked; extend -/
namespace VL
open PySem L2
section
variable {T : TC} {Γ : List (Option VA)} {Ω Ω1 Ω2 Ω3 : List OA} {A B C : VA} {As : List VA} {ta tb te ti : TE} {t u : TT} {i j n m : Int} {b c : Bool} {x y : Str}
theorem ro_eqS : RO rEq Ω (va T x) (va T y) (va T (decide (x = y))) := fun F H v w hh a1 a2 Q q => by
  have a1 : v = .str x := a1
  have a2 : w = .str y := a2
  subst a1 a2
  refine ⟨rfl, q F _ H (Same.refl F) hh ?_⟩
  show V.bl _ = V.bl _
  congr 1
  exact decide_eq_decide.mpr ⟨V.str.inj, fun h => by rw [h]⟩
theorem xe_eqS (ha : XE ta Γ Ω (va T x) Ω1) (hb : XE tb Γ Ω1 (va T y) Ω2) : XE (tOp (rEqX T.K) ta tb) Γ Ω (va T (decide (x = y))) Ω2 := xe_op ha hb (ro_or1 ro_eqS)
/-! isinstance of a list, a tuple, a truth -/
theorem ty_lst {α : Type} [Rp α] {l : List α} {F H : Hp} {v : V} (hh : Holds F Ω H) (a : (va T (LF.mk l)).P F v) : TyX T.K H v (.type "list") := by
  obtain ⟨p, vs, rfl, h, _⟩ := a
  exact .base (.lst (hh.same _ _ h))
theorem ty_bool {F H : Hp} {v : V} (_ : Holds F Ω H) (a : (va T b).P F v) : TyX T.K H v (.type "bool") := by
  have a : v = .bl b := a
  subst a
  exact .base (.bl b)
/-! all(xs), xs a list of truths -/
theorem al_bool {F : Hp} : ∀ {vs : List V} {l : List Bool}, Al T F vs l → vs = l.map V.bl
  | _, _, .nil => rfl
  | _, _, .cons h t => by rw [List.map_cons, ← al_bool t, show _ = V.bl _ from h]
theorem xe_all {l : List Bool} (ha : XE te Γ Ω A Ω1) (h : IsL T Ω1 A l) : XE (tCB (rAll T.K) (tCons te tNil)) Γ Ω (va T (l.all id)) Ω1 := xe_cb (xa_cons ha xa_nil) fun F H vs hh a Q q => by
  obtain ⟨v, rfl, a1⟩ := alA1 a
  obtain ⟨p, ws, e, hs, al⟩ := h F H v hh a1
  subst e
  refine ⟨p, l, rfl, ?_, q F _ H (Same.refl F) hh rfl⟩
  rw [← al_bool al]
  exact hs
def un2 {α : Type} : List α → Option (α × α)
  | [a, b] => some (a, b)
  | _ => none
/-! items of a dict -/
theorem wk_items {p : Addr} {od : Obj} {l : List (Str × Int)} : Wk (Iti p od (dkv l)) (fun F => F p = some (.frz od (.dK (dkv l)))) l (fun z => va T z) where
  mono := fun F F' e h => e _ _ h
  go := fun i F Ω H h hh hi => ⟨hh.same _ _ h, by unfold dkv; rw [List.length_map]; exact hi⟩
  stop := fun F Ω H h hh => ⟨hh.same _ _ h, by unfold dkv; rw [List.length_map]; exact Nat.le_refl _⟩
  yld := fun i z F Ω H v H' h hh hz y => by
    obtain ⟨q, k, w, hk, ev, hq, eH⟩ := y
    subst ev eH
    unfold dkv at hk
    rw [List.getElem?_map, hz] at hk
    have hk := Option.some.inj hk
    have h1 : k = Sum.inr z.1 := (congrArg Prod.fst hk).symm
    have h2 : w = V.int z.2 := (congrArg Prod.snd hk).symm
    subst h1 h2
    obtain ⟨hh2, e2⟩ := hh.newF (u := .tup [kV (Sum.inr z.1), V.int z.2]) hq
    exact ⟨_, e2, hh2, q, _, _, rfl, SqT.of upd_same, rfl, rfl⟩
theorem xi_items {l : List (Str × Int)} (ha : XE te Γ Ω (va T (DF.mk l)) Ω1) : XI (iItems te) Γ Ω l (fun a => va T a) Ω1 := fun F σ H e hh R r => by
  refine ha F σ H e hh _ fun F1 x H1 Ω' e1 hh1 ⟨a1, o1⟩ => ?_
  subst o1
  obtain ⟨p, od, rfl, hp⟩ := a1
  exact ⟨p, od, dkv l, rfl, hh1.same _ _ hp, r F1 _ H1 _ e1 hh1 wk_items hp⟩
end
instance {α β γ δ : Type} [Rp α] [Rp β] [Rp γ] [Rp δ] [Dat α] [Dat β] [Dat γ] [Dat δ] : Dat (T4 α β γ δ) := ⟨fun l => .tuple [Dat.dat l.a, Dat.dat l.b, Dat.dat l.c, Dat.dat l.d], fun l => Dat.ok l.a ∧ Dat.ok l.b ∧ Dat.ok l.c ∧ Dat.ok l.d, max (Dat.dep α) (max (Dat.dep β) (max (Dat.dep γ) (Dat.dep δ))) + 1, fun e ⟨p, x, y, z, u, h1, h2, h3, h4, h5, h6⟩ => by
    rw [h1]; exact .tup (Same.tup e h2) (.cons (Dat.dp e h3) (.cons (Dat.dp e h4) (.cons (Dat.dp e h5) (.cons (Dat.dp e h6) .nil)))), fun h => by
    show (PyData.canLay0 (Dat.dat _) && (PyData.canLay0 (Dat.dat _) && (PyData.canLay0 (Dat.dat _) && (PyData.canLay0 (Dat.dat _) && true)))) = true
    rw [Dat.lay h.1, Dat.lay h.2.1, Dat.lay h.2.2.1, Dat.lay h.2.2.2]; rfl, fun {a} => by
    rw [depth_tuple]
    refine Nat.succ_le_succ ?_
    show max (PyData.depth (Dat.dat a.a)) (max (PyData.depth (Dat.dat a.b)) (max (PyData.depth (Dat.dat a.c)) (max (PyData.depth (Dat.dat a.d)) 0))) ≤ _
    have h1 := Dat.depth (a := a.a)
    have h2 := Dat.depth (a := a.b)
    have h3 := Dat.depth (a := a.c)
    have h4 := Dat.depth (a := a.d)
    omega, fun {a b} => by
    show (PyData.eqv (Dat.dat a.a) (Dat.dat b.a) && (PyData.eqv (Dat.dat a.b) (Dat.dat b.b) && (PyData.eqv (Dat.dat a.c) (Dat.dat b.c) && (PyData.eqv (Dat.dat a.d) (Dat.dat b.d) && true)))) = true ↔ a = b
    rw [Bool.and_true, Bool.and_eq_true, Bool.and_eq_true, Bool.and_eq_true, Dat.eqv, Dat.eqv, Dat.eqv, Dat.eqv]
    cases a; cases b; simp⟩
section
variable {X : Cx} {K : PySem.W.Frag} {e : Expr} {ta : TA} {p pos tpos : Pos} {elts : List Expr} {kk : Nat}
theorem cr_allK (hK : X.K = K) (hc : X.calm = true) : CallR X (.builtin "all") (rAll K) := hK ▸ cr_all hc
end
end VL

set_option Elab.async false
set_option linter.all false
set_option maxRecDepth 100000
/-! != of tuples item by item; == and != of pairs (frozen dict, data) that are equal -/
namespace VNe
open PySem
end VNe
namespace VL
open PySem L2 PyProof.Rows
/-- two frozen dicts of the same keys and flat values -/
def FD (H : Hp) (x y : V) : Prop := ∃ a b oa ob ks ls, x = .ref a ∧ y = .ref b ∧ H a = some (.frz oa (.dK ks)) ∧ H b = some (.frz ob (.dK ls)) ∧ ks.length = ls.length ∧ ∀ p ∈ ks, valV ls p.1 = some p.2 ∧ flatB p.2 = true
/-- the same data -/
def FS (K : PySem.W.Frag) (H : Hp) (x y : V) : Prop := ∃ d, Dp K H x d ∧ Dp K H y d ∧ d.canLay0 = true ∧ d.depth ≤ 60 ∧ PyData.eqv d d = true
section
variable {X : Cx} {pins : List (Addr × Obj)} {σ : L2.St} {H : Hp} {s : Shared}
end
def PkE (K : PySem.W.Frag) (x y : V) (H : Hp) : Prop := ∃ a b x1 x2 y1 y2, x = .ref a ∧ y = .ref b ∧ SqT K H a [x1, x2] ∧ SqT K H b [y1, y2] ∧ FD H x1 y1 ∧ FS K H x2 y2
def rPkEq (K : PySem.W.Frag) : R2 := fun x y H Q => PkE K x y H ∧ Q (.bl true) H
def rPkNe (K : PySem.W.Frag) : R2 := fun x y H Q => PkE K x y H ∧ Q (.bl false) H
section
variable {X : Cx} {pins : List (Addr × Obj)} {σ : L2.St} {H : Hp} {s : Shared}
end
section
variable {T : TC} {Γ : List (Option VA)} {Ω Ω1 Ω2 : List OA} {ta tb : TE} {α : Type} [Rp α] [Dat α] {x y : DF × α}
end
section
variable {T : TC} {Γ : List (Option VA)} {Ω Ω1 Ω2 Ω3 : List OA} {ta tb tc : TE}
end
end VL

set_option Elab.async false
set_option linter.all false
set_option maxRecDepth 100000
/-! != of lists whose items have a text's own __eq__; a list unpacked into three -/
namespace VNe
open PySem PySem.SeqAt
end VNe
namespace VL
open PySem L2 PyProof.Rows
/-- pair by pair the own __eq__ says yes; both lists stay -/
def WL (C : Addr) (sp : Sp) (a b : Addr) (xs ys : List V) : List (V × V) → Hp → (Hp → Prop) → Prop
  | [], H, Q => Q H
  | z :: r, H, Q => ∃ p q dx dy fs gs, z.1 = .ref p ∧ z.2 = .ref q ∧ H p = some (.ins C dx fs) ∧ H q = some (.ins C dy gs) ∧ (p = q → WL C sp a b xs ys r H Q) ∧
    (p ≠ q → sp [z.1, z.2] H (fun v H' => v = .bl true ∧ H' a = some (.lst xs) ∧ H' b = some (.lst ys) ∧ WL C sp a b xs ys r H' Q) E0)
def rOwnL (C : Addr) (sp : Sp) (r : Bool) : R2 := fun x y H Q => ∃ a b xs ys, x = .ref a ∧ y = .ref b ∧ H a = some (.lst xs) ∧ H b = some (.lst ys) ∧ xs.length = ys.length ∧ WL C sp a b xs ys (xs.zip ys) H (fun H' => Q (.bl r) H')
section
variable {X : Cx} {n : Nat} {C f : Addr} {fd : FuncData} {ps : List Str} {sp : Sp}
/-- what the loop keeps -/
def LI (X : Cx) (pins : List (Addr × Obj)) (σ : L2.St) (C : Addr) (sp : Sp) (a b : Addr) (xs ys : List V) (Q : Hp → Prop) (i : Nat) (s : Shared) : Prop := ∃ H, Inv X pins σ H s ∧ H a = some (.lst xs) ∧ H b = some (.lst ys) ∧ WL C sp a b xs ys ((xs.zip ys).drop i) H Q
end
section
variable {T : TC} {Γ : List (Option VA)} {Ω Ω1 Ω2 Ω3 : List OA} {ta tb te : TE} {l m : List Bg}
def un3 {α : Type} : List α → Option (α × α × α)
  | [a, b, c] => some (a, b, c)
  | _ => none
end
end VL

set_option Elab.async false
set_option linter.all false
set_option maxRecDepth 100000
/-! None behind a list of numbers; a pair of a new list and a value, kept in a name -/
namespace VL
open PySem L2
inductive OI where
  | i (n : Int)
  | no
def OI.v : OI → V
  | .i n => .int n
  | .no => .non
def OI.d : OI → PyData
  | .i n => .int n
  | .no => .none
instance : Rp OI := ⟨fun _ _ v a => v = a.v, fun _ h => h⟩
instance : Dat OI := ⟨OI.d, fun _ => True, 0, fun {T F H v a} _ h => by
    rw [show v = a.v from h]
    cases a
    · exact .int _
    · exact .non, fun {a} _ => by cases a <;> rfl, fun {a} => by cases a <;> exact Nat.le_refl _, fun {a b} => by
    cases a <;> cases b
    · rename_i m n
      show (m == n) = true ↔ _
      rw [beq_iff_eq]
      exact ⟨fun e => by rw [e], fun e => by cases e; rfl⟩
    · exact ⟨(fun e => nomatch e), (fun e => nomatch e)⟩
    · exact ⟨(fun e => nomatch e), (fun e => nomatch e)⟩
    · exact ⟨fun _ => rfl, fun _ => rfl⟩⟩
/-- a pair of a list that changes, at p, and a value -/
def pvA (T : TC) (p : Addr) (B : VA) : VA := ⟨fun F v => ∃ t w, v = .ref t ∧ SqT T.K F t [.ref p, w] ∧ B.P F w, fun e ⟨t, w, a, b, c⟩ => ⟨t, w, a, Same.tup e b, B.mono e c⟩⟩
section
variable {T : TC} {Γ : List (Option VA)} {Ω Ω1 Ω2 Ω3 : List OA} {A B C : VA} {ta tb te : TE} {D : Ends} {F0 : Hp} {ts : TS} {p : Addr}
end
/-! ### walks over a list that may change, and doesn't -/
section
variable {T : TC} {Γ : List (Option VA)} {Ω Ω0 Ω1 Ω2 : List OA} {A B : VA} {te ta tb : TE} {D : Ends} {F0 : Hp} {ts : TS}
structure Wk2 (k : Nat) (o : OA) {α : Type} (J : It) (Sx : Hp → Prop) (xs : List α) (A : α → VA) : Prop where
  mono : ∀ F F', Same F F' → Sx F → Sx F'
  go : ∀ (i : Nat) F Ω H, Sx F → Holds F Ω H → Ω[k]? = some o → i < xs.length → J.go i H
  stop : ∀ F Ω H, Sx F → Holds F Ω H → Ω[k]? = some o → J.stop xs.length H
  yld : ∀ (i : Nat) a F Ω H x H', Sx F → Holds F Ω H → Ω[k]? = some o → xs[i]? = some a → J.yld i H x H' → ∃ F', Same F F' ∧ Holds F' Ω H' ∧ (A a).P F' x
def XI2 (k : Nat) (o : OA) {α : Type} (wi : TI) (Γ : List (Option VA)) (Ω : List OA) (xs : List α) (A : α → VA) (Ω2 : List OA) : Prop :=
  ∀ F σ H, Env F σ Γ → Holds F Ω H → ∀ R : It → Hp → Prop, (∀ F' J H' Sx, Same F F' → Holds F' Ω2 H' → Wk2 k o J Sx xs A → Sx F' → R J H') → wi σ H R
end
end VL

set_option Elab.async false
set_option linter.all false
set_option maxRecDepth 100000
/-! the parts of a pair with a list that changes -/
namespace VL
open PySem L2
section
variable {T : TC} {Γ : List (Option VA)} {Ω Ω1 Ω2 : List OA} {B : VA} {te : TE} {p : Addr}
end
end VL

set_option Elab.async false
set_option linter.all false
set_option maxRecDepth 100000
/-! an own __eq__ beside a number or a list; is, of truths; a new list of a tuple; a new machine handed over at once -/
namespace VL
open PySem L2 PyProof.Rows
/-- neither an int nor a list comes ahead of the class at C, nor is one of it -/
def otherB (K : PySem.W.Frag) (C : Addr) : Bool := PySem.W.notFirst K C (.type "int") && (PySem.W.notFirst K C (.type "list") && (decide (PySem.W.kitOne K (.type "int") (.ref C) = some false) && decide (PySem.W.kitOne K (.type "list") (.ref C) = some false)))
/-- an int or a list -/
def IsO (H : Hp) (y : V) : Prop := (∃ i, y = .int i) ∨ ∃ b vs, y = .ref b ∧ H b = some (.lst vs)
def rOwnX (K : PySem.W.Frag) (C : Addr) (sp : Sp) : R2 := fun x y H Q => ∃ a dx fs, x = .ref a ∧ H a = some (.ins C dx fs) ∧ IsO H y ∧ sp [x, y] H (fun v H' => v = .bl false ∧ Q (.bl false) H') E0
section
variable {X : Cx} {n : Nat} {C f : Addr} {fd : FuncData} {ps : List Str} {sp : Sp}
structure CalEqX (P : Program) (w : World) (K : PySem.W.Frag) (mg : Str → Option Value) (base : Heap) (n : Nat) (C : Addr) (sp : Sp) : Prop where
  ex : ∃ f fd, FnOk P w K mg base CX0 n f fd ["self", "other"] sp ∧ otherB K C = true ∧ Meth K C "__eq__" f ∧ Binds K fd ["self", "other"] []
end
/-- what __eq__ tells of a number beside an int or a list -/
def PreX (T : TC) : PreT := fun As Ω R => ∃ (x0 : Bg) (A : VA), As = [va T x0, A] ∧ (∀ F H v, Holds F Ω H → A.P F v → IsO H v) ∧ R = RV (va T false) (stt Ω [] [])
section
variable {T : TC} {Γ : List (Option VA)} {Ω Ω0 Ω1 Ω2 : List OA} {A B : VA} {ta tb te : TE} {x : Bg} {b c : Bool}
def rIsB : R2 := fun x y H Q => ∃ a b, x = .bl a ∧ y = .bl b ∧ Q (.bl (decide (a = b))) H
end
end VL

set_option Elab.async false
set_option linter.all false
set_option maxRecDepth 100000
/-! VL18: a name that holds one of several defs; and/or whose second part changes things. -/
namespace VL
open PySem L2
/-- one of several defs, by its number -/
structure FT where
  i : Nat
instance : Rp FT := ⟨fun T _ v a => v = .ref (T.C (200 + a.i)), fun _ h => h⟩
structure HeldF (P : Program) (w : World) (K : PySem.W.Frag) (mg : Str → Option Value) (base : Heap) (k : Nat) (f : Addr) (sp : Sp) : Prop where
  ex : ∃ (fd : FuncData) (ps : List Str), FnOk P w K mg base CX0 k f fd ps sp ∧ PySem.W.keepIn K (.ref f) = true ∧ Binds K fd ps []
structure HeldFK (P : Program) (w : World) (K : PySem.W.Frag) (mg : Str → Option Value) (base : Heap) (k : Nat) (f : Addr) (n : Nat) (ks : List Str) (ix : List Nat) (sp : Sp) : Prop where
  ex : ∃ (fd : FuncData) (ps : List Str), FnOk P w K mg base CX0 k f fd ps sp ∧ PySem.W.keepIn K (.ref f) = true ∧ KBn K fd ps n ks (fun us ws => prm ix (us ++ ws)) (fun vs zs => prm ix (vs ++ zs))
def tCallFn (i : Nat) (S : Addr → Sp → Prop) (t : TA) : TE := fun σ H Q => ∃ f sp, σ[i]? = some (some (.ref f)) ∧ S f sp ∧ t σ H fun vs H1 => sp (vs ++ []) H1 Q E0
def tCallFnN (i : Nat) (S : Addr → Sp → Prop) (n m : Nat) (g : List V → List V → List V) (t tk : TA) : TE := fun σ H Q => ∃ f sp, σ[i]? = some (some (.ref f)) ∧ S f sp ∧ tCallN n m sp g E0 t tk σ H Q
section
variable {X : Cx} {k i n : Nat} {S : Addr → Sp → Prop} {x : Str} {ks : List Str} {ix : List Nat} {p pos : Pos} {e : Expr} {es : List Expr} {kws : List Keyword} {t tk : TA}
end
section
variable {T : TC} {Γ : List (Option VA)} {Ω Ω1 Ω2 Ω3 : List OA} {A : VA} {As Ks : List VA} {a : FT} {i : Nat} {S : Addr → Sp → Prop}
end
end VL

set_option Elab.async false
set_option linter.all false
set_option maxRecDepth 100000
set_option maxHeartbeats 2000000
/-! VL19: a lambda without parameters handed to a def that calls it: what it makes of the caller's machine. -/
namespace VL
open PySem PySem.Spec PyProof.Rows L2 LamX
/-- the table at P in t: its code objects stand in F -/
def TabF (F t : Hp) (P : Addr) (q : Str) : Prop := ∃ ps : Array Value, t P = some (.tbl ps) ∧ TriplesOk ps.toList ∧ ∀ (pos : Pos) (cv : Value), codeAmong pos ps.toList = some cv → ∃ c, cv = .ref c ∧ F c = some (CodeO c q)
theorem TabF.mono {F F' t : Hp} {P : Addr} {q : Str} (e : Same F F') : TabF F t P q → TabF F' t P q := fun ⟨ps, h1, h2, h3⟩ => ⟨ps, h1, h2, fun pos cv h => let ⟨c, a, b⟩ := h3 pos cv h; ⟨c, a, e _ _ b⟩⟩
/-- all the tables of a law -/
def tabA (l : List (Addr × Str)) : OA := ⟨fun F t => ∀ p ∈ l, TabF F t p.1 p.2, fun e h p hp => (h p hp).mono e⟩
/-- the table's part of the heap behind a lambda's making: H as it was, or a new code object at c' -/
def Grown (H : Hp) (P : Addr) (q : Str) (H1 : Hp) (c' : Addr) : Prop :=
  (H1 = H ∧ ∃ (ps : Array Value) (pos : Pos), H P = some (.tbl ps) ∧ codeAmong pos ps.toList = some (.ref c')) ∨
  ∃ (ps more : Array Value), H P = some (.tbl ps) ∧ H c' = none ∧ H1 = upd (upd H P (.tbl (ps ++ more))) c' (CodeO c' q) ∧ (TriplesOk ps.toList → TriplesOk (ps ++ more).toList) ∧
    ∀ (pos : Pos) (cv : Value), TriplesOk ps.toList → codeAmong pos (ps ++ more).toList = some cv → codeAmong pos ps.toList = some cv ∨ cv = .ref c'
theorem set_own {α : Type} {l : List α} {i : Nat} {a : α} (h : l[i]? = some a) : l.set i a = l := by
  apply List.ext_getElem?
  intro j
  by_cases e : i = j
  · subst e; rw [List.getElem?_set_self (getlt h), h]
  · rw [List.getElem?_set_ne e]
theorem grown_holds {F H H1 : Hp} {Ω : List OA} {l : List (Addr × Str)} {kt : Nat} {P c' : Addr} {q : Str} (hh : Holds F Ω H) (ht : Ω[kt]? = some (tabA l)) (hm : (P, q) ∈ l) (hu : ∀ p ∈ l, p.1 = P → p.2 = q) (g : Grown H P q H1 c') :
    ∃ F1, Same F F1 ∧ Holds F1 Ω H1 ∧ F1 c' = some (CodeO c' q) := by
  rcases g with ⟨rfl, ps, pos, e1, e2⟩ | ⟨ps, more, e1, e2, e3, e4, e5⟩
  · obtain ⟨t, h1, h2, _, _⟩ := hh.get ht
    obtain ⟨ps', a1, a2, a3⟩ := h1 _ hm
    have := (h2 _ _ a1).symm.trans e1
    cases this
    obtain ⟨c, b1, b2⟩ := a3 pos _ e2
    cases b1
    exact ⟨F, Same.refl F, hh, b2⟩
  · have nP : P ≠ c' := ne_of_none e1 e2
    obtain ⟨hh1, s1⟩ := hh.newF (u := CodeO c' q) e2
    obtain ⟨t, h1, h2, h3, h4⟩ := hh1.get ht
    have eP : t P = some (.tbl ps) := by
      obtain ⟨ps', a1, _⟩ := h1 _ hm
      have z := h2 _ _ a1
      rw [upd_ne nP, e1] at z
      cases z
      exact a1
    have key := h4 (tabA l) P (.tbl ps) (.tbl (ps ++ more)) eP fun p hp => by
      obtain ⟨ps', a1, a2, a3⟩ := h1 p hp
      by_cases hb : p.1 = P
      · have hq := hu p hp hb
        rw [hb] at a1 ⊢
        rw [hq] at a3 ⊢
        have := a1.symm.trans eP
        cases this
        refine ⟨_, upd_same, e4 a2, fun pos cv hc => ?_⟩
        rcases e5 pos cv a2 hc with z | z
        · exact a3 pos cv z
        · exact ⟨c', z, upd_same⟩
      · exact ⟨ps', by rw [upd_ne hb]; exact a1, a2, a3⟩
    rw [set_own ht] at key
    refine ⟨_, s1, ?_, upd_same⟩
    have e6 : H1 = upd (upd H c' (CodeO c' q)) P (.tbl (ps ++ more)) := by
      rw [e3]
      funext b
      by_cases b1 : b = P
      · subst b1
        rw [upd_ne nP, upd_same, upd_same]
      · by_cases b2 : b = c'
        · subst b2; rw [upd_same, upd_ne b1, upd_same]
        · rw [upd_ne b2, upd_ne b1, upd_ne b1, upd_ne b2]
    rw [e6]
    exact key
section
variable {X : Cx} {pins : List (Addr × Obj)} {σ : L2.St} {H : Hp} {s : Shared}
end
/-! ### a def that is handed a lambda -/
/-- what its name makes: act -/
def tAct (i : Nat) (f c' : Addr) (q : Str) (act : Hp → VK → Prop) : TE := fun σ H Q => σ[i]? = some (some (.ref f)) ∧ H c' = some (CodeO c' q) ∧ act H Q
/-- in each def's context that is entered at s: a call of the name that holds the lambda -/
def ActH (P : Program) (w : World) (K : PySem.W.Frag) (mg : Str → Option Value) (base : Heap) (k : Nat) (A : Around) (outer : List PySem.Env) (s : Shared) (H : Hp) (f c' : Addr) (q : Str) (act : Hp → VK → Prop) : Prop :=
  ∀ (Ng : List Str) (qg : Str) (sg : Scope) (g : Addr) (cdg : Value) (i : Nat) (a : Str) (p1 p2 : Pos), Room (k + 1) (A.deeper (envOfC qg sg s.heap.objs.size g cdg)) → Ng[i]? = some a → Vis sg a → (a == ("__debug__" : Str)) = false → (a == ("__classdict__" : Str)) = false →
    PE (cxOf CX0 P w K mg base Ng qg sg g cdg A outer s H E0).nox (.Call (.Name a p1) [] [] p2) (tAct i f c' q act)
abbrev PreLT := Addr → Addr → Str → (Hp → VK → Prop) → PreT
/-- that def: k, its depth; kl, that of the lambda's body -/
structure CalL (P : Program) (w : World) (K : PySem.W.Frag) (mg : Str → Option Value) (base : Heap) (kl k : Nat) (x : Str) (ps : List Str) (Pre : PreLT) : Prop where
  ex : ∃ g fd, mg x = some (.ref g) ∧ PySem.W.keepIn K (.ref g) = true ∧ Binds K fd ps [] ∧ (∀ f c' q act As Ω R, Pre f c' q act As Ω R → As.length = ps.length) ∧
    ∀ (A : Around) (outer : List PySem.Env) (s : Shared) (H : Hp) (us : List Value) (vs : List V) (Q : VK) (f c' : Addr) (q : Str) (act : Hp → VK → Prop), Room k A → Env0 P w K mg base A outer s H → BindsTo s fd ⟨us, []⟩ (ps.zip us) → Vals vs us →
      ActH P w K mg base kl A outer s H f c' q act → mkSp (Pre f c' q act) vs H Q E0 → codeAny (model P w) A (.call (.ref g) ⟨us, []⟩) (CR CX0 outer P w H s Q E0) s
section
variable {P : Program} {w : World} {K : PySem.W.Frag} {mg : Str → Option Value} {base : Heap}
end
/-! ### x(e, lambda: body) -/
def tLam (P : Addr) (q : Str) (Pre : PreLT) (ta tb : TE) : TE := fun σ H Q => ta σ H fun v H0 => (∃ ps : Array Value, H0 P = some (.tbl ps) ∧ TriplesOk ps.toList ∧ ∀ (pos : Pos) (cv : Value), codeAmong pos ps.toList = some cv → ∃ c, cv = .ref c ∧ H0 c = some (CodeO c q)) ∧
  ∀ f c' H1, Grown H0 P q H1 c' → mkSp (Pre f c' q fun H' Q' => tb σ H' Q') [v, .ref f] H1 Q E0
section
variable {X : Cx}
end
/-! ### what it makes of a machine -/
/-- the name's value: the lambda f, which takes the machine at k0 from m to r.2 and tells r.1 -/
def askA (T : TC) {α : Type} [Rp α] (f c' : Addr) (q : Str) (act : Hp → VK → Prop) (Ω : List OA) (k0 : Nat) (p0 : Addr) (M : MS → Option (α × MS)) : VA :=
  ⟨fun F v => v = .ref f ∧ F c' = some (CodeO c' q) ∧ ∀ m r, M m = some r → ∀ F1 H1, Same F F1 → Holds F1 (stt Ω [(k0, machA T p0 m)] []) H1 → ∀ Q : VK, (∀ F2 v H2, Same F1 F2 → Holds F2 (stt Ω [(k0, machA T p0 r.2)] []) H2 → (va T r.1).P F2 v → Q v H2) → act H1 Q,
   fun e ⟨h1, h2, h3⟩ => ⟨h1, e _ _ h2, fun m r hm F1 H1 e1 => h3 m r hm F1 H1 (e.trans e1)⟩⟩
section
variable {T : TC} {Γ : List (Option VA)} {Ω Ω1 : List OA} {α : Type} [Rp α]
end
section
variable {T : TC} {Γ : List (Option VA)} {Ω Ω1 Ω2 : List OA} {α : Type} [Rp α]
end
/-! ### a def whose code object is known -/
def CodeIs (K : PySem.W.Frag) (g c : Addr) : Prop := ∀ (oc : Value) (od : Option Addr) (x qual : Str) (ar : Arguments) (body : List Stmt) (sc : Scope) (dV kV doc pm : Value) (an : Option Addr) (cdv ct : Value) (osl : Array (Option Value)),
  K.lookup g = some ⟨oc, od, .func (PySem.W.fnOf x qual ar body sc dV kV doc pm an cdv ct), osl⟩ → PySem.W.codeIn K cdv qual = true → cdv = .ref c
section
variable {P : Program} {w : World} {K : PySem.W.Frag} {mg : Str → Option Value} {base : Heap}
theorem fn_okC {x qual : Str} {st : Stmt} {f c : Addr} {fd : FuncData} {N ps : List Str} {k : Nat} {Pre : PreT} (F : Fun K x qual st f fd) (hc : CodeIs K f c) (S : FnScope N ps (defScope st)) (hl : ∀ As Ω R, Pre As Ω R → As.length = ps.length)
    (hb : ∀ (A : Around) (outer : List PySem.Env) (s : Shared) (H : Hp) (E : XK), Room k (A.deeper (envOfC qual (defScope st) s.heap.objs.size f (.ref c))) → ∀ As Ω R F0, Pre As Ω R →
      Bod (cxOf CX0 P w K mg base N qual (defScope st) f (.ref c) A outer s H E).nox (defBody st) (As.map some ++ List.replicate (N.length - As.length) none) Ω F0 R) : FnOk P w K mg base CX0 (k + 1) f fd ps (mkSp Pre) := by
  obtain ⟨oc, od, kV, doc, pm, an, cdv, ct, osl, rfl, lk, hcd⟩ := F.ex
  obtain rfl := hc _ _ _ _ _ _ _ _ _ _ _ _ _ _ _ lk hcd
  refine fn_of lk hcd S (fun vs H Q E h => ?_) fun A outer s H vs Q E hr h => ?_
  · obtain ⟨F, Ω, As, R, hp, ha, _⟩ := h
    rw [ha.len]; exact hl _ _ _ hp
  · obtain ⟨F0, Ω, As, R, hp, ha, hh, hq⟩ := h
    obtain ⟨t, h1, h2⟩ := hb A outer s H E hr As Ω R F0 hp
    exact ⟨t, h1.nox, h2 _ (fun F v H Ω' e hh r => hq F v H Ω' e hh r) (fun F σ H Ω' e hh r => hq F .non H Ω' e hh r) _ _ ⟨F0, Same.refl F0, start_env ha, hh⟩⟩
end
/-- the law's start: the tables apart from all else -/
theorem tab_start {K : PySem.W.Frag} {H : Hp} {l : List (Addr × Str)} {a : Addr} {xs : List V} (hH : ∀ p ∈ l, H p.1 = some (.tbl #[])) (hS : SqL K H a xs) : ∃ F, SqL K F a xs ∧ Holds F [tabA l] H := by
  let inT : Addr → Prop := fun b => ∃ p ∈ l, p.1 = b
  have dec : ∀ b, Decidable (inT b) := fun b => Classical.propDecidable _
  let F : Hp := fun b => if inT b then none else H b
  let t : Hp := fun b => if inT b then some (.tbl #[]) else none
  have hHt : ∀ b, inT b → H b = some (.tbl #[]) := fun b ⟨p, hp, e⟩ => e ▸ hH p hp
  have sF : Same F H := fun b x e => by
    by_cases q : inT b
    · have e : (if inT b then none else H b) = some x := e
      rw [if_pos q] at e; cases e
    · have e : (if inT b then none else H b) = some x := e
      rw [if_neg q] at e; exact e
  have sT : Same t H := fun b x e => by
    by_cases q : inT b
    · have e : (if inT b then some (HO.tbl #[]) else none) = some x := e
      rw [if_pos q] at e; rw [← e]; exact hHt b q
    · have e : (if inT b then some (HO.tbl #[]) else none) = some x := e
      rw [if_neg q] at e; cases e
  have at_ : ∀ u, H a = some u → u ≠ .tbl #[] → F a = some u := fun u e n => by
    show (if inT a then none else H a) = some u
    rw [if_neg (fun q => n (Option.some.inj (e.symm.trans (hHt a q)))), e]
  refine ⟨F, ?_, fun _ => t, fun i o q => ?_, sF, fun i _ => sT, fun i b x _ e => ?_, fun i j b x hi hj ne _ => ?_⟩
  · rcases hS with (h | ⟨o, h⟩) | h
    · exact .inl (.inl (at_ _ h fun z => by cases z))
    · exact .inl (.inr ⟨o, at_ _ h fun z => by cases z⟩)
    · exact .inr h
  · cases i with
    | zero =>
      cases q
      intro p hp
      refine ⟨#[], ?_, True.intro, fun pos cv hc => ?_⟩
      · show (if inT p.1 then some (HO.tbl #[]) else none) = _
        exact if_pos ⟨p, hp, rfl⟩
      · have z : codeAmong pos [] = some cv := hc
        simp [codeAmong] at z
    | succ i => simp at q
  · have e : (if inT b then some (HO.tbl #[]) else none) = some x := e
    show (if inT b then none else H b) = none
    by_cases q : inT b
    · exact if_pos q
    · rw [if_neg q] at e; cases e
  · simp at hi hj
    omega
end VL

set_option Elab.async false
set_option linter.all false
set_option maxRecDepth 100000
/-! VL20: the script with a list behind it; divmod; tests whose parts change things. -/
namespace VL
open PySem PySem.Spec PyProof.Rows L2
def rCatS (K : PySem.W.Frag) : R2 := fun x y H Q => ∃ l b xs zs, x = .ref l ∧ y = .ref b ∧ SqL K H l xs ∧ H b = some (.lst zs) ∧ xs.length + zs.length ≤ sizeLine ∧ ∀ p, H p = none → Q (.ref p) (upd H p (.lst (xs ++ zs)))
/-- divmod by what is not 0 -/
def CDivF (_ j : Int) : Prop := j ≠ 0 ∧ j.natAbs.log2 < 9000
def rDivmod : List V → Hp → VK → Prop := fun xs H Q => ∃ i j, xs = [.int i, .int j] ∧ CDivF i j ∧ ∀ p, H p = none → Q (.ref p) (upd H p (.tup [.int (i.fdiv j), .int (i.fmod j)]))
section
variable {T : TC} {ts : TA} {Γ : List (Option VA)} {Ω Ω1 Ω2 : List OA} {A : VA} {ta tb : TE} {t u : TT} {i j : Int} {b : Bool}
end
end VL

set_option Elab.async false
set_option linter.all false
set_option maxRecDepth 100000
/-! VL21: == and != of tuples whose items are numbers by their own __eq__, frozen dicts and data. -/
namespace VNe
open PySem PySem.SeqAt
end VNe
namespace VL
open PySem L2 PyProof.Rows
/-- pair by pair: equal dicts, equal data, or the own __eq__ says yes -/
def WT (K : PySem.W.Frag) (C : Addr) (sp : Sp) : List (V × V) → Hp → (Hp → Prop) → Prop
  | [], H, Q => Q H
  | z :: r, H, Q => (FD H z.1 z.2 ∧ WT K C sp r H Q) ∨ (FS K H z.1 z.2 ∧ WT K C sp r H Q) ∨
    ∃ p q dx dy fs gs, z.1 = .ref p ∧ z.2 = .ref q ∧ H p = some (.ins C dx fs) ∧ H q = some (.ins C dy gs) ∧ (p = q → WT K C sp r H Q) ∧ (p ≠ q → sp [z.1, z.2] H (fun v H' => v = .bl true ∧ WT K C sp r H' Q) E0)
def rOwnT (K : PySem.W.Frag) (C : Addr) (sp : Sp) (b : Bool) : R2 := fun x y H Q => ∃ a c xs ys, x = .ref a ∧ y = .ref c ∧ SqT K H a xs ∧ SqT K H c ys ∧ xs.length = ys.length ∧ WT K C sp (xs.zip ys) H (fun H' => Q (.bl b) H')
section
variable {X : Cx} {n : Nat} {C f : Addr} {fd : FuncData} {ps : List Str} {sp : Sp}
/-- what the walk keeps -/
def TI (X : Cx) (pins : List (Addr × Obj)) (σ : L2.St) (C : Addr) (sp : Sp) (Q : Hp → Prop) (zs : List (Value × Value)) (s : Shared) : Prop :=
  ∃ H, Inv X pins σ H s ∧ ∃ us : List (V × V), us.length = zs.length ∧ (∀ i (h : i < us.length) (h2 : i < zs.length), RelV us[i].1 zs[i].1 ∧ RelV us[i].2 zs[i].2) ∧ WT X.K C sp us H Q
end
section
variable {T : TC} {Γ : List (Option VA)} {Ω Ω1 Ω2 : List OA} {ta tb : TE} {Pre : PreT}
/-- two items that compare alike -/
def ItE (T : TC) (Ω : List OA) (sp : Sp) (A B : VA) : Prop := ∀ F H x y r k, Holds F Ω H → A.P F x → B.P F y → (∀ F' H', Same F F' → Holds F' Ω H' → WT T.K (T.C 1) sp r H' k) → WT T.K (T.C 1) sp ((x, y) :: r) H k
end
end VL

set_option Elab.async false
set_option linter.all false
set_option maxRecDepth 100000
/-! VL22: a dict that changes: made, written, read, locked where it is read as a value. -/
namespace VL
open PySem L2 PyProof.Rows
/-- a dict that is locked from now on, at its old place -/
def fzDA (p : Addr) (l : List (Str × Int)) : OA := ⟨fun F _ => ∃ od, F p = some (.frz od (.dK (dkv l))), fun e ⟨od, h⟩ => ⟨od, e _ _ h⟩⟩
/-- written in its place, or at the end -/
def dput (l : List (Str × Int)) (k : Str) (v : Int) : List (Str × Int) := if (l.any fun p => decide (p.1 = k)) = true then l.map (fun p => if p.1 = k then (p.1, v) else p) else l ++ [(k, v)]
section
variable {T : TC} {Γ : List (Option VA)} {Ω Ω1 Ω2 Ω3 : List OA} {A B C : VA} {ta tb te : TE} {D : Ends} {F0 : Hp} {ts : TS}
/-! written -/
/-- a target that writes a thing -/
def Tgo (g : TG) (A : VA) (Γ : List (Option VA)) (Ω Ω2 : List OA) : Prop := ∀ F σ v H, Env F σ Γ → Holds F Ω H → A.P F v → ∀ Q : L2.St → Hp → Prop, (∀ F' H', Same F F' → Holds F' Ω2 H' → Q σ H') → g v σ H Q
end
/-! != of two dicts, where they are known to be alike -/
def rNeF : R2 := fun x y H Q => ∃ a b oa ob ks ls, x = .ref a ∧ y = .ref b ∧ H a = some (.frz oa (.dK ks)) ∧ H b = some (.frz ob (.dK ls)) ∧ ks.length = ls.length ∧ (∀ p ∈ ks, valV ls p.1 = some p.2 ∧ flatB p.2 = true) ∧ Q (.bl false) H
end VL

set_option Elab.async false
set_option linter.all false
set_option maxRecDepth 100000
/-! VL23: range downwards, one by one; isinstance and len of pairs. -/
namespace VL
open PySem L2 PyProof.Rows
section
variable {T : TC} {Γ : List (Option VA)} {Ω Ω1 Ω2 : List OA} {A B C : VA} {ta tb te : TE}
/-- i, i - 1, .. (n of them) -/
def rngD (i : Int) (n : Nat) : List Int := (List.range n).map fun (k : Nat) => i + (k : Int) * (-1)
end
end VL

set_option Elab.async false
set_option linter.all false
set_option maxRecDepth 100000
/-! VL24: a pair of a dict and a list that both change: made, handed on, its parts; get of a dict that changes. -/
namespace VL
open PySem L2 PyProof.Rows
section
variable {T : TC} {Γ : List (Option VA)} {Ω Ω1 Ω2 Ω3 : List OA} {A B C : VA} {ta tb tc te : TE} {D : Ends} {F0 : Hp} {ts : TS}
/-- dict(d): a new one, from a locked one -/
def rDictD : List V → Hp → VK → Prop := fun xs H Q => ∃ (a : Addr) (kvs : List (Key × V)), xs = [.ref a] ∧ Rd H a (.dK kvs) ∧ ∀ p, H p = none → Q (.ref p) (upd H p (.dK kvs))
end
end VL

set_option Elab.async false
set_option linter.all false
set_option maxRecDepth 100000
set_option maxHeartbeats 2000000
/-! VL25: a lambda with one parameter that has an int for its default, handed to a def that calls it without arguments. -/
namespace VL
open PySem PySem.Spec PyProof.Rows L2 LamX
structure LamSD (N : List Str) (nm : Str) (sc scope : Scope) : Prop where
  kind : scope.kind = .function
  co : scope.isCoroutine = false
  gen : scope.isGenerator = false
  own : ∀ y ∈ scope.names, y.2 ≠ .cell ∧ (y.2 = .local → y.1 ∉ N)
  free : ∀ y ∈ scope.names, y.2 = .free → sc.names.lookup y.1 = some .cell ∨ sc.names.lookup y.1 = some .free
  par : scope.names.lookup nm = some .local
def lamSDB (N : List Str) (nm : Str) (sc scope : Scope) : Bool :=
  decide (scope.kind = .function) && !scope.isCoroutine && !scope.isGenerator && (scope.names.all fun y => !decide (y.2 = .cell) && (!decide (y.2 = .local) || !decide (y.1 ∈ N)) && (!decide (y.2 = .free) || decide (sc.names.lookup y.1 = some .cell) || decide (sc.names.lookup y.1 = some .free))) && decide (scope.names.lookup nm = some .local)
theorem lamSD_by {N : List Str} {nm : Str} {sc scope : Scope} (h : lamSDB N nm sc scope = true) : LamSD N nm sc scope := by
  unfold lamSDB at h
  simp only [Bool.and_eq_true, Bool.or_eq_true, Bool.not_eq_true', decide_eq_true_eq, decide_eq_false_iff_not, List.all_eq_true] at h
  obtain ⟨⟨⟨⟨h1, h2⟩, h3⟩, h4⟩, h5⟩ := h
  refine ⟨h1, h2, h3, fun y hy => ⟨(h4 y hy).1.1, fun e => ?_⟩, fun y hy e => ?_, h5⟩
  · rcases (h4 y hy).1.2 with z | z
    · exact absurd e z
    · exact z
  · rcases (h4 y hy).2 with (z | z) | z
    · exact absurd e z
    · exact .inl z
    · exact .inr z
theorem LamSD.has {X : Cx} {N : List Str} {nm : Str} {scope : Scope} (L : LamSD N nm X.env.scope scope) (ok : X.Ok) : ∀ y ∈ scope.names, y.2 = .free → ∃ c, X.env.cells.lookup y.1 = some c := fun y hy e => by
  rcases L.free y hy e with k | k
  · exact ok.has _ (.inl k)
  · exact ok.has _ (.inr k)
section
variable {X : Cx} {pins : List (Addr × Obj)} {σ : L2.St} {H : Hp} {s : Shared}
end
section
variable {X : Cx} {pins : List (Addr × Obj)} {σ : L2.St} {H HZ : Hp} {s s1 : Shared}
end
section
variable {X : Cx}
end
section
variable {X : Cx}
end
section
variable {T : TC} {Γ : List (Option VA)} {Ω Ω1 Ω2 : List OA} {ta tb : TE} {i j : Int}
end
end VL

set_option Elab.async false
set_option linter.all false
set_option maxRecDepth 100000
/-! VL26: the first and the last of four. -/
namespace VL
open PySem L2 PyProof.Rows
section
variable {T : TC} {Γ : List (Option VA)} {Ω Ω1 Ω2 : List OA} {te ti : TE}
end
end VL

set_option Elab.async false
set_option linter.all false
set_option maxRecDepth 100000
/-! VL27: == and != of tuples among whose items stand pairs of numbers with an own __eq__; a call with a new thing ahead of arguments that change things. -/
namespace VL
open PySem L2 PyProof.Rows
/-- pair by pair, as WT, or two tuples within -/
def WT2 (K : PySem.W.Frag) (C : Addr) (sp : Sp) : List (V × V) → Hp → (Hp → Prop) → Prop
  | [], H, Q => Q H
  | z :: r, H, Q => WT K C sp [z] H (fun H' => WT2 K C sp r H' Q) ∨
    ∃ p q xs ys, z.1 = .ref p ∧ z.2 = .ref q ∧ SqT K H p xs ∧ SqT K H q ys ∧ xs.length = ys.length ∧ (p = q → WT2 K C sp r H Q) ∧ (p ≠ q → WT K C sp (xs.zip ys) H (fun H' => WT2 K C sp r H' Q))
def rOwnT2 (K : PySem.W.Frag) (C : Addr) (sp : Sp) (b : Bool) : R2 := fun x y H Q => ∃ a c xs ys, x = .ref a ∧ y = .ref c ∧ SqT K H a xs ∧ SqT K H c ys ∧ xs.length = ys.length ∧ WT2 K C sp (xs.zip ys) H (fun H' => Q (.bl b) H')
section
variable {X : Cx} {n : Nat} {C f : Addr} {fd : FuncData} {ps : List Str} {sp : Sp}
def TI2 (X : Cx) (pins : List (Addr × Obj)) (σ : L2.St) (C : Addr) (sp : Sp) (Q : Hp → Prop) (zs : List (Value × Value)) (s : Shared) : Prop :=
  ∃ H, Inv X pins σ H s ∧ ∃ us : List (V × V), us.length = zs.length ∧ (∀ i (h : i < us.length) (h2 : i < zs.length), RelV us[i].1 zs[i].1 ∧ RelV us[i].2 zs[i].2) ∧ WT2 X.K C sp us H Q
end
section
variable {T : TC} {Γ : List (Option VA)} {Ω Ω1 Ω2 : List OA} {ta tb : TE} {Pre : PreT}
def ItE2 (T : TC) (Ω : List OA) (sp : Sp) (A B : VA) : Prop := ∀ F H x y r k, Holds F Ω H → A.P F x → B.P F y → (∀ F' H', Same F F' → Holds F' Ω H' → WT2 T.K (T.C 1) sp r H' k) → WT2 T.K (T.C 1) sp ((x, y) :: r) H k
end
end VL

set_option Elab.async false
set_option linter.all false
set_option maxRecDepth 100000
/-! VL28: a pair of a new list and a value out of one of several defs; such a pair handed on at once; a new list and two values in one assignment. -/
namespace VL
open PySem L2 PyProof.Rows
section
variable {T : TC} {Γ : List (Option VA)} {Ω Ω0 Ω1 Ω2 Ω3 : List OA} {A B C : VA} {As Ks : List VA} {a : FT} {i : Nat} {S : Addr → Sp → Prop} {ta tb te : TE} {D : Ends} {F0 : Hp} {ts : TS}
/-- arguments, among them a pair of a new list at p -/
def XAN (t : TA) (Γ : List (Option VA)) (Ω : List OA) (As : Addr → List VA) (Ω2 : Addr → List OA) : Prop :=
  ∀ F σ H, Env F σ Γ → Holds F Ω H → ∀ Q : List V → Hp → Prop, (∀ F' vs H' p, Same F F' → Holds F' (Ω2 p) H' → AlA F' vs (As p) → Q vs H') → t σ H Q
end
end VL

set_option Elab.async false
set_option linter.all false
set_option maxRecDepth 100000
/-! VL29: == and != of machines, with a new one, with a tuple; a machine made by keywords; in of a dict that changes; new lists told by a machine; a method of a new machine. -/
namespace VL
open PySem L2 PyProof.Rows
section
variable {T : TC} {Γ : List (Option VA)} {Ω Ω0 Ω1 Ω2 Ω3 : List OA} {A B C : VA} {As Ks : List VA} {ta tb te : TE} {D : Ends} {F0 : Hp} {ts : TS} {p p2 : Addr} {k k2 : Nat} {x y s : MS} {r : Bool}
end
/-! ### machine == a tuple -/
def otherT (K : PySem.W.Frag) (C : Addr) : Bool := PySem.W.notFirst K C (.type "tuple") && decide (PySem.W.kitOne K (.type "tuple") (.ref C) = some false)
def rOwnXT (K : PySem.W.Frag) (C : Addr) (sp : Sp) : R2 := fun x y H Q => ∃ a dx fs b xs, x = .ref a ∧ H a = some (.ins C dx fs) ∧ y = .ref b ∧ SqT K H b xs ∧ sp [x, y] H (fun v H' => v = .bl false ∧ Q (.bl false) H') E0
section
variable {X : Cx} {n : Nat} {C f : Addr} {fd : FuncData} {ps : List Str} {sp : Sp}
structure CalEqT (P : Program) (w : World) (K : PySem.W.Frag) (mg : Str → Option Value) (base : Heap) (n : Nat) (C : Addr) (sp : Sp) : Prop where
  ex : ∃ f fd, FnOk P w K mg base CX0 n f fd ["self", "other"] sp ∧ otherT K C = true ∧ Meth K C "__eq__" f ∧ Binds K fd ["self", "other"] []
end
/-- what __eq__ of a machine tells beside a tuple -/
def PreXT (T : TC) : PreT := fun As Ω R => ∃ (k0 : Nat) (p0 : Addr) (x0 : MS) (A : VA), As = [vr p0, A] ∧ Ω[k0]? = some (machA T p0 x0) ∧ (∀ F H v, Holds F Ω H → A.P F v → ∃ b xs, v = .ref b ∧ SqT T.K H b xs) ∧ R = RV (va T false) (stt Ω [] [])
section
variable {T : TC} {Γ : List (Option VA)} {Ω Ω0 Ω1 Ω2 Ω3 : List OA} {A B C : VA} {As Ks : List VA} {ta tb te : TE} {p : Addr} {k : Nat} {x s : MS} {r : Bool}
def rNoN : R2 := fun x y H Q => y = .non ∧ Q (.bl (!decide (x = .non))) H
/-! ### new lists that a machine tells -/
def Pre_Mach_tallyN (T : TC) : PreT := fun As Ω R => ∃ (k : Nat) (p : Addr) (s : MS), As = [vr p] ∧ Ω[k]? = some (machA T p s) ∧ R = RN Ω (fun q => lstA T q s.tally)
def Pre_Mach_walkN (T : TC) : PreT := fun As Ω R => ∃ (k : Nat) (p : Addr) (s : MS), As = [vr p] ∧ Ω[k]? = some (machA T p s) ∧ R = RN Ω (fun q => lstA T q s.wk)
structure CalCK (P : Program) (w : World) (K : PySem.W.Frag) (mg : Str → Option Value) (base : Heap) (k : Nat) (x : Str) (C : Addr) (ps ks : List Str) (ix : List Nat) (sp : Sp) : Prop where
  ex : ∃ f fd g, FnOk P w K mg base CX0 k f fd ps sp ∧ mg x = some (.ref C) ∧ Mk K C f ∧ KBn K fd ps 1 ks g (fun vs zs => prm ix (vs ++ zs))
end
end VL

set_option Elab.async false
set_option linter.all false
set_option maxRecDepth 100000
/-! VL30: a dict with three numbers, a dict and a list that change (a law's own tally and walk): made, its parts; ways that are never taken; ranges by a step; max of a list. -/
namespace VL
open PySem L2 PyProof.Rows
def wkv (b c B : Int) (d e : Addr) : List (Key × V) := [(Sum.inr ("bits" : Str), .int b), (Sum.inr ("cutoff" : Str), .int c), (Sum.inr ("base" : Str), .int B), (Sum.inr ("counts" : Str), .ref d), (Sum.inr ("walk" : Str), .ref e)]
section
variable {b c B : Int} {d e : Addr}
end
section
variable {T : TC} {Γ : List (Option VA)} {Ω Ω0 Ω1 Ω2 Ω3 : List OA} {A B' C : VA} {ta tb te : TE} {D : Ends} {F0 : Hp} {ts : TS} {b c B : Int} {p : Addr} {k : Nat}
/-- such a dict, new -/
def RNW (T : TC) (Ω2 : List OA) (b c B : Int) : Hp → V → List OA → Prop := fun _ v Ω' => ∃ p d e, v = .ref p ∧ Ω' = Ω2 ++ [rawD p (wkv b c B d e), rawD d (dkv []), lstA T e ([] : List (T3 Str Int Int))]
/-! ### is None -/
def rIsNo : R2 := fun x y H Q => y = .non ∧ Q (.bl (decide (x = .non))) H
def tNo : TE := fun _ _ _ => False
/-! ### max of a list -/
def maxL : List Int → Int
  | [] => 0
  | [a] => a
  | a :: r => max a (maxL r)
end
end VL
namespace VL
open PySem L2 PyProof.Rows
/-! ### range(0, j, c) -/
def rngS (c : Int) (n : Nat) : List Int := (List.range n).map fun (k : Nat) => 0 + (k : Int) * c
def CRg (j c : Int) : Prop := 0 < c ∧ c < 2 ^ 30 ∧ 0 ≤ j ∧ j < 2 ^ 30
section
variable {T : TC} {Γ : List (Option VA)} {Ω Ω1 Ω2 : List OA} {B' : VA} {As : List VA}
end
end VL

set_option Elab.async false
set_option linter.all false
set_option maxRecDepth 100000
/-! VL31: reversed(range(n)). -/
namespace VL
open PySem L2 PyProof.Rows
section
variable {T : TC} {Γ : List (Option VA)} {Ω Ω1 Ω2 : List OA} {A B C : VA} {ta tb te : TE}
end
end VL

set_option Elab.async false
set_option linter.all false
set_option maxRecDepth 100000
/-! VL32: defs with defaults and keyword-only parameters. -/
namespace VL
open PySem L2
open PyProof.Rows (envOfC)
section
variable {P : Program} {w : World} {K : PySem.W.Frag} {mg : Str → Option Value} {base : Heap}
theorem fn_okK {x qual : Str} {params : Arguments} {body : List Stmt} {scope : Scope} {dvs : List V} {kws : List (Str × V)} {f : Addr} {fd : FuncData} {N ps : List Str} {k : Nat} {Pre : PreT} (F : FunD K x qual params body scope dvs kws f fd) (S : FnScope N ps scope) (hl : ∀ As Ω R, Pre As Ω R → As.length = ps.length)
    (hb : ∀ (cdv : Value) (A : Around) (outer : List PySem.Env) (s : Shared) (H : Hp) (E : XK), Room k (A.deeper (envOfC qual scope s.heap.objs.size f cdv)) → ∀ As Ω R F0, Pre As Ω R →
      Bod (cxOf CX0 P w K mg base N qual scope f cdv A outer s H E).nox body (As.map some ++ List.replicate (N.length - As.length) none) Ω F0 R) : FnOk P w K mg base CX0 (k + 1) f fd ps (mkSp Pre) := by
  refine F.ok S (fun vs H Q E h => ?_) (fun cdv A outer s H vs Q E hr h => ?_)
  · obtain ⟨F, Ω, As, R, hp, ha, _⟩ := h
    rw [ha.len]; exact hl _ _ _ hp
  · obtain ⟨F0, Ω, As, R, hp, ha, hh, hq⟩ := h
    obtain ⟨t, h1, h2⟩ := hb cdv A outer s H E hr As Ω R F0 hp
    exact ⟨t, h1.nox, h2 _ (fun F v H Ω' e hh r => hq F v H Ω' e hh r) (fun F σ H Ω' e hh r => hq F .non H Ω' e hh r) _ _ ⟨F0, Same.refl F0, start_env ha, hh⟩⟩
/-- a def that may be called, what is not written filled up -/
structure CalD (P : Program) (w : World) (K : PySem.W.Frag) (mg : Str → Option Value) (base : Heap) (k : Nat) (x : Str) (ps : List Str) (dvs : List V) (sp : Sp) : Prop where
  ex : ∃ f fd ds, FnOk P w K mg base CX0 k f fd ps sp ∧ mg x = some (.ref f) ∧ PySem.W.keepIn K (.ref f) = true ∧ Vals dvs ds ∧ Binds K fd ps ds
structure CalKD (P : Program) (w : World) (K : PySem.W.Frag) (mg : Str → Option Value) (base : Heap) (k : Nat) (x : Str) (ps : List Str) (n : Nat) (ks : List Str) (dvs : List V) (ix : List Nat) (sp : Sp) : Prop where
  ex : ∃ f fd g, FnOk P w K mg base CX0 k f fd ps sp ∧ mg x = some (.ref f) ∧ PySem.W.keepIn K (.ref f) = true ∧ KBn K fd ps n ks g (fun vs zs => prm ix (vs ++ (dvs ++ zs)))
end
section
variable {X : Cx} {k n : Nat} {x : Str} {ps ks : List Str} {dvs : List V} {ix : List Nat} {sp : Sp} {p pos : Pos} {e : Expr} {es : List Expr} {kws : List Keyword} {t tk : TA}
theorem pe_calD (C : CalD X.prog X.w X.K X.mg X.base k x ps dvs sp) (hr : Room k X.A) (hg : Gl X x) (ha : PA X (e :: es) t)
    (hdb : (x == ("__debug__" : Str)) = false := by decide) (he : starEach (e :: es) X.env = (false, eval e X.env) :: starEach es X.env := by rfl) (hpl : (backTo pos (starEach es X.env)).any (·.1) = false := by rfl) :
    PE X (.Call (.Name x p) (e :: es) [] pos) (tCall sp dvs E0 t) := by
  obtain ⟨f, fd, ds, F, hm, hk, hv, hb⟩ := C.ex
  exact pe_call F hr hg hm hk hb hv pass0 ha hdb he hpl
theorem pe_calKD (c : CalKD X.prog X.w X.K X.mg X.base k x ps n ks dvs ix sp) (hr : Room k X.A) (hg : Gl X x)
    (ha : PA X (e :: es) t) (hkw : PK X kws tk) (hall : (backToKw pos (keywordEach kws X.env)).all (·.1.isSome) = true := by rfl) (hks : (backToKw pos (keywordEach kws X.env)).filterMap (·.1) = ks := by rfl)
    (hdb : (x == ("__debug__" : Str)) = false := by decide) (he : starEach (e :: es) X.env = (false, eval e X.env) :: starEach es X.env := by rfl)
    (hpl : ((backTo pos (starEach (e :: es) X.env)).any (·.1) || (backToKw pos (keywordEach kws X.env)).any (·.1.isNone)) = false := by rfl) :
    PE X (.Call (.Name x p) (e :: es) kws pos) (tCallN n ks.length sp (fun vs zs => prm ix (vs ++ (dvs ++ zs))) E0 t tk) := by
  obtain ⟨f, fd, g, F, hm, hk, hb⟩ := c.ex
  exact pe_callN F hr hg hm hk hb pass0 ha hkw hall hks hdb he hpl
end
section
variable {T : TC} {Γ : List (Option VA)} {Ω Ω1 Ω2 Ω3 : List OA} {A : VA} {As Ks Ds : List VA} {dvs : List V}
theorem xe_callD {Pre : PreT} {E : XK} {t : TA} {Ω' : List OA} (ha : XA t Γ Ω As Ω1) (hd : ∀ F, AlA F dvs Ds) (hp : Pre (As ++ Ds) Ω1 (RV A Ω')) (he : Ω' = Ω2) : XE (tCall (mkSp Pre) dvs E t) Γ Ω A Ω2 := he ▸ xg_callD ha hd hp
theorem xg_callND {Pre : PreT} {E : XK} {t tk : TA} {ix : List Nat} {n m : Nat} {R : Hp → V → List OA → Prop} (ha : XA t Γ Ω As Ω1) (hk : XA tk Γ Ω1 Ks Ω2) (hd : ∀ F, AlA F dvs Ds) (hp : Pre (prm ix (As ++ (Ds ++ Ks))) Ω2 R) (h1 : As.length = n := by rfl) (h2 : Ks.length = m := by rfl) :
    XG (tCallN n m (mkSp Pre) (fun vs zs => prm ix (vs ++ (dvs ++ zs))) E t tk) Γ Ω R := fun F σ H e hh Q q => by
  refine ha F σ H e hh _ fun F1 xs H1 e1 hh1 a1 => ?_
  refine hk F1 σ H1 (e.mono e1) hh1 _ fun F2 zs H2 e2 hh2 a2 => ?_
  refine ⟨a1.len.trans h1, a2.len.trans h2, F2, Ω2, _, _, hp, prm_relA ix ((a1.mono e2).app ((hd F2).app a2)), hh2, fun F' v H' Ω4 e' hh' r => q F' v H' Ω4 ((e1.trans e2).trans e') hh' r⟩
theorem xe_callND {Pre : PreT} {E : XK} {t tk : TA} {ix : List Nat} {n m : Nat} {Ω' : List OA} (ha : XA t Γ Ω As Ω1) (hk : XA tk Γ Ω1 Ks Ω2) (hd : ∀ F, AlA F dvs Ds) (hp : Pre (prm ix (As ++ (Ds ++ Ks))) Ω2 (RV A Ω')) (he : Ω' = Ω3) (h1 : As.length = n := by rfl) (h2 : Ks.length = m := by rfl) :
    XE (tCallN n m (mkSp Pre) (fun vs zs => prm ix (vs ++ (dvs ++ zs))) E t tk) Γ Ω A Ω3 := he ▸ xg_callND ha hk hd hp h1 h2
end
end VL

set_option Elab.async false
set_option linter.all false
set_option maxRecDepth 100000
/-! VL33: a list of two new machines. -/
namespace VL
open PySem L2
def rawLA (d : Addr) (vs : List V) : OA := ⟨fun _ t => t d = some (.lst vs), fun _ h => h⟩
/-- hands back a list of two new machines -/
abbrev RMM (T : TC) (Ω2 : List OA) (s1 s2 : MS) : Hp → V → List OA → Prop := fun F v Ω' => ∃ p q1 q2, v = .ref p ∧ F p = some (.lst [.ref q1, .ref q2]) ∧ Ω' = Ω2 ++ [machA T q1 s1, machA T q2 s2]
section
variable {T : TC} {Γ : List (Option VA)} {Ω Ω0 Ω1 Ω2 : List OA} {As : List VA} {ta tb te : TE}
variable {F0 : Hp}
end
end VL

set_option Elab.async false
set_option linter.all false
set_option maxRecDepth 100000
/-! VL34: count of a text in a list of texts. -/
namespace VL
open PySem L2
/-- how often -/
def cntStr (k : Str) (l : List Str) : Nat := l.countP (· == k)
def rCntS (K : PySem.W.Frag) : V → List V → Hp → VK → Prop := fun x xs H Q => ∃ (p : Addr) (l : List Str) (k : Str), x = .ref p ∧ xs = [.str k] ∧ SqL K H p (l.map V.str) ∧ Q (.int (cntStr k l : Nat)) H
theorem al_str {T : TC} {F : Hp} : ∀ {vs : List V} {l : List Str}, Al T F vs l → vs = l.map V.str
  | _, _, .nil => rfl
  | _, _, .cons h t => by rw [List.map_cons, ← al_str t, show _ = V.str _ from h]
section
variable {T : TC} {Ω Ω1 Ω2 : List OA}
end
end VL

set_option Elab.async false
set_option linter.all false
set_option maxRecDepth 100000
set_option maxHeartbeats 1000000
/-! VL35: list(reversed(l)) of a list. -/
namespace VLR
open PySem PySem.Spec PyProof.Rows RT
section
variable {prog : Program} {w : World} {A : Around} {E : Value → Shared → Prop} {s : Shared}
/-- a new, empty list takes all that a walk from a list's end gives -/
theorem take_rev {R : Result → Shared → Prop} {it l S : Addr} {items : Array Value} {c₀ : Nat} (hh : A.handled = none) (hit : s.heap.IsRevIter it l ((items.size : Int) - 1)) (hl : s.heap.IsList l items) (hne : l ≠ it) (hn : items.size ≤ sizeLine)
    (eS : s.heap.get? S = some { cls := .type "list", data := .seq #[] c₀ }) (nl : S ≠ l) (ni : S ≠ it)
    (hR : ∀ (h' : Heap) (tk : Nat) (acc : Array Value) (c : Nat), (∀ b o, b ≠ S → b ≠ it → s.heap.get? b = some o → h'.get? b = some o) → h'.get? S = some { cls := .type "list", dict := none, data := .seq acc c, slots := #[] } →
      ItemsOf (fun i v => items[items.size - 1 - i]? = some v) acc items.size → R (.ok (.ret .none)) { s with heap := h', toks := tk }) :
    wpAny (model prog w) A.in1 (Builtin.List.listExtendWith (.ref S) (.ref it) .none)
      (fun f s' => match f with | .done z => R (.ok z) s' | .again k => k.quiet = true ∧ codeAny (model prog w) A k R s') (fun e s' => R (.error e) s') s := by
  have W := (Walks.listRev (prog := prog) (w := w) (A := A.in1) hh it l hne items).toS
  have hSf : S ∉ [it, l] := by simp only [List.mem_cons, List.not_mem_nil, or_false, not_or]; exact ⟨ni, nl⟩
  have ty := hit.typeIs
  have same : Builtin.List.listSameRef (.ref S) (.ref it) = false := by simp [Builtin.List.listSameRef, ni]
  unfold Builtin.List.listExtendWith
  refine wpAny_bind (wpAny_typeOf ty ?_); rw [if_neg (by rw [same]; decide)]
  refine wpAny_bind (wpAny_pyIter_revIter hit ?_); refine wpAny_bind (wpAny_holding ?_); unfold Builtin.List.listLengthHint
  refine wpAny_bind (wpAny_specialOf ty nolen_lri ?_)
  show wpAny _ A.in1 (specialOf (Value.ref it) (Str.ofString "__length_hint__") >>= fun _ => _) _ _ _
  refine wpAny_bind (wpAny_specialOf ty hint_lri ?_); generalize hid : ("list_reverseiterator.__length_hint__" : String) = id1; wp_delta
  rw [show splitId id1 = some ("list_reverseiterator", "__length_hint__") from by subst hid; decide +kernel]; subst hid
  refine wpAny_bind (wpAny_isInstance (b := true) ty (by rw [isSubtype_type]; kernel_rfl) (wpAny_pure ?_)); rw [if_neg (by decide)]
  have z0 : ((items.size : Nat) : Int) - 1 - ((0 : Nat) : Int) = (items.size : Int) - 1 := by omega
  refine wpAny_pure ⟨plainId_quiet F.plain_extend_loop _, codeAny_extend_loopS W hn _ hSf _ items.size 0 _ _ _ rfl (Nat.zero_le _) ⟨Nat.zero_le _, by rw [z0]; exact hit, hl⟩ eS (ItemsOf.nil _) fun s2 acc c hm hS2 hacc => ?_⟩
  rw [Moved.eq_with hm]
  refine hR s2.heap s2.toks acc c (fun b o h1 h2 e => hm.heap b o (fun m => ?_) e) hS2 hacc
  rcases List.mem_cons.mp m with q | q
  · exact h1 q
  · exact h2 (List.mem_singleton.mp q)
theorem init_rev {R : Result → Shared → Prop} {it l S : Addr} {items : Array Value} (hh : A.handled = none) (hit : s.heap.IsRevIter it l ((items.size : Int) - 1)) (hl : s.heap.IsList l items) (hne : l ≠ it) (hn : items.size ≤ sizeLine)
    (eS : s.heap.get? S = some { cls := .type "list", data := .seq #[] }) (nl : S ≠ l) (ni : S ≠ it)
    (hR : ∀ (h' : Heap) (tk : Nat) (acc : Array Value) (c : Nat), (∀ b o, b ≠ S → b ≠ it → s.heap.get? b = some o → h'.get? b = some o) → h'.get? S = some { cls := .type "list", dict := none, data := .seq acc c, slots := #[] } →
      ItemsOf (fun i v => items[items.size - 1 - i]? = some v) acc items.size → R (.ok (.ret .none)) { s with heap := h', toks := tk }) :
    wpAny (model prog w) A.in1 (Builtin.«list.__init__» ⟨[.ref S, .ref it], []⟩)
      (fun f s' => match f with | .done z => R (.ok z) s' | .again k => k.quiet = true ∧ codeAny (model prog w) A k R s') (fun e s' => R (.error e) s') s := by
  show wpAny _ _ (do let old ← Builtin.List.listItems (.ref S); Builtin.List.listUpdate (.ref S) (fun _ => #[]); letGo old.toList.reverse; Builtin.List.listExtendWith (.ref S) (.ref it) .none) _ _ s
  refine wpAny_bind ?_; unfold Builtin.List.listItems; refine wpAny_bind (wpAny_seqItems eS rfl (wpAny_pure ?_))
  show wpAny _ _ (updateSeq S (fun _ => #[]) >>= fun _ => letGo (#[] : Array Value).toList.reverse >>= fun _ => Builtin.List.listExtendWith (.ref S) (.ref it) .none) _ _ s
  refine wpAny_bind (wpAny_updateSeq eS rfl ?_); refine wpAny_bind (wpAny_letGo ?_)
  have other : ∀ b o, b ≠ S → s.heap.get? b = some o → (s.heap.update S (Obj.mapSeq (fun _ => (#[] : Array Value)))).get? b = some o := fun b o hb e => (Heap.get?_update_other _ _ (Ne.symm hb)).trans e
  refine take_rev hh (hit.at fun o e => other _ o (Ne.symm ni) e) (hl.at fun o e => other _ o (Ne.symm nl) e) hne hn (Heap.get?_update_self (Obj.mapSeq (fun _ => (#[] : Array Value))) eS rfl) nl ni fun h2 tk acc c hk e2 hi => ?_
  exact hR h2 tk acc c (fun b o h1 h3 e => hk b o h1 h3 (other b o h1 e)) e2 hi
theorem call_list_rev {Q : Value → Shared → Prop} {it l : Addr} {items : Array Value} (hh : A.handled = none) (hit : s.heap.IsRevIter it l ((items.size : Int) - 1)) (hl : s.heap.IsList l items) (hne : l ≠ it) (hn : items.size ≤ sizeLine)
    (hQ : ∀ (h' : Heap) (tk : Nat) (acc : Array Value) (c : Nat), (∀ b o, b ≠ it → s.heap.get? b = some o → h'.get? b = some o) → h'.get? s.heap.objs.size = some { cls := .type "list", dict := none, data := .seq acc c, slots := #[] } →
      ItemsOf (fun i v => items[items.size - 1 - i]? = some v) acc items.size → Q (.ref s.heap.objs.size) { s with heap := h', toks := tk }) :
    wpAny (model prog w) A (call (.type "list") [.ref it]) Q E s := by
  obtain ⟨oi, hoi, _⟩ := id hit
  obtain ⟨ol, hol, _⟩ := id hl
  refine callType_codes (Q₁ := fun v s2 => v = .ref s.heap.objs.size ∧ s2 = { s with heap := s.heap.push { cls := .type "list", data := .seq #[] } }) F.called_list (F.typeCall_list_1 _) F.entry_list_init (code_list_new _ ⟨rfl, rfl⟩) fun v s2 q => ?_
  obtain ⟨rfl, rfl⟩ := q
  have eS : (s.heap.push { cls := .type "list", data := .seq #[] }).get? s.heap.objs.size = some { cls := .type "list", data := .seq #[] } := Heap.get?_push_size _ rfl
  refine ⟨⟨_, eS, rfl⟩, F.args_list_init_2 _ _, init_rev (A := A.in1) hh (hit.at fun o e => Heap.get?_push_of_some _ e) (hl.push _) hne hn eS (Nat.ne_of_gt (Heap.lt_size hol)) (Nat.ne_of_gt (Heap.lt_size hoi)) fun h2 tk acc c hk e2 hi => ?_⟩
  exact ⟨rfl, hQ h2 tk acc c (fun b o hb e => hk b o (Nat.ne_of_lt (Heap.lt_size e)) hb (Heap.get?_push_of_some _ e)) e2 hi⟩
end
end VLR
namespace VL
open PySem PySem.Spec PyProof.Rows L2 _root_.RT
section
variable {X : Cx}
def tListRev (K : PySem.W.Frag) (te : TE) : TE := fun σ H Q => te σ H fun v H1 => ∃ (a : Addr) (xs : List V), v = .ref a ∧ SqL K H1 a xs ∧ ∀ q, H1 q = none → Q (.ref q) (upd H1 q (.lst xs.reverse))
theorem pe_listRev {e : Expr} {te : TE} {p p2 pos pos2 : Pos} (hc : X.calm = true) (hg : Gl X "list") (hm : X.mg "list" = none) (hg2 : Gl X "reversed") (hm2 : X.mg "reversed" = none) (he : PE X e te) (hs : starEach [e] X.env = (false, eval e X.env) :: starEach [] X.env := by rfl)
    (hs3 : starEach [.Call (.Name "reversed" p2) [e] [] pos2] X.env = (false, eval (.Call (.Name "reversed" p2) [e] [] pos2) X.env) :: starEach [] X.env := by rfl) :
    PE X (.Call (.Name "list" p) [.Call (.Name "reversed" p2) [e] [] pos2] [] pos) (tListRev X.K te) := ⟨fun pins s σ H Q I h => by
  refine Call_ (ld_blt I hg hm PyProof.Rows.boot_list (PyProof.Rows.callWith_type1 (args_cons (Call_ (ld_blt I hg2 hm2 PyProof.Rows.boot_reversed (PyProof.Rows.callWith_type1 (args_cons (thn (he.run pins s σ H _ I h) fun u s1 ⟨v, H1, I1, r1, a, xs, ev, hq, q⟩ => args_nil ?_) hs) hs rfl))) hs3) hs3 rfl))
  subst ev
  obtain rfl : u = Value.ref a := r1
  obtain ⟨its, rv, pl, hz⟩ := I1.list hq
  have hl := pl.isList
  obtain ⟨ol, hol, _⟩ := id hl
  refine call_reversed_list hl (args_nil ?_)
  have hn : its.toArray.size ≤ sizeLine := by rw [List.size_toArray, ← rv.length]; exact hz
  refine VLR.call_list_rev (s := { s1 with heap := s1.heap.push (revObj a ((its.toArray.size : Int) - 1)) }) (I1.ok.hd hc) ⟨_, Heap.get?_push_size _ rfl, rfl, rfl⟩ (hl.push _) (Nat.ne_of_lt (Heap.lt_size hol)) hn fun h2 tk acc c hk e2 hi => ?_
  have ge : s1.heap.objs.size ≤ (s1.heap.push (revObj a ((its.toArray.size : Int) - 1))).objs.size := by
    show _ ≤ (s1.heap.objs.push _).size
    rw [Array.size_push]
    omega
  have kp : ∀ b o, s1.heap.get? b = some o → h2.get? b = some o := fun b o eb => hk b o (Nat.ne_of_lt (Heap.lt_size eb)) (Heap.get?_push_of_some _ eb)
  refine ⟨.ref _, upd H1 _ (.lst xs.reverse), I1.laid (t' := tk) kp ge ⟨by rw [List.length_reverse]; exact hz, acc.toList, c, vals_rev rv hi, ?_⟩, rfl, q _ (I1.hok.fresh ge)⟩
  rw [Array.toArray_toList]
  exact e2⟩
theorem pe_listRevK {K : PySem.W.Frag} (hK : X.K = K) {e : Expr} {te : TE} {p p2 pos pos2 : Pos} (hc : X.calm = true) (hg : Gl X "list") (hm : X.mg "list" = none) (hg2 : Gl X "reversed") (hm2 : X.mg "reversed" = none) (he : PE X e te) (hs : starEach [e] X.env = (false, eval e X.env) :: starEach [] X.env := by rfl)
    (hs3 : starEach [.Call (.Name "reversed" p2) [e] [] pos2] X.env = (false, eval (.Call (.Name "reversed" p2) [e] [] pos2) X.env) :: starEach [] X.env := by rfl) :
    PE X (.Call (.Name "list" p) [.Call (.Name "reversed" p2) [e] [] pos2] [] pos) (tListRev K te) := hK ▸ pe_listRev hc hg hm hg2 hm2 he hs hs3
end
section
variable {T : TC} {Ω Ω1 : List OA}
/-- of a list that is seen in this state -/
theorem xe_listRev {α : Type} [Rp α] {te : TE} {A : VA} {l : List α} (ha : XE te Γ Ω A Ω1) (h : IsL T Ω1 A l) : XE (tListRev T.K te) Γ Ω (va T (LF.mk l.reverse)) Ω1 := fun F σ H e hh Q q => by
  refine ha F σ H e hh _ fun F1 x H1 Ω' e1 hh1 ⟨a1, o1⟩ => ?_
  subst o1
  obtain ⟨p, vs, ex, hs, al⟩ := h F1 H1 x hh1 a1
  refine ⟨p, vs, ex, hs, fun r hr => ?_⟩
  obtain ⟨hh2, e2⟩ := hh1.newF (u := .lst vs.reverse) hr
  exact q _ _ _ _ (e1.trans e2) hh2 ⟨⟨r, _, rfl, upd_same, al_rev (al.mono e2)⟩, rfl⟩
end
section
variable {T : TC} {Ω Ω1 Ω2 : List OA}
theorem ty_str {F H : Hp} {v : V} {x : Str} (_ : Holds F Ω H) (a : (va T x).P F v) : TyX T.K H v (.type "str") := by
  have a : v = .str x := a
  subst a
  exact .base (.str x)
/-- a text among texts -/
def inS (k : Str) (l : List Str) : Bool := l.any fun y => y == k
theorem inV_s (k : Str) : ∀ l : List Str, inV (.str k) (l.map V.str) = inS k l
  | [] => rfl
  | y :: r => by
    show (eqV (.str y) (.str k) || inV (.str k) (r.map V.str)) = ((y == k) || inS k r)
    rw [inV_s k r]
    rfl
theorem flat_s : ∀ l : List Str, (l.map V.str).all flatV = true
  | [] => rfl
  | _ :: r => flat_s r
theorem op_notInK {X : Cx} {K : PySem.W.Frag} (h : X.K = K) : OpR X (compareOp .NotIn) (rIn K true) := h ▸ op_notIn_seq
theorem xe_inB {neg : Bool} {ta tb : TE} {l : List Str} {k : Str} (ha : XE ta Γ Ω (va T k) Ω1) (hb : XE tb Γ Ω1 (va T (TF.mk l)) Ω2) : XE (tOp (rIn T.K neg) ta tb) Γ Ω (va T (if neg then !inS k l else inS k l)) Ω2 := xe_op ha hb fun F H x y hh a1 a2 Q q => by
  have a1 : x = .str k := a1
  subst a1
  obtain ⟨p, vs, ey, hs, al⟩ := a2
  subst ey
  rw [al_str al] at hs
  refine ⟨p, _, rfl, .inr (Same.tup (fun b o e => hh.same b o e) hs), rfl, flat_s l, ?_⟩
  rw [inV_s]
  exact q F _ H (Same.refl F) hh rfl
theorem xe_notInS {ta tb : TE} {l : List Str} {k : Str} (ha : XE ta Γ Ω (va T k) Ω1) (hb : XE tb Γ Ω1 (va T (TF.mk l)) Ω2) : XE (tOp (rIn T.K true) ta tb) Γ Ω (va T (!inS k l)) Ω2 := xe_inB (neg := true) ha hb
theorem xe_iteL {α : Type} [Rp α] {l m : List α} {t : TT} {b : Bool} {ta tb : TE} (h : XT t Γ Ω b Ω1) (h1 : XE ta Γ Ω1 (va T (LF.mk l)) Ω2) (h2 : XE tb Γ Ω1 (va T (LF.mk m)) Ω2) : XE (tIf t ta tb) Γ Ω (va T (LF.mk (if b = true then l else m))) Ω2 :=
  xe_if h (fun e => xe_eq h1 (by rw [if_pos e])) (fun e => xe_eq h2 (by rw [if_neg (by rw [e]; exact Bool.false_ne_true)]))
end
end VL

set_option Elab.async false
set_option linter.all false
set_option maxRecDepth 100000
/-! VL36: a tuple of one thing and a pair make a triple. -/
namespace VL
open PySem L2
section
variable {T : TC} {Ω Ω1 Ω2 : List OA}
end
end VL

set_option Elab.async false
set_option linter.all false
set_option maxRecDepth 100000
/-! VL37: a dict that changed, locked within a pair that is handed back; both things of a pair one by one. -/
namespace VL
open PySem L2 PyProof.Rows
/-- some dict is locked for good -/
def tFzA (te : TE) : TE := fun σ H Q => te σ H fun v H1 => ∃ p kvs, H1 p = some (.dK kvs) ∧ ∀ od, Q v (upd H1 p (.frz od (.dK kvs)))
section
variable {T : TC} {Γ : List (Option VA)} {Ω Ω1 Ω2 Ω3 : List OA} {A B C : VA} {ta tb te : TE} {D : Ends} {F0 : Hp} {ts : TS}
end
end VL

set_option Elab.async false
set_option linter.all false
set_option maxRecDepth 100000
set_option maxHeartbeats 2000000
/-! VL38: a lambda with one parameter, handed to a def that calls it with a machine. -/
namespace VL
open PySem PySem.Spec PyProof.Rows L2 LamX
/-- the context of the body of such a lambda: the caller's names and its own -/
def lamCx1 (X : Cx) (nm : Str) (A : Around) (outer : List PySem.Env) (s : Shared) (H : Hp) (E : XK) (scope : Scope) (f c' : Addr) : Cx := { lamCx X A outer s H E scope f c' with N := X.N ++ [nm] }
section
variable {X : Cx} {pins : List (Addr × Obj)} {σ : L2.St} {H HZ : Hp} {s s1 : Shared}
/-- what a call of the name with one value makes -/
def tAct1 (i : Nat) (f c' : Addr) (q : Str) (act : V → Hp → VK → Prop) (te : TE) : TE := fun σ H Q => σ[i]? = some (some (.ref f)) ∧ te σ H fun v H1 => H1 c' = some (CodeO c' q) ∧ act v H1 Q
end
/-! ### a def that is handed such a lambda -/
def ActH1 (P : Program) (w : World) (K : PySem.W.Frag) (mg : Str → Option Value) (base : Heap) (k : Nat) (A : Around) (outer : List PySem.Env) (s : Shared) (H : Hp) (f c' : Addr) (q : Str) (act : V → Hp → VK → Prop) : Prop :=
  ∀ (Ng : List Str) (qg : Str) (sg : Scope) (g : Addr) (cdg : Value) (i : Nat) (a : Str) (p1 p2 : Pos) (e : Expr) (te : TE), Room (k + 1) (A.deeper (envOfC qg sg s.heap.objs.size g cdg)) → Ng[i]? = some a → Vis sg a → (a == ("__debug__" : Str)) = false → (a == ("__classdict__" : Str)) = false →
    PE (cxOf CX0 P w K mg base Ng qg sg g cdg A outer s H E0).nox e te → starEach [e] (envOfC qg sg s.heap.objs.size g cdg) = (false, eval e (envOfC qg sg s.heap.objs.size g cdg)) :: starEach [] (envOfC qg sg s.heap.objs.size g cdg) →
    PE (cxOf CX0 P w K mg base Ng qg sg g cdg A outer s H E0).nox (.Call (.Name a p1) [e] [] p2) (tAct1 i f c' q act te)
abbrev PreLT1 := Addr → Addr → Str → (V → Hp → VK → Prop) → PreT
structure CalL1 (P : Program) (w : World) (K : PySem.W.Frag) (mg : Str → Option Value) (base : Heap) (kl k : Nat) (x : Str) (ps : List Str) (Pre : PreLT1) : Prop where
  ex : ∃ g fd, mg x = some (.ref g) ∧ PySem.W.keepIn K (.ref g) = true ∧ Binds K fd ps [] ∧ (∀ f c' q act As Ω R, Pre f c' q act As Ω R → As.length = ps.length) ∧
    ∀ (A : Around) (outer : List PySem.Env) (s : Shared) (H : Hp) (us : List Value) (vs : List V) (Q : VK) (f c' : Addr) (q : Str) (act : V → Hp → VK → Prop), Room k A → Env0 P w K mg base A outer s H → BindsTo s fd ⟨us, []⟩ (ps.zip us) → Vals vs us →
      ActH1 P w K mg base kl A outer s H f c' q act → mkSp (Pre f c' q act) vs H Q E0 → codeAny (model P w) A (.call (.ref g) ⟨us, []⟩) (CR CX0 outer P w H s Q E0) s
section
variable {P : Program} {w : World} {K : PySem.W.Frag} {mg : Str → Option Value} {base : Heap}
end
def tLam1 (P : Addr) (q : Str) (Pre : PreLT1) (ta tb : TE) : TE := fun σ H Q => ta σ H fun v H0 => (∃ ps : Array Value, H0 P = some (.tbl ps) ∧ TriplesOk ps.toList ∧ ∀ (pos : Pos) (cv : Value), codeAmong pos ps.toList = some cv → ∃ c, cv = .ref c ∧ H0 c = some (CodeO c q)) ∧
  ∀ f c' H1, Grown H0 P q H1 c' → mkSp (Pre f c' q fun u H' Q' => tb (σ ++ [some u]) H' Q') [v, .ref f] H1 Q E0
section
variable {X : Cx}
end
/-- the name's value: the lambda f, which takes the machine at k0, handed over, from m to r.2 and tells r.1 -/
def askA1 (T : TC) {α : Type} [Rp α] (f c' : Addr) (q : Str) (act : V → Hp → VK → Prop) (Ω : List OA) (k0 : Nat) (p0 : Addr) (M : MS → Option (α × MS)) : VA :=
  ⟨fun F v => v = .ref f ∧ F c' = some (CodeO c' q) ∧ ∀ m r, M m = some r → ∀ F1 H1, Same F F1 → Holds F1 (stt Ω [(k0, machA T p0 m)] []) H1 → ∀ Q : VK, (∀ F2 v H2, Same F1 F2 → Holds F2 (stt Ω [(k0, machA T p0 r.2)] []) H2 → (va T r.1).P F2 v → Q v H2) → act (.ref p0) H1 Q,
   fun e ⟨h1, h2, h3⟩ => ⟨h1, e _ _ h2, fun m r hm F1 H1 e1 => h3 m r hm F1 H1 (e.trans e1)⟩⟩
section
variable {T : TC} {Γ : List (Option VA)} {Ω Ω1 Ω2 : List OA} {α : Type} [Rp α]
end
/-! ### a dict with a machine, a list and a dict -/
def wev (m e d : Addr) : List (Key × V) := [(Sum.inr ("engine" : Str), .ref m), (Sum.inr ("walk" : Str), .ref e), (Sum.inr ("counts" : Str), .ref d)]
section
variable {m e d : Addr}
end
section
variable {T : TC} {Γ : List (Option VA)} {Ω Ω0 Ω1 Ω2 Ω3 : List OA} {A B' C : VA} {ta tb te : TE} {D : Ends} {F0 : Hp} {ts : TS} {p m : Addr} {k : Nat}
/-- such a dict, new, about the machine at m -/
def RNE (T : TC) (Ω2 : List OA) (m : Addr) : Hp → V → List OA → Prop := fun _ v Ω' => ∃ p e d, v = .ref p ∧ Ω' = Ω2 ++ [rawD p (wev m e d), lstA T e ([] : List (T3 Str Int Int)), rawD d (dkv [])]
end
end VL

set_option Elab.async false
set_option linter.all false
set_option maxRecDepth 100000
/-! VL39: a list of two machines by its name: kept, taken apart, handed over; a dict with a machine out of a def. -/
namespace VL
open PySem L2 PyProof.Rows
/-- a list of the things at q1 and q2, for good -/
def mmA (q1 q2 : Addr) : VA := ⟨fun F v => ∃ p, v = .ref p ∧ F p = some (.lst [.ref q1, .ref q2]), fun e ⟨p, a, b⟩ => ⟨p, a, e _ _ b⟩⟩
section
variable {T : TC} {Γ : List (Option VA)} {Ω Ω0 Ω1 Ω2 Ω3 : List OA} {A B C : VA} {As : List VA} {ta tb te : TE} {D : Ends} {F0 : Hp} {ts : TS} {p m q1 q2 : Addr}
end
end VL

set_option Elab.async false
set_option linter.all false
set_option maxRecDepth 100000
/-! VL40: x *= e; two names for one value; range(a, j, c). -/
namespace VL
open PySem L2 PyProof.Rows
section
variable {T : TC} {Γ : List (Option VA)} {Ω Ω0 Ω1 Ω2 : List OA} {A B' : VA} {As : List VA} {te : TE} {D : Ends} {F0 : Hp} {ts : TS}
def rngA (a c : Int) (n : Nat) : List Int := (List.range n).map fun (k : Nat) => a + (k : Int) * c
def CRgA (a j c : Int) : Prop := 0 < c ∧ c < 2 ^ 30 ∧ 0 ≤ a ∧ a ≤ j ∧ j < 2 ^ 30
end
end VL

set_option Elab.async false
set_option linter.all false
set_option maxRecDepth 100000
/-! VL41: list(range(a, j, c)); the first part of a triple. -/
namespace VL
open PySem PySem.Spec L2 PyProof.Rows
def rgVC (a c : Int) (n : Nat) : List V := (rngA a c n).map V.int
def tLstRgC (ta : TA) : TE := fun σ H Q => ta σ H fun vs H1 => ∃ (i j c : Int) (n : Nat), vs = [.int i, .int j, .int c] ∧ RgC i j c n ∧ n ≤ 2 ^ 24 ∧ ∀ q, H1 q = none → Q (.ref q) (upd H1 q (.lst (rgVC i c n)))
section
variable {X : Cx}
end
section
variable {T : TC} {Γ : List (Option VA)} {Ω Ω1 : List OA} {te : TE}
end
end VL

set_option Elab.async false
set_option linter.all false
set_option maxRecDepth 100000
/-! VL42: three things that change; a list of two new machines handed to a def; w, x, y, z = values and a new list. -/
namespace VL
open PySem L2 PyProof.Rows
section
variable {T : TC} {Γ : List (Option VA)} {Ω Ω0 Ω1 : List OA} {A B C : VA} {As : List VA} {ta tb tc td : TE} {D : Ends} {F0 : Hp} {ts : TS}
end
end VL

set_option Elab.async false
set_option linter.all false
set_option maxRecDepth 100000
/-! VL43: a pair turned about, p[::-1]; d.get(k) of a key that is there. -/
namespace VL
open PySem PySem.Spec PySem.Calls L2 PyProof.Rows
section
variable {prog : Program} {w : World} {A : Around} {E : Value → Shared → Prop} {s : Shared}
end
def tRevP (K : PySem.W.Frag) (te : TE) : TE := fun σ H Q => te σ H fun x H1 => ∃ a u v, x = .ref a ∧ SqT K H1 a [u, v] ∧ ∀ p, H1 p = none → Q (.ref p) (upd H1 p (.tup [v, u]))
section
variable {X : Cx}
end
section
variable {T : TC} {Γ : List (Option VA)} {Ω Ω1 Ω2 : List OA} {te ta tb : TE}
end
section
variable {T : TC} {Γ : List (Option VA)} {Ω Ω1 Ω2 : List OA} {ta tb : TE}
/-- a number among numbers -/
def inI (k : Int) (l : List Int) : Bool := l.any fun y => y == k
end
end VL

set_option Elab.async false
set_option linter.all false
set_option maxRecDepth 100000
/-! VL44: sum(d.values()). -/
namespace VL
open PySem PySem.Spec PySem.Calls PySem.W L2 PyProof PyProof.Rows
def tSumVals (td : TE) : TE := fun σ H Q => td σ H fun x H1 => ∃ (a : Addr) (kvs : List (Key × V)) (is : List Int), x = V.ref a ∧ Rd H1 a (.dK kvs) ∧ kvs.map (·.2) = is.map V.int ∧ Q (.int (preSum (fun i => is.getD i 0) is.length)) H1
section
variable {X : Cx} {o : Expr} {p pos apos mpos : Pos} {td : TE}
end
section
variable {T : TC} {Γ : List (Option VA)} {Ω Ω1 : List OA} {te : TE}
end
end VL

set_option Elab.async false
set_option linter.all false
set_option maxRecDepth 100000
/-! VL45: defs that raise an own exception without arguments; try .. except X around one statement. -/
namespace VL
open PySem L2
open PyProof.Rows (envOfC)
/-- a promise to raise: of the arguments As in the state Ω -/
abbrev PreXX := List VA → List OA → (Hp → Value → Option Addr → List OA → Prop) → Prop
def mkSpX (Pre : PreXX) : Sp := fun vs H _ E => ∃ F Ω As R, Pre As Ω R ∧ AlA F vs As ∧ Holds F Ω H ∧ ∀ F' c d H' Ω', Same F F' → Holds F' Ω' H' → R F' c d Ω' → E c d H'
/-- an exception of the class at C, the state Ω2 -/
abbrev RX (C : Addr) (Ω2 : List OA) : Hp → Value → Option Addr → List OA → Prop := fun _ c _ Ω' => c = .ref C ∧ Ω' = Ω2
/-- it returns, or it raises -/
def sp2 (Pre : PreT) (PreX : PreXX) : Sp := fun vs H Q E => mkSp Pre vs H Q E ∨ mkSpX PreX vs H Q E
def RTX (F0 : Hp) (R : Hp → Value → Option Addr → List OA → Prop) : XK → Prop := fun E => ∀ F c d H Ω, Same F0 F → Holds F Ω H → R F c d Ω → E c d H
def BodX (X : Cx) (body : List Stmt) (Γ : List (Option VA)) (Ω : List OA) (F0 : Hp) : Prop := ∃ t, PSs X body t ∧ ∀ D : Ends, XS t D F0 Γ Ω
abbrev WXE (E : XK) : WX := fun c d _ H => E c d H
section
variable {P : Program} {w : World} {K : PySem.W.Frag} {mg : Str → Option Value} {base : Heap}
/-- what never raises may stand where something may be let out -/
theorem FnOk.up {k : Nat} {f : Addr} {fd : FuncData} {ps : List Str} {sp : Sp} (F : FnOk P w K mg base CX0 k f fd ps sp) : FnOk P w K mg base (L2.CX P w) k f fd ps sp :=
  ⟨F.len, fun A outer s H args us vs Q E hr he hb hv hs => codeAny_mono (F.run A outer s H args us vs Q E hr he hb hv hs) fun r s' q => by
    cases r with
    | error e => exact False.elim q
    | ok fl => cases fl <;> exact q⟩
theorem FnOk.or {k : Nat} {f : Addr} {fd : FuncData} {ps : List Str} {Pre : PreT} {PreX : PreXX} (F : FnOk P w K mg base CX0 k f fd ps (mkSp Pre)) (G : FnOk P w K mg base (L2.CX P w) k f fd ps (mkSpX PreX)) : FnOk P w K mg base (L2.CX P w) k f fd ps (sp2 Pre PreX) :=
  ⟨fun vs H Q E h => h.elim (F.len vs H Q E) (G.len vs H Q E), fun A outer s H args us vs Q E hr he hb hv hs => hs.elim (fun h => (FnOk.up F).run A outer s H args us vs Q E hr he hb hv h) (fun h => G.run A outer s H args us vs Q E hr he hb hv h)⟩
/-- a def that may be called, and may raise -/
structure CalX (P : Program) (w : World) (K : PySem.W.Frag) (mg : Str → Option Value) (base : Heap) (k : Nat) (x : Str) (ps : List Str) (sp : Sp) : Prop where
  ex : ∃ f fd, FnOk P w K mg base (L2.CX P w) k f fd ps sp ∧ mg x = some (.ref f) ∧ PySem.W.keepIn K (.ref f) = true ∧ Binds K fd ps []
end
/-! ### an own exception -/
structure ExcC (K : PySem.W.Frag) (mg : Str → Option Value) (x : Str) (C : Addr) : Prop where
  q : PySem.W.excIn K C aeBase "ArithmeticError.__new__" = true
  k : PySem.W.keepIn K (.ref C) = true
  s : PySem.W.subIn K (.ref C) (.type "BaseException") = some true
  t : PySem.W.typeIn K (.ref C) = some (.type "type")
  g : mg x = some (.ref C)
section
variable {X : Cx} {C : Addr} {x : Str} {p pos : Pos} {W : WX}
/-- raise X() -/
def tRz (c : Value) (W : WX) : TS := fun _ σ H => W c none σ H
end
section
variable {T : TC} {Γ Γ' : List (Option VA)} {Ω Ω' Ω1 Ω2 : List OA} {A : VA} {As : List VA} {te : TE} {t : TA} {D : Ends} {F0 : Hp} {W : WX} {C : Addr} {Pre : PreT} {PreX : PreXX} {E : XK} {R : Hp → Value → Option Addr → List OA → Prop}
/-- the wish W takes an exception of the class at C at such slots in such a state -/
def WTk (W : WX) (C : Addr) (F0 : Hp) (Γ : List (Option VA)) (Ω : List OA) : Prop := ∀ d σ H, NX F0 Γ Ω σ H → W (.ref C) d σ H
/-- an expression that raises -/
def XR (te : TE) (F0 : Hp) (Γ : List (Option VA)) (Ω : List OA) : Prop := ∀ σ H, NX F0 Γ Ω σ H → ∀ Q : VK, te σ H Q
/-! try: .. except x: .. -/
def tTry (K : PySem.W.Frag) (c : Value) (ts : Addr → Value → Option Addr → TS) (tb : WX → TS) (Wout : WX) : TS := fun D σ H => tb (wOnly K c ts Wout D) D σ H
end
section
variable {X : Cx} {x : Str} {C : Addr} {np pos pos' : Pos} {body suite : List Stmt} {b₀ : Stmt} {tb : WX → TS} {ts : Addr → Value → Option Addr → TS}
end
/-- a call's way: it raises (the class told by a number), or it returns -/
def onX {β : Type} (o : Option Nat) (s : Nat → Option β) (n : Option β) : Option β := match o with | some k => s k | none => n
end VL
namespace VL
open PySem L2
section
variable {T : TC} {Γ Γ' : List (Option VA)} {Ω Ω' Ω1 Ω2 : List OA} {A : VA} {D : Ends} {F0 : Hp} {C : Addr} {E : XK} {K : PySem.W.Frag} {c : Value} {us : Addr → Value → Option Addr → TS} {te : WX → TE} {Wo : WX} {ts : TS} {R : Hp → V → List OA → Prop}
end
/-! a value or None, a value or a text -/
inductive EN (α : Type) where
  | ok (a : α)
  | no
inductive ES (α : Type) where
  | ok (a : α)
  | s (t : Str)
instance {α : Type} [Rp α] : Rp (EN α) := ⟨fun T F v x => match x with | .ok a => Rp.rep T F v a | .no => v = .non, fun {T F F' v a} e h => by
  cases a with
  | ok a => exact Rp.mono e h
  | no => exact h⟩
instance {α : Type} [Rp α] : Rp (ES α) := ⟨fun T F v x => match x with | .ok a => Rp.rep T F v a | .s t => v = .str t, fun {T F F' v a} e h => by
  cases a with
  | ok a => exact Rp.mono e h
  | s t => exact h⟩
def EN.get {α : Type} : EN α → Option α
  | .ok a => some a
  | .no => none
def EN.isN {α : Type} : EN α → Bool
  | .ok _ => false
  | .no => true
def ES.get {α : Type} : ES α → Option α
  | .ok a => some a
  | .s _ => none
/-- data that is neither None nor a text -/
class Tupl (α : Type) [Rp α] [Dat α] where
  n1 : ∀ a : α, PyData.eqv (Dat.dat a) .none = false
  n2 : ∀ a : α, PyData.eqv .none (Dat.dat a) = false
  s1 : ∀ (a : α) (t : Str), PyData.eqv (Dat.dat a) (.str t) = false
  s2 : ∀ (a : α) (t : Str), PyData.eqv (.str t) (Dat.dat a) = false
  nn : ∀ {T : TC} {F : Hp} {v : V} {a : α}, Rp.rep T F v a → v ≠ .non
end VL
namespace VL
open PySem L2
instance {α β : Type} [Rp α] [Rp β] [Dat α] [Dat β] : Tupl (α × β) := ⟨fun _ => rfl, fun _ => rfl, fun _ _ => rfl, fun _ _ => rfl, fun ⟨p, _, _, h, _⟩ e => by rw [h] at e; cases e⟩
instance {α β γ : Type} [Rp α] [Rp β] [Rp γ] [Dat α] [Dat β] [Dat γ] : Tupl (T3 α β γ) := ⟨fun _ => rfl, fun _ => rfl, fun _ _ => rfl, fun _ _ => rfl, fun ⟨p, _, _, _, h, _⟩ e => by rw [h] at e; cases e⟩
instance {α : Type} [Rp α] [Dat α] [Tupl α] : Dat (EN α) := ⟨fun x => match x with | .ok a => Dat.dat a | .no => .none, fun x => match x with | .ok a => Dat.ok a | .no => True, Dat.dep α, fun {T F H v a} e h => by
    cases a with
    | ok a => exact Dat.dp e h
    | no => rw [show v = V.non from h]; exact .non, fun {a} h => by
    cases a with
    | ok a => exact Dat.lay h
    | no => rfl, fun {a} => by
    cases a with
    | ok a => exact Dat.depth
    | no => exact Nat.zero_le _, fun {a b} => by
    cases a <;> cases b
    · exact Dat.eqv.trans ⟨fun h => by rw [h], fun h => EN.ok.inj h⟩
    · exact ⟨fun h => (Bool.false_ne_true ((Tupl.n1 _).symm.trans h)).elim, fun h => by cases h⟩
    · exact ⟨fun h => (Bool.false_ne_true ((Tupl.n2 _).symm.trans h)).elim, fun h => by cases h⟩
    · exact ⟨fun _ => rfl, fun _ => rfl⟩⟩
instance {α : Type} [Rp α] [Dat α] [Tupl α] : Dat (ES α) := ⟨fun x => match x with | .ok a => Dat.dat a | .s t => .str t, fun x => match x with | .ok a => Dat.ok a | .s t => Dat.ok t, Dat.dep α, fun {T F H v a} e h => by
    cases a with
    | ok a => exact Dat.dp e h
    | s t => rw [show v = V.str t from h]; exact .str _, fun {a} h => by
    cases a with
    | ok a => exact Dat.lay h
    | s t => exact h, fun {a} => by
    cases a with
    | ok a => exact Dat.depth
    | s t => exact Nat.zero_le _, fun {a b} => by
    cases a <;> cases b
    · exact Dat.eqv.trans ⟨fun h => by rw [h], fun h => ES.ok.inj h⟩
    · exact ⟨fun h => (Bool.false_ne_true ((Tupl.s1 _ _).symm.trans h)).elim, fun h => by cases h⟩
    · exact ⟨fun h => (Bool.false_ne_true ((Tupl.s2 _ _).symm.trans h)).elim, fun h => by cases h⟩
    · exact (Dat.eqv (α := Str)).trans ⟨fun h => by rw [h], fun h => ES.s.inj h⟩⟩
section
variable {T : TC} {Γ : List (Option VA)} {Ω Ω1 Ω2 : List OA} {A B : VA} {ta tb te : TE} {α : Type} [Rp α]
end
end VL
namespace VL
open PySem L2
section
variable {T : TC} {Γ : List (Option VA)} {Ω Ω0 Ω1 Ω2 : List OA} {A : VA} {As Ks : List VA} {ta te : TE}
/-- arguments, the last of which is a new thing -/
def XANw (t : TA) (Γ : List (Option VA)) (Ω : List OA) (As : List VA) (Ω2 : List OA) (o : Addr → OA) : Prop :=
  ∀ F σ H, Env F σ Γ → Holds F Ω H → ∀ Q : List V → Hp → Prop, (∀ F' vs H' q, Same F F' → Holds F' (Ω2 ++ [o q]) H' → AlA F' vs (As ++ [vr q]) → Q vs H') → t σ H Q
end
end VL

namespace VL
open PySem PySem.Spec PyProof.Rows L2
section
variable {T : TC} {Γ : List (Option VA)} {Ω Ω1 Ω2 : List OA} {ta tb : TE} {i j : Int}
end
end VL

set_option Elab.async false
set_option linter.all false
set_option maxRecDepth 100000
/-! VL46: a triple of a value, a new thing and a value. -/
namespace VL
open PySem L2
section
variable {T : TC} {Γ : List (Option VA)} {Ω Ω1 Ω2 : List OA} {A B : VA} {te t0 td tl : TE}
def RNT (T : TC) (Ω2 : List OA) (o : Addr → OA) (A B : VA) : Hp → V → List OA → Prop := fun F v Ω' => ∃ p t x w, v = .ref t ∧ SqT T.K F t [x, .ref p, w] ∧ A.P F x ∧ B.P F w ∧ Ω' = Ω2 ++ [o p]
def RNTQ (T : TC) (Ω2 : List OA) (p : Addr) (A B : VA) : Hp → V → List OA → Prop := fun F v Ω' => ∃ t x w, v = .ref t ∧ SqT T.K F t [x, .ref p, w] ∧ A.P F x ∧ B.P F w ∧ Ω' = Ω2
end
end VL

set_option Elab.async false
set_option linter.all false
set_option maxRecDepth 100000
/-! VL47: a dict by numbers; a list made longer by += ; a constant that is a tuple of pairs. -/
namespace VL
open PySem L2 PyProof.Rows
section
variable {T : TC} {α : Type} [Rp α] {F F' : Hp} {r : List (Key × V)} {l : List (Int × α)}
/-- keys that are numbers, values told -/
inductive AlK (T : TC) (F : Hp) : List (Key × V) → List (Int × α) → Prop
  | nil : AlK T F [] []
  | cons {v : V} {i : Int} {a : α} {r : List (Key × V)} {l : List (Int × α)} (h : Rp.rep T F v a) (t : AlK T F r l) : AlK T F ((Sum.inl i, v) :: r) ((i, a) :: l)
theorem AlK.mono (e : Same F F') : ∀ {r : List (Key × V)} {l : List (Int × α)}, AlK T F r l → AlK T F' r l
  | _, _, .nil => .nil
  | _, _, .cons h t => .cons (Rp.mono e h) (AlK.mono e t)
theorem AlK.len : ∀ {r : List (Key × V)} {l : List (Int × α)}, AlK T F r l → r.length = l.length
  | _, _, .nil => rfl
  | _, _, .cons _ t => by rw [List.length_cons, List.length_cons, AlK.len t]
theorem AlK.get {i : Int} {a : α} : ∀ {r : List (Key × V)} {l : List (Int × α)}, AlK T F r l → l.lookup i = some a → ∃ v, valV r (Sum.inl i : Key) = some v ∧ Rp.rep T F v a
  | _, _, .nil, e => by cases e
  | _, _, .cons (i := j) (a := b) h t, e => by
    rw [List.lookup_cons] at e
    by_cases c : i = j
    · subst c
      rw [beq_self_eq_true] at e
      cases e
      exact ⟨_, valV_pos rfl, h⟩
    · rw [show (i == j) = false from by simpa using c] at e
      obtain ⟨v, h1, h2⟩ := AlK.get t e
      exact ⟨v, (valV_neg (fun z => c (Sum.inl.inj z).symm)).trans h1, h2⟩
/-- written in its place, or at the end -/
def iput (l : List (Int × α)) (k : Int) (v : α) : List (Int × α) := if (l.any fun p => decide (p.1 = k)) = true then l.map (fun p => if p.1 = k then (p.1, v) else p) else l ++ [(k, v)]
theorem AlK.any {i : Int} : ∀ {r : List (Key × V)} {l : List (Int × α)}, AlK T F r l → (r.any fun kv => decide (kv.1 = (Sum.inl i : Key))) = (l.any fun p => decide (p.1 = i))
  | _, _, .nil => rfl
  | _, _, .cons (i := j) h t => by
    rw [List.any_cons, List.any_cons, AlK.any t]
    congr 1
    exact decide_eq_decide.mpr ⟨fun z => Sum.inl.inj z, fun z => congrArg Sum.inl z⟩
theorem AlK.sub {i : Int} {v : V} {a : α} (hv : Rp.rep T F v a) : ∀ {r : List (Key × V)} {l : List (Int × α)}, AlK T F r l → AlK T F (r.map fun kv => if kv.1 = (Sum.inl i : Key) then (kv.1, v) else kv) (l.map fun p => if p.1 = i then (p.1, a) else p)
  | _, _, .nil => .nil
  | _, _, .cons (v := w) (i := j) (a := b) h t => by
    rw [List.map_cons, List.map_cons]
    by_cases c : j = i
    · subst c
      rw [if_pos rfl, if_pos rfl]
      exact .cons hv (AlK.sub hv t)
    · rw [if_neg (fun z => c (Sum.inl.inj z)), if_neg c]
      exact .cons h (AlK.sub hv t)
theorem AlK.snoc {i : Int} {v : V} {a : α} (hv : Rp.rep T F v a) : ∀ {r : List (Key × V)} {l : List (Int × α)}, AlK T F r l → AlK T F (r ++ [(Sum.inl i, v)]) (l ++ [(i, a)])
  | _, _, .nil => .cons hv .nil
  | _, _, .cons h t => .cons h (AlK.snoc hv t)
theorem AlK.put {i : Int} {v : V} {a : α} (h : AlK T F r l) (hv : Rp.rep T F v a) : AlK T F (putK r (Sum.inl i : Key) v) (iput l i a) := by
  unfold putK iput
  rw [h.any (i := i)]
  split
  · exact h.sub hv
  · exact h.snoc hv
/-- a dict by numbers that changes -/
def intD (T : TC) {α : Type} [Rp α] (p : Addr) (l : List (Int × α)) : OA := ⟨fun F t => ∃ kvs, t p = some (.dK kvs) ∧ AlK T F kvs l, fun e ⟨kvs, h1, h2⟩ => ⟨kvs, h1, h2.mono e⟩⟩
end
section
variable {T : TC} {Γ : List (Option VA)} {Ω Ω1 Ω2 Ω3 : List OA} {A B C : VA} {ta tb te tk tv : TE} {D : Ends} {F0 : Hp} {ts : TS} {α : Type} [Rp α]
end
section
variable {T : TC} {Γ : List (Option VA)} {Ω Ω1 Ω2 : List OA} {ta tb : TE}
end
end VL

set_option Elab.async false
set_option linter.all false
set_option maxRecDepth 100000
/-! VL48: and, or with a first part that changes a thing. -/
namespace VL
open PySem L2
section
variable {T : TC} {Γ : List (Option VA)} {Ω Ω1 Ω2 : List OA} {ta tb : TE} {b c : Bool}
end
end VL

set_option Elab.async false
set_option linter.all false
set_option maxRecDepth 100000
/-! VL49: the second and the third thing of a triple; the triple without its first thing. -/
namespace VL
open PySem L2
section
variable {T : TC} {Γ : List (Option VA)} {Ω Ω1 Ω2 : List OA} {te ta tb : TE} {α β γ : Type} [Rp α] [Rp β] [Rp γ]
end
end VL

set_option Elab.async false
set_option linter.all false
set_option maxRecDepth 100000
/-! VL50: for over a list of two machines; a test whose first part is known to fail. -/
namespace VL
open PySem L2 PyProof.Rows
section
variable {T : TC} {Γ : List (Option VA)} {Ω Ω1 Ω2 : List OA} {te ta tb : TE} {t u : TT} {q1 q2 : Addr}
/-- the two things, one behind the other -/
def oneOf (q1 q2 : Addr) (b : Bool) : VA := vr (cond b q2 q1)
def tNoT : TT := fun _ _ _ => False
end
end VL

set_option Elab.async false
set_option linter.all false
set_option maxRecDepth 100000
set_option maxHeartbeats 2000000
/-! VL51: the program's own exceptions over ArithmeticError that have an __init__ of their own: C(text), its field read in a clause. -/
namespace VL
open PySem PySem.Spec PyProof.Rows L2
/-- C: the class at C, its __init__ at fI, its field f; the class above it at B0 -/
structure IxC (K : PySem.W.Frag) (C B0 fI : Addr) (f : Str) : Prop where
  ini : PySem.W.excInitIn K C aeBase "ArithmeticError.__new__" = true
  ovr : PySem.W.excOver K C aeBase = true
  hdC : PySem.W.hasDictIn K C = true
  tkr : PySem.W.takerIn K C f = some none
  iC : PySem.W.findIn K (.ref C) "__init__" = some (some (.ref fI))
  tI : PySem.W.typeIn K (.ref fI) = some (.type "function")
  sa : PySem.W.findIn K (.ref C) "__setattr__" = some (some (.builtin "object.__setattr__"))
  exC : PySem.W.subIn K (.ref C) (.type "BaseException") = some true
  tyC : PySem.W.typeIn K (.ref C) = some (.type "type")
  kC : PySem.W.keepIn K (.ref C) = true
  xf : xfB K C = true
  no : PySem.W.findIn K (.ref C) f = some none
  b1 : PySem.W.specialIn K (.ref B0) "__getattribute__" = some (some (.builtin "type.__getattribute__"))
  b2 : PySem.W.readsIn K B0 (.type "type") = true
  b3 : PySem.W.findCls K (.ref B0) (.type "type") "__init__" = some (.val (.builtin "ArithmeticError.__init__"))
  k0 : PySem.W.keepIn K (.ref B0) = true
section
variable {X : Cx} {pins : List (Addr × Obj)} {σ : L2.St} {H : Hp} {s : Shared} {a C B0 fI : Addr} {f : Str} {y : V} {u : Value} {A : Around} {EE : Value → Shared → Prop}
end
section
variable {X : Cx} {C B0 fI : Addr} {f xb : Str} {o e : Expr} {es : List Expr} {to te : TE} {ta : TA} {p p' p1 p2 pos : Pos}
/-- B.__init__(self, ..) -/
def tIxI (ta : TA) (C : Addr) : TE := fun σ H Q => ta σ H fun vs H1 => ∃ (a : Addr) (ws : List V), vs = .ref a :: ws ∧ ws.length ≤ 1000 ∧ H1 a = some (exo a C none) ∧ Q .non H1
/-- self.f = e -/
def tIxS (f : Str) (C : Addr) (to te : TE) : TS := fun D σ H => te σ H fun y H1 => to σ H1 fun x H2 => ∃ a : Addr, x = .ref a ∧ H2 a = some (exo a C none) ∧ ∀ dx, H2 dx = none → dx ≠ a → D.nx σ (upd (upd H2 dx (exd dx [(f, y)])) a (exo a C (some dx)))
/-- what __init__ makes -/
def spIx (C : Addr) (f : Str) : Sp := fun vs H Q _ => ∃ (a : Addr) (x : Str), vs = [.ref a, .str x] ∧ x.length ≤ 100 ∧ H a = some (exo a C none) ∧ ∀ H1 d, Same H H1 → H d = none → d ≠ a → Q .non (upd (upd H1 d (exd d [(f, .str x)])) a (exo a C (some d)))
/-- C(e) -/
def tMkX (C : Addr) (f : Str) (ta : TA) : L2.St → Hp → XK → Prop := fun σ H Q => ta σ H fun vs H1 => ∃ x : Str, vs = [.str x] ∧ x.length ≤ 100 ∧ ∀ H3 d, Same H1 H3 → H1 d = none → H3 d = some (.xd [(f, .str x)]) → Q (.ref C) (some d) H3
end
end VL

set_option Elab.async false
set_option linter.all false
set_option maxRecDepth 100000
set_option maxHeartbeats 2000000
/-! VL52: several except clauses, with and without a name; defs that raise exceptions with a field. -/
namespace VL
open PySem PySem.Spec PyProof.Rows L2
/-- the ends of a suite whose name stands in slot i -/
def Ends.un (D : Ends) : Option Nat → Ends
  | none => D
  | some i => { nx := fun σ' H' => D.nx (σ'.set i none) H', rt := D.rt, bk := fun σ' H' => D.bk (σ'.set i none) H', ct := fun σ' H' => D.ct (σ'.set i none) H' }
def sSet (σ : L2.St) (a : Addr) : Option Nat → L2.St
  | none => σ
  | some i => σ.set i (some (.ref a))
/-- a clause: its class, its name's slot, its suite -/
structure Cla where
  c : Value
  o : Option Nat
  ts : Addr → Value → Option Addr → TS
def wCl (K : PySem.W.Frag) (Wo : WX) (D : Ends) : List Cla → WX
  | [] => Wo
  | k :: r => fun cls d σ H => ∃ b, PySem.W.exmOne K cls k.c = some b ∧ (b = true → ∀ a, H a = none → k.ts a cls d (Ends.un D k.o) (sSet σ a k.o) H) ∧ (b = false → wCl K Wo D r cls d σ H)
/-- the clauses' derivations -/
inductive ClOk (X : Cx) : List ExceptHandler → List Cla → Prop
  | nil : ClOk X [] []
  | plain {x : Str} {k : Value} {ts : Addr → Value → Option Addr → TS} {st : Stmt} {su : List Stmt} {np pp : Pos} {hs : List ExceptHandler} {l : List Cla} (hk : Names X x k)
      (hb : ∀ (a : Addr) (oe : Obj) (cls : Value) (d : Option Addr) (pn : List (Addr × Obj)), Zc cls d oe → (∃ vs, oe.data = .fields vs) → PSs (X.suite a ((a, oe) :: pn)) (st :: su) (ts a cls d)) (r : ClOk X hs l) :
      ClOk X (.ExceptHandler (some (.Name x np)) none (st :: su) pp :: hs) (⟨k, none, ts⟩ :: l)
  | named {x n : Str} {k : Value} {i : Nat} {ts : Addr → Value → Option Addr → TS} {st : Stmt} {su : List Stmt} {np pp : Pos} {hs : List ExceptHandler} {l : List Cla} (hN : X.N.Nodup) (hi : X.N[i]? = some n) (hl : X.env.kindOf n = some .local) (hk : Names X x k)
      (hb : ∀ (a : Addr) (oe : Obj) (cls : Value) (d : Option Addr) (pn : List (Addr × Obj)), Zc cls d oe → (∃ vs, oe.data = .fields vs) → PSs (X.suite a ((a, oe) :: pn)) (st :: su) (ts a cls d)) (r : ClOk X hs l) :
      ClOk X (.ExceptHandler (some (.Name x np)) (some n) (st :: su) pp :: hs) (⟨k, some i, ts⟩ :: l)
section
variable {X : Cx} {body : List Stmt} {g0 : ExceptHandler} {gs : List ExceptHandler} {l : List Cla} {pos : Pos} {tb : WX → TS} {Wo : WX}
end
end VL

set_option Elab.async false
set_option linter.all false
set_option maxRecDepth 100000
set_option maxHeartbeats 2000000
/-! VL53: which exception is raised, with its field's text; f-strings of texts; an exception's __init__. -/
namespace VL
open PySem PySem.Spec PyProof.Rows L2
/-- an exception: the class's number, and the field with its text -/
inductive XC where
  | z (k : Nat)
  | f (k : Nat) (fl x : Str)
def XC.k : XC → Nat
  | .z k => k
  | .f k _ _ => k
def RCf (T : TC) (r : XC) (F : Hp) (c : Value) (d : Option Addr) : Prop := c = .ref (T.C (300 + r.k)) ∧ match r with | .z _ => True | .f _ fl x => ∃ a, d = some a ∧ F a = some (.xd [(fl, .str x)])
theorem RCf.mono {T : TC} {r : XC} {F F' : Hp} {c : Value} {d : Option Addr} (e : Same F F') (h : RCf T r F c d) : RCf T r F' c d := by
  cases r with
  | z k => exact h
  | f k fl x => obtain ⟨h1, a, h2, h3⟩ := h; exact ⟨h1, a, h2, e _ _ h3⟩
abbrev RQ (T : TC) (r : XC) (Ω2 : List OA) : Hp → Value → Option Addr → List OA → Prop := fun F c d Ω' => RCf T r F c d ∧ Ω' = Ω2
/-- the wish W takes such an exception at such slots in such a state -/
def WTC (W : WX) (T : TC) (r : XC) (F0 : Hp) (Γ : List (Option VA)) (Ω : List OA) : Prop := ∀ F c d σ H, Same F0 F → Env F σ Γ → Holds F Ω H → RCf T r F c d → W c d σ H
section
variable {T : TC} {Γ Γ' : List (Option VA)} {Ω Ω' Ω1 Ω2 : List OA} {A : VA} {As : List VA} {te : TE} {t ta : TA} {D : Ends} {F0 F1 : Hp} {W Wo : WX} {Pre : PreT} {PreX : PreXX} {E : XK} {r : XC} {K : PySem.W.Frag} {l : List Cla}
theorem WTC.up (e : Same F0 F1) (h : WTC W T r F0 Γ Ω) : WTC W T r F1 Γ Ω := fun F c d σ H f => h F c d σ H (e.trans f)
/-! raise C(text) -/
def tRx (C : Addr) (f : Str) (ta : TA) (W : WX) : TS := fun _ σ H => tMkX C f ta σ H fun cls d H' => W cls d σ H'
/-- a caught exception with its field -/
def excA (a dd : Addr) (fl x : Str) : VA := ⟨fun F v => v = .ref a ∧ F dd = some (.xd [(fl, .str x)]), fun e h => ⟨h.1, e _ _ h.2⟩⟩
/-- try: .. several clauses -/
def tTryC (K : PySem.W.Frag) (l : List Cla) (tb : WX → TS) (Wo : WX) : TS := fun D σ H => tb (wCl K Wo D l) D σ H
/-! an exception's __init__: the class above is told a text, the field is stored -/
/-- at a: an exception without a dict -/
def exoA (a C : Addr) : VA := ⟨fun F v => v = .ref a ∧ F a = some (exo a C none), fun e h => ⟨h.1, e _ _ h.2⟩⟩
end
end VL

set_option Elab.async false
set_option linter.all false
set_option maxRecDepth 100000
set_option maxHeartbeats 2000000
/-! VL54: a lambda as a value; a def that is handed one and calls it within a try. -/
namespace VL
open PySem PySem.Spec PyProof.Rows L2 LamX
/-- an object that stands as it is -/
def LamO (f : Addr) (o : Obj) : HO := .ext fun h => h.get? f = some o
theorem lamO_ok {P : Program} {w : World} {H : Hp} {h : Heap} {f : Addr} {o : Obj} (e : h.get? f = some o) : ObjOk P w H h f (LamO f o) := ⟨e, ⟨_, e⟩, fun h1 h2 z k => k _ z⟩
theorem lamO_at {P : Program} {w : World} {H : Hp} {h : Heap} {f : Addr} {o : Obj} (hok : HOk P w H h) (e : H f = some (LamO f o)) : h.get? f = some o := by
  have x : ObjOk P w H h f (.ext fun h => h.get? f = some o) := hok f _ e
  exact x.1
/-- at f: the lambda with such a body, made in X -/
inductive LamIs (X : Cx) (params : Arguments) (body : Expr) (scope : Scope) (c' f : Addr) (H : Hp) : Prop
  | plain {pm ctv : Value} (h : H f = some (LamO f (PySem.W.kla_obj "<lambda>" (X.env.qual ++ "<lambda>") params body scope (cloFrom X.env.cells scope.names []) pm c' ctv)))
      (L : LamS X.env.scope scope) (hb : ∀ (q : Str) (cl : List (Str × Addr)) (pm cv ctv : Value), bindArgs (PySem.W.kla_fn "<lambda>" q params body scope cl pm cv ctv) ⟨[], []⟩ = pure [])
  | dflt {nm : Str} {T0 : Addr} {doc pm ctv : Value} {iv : Int} {t : Tok} (h : H f = some (LamO f (PySem.W.kdv_obj "<lambda>" (X.env.qual ++ "<lambda>") params (.expr body) scope (cloFrom X.env.cells scope.names []) (.ref T0) doc pm c' ctv)))
      (hT : H T0 = some (LamO T0 (PySem.W.kdv_tup [.int iv t]))) (L : LamSD X.N nm X.env.scope scope)
      (hb : ∀ (q : Str) (cl : List (Str × Addr)) (T0 : Addr) (doc pm cv ctv : Value) (t : Tok) (s : Shared), s.heap.get? T0 = some (PySem.W.kdv_tup [.int iv t]) → BindsTo s (PySem.W.kdv_fn "<lambda>" q params (.expr body) scope cl (.ref T0) doc pm cv ctv) ⟨[], []⟩ [(nm, .int iv t)])
theorem LamIs.mono {X : Cx} {params : Arguments} {body : Expr} {scope : Scope} {c' f : Addr} {H H' : Hp} (e : Same H H') (h : LamIs X params body scope c' f H) : LamIs X params body scope c' f H' := by
  cases h with
  | plain h L hb => exact .plain (e _ _ h) L hb
  | dflt h hT L hb => exact .dflt (e _ _ h) (e _ _ hT) L hb
/-- a lambda's text and reading -/
structure LamPk (X : Cx) (kl : Nat) where
  params : Arguments
  body : Expr
  scope : Scope
  tb : XK → TE
  hbody : ∀ (E : XK) (A : Around) (outer : List PySem.Env) (s : Shared) (H : Hp) (f c' : Addr), Room kl (A.deeper (lamEnv X scope s.heap.objs.size f c')) → PE (lamCx X A outer s H E scope f c') body (tb E)
abbrev lamQ (X : Cx) : Str := X.env.qual ++ "<lambda>"
def LamPk.at {X : Cx} {kl : Nat} (L : LamPk X kl) (c' f : Addr) (H : Hp) : Prop := LamIs X L.params L.body L.scope c' f H ∧ H c' = some (CodeO c' (lamQ X))
/-- what a call makes, at the slots σ of the frame that made the lambda -/
def LamPk.act {X : Cx} {kl : Nat} (L : LamPk X kl) (c' f : Addr) (σ : L2.St) : XK → Hp → VK → Prop := fun E H Q => L.at c' f H ∧ L.tb E σ H Q
def tActX (i : Nat) (f : Addr) (act : XK → Hp → VK → Prop) (W : WX) : TE := fun σ H Q => σ[i]? = some (some (.ref f)) ∧ act (WE W σ) H Q
section
variable {X : Cx} {pins : List (Addr × Obj)} {σ : L2.St} {H : Hp} {s : Shared}
end
/-! ### a def that is handed a lambda, and calls it within a try -/
def ActHX (P : Program) (w : World) (K : PySem.W.Frag) (mg : Str → Option Value) (base : Heap) (k : Nat) (A : Around) (outer : List PySem.Env) (s : Shared) (H : Hp) (f : Addr) (act : XK → Hp → VK → Prop) : Prop :=
  ∀ (Ng : List Str) (qg : Str) (sg : Scope) (g : Addr) (cdg : Value) (i : Nat) (a : Str) (p1 p2 : Pos) (pn : List (Addr × Obj)) (xe : Value → Shared → Prop) (W : WX), Room (k + 1) (A.deeper (envOfC qg sg s.heap.objs.size g cdg)) → Ng[i]? = some a → Vis sg a → (a == ("__debug__" : Str)) = false → (a == ("__classdict__" : Str)) = false →
    Takes ((cxOf CX0 P w K mg base Ng qg sg g cdg A outer s H E0).tr pn xe) W → PE ((cxOf CX0 P w K mg base Ng qg sg g cdg A outer s H E0).tr pn xe) (.Call (.Name a p1) [] [] p2) (tActX i f act W)
abbrev PreLX := Addr → (XK → Hp → VK → Prop) → PreT
structure CalLX (P : Program) (w : World) (K : PySem.W.Frag) (mg : Str → Option Value) (base : Heap) (kl k : Nat) (x : Str) (ps : List Str) (Pre : PreLX) : Prop where
  ex : ∃ g fd, mg x = some (.ref g) ∧ PySem.W.keepIn K (.ref g) = true ∧ Binds K fd ps [] ∧ (∀ f act As Ω R, Pre f act As Ω R → As.length = ps.length) ∧
    ∀ (A : Around) (outer : List PySem.Env) (s : Shared) (H : Hp) (us : List Value) (vs : List V) (Q : VK) (f : Addr) (act : XK → Hp → VK → Prop), Room k A → Env0 P w K mg base A outer s H → BindsTo s fd ⟨us, []⟩ (ps.zip us) → Vals vs us →
      ActHX P w K mg base kl A outer s H f act → mkSp (Pre f act) vs H Q E0 → codeAny (model P w) A (.call (.ref g) ⟨us, []⟩) (CR CX0 outer P w H s Q E0) s
section
variable {P : Program} {w : World} {K : PySem.W.Frag} {mg : Str → Option Value} {base : Heap}
end
/-- x(e), e's value a lambda of this frame -/
def tCallLX (X : Cx) (kl : Nat) (Pre : PreLX) (ta : TA) : TE := fun σ H Q => ta σ H fun vs H1 => ∃ (Lm : LamPk X kl) (f c' : Addr), vs = [.ref f] ∧ Lm.at c' f H1 ∧ mkSp (Pre f (Lm.act c' f σ)) [.ref f] H1 Q E0
section
variable {X : Cx}
end
end VL

set_option Elab.async false
set_option linter.all false
set_option maxRecDepth 100000
set_option maxHeartbeats 2000000
/-! VL55: a lambda's making; what a call of it makes, told by the exception it raises; raise C(text). -/
namespace VL
open PySem PySem.Spec PyProof.Rows L2 LamX
/-- a lambda of X -/
def lamV (X : Cx) {kl : Nat} (Lm : LamPk X kl) : VA := ⟨fun F v => ∃ f c', v = .ref f ∧ Lm.at c' f F, fun e ⟨f, c', h1, h2, h3⟩ => ⟨f, c', h1, h2.mono e, e _ _ h3⟩⟩
/-- a lambda expression: the table at P -/
def tLamV (X : Cx) {kl : Nat} (Lm : LamPk X kl) (P : Addr) : TE := fun σ H Q => (∃ ps : Array Value, H P = some (.tbl ps) ∧ TriplesOk ps.toList ∧ ∀ (pos : Pos) (cv : Value), codeAmong pos ps.toList = some cv → ∃ c, cv = .ref c ∧ H c = some (CodeO c (lamQ X))) ∧
  ∀ (f c' : Addr) (H2 : Hp), (∀ (F : Hp) (Ω : List OA) (l : List (Addr × Str)) (kt : Nat), Holds F Ω H → Ω[kt]? = some (tabA l) → (P, lamQ X) ∈ l → (∀ p ∈ l, p.1 = P → p.2 = lamQ X) → ∃ F2, Same F F2 ∧ Holds F2 Ω H2 ∧ Lm.at c' f F2) → Q (.ref f) H2
section
variable {X : Cx} {kl : Nat}
/-- lambda: .. -/
theorem pe_lamV {c P : Addr} {params : Arguments} {body : Expr} {scope : Scope} {pos : Pos} {tb : XK → TE} (TB : TabB X.base X.mg c P) (hcode : X.env.code = .ref c) (L : LamS X.env.scope scope)
    (hbody : ∀ (E : XK) (A : Around) (outer : List PySem.Env) (s : Shared) (H : Hp) (f c' : Addr), Room kl (A.deeper (lamEnv X scope s.heap.objs.size f c')) → PE (lamCx X A outer s H E scope f c') body (tb E))
    (hdef : defaultsOf params X.env = ([], []) := by rfl)
    (hbind : ∀ (q : Str) (cl : List (Str × Addr)) (pm cv ctv : Value), bindArgs (PySem.W.kla_fn "<lambda>" q params body scope cl pm cv ctv) ⟨[], []⟩ = pure [] := by intros; rfl) :
    PE X (.Lambda params body scope pos) (tLamV X ⟨params, body, scope, tb, hbody⟩ P) := by
  refine ⟨fun pins s σ H Q I hz => PySem.W.kla_eval hdef ?_⟩
  obtain ⟨⟨ps, hP, ht, ha⟩, hq⟩ := hz
  have hfree := L.has I.ok
  have bP : s.heap.BuiltinsAt X.mg P := TB.bm.keeps I.bk
  have oP : s.heap.get? P = some { cls := .none, data := .fields ps } := I.hok P _ hP
  -- the end: the function lies at the heap's end
  have fin : ∀ (c' : Addr) (pm ctv : Value) (h' : Heap) (tk : Nat) (H1 : Hp), Inv X pins σ H1 { s with heap := h', toks := tk } → Grown H P (lamQ X) H1 c' →
      EP X pins σ Q (.ref h'.objs.size) { s with heap := h'.push (PySem.W.kla_obj "<lambda>" (X.env.qual ++ "<lambda>") params body scope (cloFrom X.env.cells scope.names []) pm c' ctv), toks := tk } := fun c' pm ctv h' tk H1 I1 gr => by
    have n1 : H1 h'.objs.size = none := I1.hok.fresh (Nat.le_refl _)
    have I2 := I1.laid (t' := tk) (a := h'.objs.size) (o := LamO h'.objs.size (PySem.W.kla_obj "<lambda>" (X.env.qual ++ "<lambda>") params body scope (cloFrom X.env.cells scope.names []) pm c' ctv)) (h' := h'.push (PySem.W.kla_obj "<lambda>" (X.env.qual ++ "<lambda>") params body scope (cloFrom X.env.cells scope.names []) pm c' ctv))
      (fun b o e => Heap.get?_push_of_some _ e) (Nat.le_refl _) (lamO_ok (Heap.get?_push_size _ rfl))
    refine ⟨.ref h'.objs.size, _, I2, rfl, hq _ c' _ fun F Ω l kt hh hkt hm hu => ?_⟩
    obtain ⟨F1, e1, hh1, hc⟩ := grown_holds hh hkt hm hu gr
    obtain ⟨hh2, e2⟩ := hh1.newF n1
    exact ⟨_, e1.trans e2, hh2, .plain upd_same L hbind, e2 _ _ hc⟩
  cases hc : codeAmong pos ps.toList with
  | some cv =>
    obtain ⟨c', e, hco⟩ := ha pos cv hc
    subst e
    refine PySem.W.kla_makeFunctionHit (mg := X.mg) (c := c) (P := P) (ps := ps) (closure_ok hfree) I.ok.glob (I.mod.glob.keeps I.bk) hcode (TB.code.keeps I.bk) oP ht hc bP fun ctv h' tk hx hsz => ?_
    exact fin c' _ ctv h' tk H (I.kept (t' := tk) (h' := h') hx) (.inl ⟨rfl, ps, pos, hP, hc⟩)
  | none =>
    refine PySem.W.kla_makeFunction (mg := X.mg) (c := c) (P := P) (ps := ps) (closure_ok hfree) I.ok.glob (I.mod.glob.keeps I.bk) hcode (TB.code.keeps I.bk) oP ht hc TB.gP bP fun c' ctv h' tk hx hge hlt hrec htb => ?_
    obtain ⟨c2, oc, vs, t, e2, hoc, hd, hv⟩ := hrec
    cases e2
    have nC : H c' = none := I.hok.fresh hge
    refine fin c' _ ctv h' tk _ (inv_table (t' := tk) (more := #[rawInt pos.line, rawInt pos.col, .ref c']) (h' := h') I hP hx htb hge ⟨oc, vs, t, hoc, hd, hv⟩) (.inr ⟨ps, #[rawInt pos.line, rawInt pos.col, .ref c'], hP, nC, rfl, fun z => ?_, fun pos2 cv z hcv => ?_⟩)
    · rw [Array.toList_append]; exact PySem.TriplesOk_snoc _ _ _ _ z
    · rw [Array.toList_append] at hcv
      exact among_app _ z hcv
end
section
variable {X : Cx} {kl : Nat} {T : TC} {Γ : List (Option VA)} {Ω Ω1 Ω2 Ω' : List OA} {A : VA} {F0 : Hp} {D : Ends} {W : WX}
theorem xe_lamV {Lm : LamPk X kl} {P : Addr} {l : List (Addr × Str)} {kt : Nat} (ht : Ω[kt]? = some (tabA l)) (hm : (P, lamQ X) ∈ l) (hu : ∀ p ∈ l, p.1 = P → p.2 = lamQ X) : XE (tLamV X Lm P) Γ Ω (lamV X Lm) Ω := fun F σ H e hh Q q => by
  obtain ⟨t, h1, h2, _, _⟩ := hh.get ht
  obtain ⟨ps, b1, b2, b3⟩ := h1 _ hm
  refine ⟨⟨ps, h2 _ _ b1, b2, fun pos cv hc => ?_⟩, fun f c' H2 h => ?_⟩
  · obtain ⟨c, d1, d2⟩ := b3 pos cv hc
    exact ⟨c, d1, hh.same _ _ d2⟩
  · obtain ⟨F2, e2, hh2, hat⟩ := h F Ω l kt hh ht hm hu
    exact q F2 _ H2 _ e2 hh2 ⟨⟨f, c', rfl, hat⟩, rfl⟩
/-- the parameter's value: a lambda that raises r, or returns in Ω' -/
def askX (T : TC) (f : Addr) (act : XK → Hp → VK → Prop) (Ω Ω' : List OA) (o : Option XC) : VA :=
  ⟨fun F v => v = .ref f ∧ ∀ F1 H1, Same F F1 → Holds F1 Ω H1 → ∀ (E : XK) (Q : VK),
      (∀ r, o = some r → ∀ F2 c d H2, Same F1 F2 → Holds F2 Ω H2 → RCf T r F2 c d → E c d H2) → (o = none → ∀ F2 v H2, Same F1 F2 → Holds F2 Ω' H2 → Q v H2) → act E H1 Q,
   fun e ⟨h1, h2⟩ => ⟨h1, fun F1 H1 e1 => h2 F1 H1 (e.trans e1)⟩⟩
def anyA : VA := ⟨fun _ _ => True, fun _ _ => True.intro⟩
/-- what a call of the lambda makes -/
def Outc (T : TC) (Γ : List (Option VA)) (Ω Ω' : List OA) (tb : XK → TE) (o : Option XC) : Prop :=
  match o with
  | some r => ∀ (E : XK) (F1 : Hp), (∀ F2 c d H2, Same F1 F2 → Holds F2 Ω H2 → RCf T r F2 c d → E c d H2) → XR (tb E) F1 Γ Ω
  | none => ∀ E : XK, ∃ B : VA, XE (tb E) Γ Ω B Ω'
end
/-! ### raise C(text) -/
/-- C(text) may be made -/
structure MkC (P : Program) (w : World) (K : PySem.W.Frag) (mg : Str → Option Value) (base : Heap) (k : Nat) (x : Str) (C : Addr) (f : Str) : Prop where
  ex : ∃ B0 fI fd, IxC K C B0 fI f ∧ FnOk P w K mg base CX0 k fI fd ["self", f] (spIx C f) ∧ Binds K fd ["self", f] [] ∧ mg x = some (.ref C)
section
variable {X : Cx} {W : WX}
end
end VL

set_option Elab.async false
set_option linter.all false
set_option maxRecDepth 100000
set_option maxHeartbeats 2000000
/-! VL56: values of any kind, told by what they are not; lists of them; deep lists. -/
namespace VL
open PySem PySem.Spec PyProof.Rows L2
/-- A's values have the type t -/
def TyA (T : TC) (Ω : List OA) (A : VA) (t : Value) : Prop := ∀ F H v, Holds F Ω H → A.P F v → TyX T.K H v t
/-- A's values are none of the class u -/
def NoC (T : TC) (Ω : List OA) (A : VA) (u : Value) : Prop := ∀ F H v, Holds F Ω H → A.P F v → ∃ t, TyX T.K H v t ∧ PySem.W.kitOne T.K t u = some false
section
variable {T : TC} {Γ : List (Option VA)} {Ω Ω1 Ω2 : List OA} {A B : VA} {u t : Value} {ta tc te : TE}
/-! lists of any values -/
def lsA (As : List VA) : VA := ⟨fun F v => ∃ p vs, v = .ref p ∧ F p = some (.lst vs) ∧ AlA F vs As, fun e ⟨p, vs, h1, h2, h3⟩ => ⟨p, vs, h1, e _ _ h2, h3.mono e⟩⟩
theorem xe_lsA {ts : TA} {As : List VA} (h : XA ts Γ Ω As Ω1) (hz : As.length ≤ sizeLine) : XE (tLst ts) Γ Ω (lsA As) Ω1 := fun F σ H e hh Q q =>
  h F σ H e hh _ fun F1 xs H1 e1 hh1 a1 => ⟨by rw [a1.len]; exact hz, fun p hp => by
    obtain ⟨hh2, e2⟩ := hh1.newF (u := .lst xs) hp
    exact q _ _ _ _ (e1.trans e2) hh2 ⟨⟨p, xs, rfl, upd_same, a1.mono e2⟩, rfl⟩⟩
theorem alA_get : ∀ {F : Hp} {vs : List V} {As : List VA} {i : Nat} {A : VA}, AlA F vs As → As[i]? = some A → ∃ v, vs[i]? = some v ∧ A.P F v
  | _, _, _, 0, _, .cons h _, e => by cases e; exact ⟨_, rfl, h⟩
  | _, _, _, i + 1, _, .cons _ t, e => alA_get (i := i) t e
theorem wk_lsA {p : Addr} {vs : List V} {As : List VA} : Wk (Itl T.K p) (fun F => SqL T.K F p vs ∧ AlA F vs As) As (fun A => A) where
  mono := fun F F' e ⟨h1, h2⟩ => ⟨e.seq h1, h2.mono e⟩
  go := fun i F Ω H ⟨h1, h2⟩ hh hi => ⟨vs, vs[i]'(by rw [h2.len]; exact hi), hh.same.seq h1, List.getElem?_eq_getElem _⟩
  stop := fun F Ω H ⟨h1, h2⟩ hh => ⟨vs, hh.same.seq h1, Nat.le_of_eq h2.len⟩
  yld := fun i a F Ω H x H' ⟨h1, h2⟩ hh hx y => by
    obtain ⟨e, y⟩ := y
    subst e
    obtain ⟨v, hv, rv⟩ := alA_get h2 hx
    cases hv.symm.trans (y vs (hh.same.seq h1))
    exact ⟨F, Same.refl F, hh, rv⟩
theorem xi_lsA {As : List VA} (ha : XE te Γ Ω (lsA As) Ω1) : XI (iList T.K te) Γ Ω As (fun A => A) Ω1 := fun F σ H e hh R r => by
  refine ha F σ H e hh _ fun F1 x H1 Ω' e1 hh1 ⟨⟨p, vs, a1, a2, a3⟩, o1⟩ => ?_
  subst o1 a1
  have s1 : SqL T.K F1 p vs := SqL.of a2
  exact ⟨p, rfl, ⟨vs, hh1.same.seq s1⟩, r F1 _ H1 _ e1 hh1 wk_lsA ⟨s1, a3⟩⟩
end
/-- a list of one thing that is not looked at -/
inductive DP where
  | mk
instance : Rp DP := ⟨fun _ F v _ => ∃ p x, v = .ref p ∧ F p = some (.lst [x]), fun e ⟨p, x, h1, h2⟩ => ⟨p, x, h1, e _ _ h2⟩⟩
section
variable {T : TC} {Γ : List (Option VA)} {Ω Ω1 : List OA} {A : VA} {ta : TE}
end
/-- all are done -/
def allN {α β : Type} (b : α → Option β) : List α → Option Unit
  | [] => some ()
  | a :: l => (b a).bind fun _ => allN b l
section
variable {T : TC} {Γ : List (Option VA)} {Ω O : List OA} {D : Ends} {F0 : Hp} {wi : L2.TI} {tb ts : TS} {k : Nat} {As : List VA} {G : List (Option VA)}
/-- what a turn may rely on -/
abbrev Turn (F1 : Hp) (D' : Ends) (G : List (Option VA)) (O : List OA) : Prop := To D' F1 (Stp.nx () : Stp Unit Unit) (fun _ => NX F1 G O) (fun _ => NX F1 G O) (fun _ _ _ _ => False)
/-- an element: of any kind, or an int, a truth, a number -/
def Kin (T : TC) (P : VA → Prop) (QI : Int → Prop) (QB : Bool → Prop) (QG : Bg → Prop) (a : VA) : Prop := P a ∨ (∃ i : Int, a = va T i ∧ QI i) ∨ (∃ b : Bool, a = va T b ∧ QB b) ∨ ∃ x : Bg, a = va T x ∧ QG x
end
end VL

set_option Elab.async false
set_option linter.all false
set_option maxRecDepth 100000
set_option maxHeartbeats 2000000
/-! VL57: which exception, asked in a mirror; a def with several promises; tests known by their first part. -/
namespace VL
open PySem PySem.Spec PyProof.Rows L2
instance : Dat (EN Str) := ⟨fun x => match x with | .ok a => .str a | .no => .none, fun x => match x with | .ok a => (PyData.str a).canLay0 = true | .no => True, 0, fun {T F H v a} e h => by
    cases a with
    | ok a => rw [show v = V.str a from h]; exact .str _
    | no => rw [show v = V.non from h]; exact .non, fun {a} h => by
    cases a with
    | ok a => exact h
    | no => rfl, fun {a} => by
    cases a with
    | ok a => exact Nat.le_refl _
    | no => exact Nat.le_refl _, fun {a b} => by
    cases a <;> cases b
    · exact (Dat.eqv (α := Str)).trans ⟨fun h => by rw [h], fun h => EN.ok.inj h⟩
    · exact ⟨fun h => (Bool.false_ne_true (show false = true from h)).elim, fun h => nomatch h⟩
    · exact ⟨fun h => (Bool.false_ne_true (show false = true from h)).elim, fun h => nomatch h⟩
    · exact ⟨fun _ => rfl, fun _ => rfl⟩⟩
def onC {β : Type} (o : Option XC) (s : XC → Option β) (n : Option β) : Option β := match o with | some r => s r | none => n
/-- the field's text, of an exception of the class c with the field fl -/
def XC.isF (c : Nat) (fl : Str) : XC → Option Str
  | .f k g x => if k = c ∧ g = fl then some x else none
  | .z _ => none
def XC.isZ (c : Nat) : XC → Bool
  | .f _ _ _ => false
  | .z k => k == c
def onF {β : Type} (o : Option Str) (s : Str → Option β) (n : Option β) : Option β := match o with | some x => s x | none => n
section
variable {T : TC} {Γ : List (Option VA)} {Ω Ω1 Ω2 : List OA} {A : VA} {As : List VA} {t : TA} {tu u : TT} {F0 : Hp} {W : WX} {Pre : PreT} {PreX : PreXX} {E : XK} {r : XC} {sp : Sp}
def tNeverE : TE := fun _ _ _ => False
end
section
variable {P : Program} {w : World} {K : PySem.W.Frag} {mg : Str → Option Value} {base : Heap}
end
section
variable {X : Cx} {body : List Stmt} {g0 : ExceptHandler} {gs : List ExceptHandler} {l : List Cla} {pos : Pos} {tb : WX → TS} {K : PySem.W.Frag}
end
end VL
namespace VL
open PySem PySem.Spec PyProof.Rows L2
section
variable {X : Cx} {kl : Nat}
end
end VL

set_option Elab.async false
set_option linter.all false
set_option maxRecDepth 100000
set_option maxHeartbeats 2000000
/-! VL58: a lambda may be called as long as the cells of its frame are kept, whatever runs in between. -/
namespace VL
open PySem PySem.Spec PyProof.Rows L2 LamX
/-- the cells that stood, untracked, stand as they did -/
def Cells (H0 H1 : Hp) (h0 h1 : Heap) : Prop := ∀ (c : Addr) (v : Option Value), H0 c = none → h0.IsCell c v → h1.IsCell c v ∧ H1 c = none
theorem Cells.trans {H0 H1 H2 : Hp} {h0 h1 h2 : Heap} (a : Cells H0 H1 h0 h1) (b : Cells H1 H2 h1 h2) : Cells H0 H2 h0 h2 := fun c v n i => let ⟨i1, n1⟩ := a c v n i; b c v n1 i1
section
variable {X : Cx} {pins : List (Addr × Obj)} {σ : L2.St} {H0 HZ : Hp} {s0 s1 : Shared}
/-- the body's start -/
theorem lam_startK {A : Around} {outer : List PySem.Env} {E : XK} {scope : Scope} {f c' : Addr} {hF : Heap} {tk : Nat} {binds : List (Str × Value)} (I : Inv X pins σ H0 s0) (hk : scope.kind = .function) (hown : ∀ y ∈ scope.names, y.2 ≠ .cell ∧ (y.2 = .local → y.1 ∉ X.N))
    (hfree : ∀ y ∈ scope.names, y.2 = .free → X.env.scope.names.lookup y.1 = some .cell ∨ X.env.scope.names.lookup y.1 = some .free) (e0 : Env0 X.prog X.w X.K X.mg X.base A outer s1 HZ) (hd : A.handled = none)
    (kc : Cells H0 HZ s0.heap s1.heap) (hns : hF.Ns s1.heap.objs.size fun y => binds.reverse.lookup y) (kp : ∀ b o, s1.heap.get? b = some o → hF.get? b = some o) :
    Inv (lamCx X A outer s1 HZ E scope f c') [] σ HZ { s1 with heap := hF, toks := tk } := by
  have has : ∀ y ∈ scope.names, y.2 = .free → ∃ c, X.env.cells.lookup y.1 = some c := fun y hy e => (hfree y hy e).elim (fun k => I.ok.has _ (.inl k)) fun k => I.ok.has _ (.inr k)
  have up : ∀ {y c}, (cloFrom X.env.cells scope.names []).lookup y = some c → X.env.cells.lookup y = some c := fun {y c} e => by
    rcases cloFrom_mem (PySem.mem_of_lookup e) with q | ⟨q1, q2⟩
    · exact nomatch q
    · obtain ⟨c1, hc⟩ := has _ q1 rfl
      have hc : X.env.cells.lookup y = some c1 := hc
      rw [hc] at q2
      rw [hc, q2]; rfl
  have down : ∀ {y}, scope.names.lookup y = some .free → ∃ c, (cloFrom X.env.cells scope.names []).lookup y = some c := fun {y} q => mem_lookup (cloFrom_has (cells := X.env.cells) (acc := []) (PySem.mem_of_lookup q))
  have stay : ∀ {c : Addr} {v : Option Value}, H0 c = none → s0.heap.IsCell c v → hF.IsCell c v := fun n i => let ⟨⟨o, ho, hd⟩, _⟩ := kc _ _ n i; ⟨o, kp _ _ ho, hd⟩
  have noex : ∀ b : Addr, b ∉ (lamCx X A outer s1 HZ E scope f c').ex := fun b z => nomatch (show b ∈ ([] : List Addr) from z)
  constructor
  case ok =>
    constructor
    case mod => exact e0.mod
    case kind => exact hk
    case glob => rfl
    case blt => rfl
    case above => exact Nat.le_refl _
    case inj => exact fun y z c q1 q2 => I.ok.inj y z c (up q1) (up q2)
    case has =>
      intro y hy
      rcases (show scope.names.lookup y = some .cell ∨ scope.names.lookup y = some .free from hy) with q | q
      · exact absurd rfl (hown _ (PySem.mem_of_lookup q)).1
      · exact down q
    case cab => exact fun y c z _ => nomatch (show false = true from z)
    case hd => exact fun _ => hd
    case frames => exact Around.frames_deeper e0.frames
    case stk => exact .inr ⟨rfl, rfl⟩
    case exf => exact fun b z => absurd z (noex b)
    case bs => exact e0.bs
    case bsz => exact e0.bsz
    case noex => exact fun b _ _ => noex b
    case exfs => exact fun b z => absurd z (noex b)
    case funs => exact e0.funs
    case frf => exact e0.frf
  case os => rfl
  case bare => exact e0.bare
  case base => exact Un.kept kp
  case loc =>
    refine ⟨_, hns, fun i y v q1 q2 q3 => ?_⟩
    rcases (show Vis scope y from q3) with k | k | k
    · exact absurd (List.mem_of_getElem? (show X.N[i]? = some y from q1)) ((hown _ (PySem.mem_of_lookup k)).2 rfl)
    · exact absurd rfl (hown _ (PySem.mem_of_lookup k)).1
    · obtain ⟨m, hn, hl⟩ := I.loc
      have vis : Vis X.env.scope y := (hfree _ (PySem.mem_of_lookup k) rfl).elim (fun k => .inr (.inl k)) fun k => .inr (.inr k)
      obtain ⟨u, rv, q⟩ := hl i y v q1 q2 vis
      obtain ⟨c2, q4⟩ := down k
      refine ⟨u, rv, .inr ⟨.inr k, c2, q4, ?_⟩⟩
      rcases q with ⟨kl, _⟩ | ⟨_, c3, q5, ic⟩
      · rcases hfree _ (PySem.mem_of_lookup k) rfl with z | z <;> cases (show X.env.scope.names.lookup y = some .local from kl).symm.trans z
      · cases (up q4).symm.trans q5
        exact stay (I.freeC y _ q5) ic
  case cell => exact fun y c e => let ⟨v, ic⟩ := I.cell y c (up e); ⟨v, stay (I.freeC y c (up e)) ic⟩
  case free => exact e0.hok.fresh (Nat.le_refl _)
  case freeC => exact fun y c e => let ⟨v, ic⟩ := I.cell y c (up e); (kc c v (I.freeC y c (up e)) ic).2
  case pin => exact fun q hq => nomatch (show q ∈ ([] : List (Addr × Obj)) ++ [] from hq)
  case hok => exact e0.hok.kept kp
  case len => exact I.len
end
/-- f may be called in any later state that keeps the cells -/
def CanCall (P : Program) (w : World) (K : PySem.W.Frag) (mg : Str → Option Value) (base : Heap) (k : Nat) (H0 : Hp) (h0 : Heap) (f : Addr) (act : XK → Hp → VK → Prop) : Prop :=
  ∀ (A : Around) (outer : List PySem.Env) (s1 : Shared) (H1 : Hp) (E : XK) (Q : VK), Room (k + 1) A → Env0 P w K mg base A outer s1 H1 → Cells H0 H1 h0 s1.heap → act E H1 Q →
    (∃ e1 e2 e3 e4, s1.heap.get? f = some ⟨e1, e2, .func e3, e4⟩) ∧ codeAny (model P w) A (.call (.ref f) ⟨[], []⟩) (CR (L2.CX P w) outer P w H1 s1 Q E) s1
theorem CanCall.later {P : Program} {w : World} {K : PySem.W.Frag} {mg : Str → Option Value} {base : Heap} {k : Nat} {H0 H1 : Hp} {h0 h1 : Heap} {f : Addr} {act : XK → Hp → VK → Prop} (c : CanCall P w K mg base k H0 h0 f act) (kc : Cells H0 H1 h0 h1) : CanCall P w K mg base k H1 h1 f act :=
  fun A outer s1 H E Q hr e0 k2 ha => c A outer s1 H E Q hr e0 (kc.trans k2) ha
section
variable {X : Cx} {pins : List (Addr × Obj)} {σ : L2.St} {H : Hp} {s : Shared}
theorem can_lam {kl : Nat} (Lm : LamPk X kl) {c' f : Addr} (I : Inv X pins σ H s) : CanCall X.prog X.w X.K X.mg X.base kl H s.heap f (Lm.act c' f σ) := fun A outer s1 H1 E Q hr e0 kc ha => by
  obtain ⟨⟨hlam, hc⟩, ht⟩ := ha
  obtain ⟨⟨oc, cvs, ct, hoc, hdc, hvc⟩, _, _⟩ := e0.hok c' _ hc
  have lim : s1.heap.NoLimit := e0.mod.nolimit.keeps fun b o e => (e0.bs b o e).1
  cases hlam with
  | plain h L hb =>
    have of1 := lamO_at e0.hok h
    refine ⟨⟨_, _, _, _, of1⟩, PySem.W.kla_callFunE hr.depth of1 rfl L.co L.gen rfl ⟨c', oc, cvs, ct, rfl, hoc, hdc, hvc⟩ ?_⟩
    rw [hb]
    refine wpAny_pure (wpAny_newFunctionEnv (fun y hy => (L.own y hy).2) (fun y hy => nomatch hy) (fun hF hns hsb => ⟨lim.fresh _ hsb, ?_⟩) L.kind)
    show codeAny _ _ (.expr Lm.body (lamEnv X Lm.scope s1.heap.objs.size f c')) _ _
    have kp : ∀ b o, s1.heap.get? b = some o → hF.get? b = some o := fun b o q => hsb.extBut b o (Nat.ne_of_lt (Heap.lt_size q)) (Heap.get?_push_of_some _ q)
    have J := lam_startK (A := A) (outer := outer) (E := E) (f := f) (c' := c') (tk := s1.toks + ([] : List (Str × Value)).length) I L.kind (fun y hy => ⟨(L.own y hy).2, fun e => absurd e (L.own y hy).1⟩) L.free e0 hr.hd kc hns kp
    refine PySem.W.kla_codeExpr (wpAny_mono ((Lm.hbody _ _ _ s1 H1 f c' (hr.deeper _)).run [] _ _ H1 Q J ht) (fun v s' hq => ?_) fun e s' hq => hq)
    obtain ⟨w', H', J', rv, q⟩ := hq
    exact ⟨w', H', J'.os, J'.bare, J'.base, J'.hok, rv, q⟩
  | @dflt nm T0 doc pm ctv iv t h hT L hb =>
    have of1 := lamO_at e0.hok h
    refine ⟨⟨_, _, _, _, of1⟩, PySem.W.kla_callFunE hr.depth of1 rfl L.co L.gen rfl ⟨c', oc, cvs, ct, rfl, hoc, hdc, hvc⟩ ?_⟩
    refine hb _ _ _ _ _ _ _ _ s1 (lamO_at e0.hok hT) _ _ _ _ ?_
    refine wpAny_newFunctionEnv (fun y hy => (L.own y hy).1) (fun y hy => List.mem_singleton.mp hy ▸ L.par) (fun hF hns hsb => ⟨lim.fresh _ hsb, ?_⟩) L.kind
    show codeAny _ _ (.expr Lm.body (lamEnv X Lm.scope s1.heap.objs.size f c')) _ _
    have kp : ∀ b o, s1.heap.get? b = some o → hF.get? b = some o := fun b o q => hsb.extBut b o (Nat.ne_of_lt (Heap.lt_size q)) (Heap.get?_push_of_some _ q)
    have J := lam_startK (A := A) (outer := outer) (E := E) (f := f) (c' := c') (tk := s1.toks + ([(nm, .int iv t)] : List (Str × Value)).length) I L.kind L.own L.free e0 hr.hd kc hns kp
    refine PySem.W.kla_codeExpr (wpAny_mono ((Lm.hbody _ _ _ s1 H1 f c' (hr.deeper _)).run [] _ _ H1 Q J ht) (fun v s' hq => ?_) fun e s' hq => hq)
    obtain ⟨w', H', J', rv, q⟩ := hq
    exact ⟨w', H', J'.os, J'.bare, J'.base, J'.hok, rv, q⟩
end
end VL

set_option Elab.async false
set_option linter.all false
set_option maxRecDepth 100000
set_option maxHeartbeats 2000000
/-! VL59: a list comprehension whose parts may rely on the state of the frame at its start: a lambda of that frame is called in it. -/
namespace VL
open PySem PySem.Spec PyProof.Rows L2 LamX
/-- where the block starts: the frame at s, the iterator's own objects at fp -/
def BlkAt (X : Cx) (σ : L2.St) (s : Shared) (H : Hp) (fp : List Addr) : Prop := (∃ pins, Inv X pins σ H s) ∧ ∀ b ∈ fp, ∀ v, ¬ s.heap.IsCell b v
/-- an expression at slots that agree with σ but for vs -/
def PEr (X : Cx) (vs : List Nat) (σ : L2.St) (e : Expr) (t : TE) : Prop := ∀ (pins : List (Addr × Obj)) (s : Shared) (τ : L2.St) (H : Hp) (Q : VK), wipe τ vs = wipe σ vs → Inv X pins τ H s → t τ H Q → wpAny (model X.prog X.w) X.A (eval e X.env) (EP X pins τ Q) X.xe s
def PTr (X : Cx) (vs : List Nat) (σ : L2.St) (ifs : List Expr) (t : TT) : Prop := ∀ (pins : List (Addr × Obj)) (s : Shared) (τ : L2.St) (H : Hp) (Q : Bool → Hp → Prop), wipe τ vs = wipe σ vs → Inv X pins τ H s → t τ H Q →
  wpAny (model X.prog X.w) X.A (forIn ifs true fun c r => if r = true then do let ok ← isTrue c X.env (eval c X.env); pure (ForInStep.yield ok) else pure (ForInStep.yield r)) (TP X pins τ Q) X.xe s
theorem PTr.of {X : Cx} {vs : List Nat} {σ : L2.St} {ifs : List Expr} {t : TT} (h : PTs X ifs t) : PTr X vs σ ifs t := fun pins s τ H Q _ I ht => h.run pins s τ H Q I ht
theorem PEr.of {X : Cx} {vs : List Nat} {σ : L2.St} {e : Expr} {t : TE} (h : PE X e t) : PEr X vs σ e t := fun pins s τ H Q _ I ht => h.run pins s τ H Q I ht
section
variable {X : Cx}
end
/-- f(x) in a block: x's value a lambda of the frame ahead -/
def tCallBX (X : Cx) (kl : Nat) (vs : List Nat) (Pre : PreLX) (i : Nat) : TE := fun τ H Q => ∃ (Lm : LamPk X kl) (f c' : Addr), τ[i]? = some (some (.ref f)) ∧ Lm.at c' f H ∧ mkSp (Pre f (Lm.act c' f (wipe τ vs))) [.ref f] H Q E0
section
variable {X : Cx}
end
end VL

set_option Elab.async false
set_option linter.all false
set_option maxRecDepth 100000
set_option maxHeartbeats 2000000
/-! VL60: a lambda with a default as a value; lists of lambdas, walked by a comprehension that tries each. -/
namespace VL
open PySem PySem.Spec PyProof.Rows L2 LamX
section
variable {X : Cx} {kl : Nat}
theorem pe_lamVD {nm : Str} {c P : Addr} {params : Arguments} {body : Expr} {scope : Scope} {pos : Pos} {tb : XK → TE} {iv : Int} {dk : Nat} {dpos : Pos} (TB : TabB X.base X.mg c P) (hcode : X.env.code = .ref c) (L : LamSD X.N nm X.env.scope scope)
    (hbody : ∀ (E : XK) (A : Around) (outer : List PySem.Env) (s : Shared) (H : Hp) (f c' : Addr), Room kl (A.deeper (lamEnv X scope s.heap.objs.size f c')) → PE (lamCx X A outer s H E scope f c') body (tb E))
    (hpd : params.defaults = [.Constant (.int iv) dk dpos] := by rfl) (hk0 : params.kw_defaults = [] := by rfl)
    (hbind : ∀ (q : Str) (cl : List (Str × Addr)) (T0 : Addr) (doc pm cv ctv : Value) (t : Tok) (s : Shared), s.heap.get? T0 = some (PySem.W.kdv_tup [.int iv t]) → BindsTo s (PySem.W.kdv_fn "<lambda>" q params (.expr body) scope cl (.ref T0) doc pm cv ctv) ⟨[], []⟩ [(nm, .int iv t)] := by
      intro q cl T0 doc pm cv ctv t s h
      exact BindsTo.of_defaults rfl h rfl (by rfl) (by rfl)) :
    PE X (.Lambda params body scope pos) (tLamV X ⟨params, body, scope, tb, hbody⟩ P) := by
  refine ⟨fun pins s σ H Q I hz => PySem.W.kdv_lam (by rw [hpd]; rfl) hk0 ?_⟩
  obtain ⟨⟨ps, hP, ht, ha⟩, hq⟩ := hz
  rw [hpd]
  refine PySem.W.kdv_all1 (thn ((pe_int (X := X) (i := iv) (j := dk) (pos := dpos)).run pins s σ H (fun v H1 => v = .int iv ∧ H1 = H) I ⟨rfl, rfl⟩) fun u s1 hu => ?_)
  obtain ⟨_, H1, I1, r1, ev, eH⟩ := hu
  subst ev
  subst eH
  obtain ⟨t, rfl⟩ := r1
  refine PySem.W.kdv_all0 ?_
  rw [makeFunction_eq]
  simp only [List.zip_nil_right, List.filterMap_nil, List.isEmpty_nil, if_true, pure_bind, (rfl : ([Value.int iv t] : List Value).isEmpty = false), Bool.false_eq_true, if_false]
  refine wpAny_bind (wpAny_newTextTuple ?_)
  have nT : H1 s1.heap.objs.size = none := I1.hok.fresh (Nat.le_refl _)
  have lP : P < s1.heap.objs.size := Heap.lt_size (I1.hok P _ hP)
  have I2 := I1.laid (t' := s1.toks) (a := s1.heap.objs.size) (o := LamO s1.heap.objs.size (PySem.W.kdv_tup [Value.int iv t])) (h' := s1.heap.push (PySem.W.kdv_tup [Value.int iv t])) (fun b o e => Heap.get?_push_of_some _ e) (Nat.le_refl _) (lamO_ok (Heap.get?_push_size _ rfl))
  show wpAny (model X.prog X.w) X.A (makeTail "<lambda>" (X.env.qual ++ "<lambda>") params (.expr body) scope X.env (.ref s1.heap.objs.size) .none none pos pos.line) _ X.xe { s1 with heap := s1.heap.push (PySem.W.kdv_tup [Value.int iv t]) }
  generalize hs2 : ({ s1 with heap := s1.heap.push (PySem.W.kdv_tup [Value.int iv t]) } : Shared) = s2 at *
  generalize s1.heap.objs.size = T0 at *
  generalize hH2 : upd H1 T0 (LamO T0 (PySem.W.kdv_tup [Value.int iv t])) = H2 at *
  have nPT : P ≠ T0 := Nat.ne_of_lt lP
  have hP2 : H2 P = some (.tbl ps) := by rw [← hH2, upd_ne nPT]; exact hP
  have hT2 : H2 T0 = some (LamO T0 (PySem.W.kdv_tup [Value.int iv t])) := by rw [← hH2]; exact upd_same
  have ha2 : ∀ (pos : Pos) (cv : Value), codeAmong pos ps.toList = some cv → ∃ c, cv = .ref c ∧ H2 c = some (CodeO c (lamQ X)) := fun pos cv h => by
    obtain ⟨c, e1, e2⟩ := ha pos cv h
    exact ⟨c, e1, by rw [← hH2, upd_ne (ne_of_none e2 nT)]; exact e2⟩
  have clo := L.has I2.ok
  have bP : s2.heap.BuiltinsAt X.mg P := TB.bm.keeps I2.bk
  have oP : s2.heap.get? P = some { cls := .none, data := .fields ps } := I2.hok P _ hP2
  have fin : ∀ (c' : Addr) (doc pm ctv : Value) (h' : Heap) (tk : Nat) (H3 : Hp), Inv X pins σ H3 { s2 with heap := h', toks := tk } → Grown H2 P (lamQ X) H3 c' → T0 < h'.objs.size →
      EP X pins σ Q (.ref h'.objs.size) { s2 with heap := h'.push (PySem.W.kdv_obj "<lambda>" (X.env.qual ++ "<lambda>") params (.expr body) scope (cloFrom X.env.cells scope.names []) (.ref T0) doc pm c' ctv), toks := tk } := fun c' doc pm ctv h' tk H3 I3 gr lT => by
    have n3 : H3 h'.objs.size = none := I3.hok.fresh (Nat.le_refl _)
    have I4 := I3.laid (t' := tk) (a := h'.objs.size) (o := LamO h'.objs.size (PySem.W.kdv_obj "<lambda>" (X.env.qual ++ "<lambda>") params (.expr body) scope (cloFrom X.env.cells scope.names []) (.ref T0) doc pm c' ctv)) (h' := h'.push (PySem.W.kdv_obj "<lambda>" (X.env.qual ++ "<lambda>") params (.expr body) scope (cloFrom X.env.cells scope.names []) (.ref T0) doc pm c' ctv))
      (fun b o e => Heap.get?_push_of_some _ e) (Nat.le_refl _) (lamO_ok (Heap.get?_push_size _ rfl))
    refine ⟨.ref h'.objs.size, _, I4, rfl, hq _ c' _ fun F Ω l kt hh hkt hm hu => ?_⟩
    obtain ⟨hh0, e0⟩ := hh.newF (u := LamO T0 (PySem.W.kdv_tup [Value.int iv t])) nT
    rw [hH2] at hh0
    obtain ⟨F1, e1, hh1, hc⟩ := grown_holds hh0 hkt hm hu gr
    obtain ⟨hh2, e2⟩ := hh1.newF (u := LamO h'.objs.size (PySem.W.kdv_obj "<lambda>" (X.env.qual ++ "<lambda>") params (.expr body) scope (cloFrom X.env.cells scope.names []) (.ref T0) doc pm c' ctv)) n3
    exact ⟨_, e0.trans (e1.trans e2), hh2, .dflt upd_same (e2 _ _ (e1 _ _ upd_same)) L hbind, e2 _ _ hc⟩
  cases hc : codeAmong pos ps.toList with
  | some cv =>
    obtain ⟨c', e, hco⟩ := ha2 pos cv hc
    subst e
    refine PySem.W.kdv_makeTailHit (mg := X.mg) (c := c) (P := P) (ps := ps) (closure_ok clo) I2.ok.glob (I2.mod.glob.keeps I2.bk) hcode (TB.code.keeps I2.bk) oP ht hc bP fun ctv doc h' tk hx hsz => ?_
    exact fin c' doc _ ctv h' tk H2 (I2.kept (t' := tk) (h' := h') hx) (.inl ⟨rfl, ps, pos, hP2, hc⟩) (Nat.lt_of_lt_of_le (Heap.lt_size (lamO_at I2.hok hT2)) hsz)
  | none =>
    refine PySem.W.kdv_makeTail (mg := X.mg) (c := c) (P := P) (ps := ps) (closure_ok clo) I2.ok.glob (I2.mod.glob.keeps I2.bk) hcode (TB.code.keeps I2.bk) oP ht hc TB.gP bP fun c' ctv doc h' tk hx hge hlt hrec htb => ?_
    obtain ⟨c2, oc, vs, t2, e2, hoc, hd, hv⟩ := hrec
    cases e2
    have nC : H2 c' = none := I2.hok.fresh hge
    refine fin c' doc _ ctv h' tk _ (inv_table (t' := tk) (more := #[rawInt pos.line, rawInt pos.col, .ref c']) (h' := h') I2 hP2 hx htb hge ⟨oc, vs, t2, hoc, hd, hv⟩) (.inr ⟨ps, #[rawInt pos.line, rawInt pos.col, .ref c'], hP2, nC, rfl, fun z => ?_, fun pos2 cv z hcv => ?_⟩) ?_
    · rw [Array.toList_append]; exact PySem.TriplesOk_snoc _ _ _ _ z
    · rw [Array.toList_append] at hcv
      exact among_app _ z hcv
    · exact Nat.lt_of_lt_of_le (Heap.lt_size (lamO_at I2.hok hT2)) (Nat.le_of_lt (Nat.lt_of_le_of_lt hge hlt))
end
/-! lists of any values: joined -/
section
variable {T : TC} {Γ : List (Option VA)} {Ω Ω1 Ω2 Ω0 Ω' : List OA} {A B : VA} {u : Value} {ta tb te : TE} {As Bs : List VA} {D : Ends} {F0 : Hp}
theorem xe_catA (ha : XE ta Γ Ω (lsA As) Ω1) (hb : XE tb Γ Ω1 (lsA Bs) Ω2) (hz : As.length + Bs.length ≤ sizeLine) : XE (tOp rAddQ ta tb) Γ Ω (lsA (As ++ Bs)) Ω2 := xe_op ha hb (ro_or2 fun F H x y hh a1 a2 Q q => by
  obtain ⟨p, vs, rfl, hp, al⟩ := a1
  obtain ⟨p2, vs2, rfl, hp2, al2⟩ := a2
  refine ⟨p, p2, vs, vs2, rfl, rfl, hh.same _ _ hp, hh.same _ _ hp2, by rw [al.len, al2.len]; exact hz, fun d hd => ?_⟩
  obtain ⟨hh2, e2⟩ := hh.newF (u := .lst (vs ++ vs2)) hd
  exact q _ _ _ e2 hh2 ⟨d, _, rfl, upd_same, (AlA.app al al2).mono e2⟩)
/-- element by element -/
inductive Pw {γ : Type} (P : VA → γ → Prop) : List VA → List γ → Prop
  | nil : Pw P [] []
  | cons {A : VA} {y : γ} {As : List VA} {ys : List γ} (h : P A y) (t : Pw P As ys) : Pw P (A :: As) (y :: ys)
theorem Pw.len {γ : Type} {P : VA → γ → Prop} : ∀ {As : List VA} {ys : List γ}, Pw P As ys → As.length = ys.length
  | _, _, .nil => rfl
  | _, _, .cons _ t => by rw [List.length_cons, List.length_cons, t.len]
theorem Pw.zip {γ : Type} {P : VA → γ → Prop} : ∀ {As : List VA} {ys : List γ}, Pw P As ys → (As.zip ys).map (·.1) = As ∧ (As.zip ys).map (·.2) = ys ∧ ∀ z ∈ As.zip ys, P z.1 z.2
  | _, _, .nil => ⟨rfl, rfl, fun z h => nomatch h⟩
  | _, _, .cons h t => by
    obtain ⟨h1, h2, h3⟩ := t.zip
    refine ⟨by rw [List.zip_cons_cons, List.map_cons, h1], by rw [List.zip_cons_cons, List.map_cons, h2], fun z hz => ?_⟩
    rcases List.mem_cons.mp hz with rfl | hz
    · exact h
    · exact h3 z hz
end
section
variable {X : Cx} {kl : Nat} {T : TC} {Γ : List (Option VA)} {Ω Ω2 Ω' : List OA} {A : VA}
end
end VL

set_option Elab.async false
set_option linter.all false
set_option maxRecDepth 100000
set_option maxHeartbeats 2000000
/-! VL61: tuples of any values; deep lists or tuples; lists of a value or None. -/
namespace VL
open PySem PySem.Spec PyProof.Rows L2 LamX
section
variable {T : TC} {Γ : List (Option VA)} {Ω Ω1 Ω2 : List OA} {A B : VA} {u t : Value} {ta : TA} {te : TE}
def tpA (T : TC) (As : List VA) : VA := ⟨fun F v => ∃ p vs, v = .ref p ∧ SqT T.K F p vs ∧ AlA F vs As, fun e ⟨p, vs, h1, h2, h3⟩ => ⟨p, vs, h1, Same.tup e h2, h3.mono e⟩⟩
end
/-- a list or a tuple of things that are not looked at -/
inductive DX where
  | mk
instance : Rp DX := ⟨fun T F v _ => ∃ p vs, v = .ref p ∧ (F p = some (.lst vs) ∨ SqT T.K F p vs), fun e ⟨p, vs, h1, h2⟩ => ⟨p, vs, h1, h2.elim (fun h => .inl (e _ _ h)) fun h => .inr (Same.tup e h)⟩⟩
section
variable {T : TC} {Γ : List (Option VA)} {Ω Ω1 : List OA} {A : VA} {u : Value} {ta : TA} {te : TE}
end
section
variable {T : TC} {Γ : List (Option VA)} {Ω Ω1 : List OA} {te : TE} {α : Type} [Rp α]
end
section
variable {T : TC} {Γ : List (Option VA)} {Ω Ω1 Ω2 : List OA} {A : VA} {As : List VA} {t : TA} {sp : Sp} {Pre : PreT}
end
end VL

set_option Elab.async false
set_option linter.all false
set_option maxRecDepth 100000
set_option maxHeartbeats 2000000
/-! VL62: isinstance of a caught exception, with or without a dict; a raising call with a new machine ahead. -/
namespace VL
open PySem PySem.Spec PyProof.Rows L2 LamX
/-- what the class D of an exception must be -/
structure ExI (K : PySem.W.Frag) (D : Addr) : Prop where
  hc : (PySem.W.clsIn K D).isSome = true
  hg : PySem.W.findIn K (.ref D) "__getattribute__" = some (some (.builtin "BaseException.__getattribute__"))
  hk : PySem.W.findIn K (.ref D) "__getattr__" = some none
  hs : PySem.W.subIn K (.ref D) (.type "BaseException") = some true
  ha : PySem.W.findIn K (.ref D) "__class__" = some (some (.builtin "object.__class__"))
  hn : PySem.W.specialIn K (.builtin "object.__class__") "__get__" = some (some (.builtin "getset_descriptor.__get__"))
  ht : PySem.W.takesIn K (.builtin "object.__class__") = some true
  hm : PySem.W.mroIn K D (.type "object") = some true
/-- isinstance(e, c), e the exception caught: its class and its dict told by the wish -/
def rIsX (K : PySem.W.Frag) (cls : Value) (d : Option Addr) (a : Addr) : List V → Hp → VK → Prop := fun xs H Q =>
  ∃ (D : Addr) (c : V) (cv : Value) (b : Bool), cls = .ref D ∧ ExI K D ∧ xs = [.ref a, c] ∧ (∀ u, RelV c u → u = cv) ∧ PySem.W.kitOne K (.ref D) cv = some b ∧ (∀ dd, d = some dd → ∃ fs, H dd = some (.xd fs)) ∧ Q (.bl b) H
section
variable {X : Cx}
end
section
variable {T : TC} {Γ : List (Option VA)} {Ω Ω1 : List OA} {te tc : TE}
end
/-! a raising call with a new machine ahead -/
section
variable {T : TC} {Γ : List (Option VA)} {Ω Ω0 Ω1 : List OA} {sp : Sp} {PreX : PreXX} {t : TA} {ta : TE} {W : WX} {As : List VA} {r : XC} {F0 : Hp}
end
end VL

set_option Elab.async false
set_option linter.all false
set_option maxRecDepth 100000
set_option maxHeartbeats 2000000
/-! VL63: a dict of the program by numbers, read only. -/
namespace VL
open PySem PySem.Spec PyProof.Rows L2 LamX
/-- the written dict at d: these numbers, each with its value -/
structure IDict (K : PySem.W.Frag) (d : Addr) (kvs : List (Int × Int)) : Prop where
  ex : ∃ es n, K.lookup d = some ⟨.type "dict", none, .dict es n, #[]⟩ ∧ entB es.toList kvs = true
  low : (d == sysModules) = false
theorem ent_keys (P : Program) (w : World) : ∀ {l : List DictEntry} {kvs : List (Int × Int)}, entB l kvs = true → ∀ e ∈ l, ∃ k, (intKind P w).is k e.key = true ∧ e.hash = (intKind P w).hash k
  | [], _, _, _, m => nomatch m
  | e :: r, [], h, _, _ => nomatch h
  | e :: r, p :: q, h, x, m => by
    obtain ⟨h1, h⟩ := Bool.and_eq_true_iff.mp h
    obtain ⟨h2, h⟩ := Bool.and_eq_true_iff.mp h
    obtain ⟨h3, h4⟩ := Bool.and_eq_true_iff.mp h
    rcases List.mem_cons.mp m with rfl | m
    · obtain ⟨hash, key, val⟩ := x
      cases key with
      | int a t =>
        obtain rfl := of_decide_eq_true h1
        exact ⟨p.1, intKind_is P w p.1 t, of_decide_eq_true h3⟩
      | _ => cases h1
    · exact ent_keys P w h4 x m
def GetsI (o : Option Value) : Option Int → Prop
  | some v => ∃ t, o = some (.int v t)
  | none => o = none
theorem ent_find : ∀ {l : List DictEntry} {kvs : List (Int × Int)} (k : Int), entB l kvs = true → GetsI ((l.find? fun e => Value.isInt k e.key).map (·.val)) (kvs.lookup k)
  | [], [], k, _ => rfl
  | [], _ :: _, _, h => nomatch h
  | e :: r, [], _, h => nomatch h
  | e :: r, p :: q, k, h => by
    obtain ⟨h1, h⟩ := Bool.and_eq_true_iff.mp h
    obtain ⟨h2, h⟩ := Bool.and_eq_true_iff.mp h
    obtain ⟨h3, h4⟩ := Bool.and_eq_true_iff.mp h
    obtain ⟨hash, key, val⟩ := e
    obtain ⟨pk, pv⟩ := p
    cases key with
    | int a t =>
      obtain rfl : a = pk := of_decide_eq_true h1
      cases val with
      | int b u =>
        obtain rfl : b = pv := of_decide_eq_true h2
        by_cases z : k = a
        · subst z
          rw [List.lookup_cons, show (k == k) = true from beq_self_eq_true k]
          refine ⟨u, ?_⟩
          rw [List.find?_cons_of_pos (by simp [Value.isInt])]
          rfl
        · rw [List.lookup_cons, show (k == a) = false from beq_false_of_ne z]
          rw [List.find?_cons_of_neg (by simp [Value.isInt]; exact fun e => z e.symm)]
          exact ent_find k h4
      | _ => cases h2
    | _ => cases h1
section
variable {X : Cx} {d : Addr} {kvs : List (Int × Int)}
theorem IDict.map (D : IDict X.K d kvs) {h : Heap} (I : X.K.In h) : ∃ f, h.MapOf (intKind X.prog X.w) d f ∧ ∀ k, GetsI (f k) (kvs.lookup k) := by
  obtain ⟨es, n, hl, he⟩ := D.ex
  refine ⟨fun k => findBy Value.isInt es k, ⟨_, es, n, I _ _ hl, ⟨rfl, rfl, rfl⟩, rfl, fun e m => ent_keys _ _ he e (Array.mem_toList_iff.mpr m), fun _ => rfl⟩, fun k => ?_⟩
  have := ent_find k he
  obtain ⟨l⟩ := es
  show GetsI (findBy Value.isInt ⟨l⟩ k) _
  unfold findBy
  rw [List.find?_toArray]
  exact this
def rInID (d : Addr) (kvs : List (Int × Int)) (g : Bool → Bool) : R2 := fun x y H Q => ∃ i : Int, x = .int i ∧ y = .ref d ∧ Q (.bl (g (kvs.lookup i).isSome)) H
end
section
variable {T : TC} {Γ : List (Option VA)} {Ω Ω1 Ω2 : List OA} {te tc : TE} {i : Int} {d : Addr} {kvs : List (Int × Int)} {g : Bool → Bool}
end
end VL

set_option Elab.async false
set_option linter.all false
set_option maxRecDepth 100000
set_option maxHeartbeats 2000000
/-! VL64: one of several values, not known which; a lambda that asks with it raises the same for each. -/
namespace VL
open PySem PySem.Spec PyProof.Rows L2 LamX
def orA (As : List VA) : VA := ⟨fun F v => ∃ A ∈ As, A.P F v, fun e ⟨A, h, p⟩ => ⟨A, h, A.mono e p⟩⟩
section
variable {T : TC} {Γ : List (Option VA)} {Ω Ω' Ω1 Ω2 : List OA} {As : List VA} {A B : VA} {u : Value} {i : Nat} {tb : XK → TE} {r : XC}
end
/-- all tell the same -/
def allX {α : Type} (f : α → Option XC) (l : List α) (r : XC) : Prop := ∀ a ∈ l, f a = some r
end VL

set_option Elab.async false
set_option linter.all false
set_option maxRecDepth 100000
set_option maxHeartbeats 2000000
/-! VL65: a list of any values that grows by append, then stands. -/
namespace VL
open PySem PySem.Spec PyProof.Rows L2 LamX
def lstV (p : Addr) (As : List VA) : OA := ⟨fun F t => ∃ vs, t p = some (.lst vs) ∧ AlA F vs As, fun e ⟨vs, h1, h2⟩ => ⟨vs, h1, h2.mono e⟩⟩
section
variable {T : TC} {Γ : List (Option VA)} {Ω Ω1 Ω2 : List OA} {As : List VA} {A : VA} {ta tb : TE} {t : TA} {D : Ends} {F0 : Hp} {ts : TS} {p : Addr}
end
end VL

set_option Elab.async false
set_option linter.all false
set_option maxRecDepth 100000
set_option maxHeartbeats 2000000
/-! VL66: a, b = x, y of any values. -/
namespace VL
open PySem PySem.Spec PyProof.Rows L2 LamX
section
variable {T : TC} {A B : VA} {k l : Nat} {Γ : List (Option VA)} {Ω Ω1 : List OA} {ta : TA} {ts : TS} {D : Ends} {F0 : Hp}
end
end VL

set_option Elab.async false
set_option linter.all false
set_option maxRecDepth 100000
set_option maxHeartbeats 2000000
/-! VL67: a call by keywords that raises. -/
namespace VL
open PySem PySem.Spec PyProof.Rows L2 LamX
/-- f(.., k = v, ..), its errors at the slots -/
def tCallNS (n m : Nat) (sp : Sp) (gV : List V → List V → List V) (E : L2.St → XK) (t tk : TA) : TE := fun σ H Q => t σ H fun vs H1 => tk σ H1 fun zs H2 => vs.length = n ∧ zs.length = m ∧ sp (gV vs zs) H2 Q (E σ)
structure CalXK (P : Program) (w : World) (K : PySem.W.Frag) (mg : Str → Option Value) (base : Heap) (k : Nat) (x : Str) (ps : List Str) (n : Nat) (ks : List Str) (dvs : List V) (ix : List Nat) (sp : Sp) : Prop where
  ex : ∃ f fd g, FnOk P w K mg base (L2.CX P w) k f fd ps sp ∧ mg x = some (.ref f) ∧ PySem.W.keepIn K (.ref f) = true ∧ KBn K fd ps n ks g (fun vs zs => prm ix (vs ++ (dvs ++ zs)))
section
variable {X : Cx} {k n : Nat} {x : Str} {ps ks : List Str} {dvs : List V} {ix : List Nat} {sp : Sp} {p pos : Pos} {e : Expr} {es : List Expr} {kws : List Keyword} {t tk : TA} {W : WX}
end
section
variable {T : TC} {Γ : List (Option VA)} {Ω Ω1 Ω2 : List OA} {sp : Sp} {PreX : PreXX} {t tk : TA} {W : WX} {As Ks Ds : List VA} {dvs : List V} {ix : List Nat} {r : XC} {F0 : Hp} {n m : Nat}
end
end VL

set_option Elab.async false
set_option linter.all false
set_option maxRecDepth 100000
/-! VL68: a name for a pair of a new list and a value; for over four. -/
namespace VL
open PySem L2 PyProof.Rows
section
variable {T : TC} {Γ : List (Option VA)} {Ω Ω0 Ω1 Ω2 : List OA} {B : VA} {te : TE} {D : Ends} {F0 : Hp} {ts : TS}
end
end VL
namespace VL
open PySem PySem.Spec L2 PyProof.Rows
/-- some dict, locked for good -/
def dicA : VA := ⟨fun F v => ∃ p od kvs, v = .ref p ∧ F p = some (.frz od (.dK kvs)), fun e ⟨p, od, kvs, h1, h2⟩ => ⟨p, od, kvs, h1, e _ _ h2⟩⟩
def rawFz (p : Addr) (u : HO) : OA := ⟨fun _ t => t p = some u, fun _ h => h⟩
section
variable {T : TC} {Γ : List (Option VA)} {Ω Ω0 Ω1 Ω2 : List OA} {te : TE}
end
end VL

set_option Elab.async false
set_option linter.all false
set_option maxRecDepth 100000
set_option maxHeartbeats 2000000
/-! VL69: defs with keyword-only parameters that raise; a pick that tells which; None and values of any kind. -/
namespace VL
open PySem PySem.Spec PyProof.Rows L2 LamX
section
variable {P : Program} {w : World} {K : PySem.W.Frag} {mg : Str → Option Value} {base : Heap}
end
section
variable {T : TC} {Γ : List (Option VA)} {Ω Ω1 Ω2 : List OA} {A : VA} {As : List VA} {ta tb te : TE} {i : Int}
/-- one of some values, the i-th -/
def pkA (As : List VA) (i : Int) : VA := ⟨fun F v => ∃ A, As[i.toNat]? = some A ∧ A.P F v, fun e ⟨A, h, p⟩ => ⟨A, h, A.mono e p⟩⟩
end
end VL

set_option Elab.async false
set_option linter.all false
set_option maxRecDepth 100000
set_option maxHeartbeats 2000000
/-! VL70: a target of two pairs; dict(pairs) whose keys come several times. -/
namespace VL
open PySem PySem.Spec PyProof.Rows L2
theorem lookup_relabel {env : PySem.Env} : ∀ {names : List (Str × NameKind)} {x : Str}, (names.lookup x = some .cell ∨ names.lookup x = some .free) →
    (names.map fun (n, k) => if (k == NameKind.free && env.scope.kind == .function && env.kindOf n == some .cell) then (n, NameKind.cell) else (n, k)).lookup x = some .cell ∨
    (names.map fun (n, k) => if (k == NameKind.free && env.scope.kind == .function && env.kindOf n == some .cell) then (n, NameKind.cell) else (n, k)).lookup x = some .free
  | [], _, h => by rcases h with h | h <;> exact nomatch h
  | (n, k) :: r, x, h => by
    have ih := lookup_relabel (env := env) (names := r) (x := x)
    generalize hg : (fun (q : Str × NameKind) => if (q.2 == NameKind.free && env.scope.kind == .function && env.kindOf q.1 == some .cell) then (q.1, NameKind.cell) else (q.1, q.2)) = g at *
    have g1 : ∀ q, g q = (q.1, NameKind.cell) ∨ g q = q := fun q => by
      subst hg
      by_cases c : (q.2 == NameKind.free && env.scope.kind == .function && env.kindOf q.1 == some .cell) = true
      · left; exact if_pos c
      · right; exact if_neg c
    have ih : r.lookup x = some .cell ∨ r.lookup x = some .free → (r.map g).lookup x = some .cell ∨ (r.map g).lookup x = some .free := by subst hg; exact ih
    suffices hh : ((g (n, k)) :: r.map g).lookup x = some .cell ∨ ((g (n, k)) :: r.map g).lookup x = some .free by subst hg; exact hh
    by_cases e : (x == n) = true
    · rw [List.lookup_cons] at h
      simp only [e] at h
      rcases g1 (n, k) with q | q <;> rw [q, List.lookup_cons] <;> simp only [e]
      · exact Or.inl trivial
      · exact h
    · have e' : (x == n) = false := by simpa using e
      rw [List.lookup_cons] at h
      simp only [e'] at h
      rcases g1 (n, k) with q | q <;> rw [q, List.lookup_cons] <;> simp only [e'] <;> exact ih h
/-- a block within a block -/
theorem blkOk_in {N : List Str} {sc scope : Scope} {env : PySem.Env} {own : List (Str × Nat)} (h : blkC N sc scope own = true) : BlkOk N (relabel sc env) scope own := by
  have b := blkOk_by h
  exact ⟨b.kind, b.uniq, b.ix, fun y hy e => lookup_relabel (b.free y hy e), b.own⟩
section
variable {T : TC} {Γ : List (Option VA)} {Ω Ω1 Ω2 : List OA} {A : VA} {te : TE}
/-- max of three ints -/
def rMax3 : List V → Hp → VK → Prop := L2.rNuC3 L2.nuMax3
/-- a dict of pairs, one behind another -/
def mrgS (l : List (Str × Int)) : List (Str × Int) := l.foldl (fun d q => dput d q.1 q.2) []
end
end VL

set_option Elab.async false
set_option linter.all false
set_option maxRecDepth 100000
set_option maxHeartbeats 2000000
/-! VL71: min and index of a list; a list behind which None is put, all but the last of it. -/
namespace VL
open PySem PySem.Spec PyProof.Rows L2
def minL : List Int → Int
  | [] => 0
  | [a] => a
  | a :: r => min a (minL r)
section
variable {T : TC} {Γ : List (Option VA)} {Ω Ω1 Ω2 : List OA} {A : VA} {te ta tb : TE} {p : Addr}
/-- a list behind which None stands -/
def lnA (T : TC) {α : Type} [Rp α] (p : Addr) (l : List α) : OA := ⟨fun F t => ∃ vs, t p = some (.lst (vs ++ [.non])) ∧ Al T F vs l, fun e ⟨vs, h1, h2⟩ => ⟨vs, h1, h2.mono e⟩⟩
end
end VL

set_option Elab.async false
set_option linter.all false
set_option maxRecDepth 100000
set_option maxHeartbeats 2000000
/-! VL72: a law's own dict with a machine, a list, a dict and, put in later, a number. -/
namespace VL
open PySem PySem.Spec PyProof.Rows L2
def wevM (m e d : Addr) (n : Int) : List (Key × V) := wev m e d ++ [(Sum.inr ("most" : Str), V.int n)]
section
variable {m e d : Addr} {n : Int}
end
section
variable {T : TC} {Γ : List (Option VA)} {Ω Ω1 Ω2 : List OA} {A : VA} {p m e d : Addr}
end
end VL

set_option Elab.async false
set_option linter.all false
set_option maxRecDepth 100000
set_option maxHeartbeats 2000000
/-! VL73: values of several kinds as elements of a plain list (type 'MV'): an integer, a truth, something else. -/
namespace VL
open PySem PySem.Spec PyProof.Rows L2
inductive MV where
  | i (n : Int)
  | b (x : Bool)
  | o
/-- v is none of the class int, wherever what F holds stands -/
def NoI (T : TC) (F : Hp) (v : V) : Prop := ∀ H, Same F H → ∃ t, TyX T.K H v t ∧ PySem.W.kitOne T.K t (.type "int") = some false
def mvP (T : TC) (F : Hp) (v : V) : MV → Prop
  | .i n => v = .int n
  | .b x => v = .bl x
  | .o => NoI T F v
theorem mvP_mono {T : TC} {F F' : Hp} (e : Same F F') {v : V} : ∀ {m : MV}, mvP T F v m → mvP T F' v m
  | .i _, h => h
  | .b _, h => h
  | .o, h => fun H e2 => h H (e.trans e2)
instance : Rp MV := ⟨fun T F v m => mvP T F v m, fun e h => mvP_mono e h⟩
/-- what is_between tells of it -/
def MV.btw (lo hi : Int) : MV → Bool
  | .i n => decide (lo ≤ n) && decide (n ≤ hi)
  | _ => false
section
variable {T : TC} {Γ : List (Option VA)} {Ω Ω0 Ω1 Ω2 : List OA} {A B : VA} {te : TE} {ts : TS} {D : Ends} {F0 : Hp} {k : Nat}
end
/-! deep lists whose depth is told -/
/-- a list in lists, so many of them about [an int] -/
structure DPn where
  d : Nat
def dpv (F : Hp) : Nat → V → Prop
  | 0, v => ∃ p n, v = .ref p ∧ F p = some (.lst [.int n])
  | d + 1, v => ∃ p x, v = .ref p ∧ F p = some (.lst [x]) ∧ dpv F d x
theorem dpv_mono {F F' : Hp} (e : Same F F') : ∀ {d : Nat} {v : V}, dpv F d v → dpv F' d v
  | 0, _, ⟨p, n, h1, h2⟩ => ⟨p, n, h1, e _ _ h2⟩
  | _ + 1, _, ⟨p, x, h1, h2, h3⟩ => ⟨p, x, h1, e _ _ h2, dpv_mono e h3⟩
instance : Rp DPn := ⟨fun _ F v a => dpv F a.d v, fun e h => dpv_mono e h⟩
section
variable {T : TC} {Γ : List (Option VA)} {Ω Ω1 : List OA} {ta : TE}
end
end VL

set_option Elab.async false
set_option linter.all false
set_option maxRecDepth 100000
set_option maxHeartbeats 2000000
/-! VL74: a lambda handed over that raises or returns a value that is kept. -/
namespace VL
open PySem PySem.Spec PyProof.Rows L2
section
variable {X : Cx} {kl : Nat} {T : TC} {Γ : List (Option VA)} {Ω Ω1 Ω2 Ω' : List OA} {A : VA} {F0 : Hp} {D : Ends} {W : WX}
/-- as askX; what it returns is A -/
def askV (T : TC) (f : Addr) (act : XK → Hp → VK → Prop) (Ω Ω' : List OA) (o : Option XC) (A : VA) : VA :=
  ⟨fun F v => v = .ref f ∧ ∀ F1 H1, Same F F1 → Holds F1 Ω H1 → ∀ (E : XK) (Q : VK),
      (∀ r, o = some r → ∀ F2 c d H2, Same F1 F2 → Holds F2 Ω H2 → RCf T r F2 c d → E c d H2) → (o = none → ∀ F2 v H2, Same F1 F2 → Holds F2 Ω' H2 → A.P F2 v → Q v H2) → act E H1 Q,
   fun e ⟨h1, h2⟩ => ⟨h1, fun F1 H1 e1 => h2 F1 H1 (e.trans e1)⟩⟩
/-- what a call of such a lambda makes -/
def OutcV (T : TC) (Γ : List (Option VA)) (Ω Ω' : List OA) (tb : XK → TE) (o : Option XC) (A : VA) : Prop :=
  match o with
  | some r => ∀ (E : XK) (F1 : Hp), (∀ F2 c d H2, Same F1 F2 → Holds F2 Ω H2 → RCf T r F2 c d → E c d H2) → XR (tb E) F1 Γ Ω
  | none => ∀ E : XK, XE (tb E) Γ Ω A Ω'
end
end VL

set_option Elab.async false
set_option linter.all false
set_option maxRecDepth 100000
set_option maxHeartbeats 2000000
/-! VL75: lambdas of a frame, called in that frame; three by a tuple, the second one new. -/
namespace VL
open PySem PySem.Spec PyProof.Rows L2 LamX
def EN0 : XK := fun _ _ _ => False
/-- x(), x's value a lambda of this frame -/
def tSelf (X : Cx) (kl i : Nat) : TE := fun σ H Q => ∃ (Lm : LamPk X kl) (f c' : Addr), σ[i]? = some (some (.ref f)) ∧ Lm.at c' f H ∧ Lm.tb EN0 σ H Q
section
variable {X : Cx}
theorem pe_self {kl i : Nat} {a : Str} {p1 p2 : Pos} (hr : Room (kl + 1) X.A) (hN : X.N[i]? = some a) (hv : Vis X.env.scope a) (hd : (a == ("__debug__" : Str)) = false := by decide) (hcd : (a == ("__classdict__" : Str)) = false := by decide) :
    PE X (.Call (.Name a p1) [] [] p2) (tSelf X kl i) := by
  refine ⟨fun pins s σ H Q I hz => ?_⟩
  obtain ⟨Lm, f, c', hs, hat, ht⟩ := hz
  refine wpAny_Call_Name_kw (thn ((pe_var (pos := p1) (i := i) hN hv hd hcd).run pins s σ H (fun v H1 => v = .ref f ∧ H1 = H) I ⟨.ref f, hs, rfl, rfl⟩) fun u s1 hu => ?_)
  obtain ⟨_, H1, I1, r1, ev, eH⟩ := hu
  subst ev
  subst eH
  obtain rfl : u = Value.ref f := r1
  have rc := can_lam Lm (c' := c') (f := f) I1 X.A X.stack s1 _ EN0 Q hr I1.env0 (fun c v n i => ⟨i, n⟩) ⟨hat, ht⟩
  refine PySem.W.callWith_F0 rc.1 (wpAny_call (codeAny_mono rc.2 fun r s' hq => ?_))
  cases r with
  | error e =>
    obtain ⟨_, _, _, _, _, _, _, _, _, _, _, _, hE⟩ := hq
    exact hE.elim
  | ok fl =>
    cases fl with
    | ret u => exact I1.after hq
    | next => exact hq.elim
    | brk => exact hq.elim
    | cont => exact hq.elim
end
section
variable {X : Cx} {kl : Nat} {T : TC} {Γ : List (Option VA)} {Ω Ω1 Ω2 Ω' : List OA} {A B C : VA} {As : List VA} {te ta tb tc : TE} {ts : TS} {F0 : Hp} {D : Ends}
theorem xe_self {Lm : LamPk X kl} {i : Nat} (hi : Γ[i]? = some (some (lamV X Lm))) (h : XE (Lm.tb EN0) Γ Ω A Ω') : XE (tSelf X kl i) Γ Ω A Ω' := fun F σ H e hh Q q => by
  obtain ⟨v, h1, f, c', rfl, hat⟩ := e.2 i _ hi
  exact ⟨Lm, f, c', h1, ⟨hat.1.mono hh.same, hh.same _ _ hat.2⟩, h F σ H e hh Q q⟩
theorem xe_any (h : XE te Γ Ω A Ω') : XE te Γ Ω anyA Ω' := fun F σ H e hh Q q => h F σ H e hh Q fun F' v H' Ω2 e' hh' ⟨_, o⟩ => q F' v H' Ω2 e' hh' ⟨True.intro, o⟩
theorem xs_genA {i : Nat} (h : XE te Γ Ω (lsA As) Ω') (q : ∀ Bs, Bs = As → XS ts D F0 (Γ.set i (some (lsA Bs))) Ω') : XS (tSeq (tAsg te (gName i)) ts) D F0 Γ Ω := xs_set h (q As rfl)
theorem xi_lkp {γ : Type} {wi : L2.TI} {js : List γ} {g : γ → VA} (h : XI wi Γ Ω As (fun A => A) Ω1) (e : As = js.map g) : XI wi Γ Ω js g Ω1 := fun F σ H en hh R r => by
  subst e
  exact h F σ H en hh R fun F' J H' Sx e' hh' W sx => r F' J H' Sx e' hh' ⟨W.mono, fun i F Ω H q hh hi => W.go i F Ω H q hh (by rw [List.length_map]; exact hi), fun F Ω H q hh => by have := W.stop F Ω H q hh; rwa [List.length_map] at this,
    fun i a F Ω H x H' q hh hx y => W.yld i (g a) F Ω H x H' q hh (by rw [List.getElem?_map, hx]; rfl) y⟩ sx
/-- a value, a new thing, a value, by way of a tuple -/
theorem xs_asgVNV {i j k : Nat} {o : Addr → OA} {ks ks2 : List (Nat × OA)} {L : List OA} {Ω0 : List OA} {M : Addr → List OA} (h1 : XE ta Γ Ω0 A Ω1) (h2 : XG tb Γ Ω1 (RN (stt Ω ks L) o)) (h3 : ∀ p, XE tc Γ (stt Ω ks (L ++ [o p])) C (stt Ω ks2 (M p)))
    (q : ∀ p, XS ts D F0 (((Γ.set i (some A)).set j (some (vr p))).set k (some C)) (stt Ω ks2 (M p))) :
    XS (tSeq (tAsg (tTup (tCons ta (tCons tb (tCons tc tNil)))) (gTup T.K 3 (gCons (gName i) (gCons (gName j) (gCons (gName k) gNil))))) ts) D F0 Γ Ω0 := fun σ H ⟨F, f0, e, hh⟩ => by
  refine h1 F σ H e hh _ fun F1 x H1 Ω' e1 hh1 ⟨a1, o1⟩ => ?_
  subst o1
  refine h2 F1 σ H1 (e.mono e1) hh1 _ fun F2 y H2 Ω'' e2 hh2 ⟨p, a2, o2⟩ => ?_
  subst o2
  have a2 : y = V.ref p := a2
  subst a2
  rw [stt_app] at hh2
  refine h3 p F2 σ H2 ((e.mono e1).mono e2) hh2 _ fun F3 z H3 Ω3 e3 hh3 ⟨a3, o3⟩ => ?_
  subst o3
  refine ⟨by show 3 ≤ sizeLine; decide, fun d hd => ?_⟩
  obtain ⟨hh4, e4⟩ := hh3.newF (u := .tup [x, .ref p, z]) hd
  refine ⟨d, [x, .ref p, z], rfl, .inl (.inl upd_same), rfl, x, [.ref p, z], rfl, .ref p, [z], rfl, z, [], rfl, rfl, ?_⟩
  exact q p _ _ ⟨_, f0.trans (((e1.trans e2).trans e3).trans e4), (((((e.mono e1).mono e2).mono e3).mono e4 |>.set (A := A) (A.mono e4 (A.mono e3 (A.mono e2 a1)))).set (A := vr p) rfl).set (A := C) (C.mono e4 a3), hh4⟩
end
end VL

set_option Elab.async false
set_option linter.all false
/-! the mathematics: loops by invariants, digits, bits -/
namespace VL
open PySem L2
theorem chkP_eq {p : Prop} (h : p) : chkP p = some () := by unfold chkP; exact if_pos h
theorem bnd_of {α β : Type} {o : Option α} {a : α} {f : α → Option β} {r : Option β} (h : o = some a) (k : f a = r) : o.bind f = r := by rw [h]; exact k
/-! ### loops -/
section
variable {α S ρ : Type} {b : α → S → Option (Stp S ρ)}
theorem forM_cons {x : α} {r : List α} {s s' : S} (h : b x s = some (.nx s')) : forM' b (x :: r) s = forM' b r s' := by
  show (b x s).bind _ = _
  rw [h]
  rfl
theorem forM_ind (I : Nat → S → Prop) : ∀ (xs : List α) (k : Nat) (s : S), (∀ i x s, xs[i]? = some x → I (k + i) s → ∃ s', b x s = some (.nx s') ∧ I (k + i + 1) s') → I k s → ∃ s', forM' b xs s = some (.nx s') ∧ I (k + xs.length) s'
  | [], k, s, _, h => ⟨s, rfl, h⟩
  | x :: r, k, s, hs, h => by
    obtain ⟨s1, e1, i1⟩ := hs 0 x s rfl h
    obtain ⟨s2, e2, i2⟩ := forM_ind I r (k + 1) s1 (fun i y t hy ht => by
      obtain ⟨t', e, q⟩ := hs (i + 1) y t hy (by rw [show k + (i + 1) = k + 1 + i from by omega]; exact ht)
      exact ⟨t', e, by rw [show k + 1 + i + 1 = k + (i + 1) + 1 from by omega]; exact q⟩) i1
    exact ⟨s2, by rw [forM_cons e1, e2], by rw [List.length_cons, show k + (r.length + 1) = k + 1 + r.length from by omega]; exact i2⟩
theorem forM_fold (g : S → α → S) (I : S → Prop) : ∀ {xs : List α} {s : S}, (∀ x ∈ xs, ∀ s, I s → b x s = some (.nx (g s x)) ∧ I (g s x)) → I s → forM' b xs s = some (.nx (xs.foldl g s))
  | [], s, _, _ => rfl
  | x :: r, s, hs, h => by
    obtain ⟨e, i⟩ := hs x List.mem_cons_self s h
    rw [forM_cons e]
    exact forM_fold g I (fun y hy => hs y (List.mem_cons_of_mem _ hy)) i
end
theorem lcM_mapU {β γ : Type} {b : β → Unit → Option (Option γ × Unit)} {f : β → γ} : ∀ {xs : List β}, (∀ x ∈ xs, b x () = some (some (f x), ())) → lcM b xs () = some (xs.map f, ())
  | [], _ => rfl
  | x :: r, h => by
    show (b x ()).bind _ = _
    rw [h x List.mem_cons_self]
    show (lcM b r ()).bind _ = _
    rw [lcM_mapU fun y hy => h y (List.mem_cons_of_mem _ hy)]
    rfl
theorem ipow_le {b : Nat} (hb : 0 < b) {i j : Nat} (h : i ≤ j) : (b : Int) ^ i ≤ (b : Int) ^ j := by
  rw [← Int.natCast_pow, ← Int.natCast_pow]
  exact Int.ofNat_le.mpr (Nat.pow_le_pow_right hb h)
/-! ### bits -/
def bl (a : Nat) : Nat := if a = 0 then 0 else a.log2 + 1
theorem intBits_nat (a : Nat) : Builtin.Int.intBits (a : Int) = bl a := by
  unfold Builtin.Int.intBits bl
  by_cases h : a = 0
  · subst h; rfl
  · rw [if_neg h, if_neg (by simpa using h), Int.natAbs_natCast]
def pc (a : Nat) : Nat := if h : a = 0 then 0 else a % 2 + pc (a / 2)
termination_by a
decreasing_by omega
/-! ### digits -/
def dg (w a : Nat) : List Int := if h : a = 0 ∨ w = 0 then [] else ((a % 2 ^ w : Nat) : Int) :: dg w (a / 2 ^ w)
termination_by a
decreasing_by
  have h1 : a ≠ 0 := fun e => h (.inl e)
  have h2 : w ≠ 0 := fun e => h (.inr e)
  exact Nat.div_lt_self (by omega) (Nat.one_lt_two_pow h2)
theorem dg_zero (w : Nat) : dg w 0 = [] := by unfold dg; rfl
theorem dg_pos {w a : Nat} (hw : w ≠ 0) (h : a ≠ 0) : dg w a = ((a % 2 ^ w : Nat) : Int) :: dg w (a / 2 ^ w) := by
  rw [dg, dif_neg (fun e => e.elim h hw)]
theorem dg_ind {w : Nat} (hw : w ≠ 0) {p : Nat → Prop} (h0 : p 0) (hs : ∀ a, a ≠ 0 → p (a / 2 ^ w) → p a) : ∀ a, p a := fun a => by
  induction a using Nat.strongRecOn with
  | ind a ih =>
    by_cases h : a = 0
    · subst h; exact h0
    · exact hs a h (ih _ (Nat.div_lt_self (by omega) (Nat.one_lt_two_pow hw)))
section
variable {w : Nat} (hw : w ≠ 0)
include hw
theorem dg_mem : ∀ a, ∀ x ∈ dg w a, ∃ d : Nat, x = (d : Int) ∧ d < 2 ^ w := by
  refine dg_ind hw (fun x hx => by rw [dg_zero] at hx; cases hx) fun a h ih x hx => ?_
  rw [dg_pos hw h] at hx
  rcases List.mem_cons.mp hx with e | e
  · exact ⟨_, e, Nat.mod_lt _ (Nat.two_pow_pos w)⟩
  · exact ih x e
theorem dg_len : ∀ a m, a < 2 ^ (w * m) → (dg w a).length ≤ m := by
  refine dg_ind hw (fun m _ => by rw [dg_zero]; exact Nat.zero_le _) fun a h ih m hm => ?_
  rw [dg_pos hw h, List.length_cons]
  cases m with
  | zero => rw [Nat.mul_zero, Nat.pow_zero] at hm; omega
  | succ m =>
    have := ih m (by
      rw [Nat.div_lt_iff_lt_mul (Nat.two_pow_pos w), ← Nat.pow_add, show w * m + w = w * (m + 1) from by rw [Nat.mul_succ]]
      exact hm)
    omega
end
/-! ### rows from the last digit on, compared -/
def vm (B : Int) : List Int → Int
  | [] => 0
  | d :: r => d * B ^ r.length + vm B r
theorem vm_snoc {B : Int} : ∀ {r : List Int} {d : Int}, vm B (r ++ [d]) = vm B r * B + d
  | [], d => by show d * B ^ 0 + 0 = 0 * B + d; simp
  | e :: r, d => by
    show e * B ^ (r ++ [d]).length + vm B (r ++ [d]) = (e * B ^ r.length + vm B r) * B + d
    rw [vm_snoc (r := r), List.length_append, show [d].length = 1 from rfl, Int.pow_succ, Int.add_mul, ← Int.mul_assoc, Int.add_assoc]
theorem vm_bound {B : Int} (hB : 0 < B) : ∀ {r : List Int}, (∀ x ∈ r, 0 ≤ x ∧ x < B) → 0 ≤ vm B r ∧ vm B r < B ^ r.length
  | [], _ => ⟨Int.le_refl _, by show (0 : Int) < B ^ 0; rw [Int.pow_zero]; decide⟩
  | d :: r, h => by
    obtain ⟨i0, i1⟩ := vm_bound hB (r := r) fun x hx => h x (List.mem_cons_of_mem _ hx)
    obtain ⟨d0, d1⟩ := h d List.mem_cons_self
    have hp : 0 < B ^ r.length := Int.pow_pos hB
    have h0 : 0 ≤ d * B ^ r.length := Int.mul_nonneg d0 (by omega)
    have h1 : (d + 1) * B ^ r.length ≤ B * B ^ r.length := Int.mul_le_mul_of_nonneg_right (by omega) (by omega)
    rw [Int.add_mul, Int.one_mul] at h1
    show 0 ≤ d * B ^ r.length + vm B r ∧ d * B ^ r.length + vm B r < B ^ (r.length + 1)
    rw [Int.pow_succ, Int.mul_comm (B ^ r.length) B]
    omega
theorem vm_dg {w : Nat} (hw : w ≠ 0) : ∀ a : Nat, vm (2 ^ w) (dg w a).reverse = (a : Int) := by
  refine dg_ind hw (by rw [dg_zero]; rfl) fun a h ih => ?_
  rw [dg_pos hw h, List.reverse_cons, vm_snoc, ih]
  have := Nat.div_add_mod a (2 ^ w)
  have q : (a : Int) = ((2 ^ w * (a / 2 ^ w) + a % 2 ^ w : Nat) : Int) := by rw [this]
  conv => rhs; rw [q]
  push_cast
  rw [Int.mul_comm]
theorem dg_bound {w : Nat} (hw : w ≠ 0) (a : Nat) : a < 2 ^ (w * (dg w a).length) := by
  have h := (vm_bound (B := 2 ^ w) (Int.pow_pos (by decide)) (r := (dg w a).reverse) fun x hx => by
    obtain ⟨d, rfl, lt⟩ := dg_mem hw a x (List.mem_reverse.mp hx)
    have : ((d : Nat) : Int) < ((2 ^ w : Nat) : Int) := Int.ofNat_lt.mpr lt
    rw [Int.natCast_pow] at this
    exact ⟨by omega, this⟩).2
  rw [vm_dg hw, List.length_reverse] at h
  have e : (((2 ^ w) ^ (dg w a).length : Nat) : Int) = ((2 : Int) ^ w) ^ (dg w a).length := by rw [Int.natCast_pow, Int.natCast_pow]; rfl
  rw [← e] at h
  rw [Nat.pow_mul]
  exact Int.ofNat_lt.mp h
def cp : List Int → List Int → Nat
  | x :: r, y :: t => if x = y then cp r t + 1 else 0
  | _, _ => 0
theorem take_rev {l : List Int} {m : Nat} {x : Int} (h : l[m]? = some x) : (l.take (m + 1)).reverse = x :: (l.take m).reverse := by
  obtain ⟨lt, e⟩ := List.getElem?_eq_some_iff.mp h
  rw [List.take_add_one, h, Option.toList_some, List.reverse_append]
  rfl
end VL

set_option Elab.async false
set_option linter.all false
/-! rows from the first digit on; masks of any number -/
namespace VL
open PySem L2
theorem mod_neg (t : Nat) {M : Nat} (hM : 0 < M) : (-(t : Int) - 1) % (M : Int) = (M : Int) - 1 - ((t % M : Nat) : Int) := by
  have h := Nat.div_add_mod t M
  have lt := Nat.mod_lt t hM
  have e : (-(t : Int) - 1) = ((M : Int) - 1 - ((t % M : Nat) : Int)) + (M : Int) * (-((t / M : Nat) : Int) - 1) := by
    have q : (t : Int) = ((M * (t / M) + t % M : Nat) : Int) := by rw [h]
    rw [q, Int.mul_sub, Int.mul_neg, Int.mul_one]
    push_cast
    omega
  rw [e, Int.add_mul_emod_self_left, Int.emod_eq_of_lt (by omega) (by omega)]
theorem and_low (x : Int) (W : Nat) : Builtin.bitAnd x ((2 ^ W - 1 : Nat) : Int) = x % 2 ^ W := by
  have hp : 0 < 2 ^ W := Nat.two_pow_pos W
  have e2 : ((2 : Int) ^ W) = ((2 ^ W : Nat) : Int) := by rw [Int.natCast_pow]; rfl
  rw [e2]
  by_cases h : 0 ≤ x
  · obtain ⟨a, rfl⟩ := Int.eq_ofNat_of_zero_le h
    rw [PySem.W.os_band, Nat.and_two_pow_sub_one_eq_mod]
    exact Int.natCast_emod _ _
  · obtain ⟨t, ht⟩ := Int.eq_ofNat_of_zero_le (a := -x - 1) (by omega)
    have ex : x = -(t : Int) - 1 := by omega
    have en : Builtin.bitNot x = (t : Int) := by show -x - 1 = (t : Int); exact ht
    unfold Builtin.bitAnd
    rw [decide_eq_false h, decide_eq_true (show (0 : Int) ≤ ((2 ^ W - 1 : Nat) : Int) from by omega)]
    show ((2 ^ W - 1 : Nat) : Int) - (((((2 ^ W - 1 : Nat) : Int)).toNat &&& (Builtin.bitNot x).toNat : Nat) : Int) = _
    rw [en, Int.toNat_natCast, Int.toNat_natCast, Nat.and_comm, Nat.and_two_pow_sub_one_eq_mod, ex, mod_neg t hp]
    omega
def lv (B : Int) : List Int → Int
  | [] => 0
  | d :: r => d + B * lv B r
theorem lv_snoc {B : Int} : ∀ {r : List Int} {d : Int}, lv B (r ++ [d]) = lv B r + d * B ^ r.length
  | [], d => by show d + B * 0 = 0 + d * B ^ 0; simp
  | e :: r, d => by
    show e + B * lv B (r ++ [d]) = (e + B * lv B r) + d * B ^ (r.length + 1)
    rw [lv_snoc (r := r), Int.mul_add, Int.pow_succ, Int.mul_comm B (d * B ^ r.length), Int.mul_assoc d]
    omega
theorem lv_bound {B : Int} (hB : 0 < B) : ∀ {r : List Int}, (∀ x ∈ r, 0 ≤ x ∧ x < B) → 0 ≤ lv B r ∧ lv B r < B ^ r.length
  | [], _ => ⟨Int.le_refl _, by show (0 : Int) < B ^ 0; rw [Int.pow_zero]; decide⟩
  | d :: r, h => by
    obtain ⟨i0, i1⟩ := lv_bound hB (r := r) fun x hx => h x (List.mem_cons_of_mem _ hx)
    obtain ⟨d0, d1⟩ := h d List.mem_cons_self
    have h0 : 0 ≤ B * lv B r := Int.mul_nonneg (by omega) i0
    have h1 : B * (lv B r + 1) ≤ B * B ^ r.length := Int.mul_le_mul_of_nonneg_left (by omega) (by omega)
    rw [Int.mul_add, Int.mul_one] at h1
    show 0 ≤ d + B * lv B r ∧ d + B * lv B r < B ^ (r.length + 1)
    rw [Int.pow_succ, Int.mul_comm (B ^ r.length) B]
    omega
theorem lv_split {B : Int} : ∀ (m : Nat) (l : List Int), m ≤ l.length → lv B l = lv B (l.take m) + B ^ m * lv B (l.drop m)
  | 0, l, _ => by rw [List.take_zero, List.drop_zero, Int.pow_zero, Int.one_mul]; show lv B l = 0 + lv B l; omega
  | m + 1, [], h => absurd h (by rw [List.length_nil]; omega)
  | m + 1, d :: r, h => by
    rw [List.take_succ_cons, List.drop_succ_cons]
    show d + B * lv B r = (d + B * lv B (r.take m)) + B ^ (m + 1) * lv B (r.drop m)
    rw [lv_split m r (by rw [List.length_cons] at h; omega), Int.mul_add, Int.pow_succ, Int.mul_comm (B ^ m) B, Int.mul_assoc]
    omega
end VL

set_option Elab.async false
set_option linter.all false
/-! sizes; rows of so many digits; differences -/
namespace VL
open PySem L2
theorem intBits_abs (n : Int) : Builtin.Int.intBits n = bl n.natAbs := by
  rw [← intBits_nat]
  unfold Builtin.Int.intBits
  rw [Int.natAbs_natCast]
  by_cases h : n = 0
  · subst h; rfl
  · rw [if_neg (by simpa using h), if_neg (by simpa using h)]
theorem bl_lt (a : Nat) : a < 2 ^ bl a := by
  unfold bl
  by_cases h : a = 0
  · subst h; decide
  · rw [if_neg h]; exact Nat.lt_log2_self
theorem bl_le {a k : Nat} : bl a ≤ k ↔ a < 2 ^ k := by
  constructor
  · intro h
    exact Nat.lt_of_lt_of_le (bl_lt a) (Nat.pow_le_pow_right (by decide) h)
  · intro h
    unfold bl
    by_cases e : a = 0
    · rw [if_pos e]; exact Nat.zero_le _
    · rw [if_neg e]
      have := (Nat.log2_lt e).mpr h
      omega
/-- how many digits -/
def sz (W a : Nat) : Nat := (bl a + W - 1) / W
theorem sz_le {W : Nat} (hw : W ≠ 0) {a k : Nat} : sz W a ≤ k ↔ a < 2 ^ (W * k) := by
  rw [← bl_le]
  unfold sz
  constructor
  · intro h
    have h1 := Nat.div_add_mod (bl a + W - 1) W
    have h2 := Nat.mod_lt (bl a + W - 1) (Nat.pos_of_ne_zero hw)
    have h3 : W * ((bl a + W - 1) / W) ≤ W * k := Nat.mul_le_mul_left W h
    omega
  · intro h
    have : bl a + W - 1 < W * (k + 1) := by rw [Nat.mul_succ]; omega
    have := (Nat.div_lt_iff_lt_mul (Nat.pos_of_ne_zero hw)).mpr (by rw [Nat.mul_comm]; exact this : bl a + W - 1 < (k + 1) * W)
    omega
theorem eq_of_le {x y : Nat} (h : ∀ k, x ≤ k ↔ y ≤ k) : x = y := by
  have h1 := (h y).mpr (Nat.le_refl _)
  have h2 := (h x).mp (Nat.le_refl _)
  omega
theorem dg_size {W : Nat} (hw : W ≠ 0) (a : Nat) : (dg W a).length = sz W a := eq_of_le fun k => by
  rw [sz_le hw]
  exact ⟨fun h => Nat.lt_of_lt_of_le (dg_bound hw a) (Nat.pow_le_pow_right (by decide) (Nat.mul_le_mul_left W h)), fun h => dg_len hw a k h⟩
theorem sz_zero {W : Nat} (hw : W ≠ 0) {a : Nat} : sz W a = 0 ↔ a = 0 := by
  have h := sz_le hw (a := a) (k := 0)
  rw [Nat.mul_zero, Nat.pow_zero] at h
  omega
theorem sz_one {W : Nat} (hw : W ≠ 0) {a : Nat} : sz W a ≤ 1 ↔ bl a ≤ W := by
  rw [sz_le hw, Nat.mul_one, ← bl_le]
/-! rows of so many digits -/
def rw_ (W : Nat) (n : Int) : Nat → List Int
  | 0 => []
  | k + 1 => (n % 2 ^ W) :: rw_ W (n / 2 ^ W) k
theorem pp (W k : Nat) : (2 : Int) ^ (W * k) = ((2 ^ (W * k) : Nat) : Int) := by rw [Int.natCast_pow]; rfl
theorem p2 (k : Nat) : (2 : Int) ^ k = ((2 ^ k : Nat) : Int) := by rw [Int.natCast_pow]; rfl
theorem ppos (k : Nat) : (0 : Int) < 2 ^ k := Int.pow_pos (by decide)
theorem rw_len (W : Nat) : ∀ (k : Nat) (n : Int), (rw_ W n k).length = k
  | 0, _ => rfl
  | k + 1, n => by show (rw_ W (n / 2 ^ W) k).length + 1 = _; rw [rw_len W k]
theorem ediv_pow (n : Int) (a b : Nat) : n / 2 ^ a / 2 ^ b = n / 2 ^ (a + b) := by
  rw [Int.pow_add, Int.ediv_ediv_of_nonneg (Int.le_of_lt (ppos a))]
theorem rw_app (W : Nat) : ∀ (k : Nat) (n : Int) (m : Nat), rw_ W n (k + m) = rw_ W n k ++ rw_ W (n / 2 ^ (k * W)) m
  | 0, n, m => by rw [Nat.zero_mul, Int.pow_zero, Int.ediv_one, Nat.zero_add]; rfl
  | k + 1, n, m => by
    rw [show k + 1 + m = (k + m) + 1 from by omega]
    show (n % 2 ^ W) :: rw_ W (n / 2 ^ W) (k + m) = _
    rw [rw_app W k, ediv_pow, show W + k * W = (k + 1) * W from by rw [Nat.succ_mul]; omega]
    rfl
theorem mod_div_pow (n : Int) (a b : Nat) : n % 2 ^ (a + b) / 2 ^ a = n / 2 ^ a % 2 ^ b := by
  have ha := ppos a
  have hb := ppos b
  have e : n % 2 ^ (a + b) = n - 2 ^ (a + b) * (n / 2 ^ (a + b)) := Int.emod_def ..
  rw [e, ← ediv_pow, Int.pow_add, Int.mul_assoc, Int.sub_eq_add_neg, ← Int.mul_neg, Int.add_mul_ediv_left _ _ (by omega), Int.emod_def]
  omega
theorem mod_mod_pow (n : Int) (a b : Nat) : n % 2 ^ (a + b) % 2 ^ a = n % 2 ^ a := by
  rw [Int.pow_add]
  exact Int.emod_emod_of_dvd n (Int.dvd_mul_right _ _)
theorem rw_mod (W : Nat) : ∀ (k : Nat) (n : Int), rw_ W (n % 2 ^ (k * W)) k = rw_ W n k
  | 0, _ => rfl
  | k + 1, n => by
    show ((n % 2 ^ ((k + 1) * W)) % 2 ^ W) :: rw_ W (n % 2 ^ ((k + 1) * W) / 2 ^ W) k = (n % 2 ^ W) :: rw_ W (n / 2 ^ W) k
    rw [show (k + 1) * W = W + k * W from by rw [Nat.succ_mul]; omega, mod_mod_pow, mod_div_pow, rw_mod W k]
theorem rw_lv (W : Nat) : ∀ (k : Nat) (n : Int), lv (2 ^ W) (rw_ W n k) = n % 2 ^ (k * W)
  | 0, n => by rw [Nat.zero_mul, Int.pow_zero, Int.emod_one]; rfl
  | k + 1, n => by
    show n % 2 ^ W + 2 ^ W * lv (2 ^ W) (rw_ W (n / 2 ^ W) k) = _
    rw [rw_lv W k, show (k + 1) * W = W + k * W from by rw [Nat.succ_mul]; omega]
    have h1 := mod_div_pow n W (k * W)
    have h2 := mod_mod_pow n W (k * W)
    have h3 := Int.mul_ediv_add_emod (n % 2 ^ (W + k * W)) (2 ^ W)
    rw [h1, h2] at h3
    omega
theorem rw_dg {W : Nat} (hw : W ≠ 0) (a : Nat) : rw_ W (a : Int) (sz W a) = dg W a := by
  rw [← dg_size hw]
  revert a
  refine dg_ind hw (by rw [dg_zero]; rfl) fun a h ih => ?_
  rw [dg_pos hw h]
  show ((a : Int) % 2 ^ W) :: rw_ W ((a : Int) / 2 ^ W) (dg W (a / 2 ^ W)).length = _
  rw [p2, ← Int.natCast_emod, ← Int.natCast_ediv, ih]
theorem rw_mem {W : Nat} : ∀ {k : Nat} {n : Int}, ∀ x ∈ rw_ W n k, 0 ≤ x ∧ x < 2 ^ W
  | 0, _, x, h => by cases h
  | k + 1, n, x, h => by
    rcases List.mem_cons.mp (show x ∈ (n % 2 ^ W) :: rw_ W (n / 2 ^ W) k from h) with e | e
    · subst e; exact ⟨Int.emod_nonneg _ (by have := ppos W; omega), Int.emod_lt_of_pos _ (ppos W)⟩
    · exact rw_mem x e
theorem nat_of {n : Int} {k : Nat} (h0 : 0 ≤ n) (h : n < 2 ^ k) : n.natAbs < 2 ^ k := by
  rw [p2] at h
  omega
theorem int_of {n : Int} {k : Nat} (h : n.natAbs < 2 ^ k) : -(2 ^ k) < n ∧ n < 2 ^ k := by
  rw [p2]
  omega
theorem shl_ok {n i : Int} {k : Nat} (h : n.natAbs < 2 ^ k) (h0 : 0 ≤ i) (h2 : (k : Int) + i ≤ 2 ^ 27) : CShl n i := ⟨h0, by
  rw [intBits_abs]
  have := bl_le.mpr h
  omega⟩
theorem mul_small {a b : Int} (h : a.natAbs < 2 ^ 64) : IntMulOk a b := by
  have h := int_of h
  exact .of_left (PySem.intBits_le_64 h.1 h.2)
theorem mul_small' {a b : Int} (h : b.natAbs < 2 ^ 64) : IntMulOk a b := by
  have h := int_of h
  exact .of_right (PySem.intBits_le_64 h.1 h.2)
end VL
/-! ### a value that is there, and of which something holds -/
namespace VL
open PySem L2
def Sat {α : Type} (o : Option α) (P : α → Prop) : Prop := ∃ r, o = some r ∧ P r
section
variable {α β S ρ : Type} {o : Option α} {P : α → Prop} {Q : β → Prop} {f : α → Option β} {a : α}
theorem sat_bind (h : Sat o P) (k : ∀ r, P r → Sat (f r) Q) : Sat (o.bind f) Q := by
  obtain ⟨r, e, p⟩ := h
  rw [e]
  exact k r p
theorem sat_eq (h : o = some a) (k : Sat (f a) Q) : Sat (o.bind f) Q := by rw [h]; exact k
theorem sat_let (k : Sat (f a) Q) : Sat ((some a).bind f) Q := k
theorem sat_chk {p : Prop} {f : Unit → Option β} (h : p) (k : Sat (f ()) Q) : Sat ((chkP p).bind f) Q := by rw [chkP_eq h]; exact k
theorem sat_some {a : β} (h : Q a) : Sat (some a) Q := ⟨a, rfl, h⟩
theorem sat_imp {P' : α → Prop} (h : Sat o P) (k : ∀ r, P r → P' r) : Sat o P' := by
  obtain ⟨r, e, p⟩ := h
  exact ⟨r, e, k r p⟩
theorem sat_get (h : Sat o (fun r => r = a)) : o = some a := by
  obtain ⟨r, e, p⟩ := h
  rw [e, p]
variable {γ : Type}
theorem sat_for {b : γ → S → Option (Stp S ρ)} {xs : List γ} {s0 : S} {g : Stp S ρ → Option β} (I : Nat → S → Prop)
    (h : ∀ i x s, xs[i]? = some x → I i s → Sat (b x s) (fun st => ∃ s', st = .nx s' ∧ I (i + 1) s')) (h0 : I 0 s0) (k : ∀ s, I xs.length s → Sat (g (.nx s)) Q) : Sat ((forM' b xs s0).bind g) Q := by
  obtain ⟨s', e, i⟩ := forM_ind (b := b) I xs 0 s0 (fun i x s hx hi => by
    rw [Nat.zero_add] at hi
    obtain ⟨st, e, s', e2, q⟩ := h i x s hx hi
    exact ⟨s', by rw [e, e2], by rw [Nat.zero_add]; exact q⟩) h0
  rw [e]
  rw [Nat.zero_add] at i
  exact k s' i
theorem sat_forA {b : γ → S → Option (Stp S ρ)} {xs : List γ} {s0 : S} {g : Stp S ρ → Option β} (I : S → Prop)
    (h : ∀ x ∈ xs, ∀ s, I s → Sat (b x s) (fun st => ∃ s', st = .nx s' ∧ I s')) (h0 : I s0) (k : ∀ s, I s → Sat (g (.nx s)) Q) : Sat ((forM' b xs s0).bind g) Q :=
  sat_for (fun _ => I) (fun i x s hx hi => h x (List.mem_of_getElem? hx) s hi) h0 fun s hi => k s hi
theorem sat_nx {s : S} {g : S → Option β} (k : Sat (g s) Q) : Sat ((nxt (Stp.nx (ρ := ρ) s)).bind g) Q := k
theorem sat_end {s : S} {I : S → Prop} (h : I s) : Sat (some (Stp.nx (ρ := ρ) s)) (fun st => ∃ s', st = .nx s' ∧ I s') := ⟨_, rfl, s, rfl, h⟩
end
theorem rng_len (lo : Int) (n : Nat) : (rng lo n).length = n := by unfold rng; rw [List.length_map, List.length_range]
theorem rng_get {lo : Int} {n i : Nat} {x : Int} (h : (rng lo n)[i]? = some x) : i < n ∧ x = lo + (i : Int) := by
  have lt := getlt h
  rw [rng_len] at lt
  unfold rng at h
  rw [List.getElem?_map, List.getElem?_range lt] at h
  exact ⟨lt, (Option.some.inj h).symm⟩
theorem cdiv_s {i j : Int} (h : 0 < j) (h2 : j < 2 ^ 64) : CDivW i j := ⟨h, by
  have : j.natAbs < 2 ^ 64 := by omega
  have h0 : j.natAbs ≠ 0 := by omega
  have := (Nat.log2_lt h0 (k := 64)).mpr this
  omega⟩
theorem size_lt {n m : Nat} (h : n ≤ m) (hm : m < 16777216) : n < sizeLine := Nat.lt_of_le_of_lt h (by show m < 2 ^ 24; exact hm)
theorem size_le {n m : Nat} (h : n ≤ m) (hm : m ≤ 16777216) : n ≤ sizeLine := Nat.le_trans h (by show m ≤ 2 ^ 24; exact hm)
/-! ### what a machine has counted -/
theorem nd_le {α : Type} [DecidableEq α] : ∀ {l m : List α}, l.Nodup → (∀ x ∈ l, x ∈ m) → l.length ≤ m.length
  | [], _, _, _ => Nat.zero_le _
  | x :: r, m, h, s => by
    obtain ⟨h1, h2⟩ := List.nodup_cons.mp h
    have hx := s x List.mem_cons_self
    have := nd_le (l := r) (m := m.erase x) h2 fun y hy => (List.mem_erase_of_ne (fun e => h1 (by rw [← e]; exact hy))).mpr (s y (List.mem_cons_of_mem _ hy))
    rw [List.length_erase_of_mem hx] at this
    have := List.length_pos_of_mem hx
    rw [List.length_cons]
    omega
/-- the words with numbers above 0 -/
def posL (l : List (Str × Int)) : List (Str × Int) := l.filter fun p => decide (0 < p.2)
theorem lookup_of {l : List (Str × Int)} (hd : (l.map (·.1)).Nodup) {x : Str × Int} (h : x ∈ l) : l.lookup x.1 = some x.2 := by
  induction l with
  | nil => cases h
  | cons a r ih =>
    rw [List.map_cons] at hd
    obtain ⟨h1, h2⟩ := List.nodup_cons.mp hd
    rw [show (a :: r) = ((a.1, a.2) :: r) from rfl, List.lookup_cons]
    rcases List.mem_cons.mp h with e | e
    · subst e; rw [beq_self_eq_true]
    · have ne : (x.1 == a.1) = false := by
        cases q : x.1 == a.1 with
        | false => rfl
        | true => exact absurd (List.mem_map.mpr ⟨x, e, by rw [beq_iff_eq.mp q]⟩) h1
      rw [ne]
      exact ih h2 e
theorem mem_lookup {l : List (Str × Int)} {k : Str} {v : Int} (h : l.lookup k = some v) : (k, v) ∈ l := by
  induction l with
  | nil => cases h
  | cons a r ih =>
    rw [show (a :: r) = ((a.1, a.2) :: r) from rfl, List.lookup_cons] at h
    cases q : k == a.1 with
    | true =>
      rw [q] at h
      have h := Option.some.inj h
      rw [beq_iff_eq.mp q, ← h]
      exact List.mem_cons_self
    | false => rw [q] at h; exact List.mem_cons_of_mem _ (ih h)
theorem same_of {l m : List (Str × Int)} (h1 : (l.map (·.1)).Nodup) (h2 : (m.map (·.1)).Nodup) (h : ∀ x, x ∈ l ↔ x ∈ m) : sameD l m := by
  have nd : ∀ {l : List (Str × Int)}, (l.map (·.1)).Nodup → l.Nodup := fun {l} h => by
    induction l with
    | nil => exact List.nodup_nil
    | cons a r ih =>
      rw [List.map_cons] at h
      obtain ⟨q1, q2⟩ := List.nodup_cons.mp h
      exact List.nodup_cons.mpr ⟨fun z => q1 (List.mem_map.mpr ⟨a, z, rfl⟩), ih q2⟩
  refine ⟨Nat.le_antisymm (nd_le (nd h1) fun x hx => (h x).mp hx) (nd_le (nd h2) fun x hx => (h x).mpr hx), fun x hx => lookup_of h2 ((h x).mp hx)⟩
theorem posL_nd {l : List (Str × Int)} (h : (l.map (·.1)).Nodup) : ((posL l).map (·.1)).Nodup := (List.filter_sublist.map _).nodup h
theorem tally_keys (S : MS) : (S.tally.map (·.1)).Nodup := by
  have : S.tally.map (·.1) = mwords := by
    unfold MS.tally
    rw [List.map_map]
    exact List.map_id _
  rw [this]
  exact mwords_nd
theorem mem_tally {S : MS} {x : Str × Int} : x ∈ S.tally ↔ x.1 ∈ mwords ∧ x.2 = S.cnt x.1 := by
  unfold MS.tally
  constructor
  · intro h
    obtain ⟨w, hw, rfl⟩ := List.mem_map.mp h
    exact ⟨hw, rfl⟩
  · rintro ⟨h1, h2⟩
    exact List.mem_map.mpr ⟨x.1, h1, by rw [← h2]⟩
/-- the same above 0 -/
def Cnt (S : MS) (l : List (Str × Int)) : Prop := (l.map (·.1)).Nodup ∧ (∀ x ∈ l, x.1 ∈ mwords) ∧ ∀ w ∈ mwords, (∀ n, l.lookup w = some n → 0 < n → S.cnt w = n) ∧ (0 < S.cnt w → l.lookup w = some (S.cnt w))
theorem cnt_same {S : MS} {l : List (Str × Int)} (h : Cnt S l) : sameD (posL S.tally) (posL l) := same_of (posL_nd (tally_keys S)) (posL_nd h.1) fun x => by
  unfold posL
  rw [List.mem_filter, List.mem_filter, mem_tally, decide_eq_true_iff]
  constructor
  · rintro ⟨⟨h1, h2⟩, h3⟩
    have := (h.2.2 x.1 h1).2 (h2 ▸ h3)
    refine ⟨?_, h3⟩
    have m := mem_lookup this
    rw [← h2] at m
    exact m
  · rintro ⟨h1, h3⟩
    have hw := h.2.1 x h1
    exact ⟨⟨hw, ((h.2.2 x.1 hw).1 x.2 (lookup_of h.1 h1) h3).symm⟩, h3⟩
theorem lcM_filter {γ : Type} {b : γ → Unit → Option (Option γ × Unit)} {p : γ → Bool} : ∀ {l : List γ}, (∀ x ∈ l, b x () = some (if p x = true then some x else none, ())) → lcM b l () = some (l.filter p, ())
  | [], _ => rfl
  | x :: r, h => by
    show (b x ()).bind _ = _
    rw [h x List.mem_cons_self, List.filter_cons]
    show (lcM b r ()).bind _ = _
    rw [lcM_filter fun y hy => h y (List.mem_cons_of_mem _ hy)]
    cases p x <;> rfl
end VL
namespace VL
open PySem L2
theorem bxor_nat (a b : Nat) : Builtin.bitXor (a : Int) (b : Int) = ((a ^^^ b : Nat) : Int) := by
  rw [Bits.bitXor_pp (Int.natCast_nonneg a) (Int.natCast_nonneg b), Int.toNat_natCast, Int.toNat_natCast]
end VL
namespace VL
open PySem L2
theorem cnt_nil (w c : Int) (wk : List (T3 Str Int Int)) : Cnt ⟨w, c, fun _ => 0, wk⟩ [] := ⟨List.nodup_nil, fun x h => (by cases h), fun w _ => ⟨fun n h _ => (by cases h), fun h => absurd h (by show ¬ (0 : Int) < 0; omega)⟩⟩
theorem cnt_fresh (w c : Int) : Cnt (MS.fresh w c) [] := cnt_nil w c []
theorem lookup_app {l m : List (Str × Int)} {k : Str} : (l ++ m).lookup k = (l.lookup k).or (m.lookup k) := by
  induction l with
  | nil => show m.lookup k = (none : Option Int).or (m.lookup k); cases m.lookup k <;> rfl
  | cons a r ih =>
    rw [show (a :: r) ++ m = (a.1, a.2) :: (r ++ m) from rfl, show (a :: r) = (a.1, a.2) :: r from rfl, List.lookup_cons, List.lookup_cons, ih]
    cases k == a.1 <;> rfl
theorem lookup_out {l : List (Str × Int)} {k : Str} (h : k ∉ l.map (·.1)) : l.lookup k = none := by
  cases q : l.lookup k with
  | none => rfl
  | some v => exact absurd (List.mem_map.mpr ⟨_, mem_lookup q, rfl⟩) h
theorem lookup_self {k : Str} {n : Int} {r : List (Str × Int)} : ((k, n) :: r).lookup k = some n := by rw [List.lookup_cons, beq_self_eq_true]
theorem lookup_skip {k j : Str} {n : Int} {r : List (Str × Int)} (h : j ≠ k) : ((k, n) :: r).lookup j = r.lookup j := by
  rw [List.lookup_cons]
  have : (j == k) = false := by
    cases q : j == k with
    | false => rfl
    | true => exact absurd (beq_iff_eq.mp q) h
  rw [this]
theorem cnt_add {S : MS} {l : List (Str × Int)} {w : Str} {n : Int} (h : Cnt S l) (hw : w ∈ mwords) (h0 : S.cnt w = 0) (hn : w ∉ l.map (·.1)) : Cnt (S.step w n) (l ++ [(w, n)]) := by
  refine ⟨?_, fun x hx => ?_, fun v hv => ?_⟩
  · rw [List.map_append, List.nodup_append]
    refine ⟨h.1, by simp, fun a ha b hb => ?_⟩
    have hb : b = w := by simpa using hb
    subst hb
    exact fun e => hn (e ▸ ha)
  · rcases List.mem_append.mp hx with z | z
    · exact h.2.1 x z
    · rw [List.mem_singleton.mp z]; exact hw
  · have e : (S.step w n).cnt v = if v = w then S.cnt v + n else S.cnt v := rfl
    rw [e, lookup_app]
    by_cases q : v = w
    · subst q
      rw [if_pos rfl, lookup_out hn, h0, Int.zero_add]
      show (∀ m, ([(v, n)] : List (Str × Int)).lookup v = some m → 0 < m → n = m) ∧ (0 < n → ([(v, n)] : List (Str × Int)).lookup v = some n)
      rw [lookup_self]
      exact ⟨fun m e _ => Option.some.inj e, fun _ => rfl⟩
    · rw [if_neg q]
      have : ([(w, n)] : List (Str × Int)).lookup v = none := by rw [lookup_skip q]; rfl
      rw [this, Option.or_none]
      exact h.2.2 v hv
theorem cnt_enter {S : MS} {l : List (Str × Int)} {w : Str} {m n : Int} (h : Cnt S l) : Cnt (S.enter w m n) l := h
/-- the same counts, told otherwise -/
theorem cnt_same_as {S S' : MS} {l m : List (Str × Int)} (h : Cnt S l) (hc : S'.cnt = S.cnt) (nd : (m.map (·.1)).Nodup) (sub : ∀ x ∈ m, x.1 ∈ mwords) (e : ∀ w ∈ mwords, (∀ n, m.lookup w = some n → 0 < n → l.lookup w = some n) ∧ (∀ n, l.lookup w = some n → 0 < n → m.lookup w = some n)) : Cnt S' m :=
  ⟨nd, sub, fun w hw => ⟨fun n hn h0 => by rw [hc]; exact (h.2.2 w hw).1 n ((e w hw).1 n hn h0) h0, fun h0 => by rw [hc] at h0 ⊢; exact (e w hw).2 _ ((h.2.2 w hw).2 h0) h0⟩⟩
end VL
namespace VL
open PySem L2
def WkOk (l : List (T3 Str Int Int)) : Prop := ∀ x ∈ l, (PyData.str x.a).canLay0 = true
theorem wkok_dat {l : List (T3 Str Int Int)} (h : WkOk l) : Dat.ok (LF.mk l) := fun x hx => ⟨h x hx, trivial, trivial⟩
theorem wkok_nil : WkOk [] := fun x h => (by cases h)
theorem wkok_enter {S : MS} {w : Str} {m n : Int} (h : WkOk S.wk) (hw : (PyData.str w).canLay0 = true := by decide +kernel) : WkOk (S.enter w m n).wk := by
  unfold MS.enter
  show WkOk (if S.wk.length < 1000 then S.wk ++ [T3.mk w m n] else S.wk)
  split
  · intro x hx
    rcases List.mem_append.mp hx with z | z
    · exact h x z
    · rw [List.mem_singleton.mp z]; exact hw
  · exact h
theorem wkok_one {w : Str} {m n : Int} (hw : (PyData.str w).canLay0 = true := by decide +kernel) : WkOk [T3.mk w m n] := fun x hx => by rw [List.mem_singleton.mp hx]; exact hw
end VL
namespace VL
open PySem L2
theorem nab_mul {a b : Int} {j k : Nat} (ha : a.natAbs < 2 ^ j) (hb : b.natAbs < 2 ^ k) : (a * b).natAbs < 2 ^ (j + k) := by
  rw [Int.natAbs_mul, Nat.pow_add]
  exact Nat.mul_lt_mul'' ha hb
theorem nab_mono {a : Int} {j k : Nat} (ha : a.natAbs < 2 ^ j) (h : j ≤ k) : a.natAbs < 2 ^ k := Nat.lt_of_lt_of_le ha (Nat.pow_le_pow_right (by decide) h)
theorem nab_small {a : Int} {k : Nat} (h : a.natAbs ≤ 2 ^ 31) (hk : 32 ≤ k) : a.natAbs < 2 ^ k := Nat.lt_of_le_of_lt h (Nat.pow_lt_pow_right (by decide) (by omega))
end VL

set_option Elab.async false
set_option linter.all false
/-! bits of any integers -/
namespace VL
open PySem L2 PyProof.Rows
abbrev band := Builtin.bitAnd
theorem half (x y : Int) : band x y = 2 * band (x / 2) (y / 2) + (if x % 2 = 1 ∧ y % 2 = 1 then 1 else 0) := PySem.W.kbt_halves x y
theorem hl_div (h l : Int) (k : Nat) (h0 : 0 ≤ l) (h1 : l < 2 ^ (k + 1)) : (h * 2 ^ (k + 1) + l) / 2 = h * 2 ^ k + l / 2 ∧ (h * 2 ^ (k + 1) + l) % 2 = l % 2 ∧ 0 ≤ l / 2 ∧ l / 2 < 2 ^ k := by
  rw [Int.pow_succ] at h1 ⊢
  have e : h * (2 ^ k * 2) = 2 * (h * 2 ^ k) := by rw [← Int.mul_assoc, Int.mul_comm (h * 2 ^ k) 2]
  rw [e]
  omega
/-- both parts join by themselves -/
theorem band_split : ∀ (k : Nat) (h g l m : Int), 0 ≤ l → l < 2 ^ k → 0 ≤ m → m < 2 ^ k → band (h * 2 ^ k + l) (g * 2 ^ k + m) = band h g * 2 ^ k + band l m
  | 0, h, g, l, m, l0, l1, m0, m1 => by
    rw [Int.pow_zero] at l1 m1 ⊢
    have e1 : l = 0 := by omega
    have e2 : m = 0 := by omega
    subst e1 e2
    rw [show band 0 0 = 0 from rfl, Int.mul_one, Int.mul_one, Int.mul_one, Int.add_zero, Int.add_zero, Int.add_zero]
  | k + 1, h, g, l, m, l0, l1, m0, m1 => by
    obtain ⟨a1, a2, a3, a4⟩ := hl_div h l k l0 l1
    obtain ⟨b1, b2, b3, b4⟩ := hl_div g m k m0 m1
    rw [half (h * 2 ^ (k + 1) + l), a1, a2, b1, b2, band_split k h g _ _ a3 a4 b3 b4, half l m, Int.pow_succ, ← Int.mul_assoc, Int.mul_add, Int.mul_comm (band h g * 2 ^ k) 2]
    omega
theorem band_parts (x y : Int) (k : Nat) : band x y = band (x / 2 ^ k) (y / 2 ^ k) * 2 ^ k + band (x % 2 ^ k) (y % 2 ^ k) := by
  have hp := ppos k
  have e1 : x = x / 2 ^ k * 2 ^ k + x % 2 ^ k := (Int.mul_comm _ _ ▸ (Int.mul_ediv_add_emod x (2 ^ k)).symm)
  have e2 : y = y / 2 ^ k * 2 ^ k + y % 2 ^ k := (Int.mul_comm _ _ ▸ (Int.mul_ediv_add_emod y (2 ^ k)).symm)
  have := band_split k (x / 2 ^ k) (y / 2 ^ k) (x % 2 ^ k) (y % 2 ^ k) (Int.emod_nonneg _ (by omega)) (Int.emod_lt_of_pos _ hp) (Int.emod_nonneg _ (by omega)) (Int.emod_lt_of_pos _ hp)
  rwa [← e1, ← e2] at this
theorem band0 (x : Int) : band x 0 = 0 := bitAnd_zero x
theorem band0' (x : Int) : band 0 x = 0 := (bitAnd_comm 0 x).trans (bitAnd_zero x)
theorem band_nn {l m : Int} {k : Nat} (h0 : 0 ≤ l) (m0 : 0 ≤ m) (m1 : m < 2 ^ k) : 0 ≤ band l m ∧ band l m < 2 ^ k := by
  have := bitAnd_range l m0
  exact ⟨this.1, Int.lt_of_le_of_lt this.2 m1⟩
theorem rng_div {x : Int} {k : Nat} : (-(2 ^ k) ≤ x ∧ x < 2 ^ k) ↔ (x / 2 ^ k = 0 ∨ x / 2 ^ k = -1) := by
  have hp := ppos k
  have e := Int.mul_ediv_add_emod x (2 ^ k)
  have m0 := Int.emod_nonneg x (b := 2 ^ k) (by omega)
  have m1 := Int.emod_lt_of_pos x hp
  constructor
  · rintro ⟨h1, h2⟩
    have a : -1 ≤ x / 2 ^ k := by rw [Int.le_ediv_iff_mul_le hp]; omega
    have b : x / 2 ^ k < 1 := Int.ediv_lt_of_lt_mul hp (by omega)
    omega
  · rintro (h | h)
    · rw [h, Int.mul_zero] at e; omega
    · rw [h] at e; omega
theorem band_rng {x y : Int} {k : Nat} (hx : -(2 ^ k) ≤ x ∧ x < 2 ^ k) (hy : -(2 ^ k) ≤ y ∧ y < 2 ^ k) : -(2 ^ k) ≤ band x y ∧ band x y < 2 ^ k := by
  have hp := ppos k
  have e := band_parts x y k
  have n := band_nn (k := k) (Int.emod_nonneg x (b := 2 ^ k) (by omega)) (Int.emod_nonneg y (b := 2 ^ k) (by omega)) (Int.emod_lt_of_pos y hp)
  rcases rng_div.mp hx with h1 | h1 <;> rcases rng_div.mp hy with h2 | h2 <;> rw [h1, h2] at e
  · rw [show band 0 0 = 0 from rfl] at e; omega
  · rw [show band 0 (-1) = 0 from rfl] at e; omega
  · rw [show band (-1) 0 = 0 from rfl] at e; omega
  · rw [show band (-1) (-1) = -1 from rfl] at e; omega
theorem bor_eq (x y : Int) : Builtin.bitOr x y = x + y - band x y := bitOr_and x y
theorem bnot_eq (x : Int) : Builtin.bitNot x = -x - 1 := rfl
theorem bnot_rng {x : Int} {k : Nat} (hx : -(2 ^ k) ≤ x ∧ x < 2 ^ k) : -(2 ^ k) ≤ Builtin.bitNot x ∧ Builtin.bitNot x < 2 ^ k := by rw [bnot_eq]; omega
theorem bor_rng {x y : Int} {k : Nat} (hx : -(2 ^ k) ≤ x ∧ x < 2 ^ k) (hy : -(2 ^ k) ≤ y ∧ y < 2 ^ k) : -(2 ^ k) ≤ Builtin.bitOr x y ∧ Builtin.bitOr x y < 2 ^ k := bnot_rng (band_rng (bnot_rng hx) (bnot_rng hy))
/-! one bit -/
def bit (x : Int) (i : Nat) : Int := x / 2 ^ i % 2
theorem bit_or (x : Int) (i : Nat) : bit x i = 0 ∨ bit x i = 1 := by unfold bit; omega
/-- low and high part of a number -/
theorem band_low (x : Int) (k : Nat) : band x (2 ^ k - 1) = x % 2 ^ k := PySem.W.kbt_mask x k
theorem band_lh {l h : Int} {k : Nat} (h0 : 0 ≤ l) (h1 : l < 2 ^ k) : band l (h * 2 ^ k) = 0 := by
  have hp := ppos k
  have := band_split k 0 h l 0 h0 h1 (Int.le_refl _) hp
  rw [Int.zero_mul, Int.zero_add, Int.add_zero] at this
  rw [this, band0, band0', Int.zero_mul]
  rfl
end VL

set_option Elab.async false
set_option linter.all false
set_option maxRecDepth 100000
/-! VD: long division digit by digit, by numbers: the guess, how often it is corrected, what each place finds. -/
namespace VL
open PySem L2
section
variable {B E b r : Nat}
variable {h v1 v2 : Nat}
end
/-! ### the steps, by the two numbers that are divided: b has all its digits, E stands behind its last two -/
/-- what is divided at place i: the rest so far and the next digit -/
def dvR (B A b i : Nat) : Nat := A / B ^ (i + 1) % b * B + A / B ^ i % B
def dvS (B E A b i : Nat) : T4 Int Int Bool Int :=
  ⟨((dvR B A b i / E / B / (b / E / B) : Nat) : Int), ((dvR B A b i / E / B / (b / E / B) : Nat) : Int) - ((dvR B A b i / E / (b / E) : Nat) : Int), decide (dvR B A b i / b < dvR B A b i / E / (b / E)), ((dvR B A b i / b : Nat) : Int)⟩
/-- the steps of k places, from the top -/
def dvSteps (B E A b : Nat) : Nat → List (T4 Int Int Bool Int)
  | 0 => []
  | k + 1 => dvS B E A b k :: dvSteps B E A b k
end VL

set_option Elab.async false
set_option linter.all false
set_option maxRecDepth 100000
set_option maxHeartbeats 4000000
namespace P
open PySem L2 VL
section
variable {P : Program} {w : World} {mg : Str → Option Value} {base : Heap} {T : TC}

abbrev qual__law_sums_right : Str := (("_law_sums_right" : Str) ++ ".<locals>.") ++ "<lambda>"
def tbs (T : TC) : List (Addr × Str) := [(T.C 100, qual__law_sums_right)]
theorem mem__law_sums_right (T : TC) : (T.C 100, qual__law_sums_right) ∈ tbs T := by simp [tbs]
noncomputable def M_is_integer (x0 : Int) : Option Bool :=
  some (true && (!false))
def Pre_is_integer (T : TC) : PreT := fun As Ω R => ∃ (x0 : Int) (r : Bool), As = [va T x0] ∧ M_is_integer x0 = some r ∧ R = RV (va T r) (stt Ω [] [])
theorem sc_is_integer : FnScope ["value"] ["value"] (defScope s_is_integer) := ⟨rfl, rfl, rfl, by decide +kernel, rfl, by decide +kernel, by decide +kernel⟩
theorem ok_is_integer {f : Addr} {fd : FuncData} (F : Fun T.K "is_integer" "is_integer" s_is_integer f fd) (z_isinstance : mg "isinstance" = none) (z_int : mg "int" = none) (z_bool : mg "bool" = none) : FnOk P w T.K mg base CX0 1 f fd ["value"] (mkSp (Pre_is_integer T)) := by
  refine fn_ok F sc_is_integer (fun As Ω R h => ?_) (fun cdv A outer s H E hr As Ω R F0 h => ?_)
  · obtain ⟨x0, r, rfl, _⟩ := h
    rfl
  obtain ⟨x0, r, rfl, hm, rfl⟩ := h
  refine ⟨_, (pss_one (ps_ret (pe_and (pe_callB (cr_isiK (K := T.K) rfl) (by rfl) z_isinstance (by decide +kernel) (pa_cons (pv 0) (pa_cons (pe_bltn (v := .ty "int") (by rfl) z_int (by decide +kernel) rfl) pa_nil))) (pe_one (pe_not (pe_callB (cr_isiK (K := T.K) rfl) (by rfl) z_isinstance (by decide +kernel) (pa_cons (pv 0) (pa_cons (pe_bltn (v := .ty "bool") (by rfl) z_bool (by decide +kernel) rfl) pa_nil)))))))), fun D hrt hnx => ?_⟩
  have ok : Okk Ω [] := okk0
  suffices hx : XS _ D F0 [some (va T x0)] (stt Ω [] []) by
    rw [show (stt Ω [] []) = Ω from stt_self (by simp)] at hx
    exact hx
  unfold M_is_integer at hm
  obtain rfl := Option.some.inj hm
  refine xs_ret (xe_andV (xe_isi (xe_var (i := 0) rfl) xe_vx (.ty _) (fun F H v hh a => ty_int hh a) (kit_ty (by decide +kernel))) (fun _ => (xe_notV (xe_isi (xe_var (i := 0) rfl) xe_vx (.ty _) (fun F H v hh a => ty_int hh a) (kit_ty (by decide +kernel)))))) hrt.all
noncomputable def M_is_between (x0 : Int) (x1 : Int) (x2 : Int) : Option Bool :=
  (M_is_integer x0).bind fun z1 => some (z1 && (decide (x1 ≤ x0) && decide (x0 ≤ x2)))
def Pre_is_between (T : TC) : PreT := fun As Ω R => ∃ (x0 : Int) (x1 : Int) (x2 : Int) (r : Bool), As = [va T x0, va T x1, va T x2] ∧ M_is_between x0 x1 x2 = some r ∧ R = RV (va T r) (stt Ω [] [])
theorem sc_is_between : FnScope ["value", "low", "high"] ["value", "low", "high"] (defScope s_is_between) := ⟨rfl, rfl, rfl, by decide +kernel, rfl, by decide +kernel, by decide +kernel⟩
theorem ok_is_between {f : Addr} {fd : FuncData} (F : Fun T.K "is_between" "is_between" s_is_between f fd) (c_is_integer : Cal P w T.K mg base 1 "is_integer" ["value"] (mkSp (Pre_is_integer T))) : FnOk P w T.K mg base CX0 2 f fd ["value", "low", "high"] (mkSp (Pre_is_between T)) := by
  refine fn_ok F sc_is_between (fun As Ω R h => ?_) (fun cdv A outer s H E hr As Ω R F0 h => ?_)
  · obtain ⟨x0, x1, x2, r, rfl, _⟩ := h
    rfl
  obtain ⟨x0, x1, x2, r, rfl, hm, rfl⟩ := h
  refine ⟨_, (pss_one (ps_ret (pe_and (pe_cal c_is_integer (hr.mono (by decide)) (by rfl) (pa_cons (pv 0) pa_nil)) (pe_one (pe_chain op_le op_le (pv 1) (pv 0) (pv 2)))))), fun D hrt hnx => ?_⟩
  have ok : Okk Ω [] := okk0
  suffices hx : XS _ D F0 [some (va T x0), some (va T x1), some (va T x2)] (stt Ω [] []) by
    rw [show (stt Ω [] []) = Ω from stt_self (by simp)] at hx
    exact hx
  unfold M_is_between at hm
  obtain ⟨z1, hz1, hm⟩ := bnd_some hm
  obtain rfl := Option.some.inj hm
  refine xs_ret (xe_andV (xe_call (xa_cons (xe_var (i := 0) rfl) xa_nil) ⟨x0, z1, rfl, hz1, rfl⟩ cal0) (fun _ => (xe_chain (xe_var (i := 1) rfl) (xe_var (i := 0) rfl) ro_bl (fun _ => (xe_var (i := 2) rfl)) (fun _ => ro_bl)))) hrt.all
theorem sc_Mach_step : FnScope ["self", "word", "many"] ["self", "word", "many"] (defScope s_Mach_step) := ⟨rfl, rfl, rfl, by decide +kernel, rfl, by decide +kernel, by decide +kernel⟩
theorem ok_Mach_step {f : Addr} {fd : FuncData} (F : Fun T.K "step" "Machine.step" s_Mach_step f fd) (mc : MCls T.K (T.C 0))  : FnOk P w T.K mg base CX0 1 f fd ["self", "word", "many"] (mkSp (Pre_Mach_step T)) := by
  refine fn_ok F sc_Mach_step (fun As Ω R h => ?_) (fun cdv A outer s H E hr As Ω R F0 h => ?_)
  · obtain ⟨k, p, x, wd, n, rfl, _⟩ := h; rfl
  obtain ⟨k, p, x, wd, n, rfl, hk, hw, rfl⟩ := h
  refine ⟨_, pss_one (ps_daug (hu_of hr) (pe_fld (pv 0) (by rfl)) (pv 1) (pv 2) in_add (fun _ _ _ => rfl)), fun D hrt hnx => ?_⟩
  exact xs_step mc rfl rfl rfl hk hw fun σ H ⟨F, f0, e, hh⟩ => hnx F σ H _ f0 hh ⟨rfl, stt_one.symm⟩
theorem sc_Mach_enter : FnScope ["self", "word", "m", "n"] ["self", "word", "m", "n"] (defScope s_Mach_enter) := ⟨rfl, rfl, rfl, by decide +kernel, rfl, by decide +kernel, by decide +kernel⟩
theorem ok_Mach_enter {f : Addr} {fd : FuncData} (F : Fun T.K "enter" "Machine.enter" s_Mach_enter f fd) (mc : MCls T.K (T.C 0)) (z_len : mg "len" = none) (g_LONGEST_WALK : ∃ u, mg "LONGEST_WALK" = some u ∧ RelV (.int 1000) u) : FnOk P w T.K mg base CX0 1 f fd ["self", "word", "m", "n"] (mkSp (Pre_Mach_enter T)) := by
  refine fn_ok F sc_Mach_enter (fun As Ω R h => ?_) (fun cdv A outer s H E hr As Ω R F0 h => ?_)
  · obtain ⟨k, p, x, wd, m, n, rfl, _⟩ := h; rfl
  obtain ⟨k, p, x, wd, m, n, rfl, hk, rfl⟩ := h
  refine ⟨_, pss_one (ps_if (pt_cmpR op_lt (pe_callB cr_len (by rfl) z_len PySem.boot_len (pa_cons (pe_fld (pv 0) (by rfl)) pa_nil)) (pe_gl rfl g_LONGEST_WALK) (nomark _)) (pss_one (ps_expr (pe_bm PySem.F.plainAttrs_list PySem.F.slot_list_append PySem.F.type_list_append mt_append (pe_fld (pv 0) (by rfl)) (pa_cons (pe_tup (pa_cons (pv 1) (pa_cons (pv 2) (pa_cons (pv 3) pa_nil)))) pa_nil)))) pss_nil), fun D hrt hnx => ?_⟩
  exact xs_enter mc rfl rfl rfl rfl hk fun σ H ⟨F, f0, e, hh⟩ => hnx F σ H _ f0 hh ⟨rfl, stt_one.symm⟩
theorem sc_Mach_reset : FnScope ["self", "word"] ["self"] (defScope s_Mach_reset) := ⟨rfl, rfl, rfl, by decide +kernel, rfl, by decide +kernel, by decide +kernel⟩
theorem ok_Mach_reset {f : Addr} {fd : FuncData} (F : Fun T.K "reset" "Machine.reset" s_Mach_reset f fd) (mc : MCls T.K (T.C 0)) {aW : Addr} (g_WORDS : ∃ u, mg "WORDS" = some u ∧ RelV (.ref aW) u) (hW : ∀ H, SqT T.K H aW (mwords.map V.str)) : FnOk P w T.K mg base CX0 1 f fd ["self"] (mkSp (Pre_Mach_reset T)) := by
  refine fn_ok F sc_Mach_reset (fun As Ω R h => ?_) (fun cdv A outer s H E hr As Ω R F0 h => ?_)
  · obtain ⟨k, p, x, rfl, _⟩ := h; rfl
  obtain ⟨k, p, x, rfl, hk, rfl⟩ := h
  refine ⟨_, pss_cons (ps_fld (pv 0) (pe_dc (own := [("word", 1)]) rfl sc_Mach_reset.nd (pi_tup (pe_gl rfl g_WORDS)) (blkOk_by (N := ["self", "word"]) (sc := defScope s_Mach_reset) (by decide +kernel)) (fun _ _ _ _ _ => pg_name (i := 1) sc_Mach_reset.nd rfl (.inl rfl)) (fun _ _ _ _ _ => pts_nil) (fun _ _ _ _ _ => pv 1) (fun _ _ _ _ _ => pe_int)) rfl) (pss_one (ps_fld (pv 0) (pe_lst pa_nil) rfl)), fun D hrt hnx => ?_⟩
  exact xs_mreset mc hW (by simp) (by simp) rfl hk fun σ H ⟨F, f0, e, hh⟩ => hnx F σ H _ f0 hh ⟨rfl, stt_one.symm⟩
theorem sc_Mach_tally : FnScope ["self", "word"] ["self"] (defScope s_Mach_tally) := ⟨rfl, rfl, rfl, by decide +kernel, rfl, by decide +kernel, by decide +kernel⟩
theorem ok_Mach_tally {f : Addr} {fd : FuncData} (F : Fun T.K "tally" "Machine.tally" s_Mach_tally f fd) (mc : MCls T.K (T.C 0)) {aW : Addr} (g_WORDS : ∃ u, mg "WORDS" = some u ∧ RelV (.ref aW) u) (hW : ∀ H, SqT T.K H aW (mwords.map V.str)) : FnOk P w T.K mg base CX0 1 f fd ["self"] (mkSp (Pre_Mach_tally T)) := by
  refine fn_ok F sc_Mach_tally (fun As Ω R h => ?_) (fun cdv A outer s H E hr As Ω R F0 h => ?_)
  · obtain ⟨k, p, x, rfl, _⟩ := h; rfl
  obtain ⟨k, p, x, rfl, hk, rfl⟩ := h
  refine ⟨_, pss_one (ps_ret (pe_lc (own := [("word", 1)]) rfl sc_Mach_tally.nd (pi_tup (pe_gl rfl g_WORDS)) (blkOk_by (N := ["self", "word"]) (sc := defScope s_Mach_tally) (by decide +kernel)) (fun _ _ _ _ _ => pg_name (i := 1) sc_Mach_tally.nd rfl (.inl rfl)) (fun _ _ _ _ _ => pts_nil) (fun _ _ _ _ _ => pe_tup (pa_cons (pv 1) (pa_cons (pe_dget (by exact hu_of hr) (pe_fldK (K := T.K) (pv 0) (by rfl) rfl) (pv 1) (by intro _ _; rfl)) pa_nil))))), fun D hrt hnx => ?_⟩
  exact xs_ret (xe_tally mc hW (by simp) rfl (by simp [wip]) hk) hrt
theorem sc_Mach_walk : FnScope ["self"] ["self"] (defScope s_Mach_walk) := ⟨rfl, rfl, rfl, by decide +kernel, rfl, by decide +kernel, by decide +kernel⟩
theorem ok_Mach_walk {f : Addr} {fd : FuncData} (F : Fun T.K "walk" "Machine.walk" s_Mach_walk f fd) (mc : MCls T.K (T.C 0)) (z_list : mg "list" = none) : FnOk P w T.K mg base CX0 1 f fd ["self"] (mkSp (Pre_Mach_walk T)) := by
  refine fn_ok F sc_Mach_walk (fun As Ω R h => ?_) (fun cdv A outer s H E hr As Ω R F0 h => ?_)
  · obtain ⟨k, p, x, rfl, _⟩ := h; rfl
  obtain ⟨k, p, x, rfl, hk, rfl⟩ := h
  refine ⟨_, pss_one (ps_ret (pe_callTy cr_list (by rfl) z_list (by decide +kernel) (pa_cons (pe_fld (pv 0) (by rfl)) pa_nil))), fun D hrt hnx => ?_⟩
  exact xs_ret (xe_walk mc rfl hk) hrt
theorem sc_Mach_parts : FnScope ["self"] ["self"] (defScope s_Mach_parts) := ⟨rfl, rfl, rfl, by decide +kernel, rfl, by decide +kernel, by decide +kernel⟩
theorem ok_Mach_parts {f : Addr} {fd : FuncData} (F : Fun T.K "parts" "Machine.parts" s_Mach_parts f fd) (mc : MCls T.K (T.C 0))  : FnOk P w T.K mg base CX0 1 f fd ["self"] (mkSp (Pre_Mach_parts T)) := by
  refine fn_ok F sc_Mach_parts (fun As Ω R h => ?_) (fun cdv A outer s H E hr As Ω R F0 h => ?_)
  · obtain ⟨k, p, x, rfl, _⟩ := h; rfl
  obtain ⟨k, p, x, rfl, hk, rfl⟩ := h
  refine ⟨_, pss_one (ps_ret (pe_tup (pa_cons (pe_fld (pv 0) (by rfl)) (pa_cons (pe_fld (pv 0) (by rfl)) pa_nil)))), fun D hrt hnx => ?_⟩
  exact xs_ret (xe_tup2 (xa_cons (xe_mw mc.cl mc.nw (xe_var (i := 0) rfl) hk) (xa_cons (xe_mc mc.cl mc.nc (xe_var (i := 0) rfl) hk) xa_nil))) hrt
theorem sc_Mach_init : FnScope ["self", "bits", "cutoff", "word"] ["self", "bits", "cutoff"] (defScope s_Mach_init) := ⟨rfl, rfl, rfl, by decide +kernel, rfl, by decide +kernel, by decide +kernel⟩
theorem ok_Mach_init {f : Addr} {fd : FuncData} (F : FunD T.K "__init__" "Machine.__init__" (defArgs s_Mach_init) (defBody s_Mach_init) (defScope s_Mach_init) [.int 30, .int 70] [] f fd) (mc : MCls T.K (T.C 0)) {aW : Addr} (g_WORDS : ∃ u, mg "WORDS" = some u ∧ RelV (.ref aW) u) (hW : ∀ H, SqT T.K H aW (mwords.map V.str)) (c_is_between : Cal P w T.K mg base 2 "is_between" ["value", "low", "high"] (mkSp (Pre_is_between T))) : FnOk P w T.K mg base CX0 3 f fd ["self", "bits", "cutoff"] (mkSp (Pre_Machine T)) := by
  refine fn_okD F sc_Mach_init (fun As Ω R h => ?_) (fun cdv A outer s H E hr As Ω R F0 h => ?_)
  · obtain ⟨Ω0, p, w, c, rfl, _⟩ := h; rfl
  obtain ⟨Ω0, p, w, c, rfl, hc, rfl, rfl⟩ := h
  refine ⟨_, pss_cons (ps_if (pt_not (pt_val (pe_cal c_is_between (hr.mono (by decide)) (by rfl) (pa_cons (pv 1) (pa_cons pe_int (pa_cons pe_int pa_nil)))))) pss_never pss_nil) (pss_cons (ps_if (pt_not (pt_val (pe_cal c_is_between (hr.mono (by decide)) (by rfl) (pa_cons (pv 2) (pa_cons pe_int (pa_cons pe_int pa_nil)))))) pss_never pss_nil) (pss_cons (ps_fld (pv 0) (pv 1) rfl) (pss_cons (ps_fld (pv 0) (pv 2) rfl) (pss_cons (ps_fld (pv 0) (pe_dc (own := [("word", 3)]) rfl sc_Mach_init.nd (pi_tup (pe_gl rfl g_WORDS)) (blkOk_by (N := ["self", "bits", "cutoff", "word"]) (sc := defScope s_Mach_init) (by decide +kernel)) (fun _ _ _ _ _ => pg_name (i := 3) sc_Mach_init.nd rfl (.inl rfl)) (fun _ _ _ _ _ => pts_nil) (fun _ _ _ _ _ => pv 3) (fun _ _ _ _ _ => pe_int)) rfl) (pss_one (ps_fld (pv 0) (pe_lst pa_nil) rfl)))))), fun D hrt hnx => ?_⟩
  have m1 : M_is_between w 8 30 = some true := by simp [M_is_between, M_is_integer, hc.1.1, hc.1.2]
  have m2 : M_is_between c 2 1000 = some true := by simp [M_is_between, M_is_integer, hc.2.1, hc.2.2]
  show XS _ D F0 [some (vr p), some (va T w), some (va T c), none] _
  refine xs_ifN (xt_notF (xt_tB (T := T) (xe_call (xa_cons (xe_var (i := 1) rfl) (xa_cons xe_int (xa_cons xe_int xa_nil))) ⟨w, 8, 30, true, rfl, m1, rfl⟩ (List.append_nil _)))) ?_
  show XS _ D F0 [some (vr p), some (va T w), some (va T c), none] _
  refine xs_ifN (xt_notF (xt_tB (T := T) (xe_call (xa_cons (xe_var (i := 2) rfl) (xa_cons xe_int (xa_cons xe_int xa_nil))) ⟨c, 2, 1000, true, rfl, m2, rfl⟩ (List.append_nil _)))) ?_
  show XS _ D F0 [some (vr p), some (va T w), some (va T c), none] _
  exact xs_minit (k := Ω0.length) mc hW (by simp) (by simp) rfl rfl rfl app_at fun σ H ⟨F, f0, e, hh⟩ => hnx F σ H _ f0 hh ⟨rfl, set_last⟩
noncomputable def M_Big_eq (x0 : Bg) (x1 : Bg) : Option Bool :=
  some (true && ((decide (x0.w = x1.w)) && (decide (x0.v = x1.v))))
def Pre_Big_eq (T : TC) : PreT := fun As Ω R => ∃ (x0 : Bg) (x1 : Bg) (r : Bool), As = [va T x0, va T x1] ∧ M_Big_eq x0 x1 = some r ∧ R = RV (va T r) (stt Ω [] [])
theorem sc_Big_eq : FnScope ["self", "other"] ["self", "other"] (defScope s_Big_eq) := ⟨rfl, rfl, rfl, by decide +kernel, rfl, by decide +kernel, by decide +kernel⟩
theorem ok_Big_eq {f : Addr} {fd : FuncData} (F : Fun T.K "__eq__" "Big.__eq__" s_Big_eq f fd) (z_isinstance : mg "isinstance" = none) (icb : ICls T.K (T.C 1)) (g_Big : ∃ u, mg "Big" = some u ∧ RelV (.ref (T.C 1)) u) (bc : BCls T.K (T.C 1)) : FnOk P w T.K mg base CX0 1 f fd ["self", "other"] (mkSp (Pre_Big_eq T)) := by
  refine fn_ok F sc_Big_eq (fun As Ω R h => ?_) (fun cdv A outer s H E hr As Ω R F0 h => ?_)
  · obtain ⟨x0, x1, r, rfl, _⟩ := h
    rfl
  obtain ⟨x0, x1, r, rfl, hm, rfl⟩ := h
  refine ⟨_, (pss_one (ps_ret (pe_and (pe_callB (cr_isiK (K := T.K) rfl) (by rfl) z_isinstance (by decide +kernel) (pa_cons (pv 1) (pa_cons (pe_gl rfl g_Big) pa_nil))) (pe_and (pe_cmpR (op_eqXK (K := T.K) (by exact hr.units) rfl) (pe_fldK (K := T.K) (pv 0) (by rfl) rfl) (pe_fldK (K := T.K) (pv 1) (by rfl) rfl) (nomark _)) (pe_one (pe_cmpR (op_eqXK (K := T.K) (by exact hr.units) rfl) (pe_fldK (K := T.K) (pv 0) (by rfl) rfl) (pe_fldK (K := T.K) (pv 1) (by rfl) rfl) (nomark _))))))), fun D hrt hnx => ?_⟩
  have ok : Okk Ω [] := okk0
  suffices hx : XS _ D F0 [some (va T x0), some (va T x1)] (stt Ω [] []) by
    rw [show (stt Ω [] []) = Ω from stt_self (by simp)] at hx
    exact hx
  unfold M_Big_eq at hm
  obtain rfl := Option.some.inj hm
  refine xs_ret (xe_andV (xe_isi (xe_var (i := 1) rfl) xe_vx (.own _) (fun F H v hh a => ty_big icb hh a) icb.kit) (fun _ => (xe_andV (xe_eqI (xe_bw bc.cl bc.nw (xe_var (i := 0) rfl)) (xe_bw bc.cl bc.nw (xe_var (i := 1) rfl))) (fun _ => (xe_eqI (xe_bv bc.cl bc.nv (xe_var (i := 0) rfl)) (xe_bv bc.cl bc.nv (xe_var (i := 1) rfl))))))) hrt.all
noncomputable def M_Big_digits (x0 : Bg) : Option (List Int) :=
  some x0.row
def Pre_Big_digits (T : TC) : PreT := fun As Ω R => ∃ (x0 : Bg) (r : List Int), As = [va T x0] ∧ M_Big_digits x0 = some r ∧ R = RV (va T (LF.mk r)) (stt Ω [] [])
theorem sc_Big_digits : FnScope ["self"] ["self"] (defScope s_Big_digits) := ⟨rfl, rfl, rfl, by decide +kernel, rfl, by decide +kernel, by decide +kernel⟩
theorem ok_Big_digits {f : Addr} {fd : FuncData} (F : Fun T.K "digits" "Big.digits" s_Big_digits f fd) (bc : BCls T.K (T.C 1)) (z_list : mg "list" = none) : FnOk P w T.K mg base CX0 1 f fd ["self"] (mkSp (Pre_Big_digits T)) := by
  refine fn_ok F sc_Big_digits (fun As Ω R h => ?_) (fun cdv A outer s H E hr As Ω R F0 h => ?_)
  · obtain ⟨x0, r, rfl, _⟩ := h
    rfl
  obtain ⟨x0, r, rfl, hm, rfl⟩ := h
  refine ⟨_, (pss_one (ps_ret (pe_callTy (cr_listK (K := T.K) rfl) (by rfl) z_list (by decide +kernel) (pa_cons (pe_fldK (K := T.K) (pv 0) (by rfl) rfl) pa_nil)))), fun D hrt hnx => ?_⟩
  have ok : Okk Ω [] := okk0
  suffices hx : XS _ D F0 [some (va T x0)] (stt Ω [] []) by
    rw [show (stt Ω [] []) = Ω from stt_self (by simp)] at hx
    exact hx
  unfold M_Big_digits at hm
  obtain rfl := Option.some.inj hm
  refine xs_ret (xe_listT (xe_br bc.cl bc.nr (xe_var (i := 0) rfl)) isT_TF) hrt.all
noncomputable def M_Big_sign (x0 : Bg) : Option Int :=
  some (sgn x0.v)
def Pre_Big_sign (T : TC) : PreT := fun As Ω R => ∃ (x0 : Bg) (r : Int), As = [va T x0] ∧ M_Big_sign x0 = some r ∧ R = RV (va T r) (stt Ω [] [])
theorem sc_Big_sign : FnScope ["self"] ["self"] (defScope s_Big_sign) := ⟨rfl, rfl, rfl, by decide +kernel, rfl, by decide +kernel, by decide +kernel⟩
theorem ok_Big_sign {f : Addr} {fd : FuncData} (F : Fun T.K "sign" "Big.sign" s_Big_sign f fd) (bc : BCls T.K (T.C 1)) : FnOk P w T.K mg base CX0 1 f fd ["self"] (mkSp (Pre_Big_sign T)) := by
  refine fn_ok F sc_Big_sign (fun As Ω R h => ?_) (fun cdv A outer s H E hr As Ω R F0 h => ?_)
  · obtain ⟨x0, r, rfl, _⟩ := h
    rfl
  obtain ⟨x0, r, rfl, hm, rfl⟩ := h
  refine ⟨_, (pss_one (ps_ret (pe_fldK (K := T.K) (pv 0) (by rfl) rfl))), fun D hrt hnx => ?_⟩
  have ok : Okk Ω [] := okk0
  suffices hx : XS _ D F0 [some (va T x0)] (stt Ω [] []) by
    rw [show (stt Ω [] []) = Ω from stt_self (by simp)] at hx
    exact hx
  unfold M_Big_sign at hm
  obtain rfl := Option.some.inj hm
  refine xs_ret (xe_bs bc.cl bc.ns (xe_var (i := 0) rfl)) hrt.all
noncomputable def M_Big_bits (x0 : Bg) : Option Int :=
  some x0.w
def Pre_Big_bits (T : TC) : PreT := fun As Ω R => ∃ (x0 : Bg) (r : Int), As = [va T x0] ∧ M_Big_bits x0 = some r ∧ R = RV (va T r) (stt Ω [] [])
theorem sc_Big_bits : FnScope ["self"] ["self"] (defScope s_Big_bits) := ⟨rfl, rfl, rfl, by decide +kernel, rfl, by decide +kernel, by decide +kernel⟩
theorem ok_Big_bits {f : Addr} {fd : FuncData} (F : Fun T.K "bits" "Big.bits" s_Big_bits f fd) (bc : BCls T.K (T.C 1)) : FnOk P w T.K mg base CX0 1 f fd ["self"] (mkSp (Pre_Big_bits T)) := by
  refine fn_ok F sc_Big_bits (fun As Ω R h => ?_) (fun cdv A outer s H E hr As Ω R F0 h => ?_)
  · obtain ⟨x0, r, rfl, _⟩ := h
    rfl
  obtain ⟨x0, r, rfl, hm, rfl⟩ := h
  refine ⟨_, (pss_one (ps_ret (pe_fldK (K := T.K) (pv 0) (by rfl) rfl))), fun D hrt hnx => ?_⟩
  have ok : Okk Ω [] := okk0
  suffices hx : XS _ D F0 [some (va T x0)] (stt Ω [] []) by
    rw [show (stt Ω [] []) = Ω from stt_self (by simp)] at hx
    exact hx
  unfold M_Big_bits at hm
  obtain rfl := Option.some.inj hm
  refine xs_ret (xe_bw bc.cl bc.nw (xe_var (i := 0) rfl)) hrt.all
noncomputable def M_order_of (x0 : Int) (x1 : Int) : Option Int :=
  if (decide (x0 < x1)) = true then some (-(1 : Int)) else some (if (decide (x0 = x1)) = true then (0 : Int) else (1 : Int))
def Pre_order_of (T : TC) : PreT := fun As Ω R => ∃ (x0 : Int) (x1 : Int) (r : Int), As = [va T x0, va T x1] ∧ M_order_of x0 x1 = some r ∧ R = RV (va T r) (stt Ω [] [])
theorem sc_order_of : FnScope ["a", "b"] ["a", "b"] (defScope s_order_of) := ⟨rfl, rfl, rfl, by decide +kernel, rfl, by decide +kernel, by decide +kernel⟩
theorem ok_order_of {f : Addr} {fd : FuncData} (F : Fun T.K "order_of" "order_of" s_order_of f fd)  : FnOk P w T.K mg base CX0 1 f fd ["a", "b"] (mkSp (Pre_order_of T)) := by
  refine fn_ok F sc_order_of (fun As Ω R h => ?_) (fun cdv A outer s H E hr As Ω R F0 h => ?_)
  · obtain ⟨x0, x1, r, rfl, _⟩ := h
    rfl
  obtain ⟨x0, x1, r, rfl, hm, rfl⟩ := h
  refine ⟨_, (pss_cons (ps_if (pt_cmpR op_lt (pv 0) (pv 1) (nomark _)) (pss_one (ps_ret (pe_un un_neg pe_int))) pss_nil) (pss_one (ps_ret (pe_ifExp (pt_cmpR (op_eqXK (K := T.K) (by exact hr.units) rfl) (pv 0) (pv 1) (nomark _)) pe_int pe_int)))), fun D hrt hnx => ?_⟩
  have ok : Okk Ω [] := okk0
  suffices hx : XS _ D F0 [some (va T x0), some (va T x1)] (stt Ω [] []) by
    rw [show (stt Ω [] []) = Ω from stt_self (by simp)] at hx
    exact hx
  unfold M_order_of at hm
  by_cases hc : (decide (x0 < x1)) = true
  · rw [if_pos hc] at hm
    refine xs_ifT (xt_eq (xt_test (T := T) (xe_lt (xe_var (i := 0) rfl) (xe_var (i := 1) rfl))) hc) ?_
    obtain rfl := Option.some.inj hm
    refine xs_ret (xe_neg xe_int) hrt.all
  · rw [if_neg hc] at hm
    refine xs_ifN (xt_eq (xt_test (T := T) (xe_lt (xe_var (i := 0) rfl) (xe_var (i := 1) rfl))) (nt hc)) ?_
    show XS (tRet _) _ _ [some (va T x0), some (va T x1)] (stt Ω [] [])
    obtain rfl := Option.some.inj hm
    refine xs_ret (xe_ite (xt_test (T := T) (xe_eqI (xe_var (i := 0) rfl) (xe_var (i := 1) rfl))) xe_int xe_int) hrt.all
theorem sc_Big_init : FnScope ["self", "width", "value", "row"] ["self", "width", "value", "row"] (defScope s_Big_init) := ⟨rfl, rfl, rfl, by decide +kernel, rfl, by decide +kernel, by decide +kernel⟩
theorem order_sgn (v : Int) : M_order_of v 0 = some (sgn v) := by
  unfold M_order_of sgn
  by_cases h : v < 0
  · rw [if_pos (decide_eq_true h), if_pos h]
  · rw [if_neg (by simpa using h), if_neg h]
    by_cases e : v = 0
    · rw [if_pos (decide_eq_true e), if_pos e]
    · rw [if_neg (by simpa using e), if_neg e]
theorem ok_Big_init {f : Addr} {fd : FuncData} (F : Fun T.K "__init__" "Big.__init__" s_Big_init f fd) (bc : BCls T.K (T.C 1)) (z_tuple : mg "tuple" = none) (c_order_of : Cal P w T.K mg base 1 "order_of" ["a", "b"] (mkSp (Pre_order_of T))) : FnOk P w T.K mg base CX0 2 f fd ["self", "width", "value", "row"] (mkSp (Pre_Big T)) := by
  refine fn_ok F sc_Big_init (fun As Ω R h => ?_) (fun cdv A outer s H E hr As Ω R F0 h => ?_)
  · obtain ⟨Ω0, p, w, sd, row, B, _, rfl, _⟩ := h; rfl
  obtain ⟨Ω0, p, w, sd, row, B, hB, rfl, rfl, rfl⟩ := h
  refine ⟨_, pss_cons (ps_fld (pv 0) (pv 1) rfl) (pss_cons (ps_fld (pv 0) (pe_cal c_order_of (hr.mono (by decide)) (by rfl) (pa_cons (pv 2) (pa_cons pe_int pa_nil))) rfl) (pss_cons (ps_fld (pv 0) (pe_callTy cr_tuple (by rfl) z_tuple (by decide +kernel) (pa_cons (pv 3) pa_nil)) rfl) (pss_one (ps_fld (pv 0) (pv 2) rfl)))), fun D hrt hnx => ?_⟩
  show XS _ D F0 [some (vr p), some (va T w), some (va T sd), some B] _
  refine xs_binit (k := Ω0.length) (row := row) bc rfl rfl rfl (fun Ω' => xe_call (xa_cons (xe_var (i := 2) rfl) (xa_cons xe_int xa_nil)) ⟨sd, 0, sgn sd, rfl, order_sgn sd, rfl⟩ cal0') (fun Ω' => ?_) app_at fun σ H ⟨F, f0, e, hh⟩ => hnx F σ H _ f0 hh ⟨rfl, set_last⟩
  rcases hB with rfl | rfl
  · exact xe_tupleL (xe_var (i := 3) rfl) isL_LF
  · exact xe_tupleT (xe_var (i := 3) rfl)
noncomputable def M_check_machine (x0 : MS) : Option Unit :=
  (chkP (true = true)).bind fun z1 => some ()
def Pre_check_machine (T : TC) : PreT := fun As Ω R => ∃ (k0 : Nat) (p0 : Addr) (x0 : MS) (r : Unit), As = [vr p0] ∧ Ω[k0]? = some (machA T p0 x0) ∧ M_check_machine x0 = some r ∧ R = RV (va T r) (stt Ω [] [])
theorem sc_check_machine : FnScope ["machine"] ["machine"] (defScope s_check_machine) := ⟨rfl, rfl, rfl, by decide +kernel, rfl, by decide +kernel, by decide +kernel⟩
theorem ok_check_machine {f : Addr} {fd : FuncData} (F : Fun T.K "check_machine" "check_machine" s_check_machine f fd) (z_isinstance : mg "isinstance" = none) (icm : ICls T.K (T.C 0)) (g_Machine : ∃ u, mg "Machine" = some u ∧ RelV (.ref (T.C 0)) u) : FnOk P w T.K mg base CX0 1 f fd ["machine"] (mkSp (Pre_check_machine T)) := by
  refine fn_ok F sc_check_machine (fun As Ω R h => ?_) (fun cdv A outer s H E hr As Ω R F0 h => ?_)
  · obtain ⟨k0, p0, x0, r, rfl, _⟩ := h
    rfl
  obtain ⟨k0, p0, x0, r, rfl, hk0, hm, rfl⟩ := h
  refine ⟨_, (pss_one (ps_if (pt_not (pt_val (pe_callB (cr_isiK (K := T.K) rfl) (by rfl) z_isinstance (by decide +kernel) (pa_cons (pv 0) (pa_cons (pe_gl rfl g_Machine) pa_nil))))) pss_never pss_nil)), fun D hrt hnx => ?_⟩
  have ok : Okk Ω [] := okk0
  suffices hx : XS _ D F0 [some (vr p0)] (stt Ω [] []) by
    rw [show (stt Ω [] []) = Ω from stt_self (by simp)] at hx
    exact hx
  unfold M_check_machine at hm
  obtain ⟨z1, hz1, hm⟩ := bnd_some hm
  refine xs_ifF1 (xt_notF (xt_eq (xt_tB (T := T) (xe_isi (xe_var (i := 0) rfl) xe_vx (.own _) (fun F H v hh a => ty_mach icm (stt_getU hk0) hh a) icm.kit)) (chkP_some hz1))) ?_
  obtain rfl := Option.some.inj hm
  exact fun σ H ⟨F, f0, e, hh⟩ => hnx F σ H _ f0 hh.all ⟨rfl, rfl⟩
noncomputable def M_top_digit (x0 : Int) : Option Int :=
  (chkP (CShl (1 : Int) x0)).bind fun z1 => some (((1 : Int) * 2 ^ (x0).toNat) - (1 : Int))
def Pre_top_digit (T : TC) : PreT := fun As Ω R => ∃ (x0 : Int) (r : Int), As = [va T x0] ∧ M_top_digit x0 = some r ∧ R = RV (va T r) (stt Ω [] [])
theorem sc_top_digit : FnScope ["width"] ["width"] (defScope s_top_digit) := ⟨rfl, rfl, rfl, by decide +kernel, rfl, by decide +kernel, by decide +kernel⟩
theorem ok_top_digit {f : Addr} {fd : FuncData} (F : Fun T.K "top_digit" "top_digit" s_top_digit f fd)  : FnOk P w T.K mg base CX0 1 f fd ["width"] (mkSp (Pre_top_digit T)) := by
  refine fn_ok F sc_top_digit (fun As Ω R h => ?_) (fun cdv A outer s H E hr As Ω R F0 h => ?_)
  · obtain ⟨x0, r, rfl, _⟩ := h
    rfl
  obtain ⟨x0, r, rfl, hm, rfl⟩ := h
  refine ⟨_, (pss_one (ps_ret (pe_op op_sub (pe_op op_shlW pe_int (pv 0)) pe_int))), fun D hrt hnx => ?_⟩
  have ok : Okk Ω [] := okk0
  suffices hx : XS _ D F0 [some (va T x0)] (stt Ω [] []) by
    rw [show (stt Ω [] []) = Ω from stt_self (by simp)] at hx
    exact hx
  unfold M_top_digit at hm
  obtain ⟨z1, hz1, hm⟩ := bnd_some hm
  obtain rfl := Option.some.inj hm
  refine xs_ret (xe_sub (xe_shl (chkP_some hz1) xe_int (xe_var (i := 0) rfl)) xe_int) hrt.all
noncomputable def M_size_of (x0 : Int) (x1 : Int) : Option Int :=
  (chkP (CDivW ((((Builtin.Int.intBits x1 : Nat) : Int) + x0) - (1 : Int)) x0)).bind fun z1 => some (((((Builtin.Int.intBits x1 : Nat) : Int) + x0) - (1 : Int)) / x0)
def Pre_size_of (T : TC) : PreT := fun As Ω R => ∃ (x0 : Int) (x1 : Int) (r : Int), As = [va T x0, va T x1] ∧ M_size_of x0 x1 = some r ∧ R = RV (va T r) (stt Ω [] [])
theorem sc_size_of : FnScope ["width", "n"] ["width", "n"] (defScope s_size_of) := ⟨rfl, rfl, rfl, by decide +kernel, rfl, by decide +kernel, by decide +kernel⟩
theorem ok_size_of {f : Addr} {fd : FuncData} (F : Fun T.K "size_of" "size_of" s_size_of f fd)  : FnOk P w T.K mg base CX0 2 f fd ["width", "n"] (mkSp (Pre_size_of T)) := by
  refine fn_ok F sc_size_of (fun As Ω R h => ?_) (fun cdv A outer s H E hr As Ω R F0 h => ?_)
  · obtain ⟨x0, x1, r, rfl, _⟩ := h
    rfl
  obtain ⟨x0, x1, r, rfl, hm, rfl⟩ := h
  refine ⟨_, (pss_one (ps_ret (pe_op op_fdivW (pe_op op_sub (pe_op op_addQ (pe_bits (pv 1)) (pv 0)) pe_int) (pv 0)))), fun D hrt hnx => ?_⟩
  have ok : Okk Ω [] := okk0
  suffices hx : XS _ D F0 [some (va T x0), some (va T x1)] (stt Ω [] []) by
    rw [show (stt Ω [] []) = Ω from stt_self (by simp)] at hx
    exact hx
  unfold M_size_of at hm
  obtain ⟨z1, hz1, hm⟩ := bnd_some hm
  obtain rfl := Option.some.inj hm
  refine xs_ret (xe_fdiv (chkP_some hz1) (xe_sub (xe_add (xe_bits (xe_var (i := 1) rfl)) (xe_var (i := 0) rfl)) xe_int) (xe_var (i := 0) rfl)) hrt.all
noncomputable def M_number_of : Nat → Int → (List Int) → Option Int
  | 0, _, _ => none
  | kf + 1, x0, x1 => (some (x1.length : Int)).bind fun y1 => if (decide ((32 : Int) < y1)) = true then (chkP (CDivW y1 (2 : Int))).bind fun z2 => (some (y1 / (2 : Int))).bind fun y3 => (M_number_of kf x0 (cut x1 none (some y3))).bind fun z4 => (M_number_of kf x0 (cut x1 (some y3) none)).bind fun z5 => (chkP (IntMulOk y3 x0)).bind fun z6 => (chkP (CShl z5 (y3 * x0))).bind fun z7 => some (z4 + (z5 * 2 ^ ((y3 * x0)).toNat)) else (forM' (ρ := Unit) (fun (a9 : Int) (s8 : Int) => (chkP (CShl s8 x0)).bind fun z10 => (some ((s8 * 2 ^ (x0).toNat) + a9)).bind fun y11 => some (Stp.nx y11)) ((x1).reverse) (0 : Int)).bind fun z12 => (nxt z12).bind fun s13 => some s13
theorem M_number_of_succ (kf : Nat) (x0 : Int) (x1 : List Int) : M_number_of (kf + 1) x0 x1 = ((some (x1.length : Int)).bind fun y1 => if (decide ((32 : Int) < y1)) = true then (chkP (CDivW y1 (2 : Int))).bind fun z2 => (some (y1 / (2 : Int))).bind fun y3 => (M_number_of kf x0 (cut x1 none (some y3))).bind fun z4 => (M_number_of kf x0 (cut x1 (some y3) none)).bind fun z5 => (chkP (IntMulOk y3 x0)).bind fun z6 => (chkP (CShl z5 (y3 * x0))).bind fun z7 => some (z4 + (z5 * 2 ^ ((y3 * x0)).toNat)) else (forM' (ρ := Unit) (fun (a9 : Int) (s8 : Int) => (chkP (CShl s8 x0)).bind fun z10 => (some ((s8 * 2 ^ (x0).toNat) + a9)).bind fun y11 => some (Stp.nx y11)) ((x1).reverse) (0 : Int)).bind fun z12 => (nxt z12).bind fun s13 => some s13) := by rw [M_number_of]
theorem M_number_of_zero (x0 : Int) (x1 : List Int) : M_number_of 0 x0 x1 = none := by rw [M_number_of]
def Pre_number_of (kf : Nat) (T : TC) : PreT := fun As Ω R => ∃ (x0 : Int) (x1 : List Int) (r : Int), As = [va T x0, va T (LF.mk x1)] ∧ M_number_of kf x0 x1 = some r ∧ R = RV (va T r) (stt Ω [] [])
theorem sc_number_of : FnScope ["width", "row", "size", "half", "number", "digit"] ["width", "row"] (defScope s_number_of) := ⟨rfl, rfl, rfl, by decide +kernel, rfl, by decide +kernel, by decide +kernel⟩
theorem ok0_number_of {f : Addr} {fd : FuncData} (F : Fun T.K "number_of" "number_of" s_number_of f fd) : FnOk P w T.K mg base CX0 1 f fd ["width", "row"] (mkSp (Pre_number_of 0 T)) := by
  refine fn_ok (k := 0) F sc_number_of (fun As Ω R h => ?_) (fun cdv A outer s H E hr As Ω R F0 h => ?_)
  · obtain ⟨x0, x1, r, rfl, _⟩ := h
    rfl
  obtain ⟨x0, x1, r, rfl, hm, rfl⟩ := h
  rw [M_number_of_zero] at hm
  cases hm
theorem ok_number_of (kf : Nat) {f : Addr} {fd : FuncData} (F : Fun T.K "number_of" "number_of" s_number_of f fd) (z_len : mg "len" = none) (g_LONGEST_LOOP : ∃ u, mg "LONGEST_LOOP" = some u ∧ RelV (.int 32) u) (c_number_of : Cal P w T.K mg base (1 + kf) "number_of" ["width", "row"] (mkSp (Pre_number_of kf T))) (z_reversed : mg "reversed" = none) : FnOk P w T.K mg base CX0 (1 + kf + 1) f fd ["width", "row"] (mkSp (Pre_number_of (kf + 1) T)) := by
  refine fn_ok F sc_number_of (fun As Ω R h => ?_) (fun cdv A outer s H E hr As Ω R F0 h => ?_)
  · obtain ⟨x0, x1, r, rfl, _⟩ := h
    rfl
  obtain ⟨x0, x1, r, rfl, hm, rfl⟩ := h
  refine ⟨_, (pss_cons (ps_set (i := 2) sc_number_of.nd rfl (.inl rfl) (pe_callB (cr_lenK (K := T.K) rfl) (by rfl) z_len PySem.boot_len (pa_cons (pv 1) pa_nil))) (pss_cons (ps_if (pt_cmpR op_gt (pv 2) (pe_gl rfl g_LONGEST_LOOP) (nomark _)) (pss_cons (ps_set (i := 3) sc_number_of.nd rfl (.inl rfl) (pe_op op_fdivW (pv 2) pe_int)) (pss_one (ps_ret (pe_op op_addQ (pe_cal c_number_of (hr.mono (by omega)) (by rfl) (pa_cons (pv 0) (pa_cons (pe_slice (sl_listK (K := T.K) rfl) (pv 1) po_none (po_some (pv 3))) pa_nil))) (pe_op op_shlW (pe_cal c_number_of (hr.mono (by omega)) (by rfl) (pa_cons (pv 0) (pa_cons (pe_slice (sl_listK (K := T.K) rfl) (pv 1) (po_some (pv 3)) po_none) pa_nil))) (pe_op op_mulQ (pv 3) (pv 0))))))) pss_nil) (pss_cons (ps_set (i := 4) sc_number_of.nd rfl (.inl rfl) pe_int) (pss_cons (ps_for PassesOwn.never rfl (RT.pi_revA (by rfl) z_reversed (pv 1)) (pg_name (i := 5) sc_number_of.nd rfl (.inl rfl)) (pss_one (ps_set (i := 4) sc_number_of.nd rfl (.inl rfl) (pe_op op_addQ (pe_op op_shlW (pv 4) (pv 0)) (pv 5))))) (pss_one (ps_ret (pv 4))))))), fun D hrt hnx => ?_⟩
  have ok : Okk Ω [] := okk0
  suffices hx : XS _ D F0 [some (va T x0), some (va T (LF.mk x1)), none, none, none, none] (stt Ω [] []) by
    rw [show (stt Ω [] []) = Ω from stt_self (by simp)] at hx
    exact hx
  rw [M_number_of_succ] at hm
  obtain ⟨y1, hy1, hm⟩ := bnd_some hm
  refine xs_set (A := va T y1) (xe_eq (xe_lenL (xe_var (i := 1) rfl) isL_LF) (Option.some.inj hy1)) ?_
  show XS (tSeq _ _) _ _ [some (va T x0), some (va T (LF.mk x1)), some (va T y1), none, none, none] (stt Ω [] [])
  by_cases hc : (decide ((32 : Int) < y1)) = true
  · rw [if_pos hc] at hm
    refine xs_ifT (xt_eq (xt_test (T := T) (xe_gt (xe_var (i := 2) rfl) xe_int)) hc) ?_
    obtain ⟨z2, hz2, hm⟩ := bnd_some hm
    obtain ⟨y3, hy3, hm⟩ := bnd_some hm
    refine xs_set (A := va T y3) (xe_eq (xe_fdiv (chkP_some hz2) (xe_var (i := 2) rfl) xe_int) (Option.some.inj hy3)) ?_
    show XS (tRet _) _ _ [some (va T x0), some (va T (LF.mk x1)), some (va T y1), some (va T y3), none, none] (stt Ω [] [])
    obtain ⟨z4, hz4, hm⟩ := bnd_some hm
    obtain ⟨z5, hz5, hm⟩ := bnd_some hm
    obtain ⟨z6, hz6, hm⟩ := bnd_some hm
    obtain ⟨z7, hz7, hm⟩ := bnd_some hm
    obtain rfl := Option.some.inj hm
    refine xs_ret (xe_add (xe_call (xa_cons (xe_var (i := 0) rfl) (xa_cons (xe_sliceL (xe_var (i := 1) rfl) xo_none (xo_some (T := T) (xe_var (i := 3) rfl)) isL_LF) xa_nil)) ⟨x0, (cut x1 none (some y3)), z4, rfl, hz4, rfl⟩ cal0) (xe_shl (chkP_some hz7) (xe_call (xa_cons (xe_var (i := 0) rfl) (xa_cons (xe_sliceL (xe_var (i := 1) rfl) (xo_some (T := T) (xe_var (i := 3) rfl)) xo_none isL_LF) xa_nil)) ⟨x0, (cut x1 (some y3) none), z5, rfl, hz5, rfl⟩ cal0) (xe_mul (chkP_some hz6) (xe_var (i := 3) rfl) (xe_var (i := 0) rfl)))) hrt.all
  · rw [if_neg hc] at hm
    refine xs_ifN (xt_eq (xt_test (T := T) (xe_gt (xe_var (i := 2) rfl) xe_int)) (nt hc)) ?_
    show XS (tSeq _ _) _ _ [some (va T x0), some (va T (LF.mk x1)), some (va T y1), none, none, none] (stt Ω [] [])
    refine xs_set (A := va T (0 : Int)) xe_int ?_
    show XS (tSeq _ _) _ _ [some (va T x0), some (va T (LF.mk x1)), some (va T y1), none, some (va T (0 : Int)), none] (stt Ω [] [])
    obtain ⟨z12, hz12, hm⟩ := bnd_some hm
    refine xs_forS (fun (s8 : Int) => [some (va T x0), some (va T (LF.mk x1)), some (va T y1), none, some (va T s8), none]) (fun (s8 : Int) => (stt Ω [] [])) (fun (_ : Unit) _ _ _ => False) hz12 (xi_revL (xe_var (i := 1) rfl)) (fun _ => tgt_name) (fun a9 s8 s' ha hm F1 D1 e1 hD => ?_) (fun s13 es => ?_) (fun r1 es => ?_)
    · show XS (tAsg _ _) _ _ [some (va T x0), some (va T (LF.mk x1)), some (va T y1), none, some (va T s8), some (va T a9)] (stt Ω [] [])
      obtain ⟨z10, hz10, hm⟩ := bnd_some hm
      obtain ⟨y11, hy11, hm⟩ := bnd_some hm
      refine xs_set1 (A := va T y11) (xe_eq (xe_add (xe_shl (chkP_some hz10) (xe_var (i := 4) rfl) (xe_var (i := 0) rfl)) (xe_var (i := 5) rfl)) (Option.some.inj hy11)) ?_
      obtain rfl := Option.some.inj hm
      exact fun σ H n => hD.nx _ rfl σ H (n.forget 5)
    · subst es
      obtain ⟨s2, hs2, hm⟩ := bnd_some hm
      cases hs2
      show XS (tRet _) _ _ [some (va T x0), some (va T (LF.mk x1)), some (va T y1), none, some (va T s13), none] (stt Ω [] [])
      obtain rfl := Option.some.inj hm
      refine xs_ret (xe_var (i := 4) rfl) hrt.all
    · subst es
      cases hm
noncomputable def M_low_part (x0 : Int) (x1 : Int) (x2 : Int) : Option Int :=
  (chkP (IntMulOk x2 x0)).bind fun z1 => (chkP (CShl (1 : Int) (x2 * x0))).bind fun z2 => some (Builtin.bitAnd x1 (((1 : Int) * 2 ^ ((x2 * x0)).toNat) - (1 : Int)))
def Pre_low_part (T : TC) : PreT := fun As Ω R => ∃ (x0 : Int) (x1 : Int) (x2 : Int) (r : Int), As = [va T x0, va T x1, va T x2] ∧ M_low_part x0 x1 x2 = some r ∧ R = RV (va T r) (stt Ω [] [])
theorem sc_low_part : FnScope ["width", "n", "size"] ["width", "n", "size"] (defScope s_low_part) := ⟨rfl, rfl, rfl, by decide +kernel, rfl, by decide +kernel, by decide +kernel⟩
theorem ok_low_part {f : Addr} {fd : FuncData} (F : Fun T.K "low_part" "low_part" s_low_part f fd)  : FnOk P w T.K mg base CX0 1 f fd ["width", "n", "size"] (mkSp (Pre_low_part T)) := by
  refine fn_ok F sc_low_part (fun As Ω R h => ?_) (fun cdv A outer s H E hr As Ω R F0 h => ?_)
  · obtain ⟨x0, x1, x2, r, rfl, _⟩ := h
    rfl
  obtain ⟨x0, x1, x2, r, rfl, hm, rfl⟩ := h
  refine ⟨_, (pss_one (ps_ret (pe_op op_and (pv 1) (pe_op op_sub (pe_op op_shlW pe_int (pe_op op_mulQ (pv 2) (pv 0))) pe_int)))), fun D hrt hnx => ?_⟩
  have ok : Okk Ω [] := okk0
  suffices hx : XS _ D F0 [some (va T x0), some (va T x1), some (va T x2)] (stt Ω [] []) by
    rw [show (stt Ω [] []) = Ω from stt_self (by simp)] at hx
    exact hx
  unfold M_low_part at hm
  obtain ⟨z1, hz1, hm⟩ := bnd_some hm
  obtain ⟨z2, hz2, hm⟩ := bnd_some hm
  obtain rfl := Option.some.inj hm
  refine xs_ret (xe_band (xe_var (i := 1) rfl) (xe_sub (xe_shl (chkP_some hz2) xe_int (xe_mul (chkP_some hz1) (xe_var (i := 2) rfl) (xe_var (i := 0) rfl))) xe_int)) hrt.all
noncomputable def M_row_of : Nat → Int → Int → Int → Option (List Int)
  | 0, _, _, _ => none
  | kf + 1, x0, x1, x2 => if (decide ((32 : Int) < x2)) = true then (chkP (CDivW x2 (2 : Int))).bind fun z1 => (some (x2 / (2 : Int))).bind fun y2 => (M_low_part x0 x1 y2).bind fun z3 => (M_row_of kf x0 z3 y2).bind fun z4 => (chkP (IntMulOk y2 x0)).bind fun z5 => (chkP (0 ≤ (y2 * x0))).bind fun z6 => (M_row_of kf x0 (x1 / 2 ^ ((y2 * x0)).toNat) (x2 - y2)).bind fun z7 => (chkP (z4.length + z7.length ≤ sizeLine)).bind fun z8 => some (z4 ++ z7) else (M_top_digit x0).bind fun z9 => (some ([] : List Int)).bind fun y10 => (chkP (-(2 ^ 62) ≤ x2 ∧ x2 < 2 ^ 62)).bind fun z13 => (forM' (ρ := Unit) (fun (a15 : Int) (s14 : Int × (List Int)) => (chkP (s14.2.length < sizeLine)).bind fun z16 => (chkP (0 ≤ x0)).bind fun z17 => (some (s14.1 / 2 ^ (x0).toNat)).bind fun y18 => some (Stp.nx (y18, (s14.2 ++ [(Builtin.bitAnd s14.1 z9)])))) (rng 0 (x2).toNat) (x1, y10)).bind fun z19 => (nxt z19).bind fun s20 => some s20.2
theorem M_row_of_succ (kf : Nat) (x0 : Int) (x1 : Int) (x2 : Int) : M_row_of (kf + 1) x0 x1 x2 = (if (decide ((32 : Int) < x2)) = true then (chkP (CDivW x2 (2 : Int))).bind fun z1 => (some (x2 / (2 : Int))).bind fun y2 => (M_low_part x0 x1 y2).bind fun z3 => (M_row_of kf x0 z3 y2).bind fun z4 => (chkP (IntMulOk y2 x0)).bind fun z5 => (chkP (0 ≤ (y2 * x0))).bind fun z6 => (M_row_of kf x0 (x1 / 2 ^ ((y2 * x0)).toNat) (x2 - y2)).bind fun z7 => (chkP (z4.length + z7.length ≤ sizeLine)).bind fun z8 => some (z4 ++ z7) else (M_top_digit x0).bind fun z9 => (some ([] : List Int)).bind fun y10 => (chkP (-(2 ^ 62) ≤ x2 ∧ x2 < 2 ^ 62)).bind fun z13 => (forM' (ρ := Unit) (fun (a15 : Int) (s14 : Int × (List Int)) => (chkP (s14.2.length < sizeLine)).bind fun z16 => (chkP (0 ≤ x0)).bind fun z17 => (some (s14.1 / 2 ^ (x0).toNat)).bind fun y18 => some (Stp.nx (y18, (s14.2 ++ [(Builtin.bitAnd s14.1 z9)])))) (rng 0 (x2).toNat) (x1, y10)).bind fun z19 => (nxt z19).bind fun s20 => some s20.2) := by rw [M_row_of]
theorem M_row_of_zero (x0 : Int) (x1 : Int) (x2 : Int) : M_row_of 0 x0 x1 x2 = none := by rw [M_row_of]
def Pre_row_of (kf : Nat) (T : TC) : PreT := fun As Ω R => ∃ (x0 : Int) (x1 : Int) (x2 : Int) (r : List Int), As = [va T x0, va T x1, va T x2] ∧ M_row_of kf x0 x1 x2 = some r ∧ R = RV (va T (LF.mk r)) (stt Ω [] [])
theorem sc_row_of : FnScope ["width", "n", "size", "half", "top", "row", "place"] ["width", "n", "size"] (defScope s_row_of) := ⟨rfl, rfl, rfl, by decide +kernel, rfl, by decide +kernel, by decide +kernel⟩
theorem ok0_row_of {f : Addr} {fd : FuncData} (F : Fun T.K "row_of" "row_of" s_row_of f fd) : FnOk P w T.K mg base CX0 1 f fd ["width", "n", "size"] (mkSp (Pre_row_of 0 T)) := by
  refine fn_ok (k := 0) F sc_row_of (fun As Ω R h => ?_) (fun cdv A outer s H E hr As Ω R F0 h => ?_)
  · obtain ⟨x0, x1, x2, r, rfl, _⟩ := h
    rfl
  obtain ⟨x0, x1, x2, r, rfl, hm, rfl⟩ := h
  rw [M_row_of_zero] at hm
  cases hm
theorem ok_row_of (kf : Nat) {f : Addr} {fd : FuncData} (F : Fun T.K "row_of" "row_of" s_row_of f fd) (g_LONGEST_LOOP : ∃ u, mg "LONGEST_LOOP" = some u ∧ RelV (.int 32) u) (c_low_part : Cal P w T.K mg base 1 "low_part" ["width", "n", "size"] (mkSp (Pre_low_part T))) (c_row_of : Cal P w T.K mg base (1 + kf) "row_of" ["width", "n", "size"] (mkSp (Pre_row_of kf T))) (c_top_digit : Cal P w T.K mg base 1 "top_digit" ["width"] (mkSp (Pre_top_digit T))) (z_range : mg "range" = none) : FnOk P w T.K mg base CX0 (1 + kf + 1) f fd ["width", "n", "size"] (mkSp (Pre_row_of (kf + 1) T)) := by
  refine fn_ok F sc_row_of (fun As Ω R h => ?_) (fun cdv A outer s H E hr As Ω R F0 h => ?_)
  · obtain ⟨x0, x1, x2, r, rfl, _⟩ := h
    rfl
  obtain ⟨x0, x1, x2, r, rfl, hm, rfl⟩ := h
  refine ⟨_, (pss_cons (ps_if (pt_cmpR op_gt (pv 2) (pe_gl rfl g_LONGEST_LOOP) (nomark _)) (pss_cons (ps_set (i := 3) sc_row_of.nd rfl (.inl rfl) (pe_op op_fdivW (pv 2) pe_int)) (pss_one (ps_ret (pe_op op_addQ (pe_cal c_row_of (hr.mono (by omega)) (by rfl) (pa_cons (pv 0) (pa_cons (pe_cal c_low_part (hr.mono (by omega)) (by rfl) (pa_cons (pv 0) (pa_cons (pv 1) (pa_cons (pv 3) pa_nil)))) (pa_cons (pv 3) pa_nil)))) (pe_cal c_row_of (hr.mono (by omega)) (by rfl) (pa_cons (pv 0) (pa_cons (pe_op op_shr (pv 1) (pe_op op_mulQ (pv 3) (pv 0))) (pa_cons (pe_op op_sub (pv 2) (pv 3)) pa_nil)))))))) pss_nil) (pss_cons (ps_set (i := 4) sc_row_of.nd rfl (.inl rfl) (pe_cal c_top_digit (hr.mono (by omega)) (by rfl) (pa_cons (pv 0) pa_nil))) (pss_cons (ps_set (i := 5) sc_row_of.nd rfl (.inl rfl) (pe_lst pa_nil)) (pss_cons (ps_for PassesOwn.never rfl (pi_range1 rfl z_range (pa_cons (pv 2) pa_nil)) (pg_name (i := 6) sc_row_of.nd rfl (.inl rfl)) (pss_cons (ps_expr (pe_bm PySem.F.plainAttrs_list PySem.F.slot_list_append PySem.F.type_list_append mt_append (pv 5) (pa_cons (pe_op op_and (pv 1) (pv 4)) pa_nil))) (pss_one (ps_aug (i := 1) sc_row_of.nd rfl (.inl rfl) (pv 0) (ip_of iop_shr))))) (pss_one (ps_ret (pv 5))))))), fun D hrt hnx => ?_⟩
  have ok : Okk Ω [] := okk0
  suffices hx : XS _ D F0 [some (va T x0), some (va T x1), some (va T x2), none, none, none, none] (stt Ω [] []) by
    rw [show (stt Ω [] []) = Ω from stt_self (by simp)] at hx
    exact hx
  rw [M_row_of_succ] at hm
  by_cases hc : (decide ((32 : Int) < x2)) = true
  · rw [if_pos hc] at hm
    refine xs_ifT (xt_eq (xt_test (T := T) (xe_gt (xe_var (i := 2) rfl) xe_int)) hc) ?_
    obtain ⟨z1, hz1, hm⟩ := bnd_some hm
    obtain ⟨y2, hy2, hm⟩ := bnd_some hm
    refine xs_set (A := va T y2) (xe_eq (xe_fdiv (chkP_some hz1) (xe_var (i := 2) rfl) xe_int) (Option.some.inj hy2)) ?_
    show XS (tRet _) _ _ [some (va T x0), some (va T x1), some (va T x2), some (va T y2), none, none, none] (stt Ω [] [])
    obtain ⟨z3, hz3, hm⟩ := bnd_some hm
    obtain ⟨z4, hz4, hm⟩ := bnd_some hm
    obtain ⟨z5, hz5, hm⟩ := bnd_some hm
    obtain ⟨z6, hz6, hm⟩ := bnd_some hm
    obtain ⟨z7, hz7, hm⟩ := bnd_some hm
    obtain ⟨z8, hz8, hm⟩ := bnd_some hm
    obtain rfl := Option.some.inj hm
    refine xs_ret (xe_cat (xe_call (xa_cons (xe_var (i := 0) rfl) (xa_cons (xe_call (xa_cons (xe_var (i := 0) rfl) (xa_cons (xe_var (i := 1) rfl) (xa_cons (xe_var (i := 3) rfl) xa_nil))) ⟨x0, x1, y2, z3, rfl, hz3, rfl⟩ cal0) (xa_cons (xe_var (i := 3) rfl) xa_nil))) ⟨x0, z3, y2, z4, rfl, hz4, rfl⟩ cal0) (xe_call (xa_cons (xe_var (i := 0) rfl) (xa_cons (xe_shr (chkP_some hz6) (xe_var (i := 1) rfl) (xe_mul (chkP_some hz5) (xe_var (i := 3) rfl) (xe_var (i := 0) rfl))) (xa_cons (xe_sub (xe_var (i := 2) rfl) (xe_var (i := 3) rfl)) xa_nil))) ⟨x0, (x1 / 2 ^ ((y2 * x0)).toNat), (x2 - y2), z7, rfl, hz7, rfl⟩ cal0) isLs_LF isLs_LF (chkP_some hz8)) hrt.all
  · rw [if_neg hc] at hm
    refine xs_ifN (xt_eq (xt_test (T := T) (xe_gt (xe_var (i := 2) rfl) xe_int)) (nt hc)) ?_
    show XS (tSeq _ _) _ _ [some (va T x0), some (va T x1), some (va T x2), none, none, none, none] (stt Ω [] [])
    obtain ⟨z9, hz9, hm⟩ := bnd_some hm
    refine xs_set (A := va T z9) (xe_call (xa_cons (xe_var (i := 0) rfl) xa_nil) ⟨x0, z9, rfl, hz9, rfl⟩ cal0) ?_
    show XS (tSeq _ _) _ _ [some (va T x0), some (va T x1), some (va T x2), none, some (va T z9), none, none] (stt Ω [] [])
    obtain ⟨y10, hy10, hm⟩ := bnd_some hm
    obtain rfl := Option.some.inj hy10
    refine xs_setO ((xn_lst (T := T) (l := ([] : List Int)) xa_nil (Nat.zero_le _))) (fun pp11 => ?_)
    show XS (tSeq _ _) _ _ [some (va T x0), some (va T x1), some (va T x2), none, some (va T z9), some (vr pp11), none] (stt Ω [] [lstA T pp11 (([] : List Int) : List Int)])
    obtain ⟨z13, hz13, hm⟩ := bnd_some hm
    obtain ⟨z19, hz19, hm⟩ := bnd_some hm
    refine xs_forS (fun (s14 : Int × (List Int)) => [some (va T x0), some (va T s14.1), some (va T x2), none, some (va T z9), some (vr pp11), none]) (fun (s14 : Int × (List Int)) => (stt Ω [] [lstA T pp11 (s14.2 : List Int)])) (fun (_ : Unit) _ _ _ => False) hz19 (xi_range1 (T := T) (xa_cons (xe_var (i := 2) rfl) xa_nil) (chkP_some hz13).1 (chkP_some hz13).2) (fun _ => tgt_name) (fun a15 s14 s' ha hm F1 D1 e1 hD => ?_) (fun s20 es => ?_) (fun r1 es => ?_)
    · show XS (tSeq _ _) _ _ [some (va T x0), some (va T s14.1), some (va T x2), none, some (va T z9), some (vr pp11), some (va T a15)] (stt Ω [] [lstA T pp11 (s14.2 : List Int)])
      obtain ⟨z16, hz16, hm⟩ := bnd_some hm
      refine xs_drop (xe_appE (stt_getL (j := 0) rfl) (stt_getL (j := 0) rfl) (xe_var (i := 5) rfl) (xe_band (xe_var (i := 1) rfl) (xe_var (i := 4) rfl)) (chkP_some hz16) (stt_setL (j := 0))) ?_
      show XS (tAug _ _ _) _ _ [some (va T x0), some (va T s14.1), some (va T x2), none, some (va T z9), some (vr pp11), some (va T a15)] (stt Ω [] [lstA T pp11 ((s14.2 ++ [(Builtin.bitAnd s14.1 z9)]) : List Int)])
      obtain ⟨z17, hz17, hm⟩ := bnd_some hm
      obtain ⟨y18, hy18, hm⟩ := bnd_some hm
      refine xs_augD1 (T := T) rfl (chkP_some hz17) (xe_var (i := 0) rfl) (Option.some.inj hy18) ?_
      obtain rfl := Option.some.inj hm
      exact fun σ H n => hD.nx _ rfl σ H (n.forget 6)
    · subst es
      obtain ⟨s2, hs2, hm⟩ := bnd_some hm
      cases hs2
      show XS (tRet _) _ _ [some (va T x0), some (va T s20.1), some (va T x2), none, some (va T z9), some (vr pp11), none] (stt Ω [] [lstA T pp11 (s20.2 : List Int)])
      obtain rfl := Option.some.inj hm
      refine xs_fzJ (k := 5) (j := 0) rfl rfl ?_
      show XS _ _ _ [some (va T x0), some (va T s20.1), some (va T x2), none, some (va T z9), some (va T (LF.mk s20.2)), none] (stt Ω [] [nilA])
      exact xs_ret (xe_var (i := 5) rfl) hrt.all
    · subst es
      cases hm
noncomputable def M_last_difference (x0 : MS) (x1 : Int) (x2 : Int) : Option (Int × MS) :=
  (M_size_of x0.w x1).bind fun z1 => (M_size_of x0.w (Builtin.bitXor x1 x2)).bind fun z2 => (some (z2 - (1 : Int))).bind fun y3 => (chkP (("looked" : Str) ∈ mwords)).bind fun z4 => some (y3, (x0.step ("looked" : Str) (z1 - (max y3 (0 : Int)))))
def Pre_last_difference (T : TC) : PreT := fun As Ω R => ∃ (k0 : Nat) (p0 : Addr) (x0 : MS) (x1 : Int) (x2 : Int) (r : Int × MS), As = [vr p0, va T x1, va T x2] ∧ Ω[k0]? = some (machA T p0 x0) ∧ M_last_difference x0 x1 x2 = some r ∧ R = RV (va T r.1) (stt Ω [(k0, machA T p0 r.2)] [])
theorem sc_last_difference : FnScope ["machine", "a", "b", "size", "place"] ["machine", "a", "b"] (defScope s_last_difference) := ⟨rfl, rfl, rfl, by decide +kernel, rfl, by decide +kernel, by decide +kernel⟩
theorem ok_last_difference {f : Addr} {fd : FuncData} (F : Fun T.K "last_difference" "last_difference" s_last_difference f fd) (mc : MCls T.K (T.C 0)) (c_size_of : Cal P w T.K mg base 2 "size_of" ["width", "n"] (mkSp (Pre_size_of T))) (z_max : mg "max" = none) (c_Mach_step : CalM P w T.K mg base 1 (T.C 0) "step" ["self", "word", "many"] (mkSp (Pre_Mach_step T))) : FnOk P w T.K mg base CX0 3 f fd ["machine", "a", "b"] (mkSp (Pre_last_difference T)) := by
  refine fn_ok F sc_last_difference (fun As Ω R h => ?_) (fun cdv A outer s H E hr As Ω R F0 h => ?_)
  · obtain ⟨k0, p0, x0, x1, x2, r, rfl, _⟩ := h
    rfl
  obtain ⟨k0, p0, x0, x1, x2, r, rfl, hk0, hm, rfl⟩ := h
  refine ⟨_, (pss_cons (ps_set (i := 3) sc_last_difference.nd rfl (.inl rfl) (pe_cal c_size_of (hr.mono (by decide)) (by rfl) (pa_cons (pe_fldK (K := T.K) (pv 0) (by rfl) rfl) (pa_cons (pv 1) pa_nil)))) (pss_cons (ps_set (i := 4) sc_last_difference.nd rfl (.inl rfl) (pe_op op_sub (pe_cal c_size_of (hr.mono (by decide)) (by rfl) (pa_cons (pe_fldK (K := T.K) (pv 0) (by rfl) rfl) (pa_cons (pe_op op_xor (pv 1) (pv 2)) pa_nil))) pe_int)) (pss_cons (ps_expr (pe_calM (pv 0) c_Mach_step (hr.mono (by decide)) (pa_cons pe_str (pa_cons (pe_op op_sub (pv 3) (pe_callB (cr_max2 rfl) (by rfl) z_max (by decide +kernel) (pa_cons (pv 4) (pa_cons pe_int pa_nil)))) pa_nil)))) (pss_one (ps_ret (pv 4)))))), fun D hrt hnx => ?_⟩
  have ok := okk1 hk0
  suffices hx : XS _ D F0 [some (vr p0), some (va T x1), some (va T x2), none, none] (stt Ω [(k0, machA T p0 x0)] []) by
    rw [show (stt Ω [(k0, machA T p0 x0)] []) = Ω from stt_self (by simp [hk0])] at hx
    exact hx
  unfold M_last_difference at hm
  obtain ⟨z1, hz1, hm⟩ := bnd_some hm
  refine xs_set (A := va T z1) (xe_call (xa_cons (xe_mw mc.cl mc.nw (xe_var (i := 0) rfl) (stt_get ok (i := 0) rfl)) (xa_cons (xe_var (i := 1) rfl) xa_nil)) ⟨x0.w, x1, z1, rfl, hz1, rfl⟩ cal0) ?_
  show XS (tSeq _ _) _ _ [some (vr p0), some (va T x1), some (va T x2), some (va T z1), none] (stt Ω [(k0, machA T p0 x0)] [])
  obtain ⟨z2, hz2, hm⟩ := bnd_some hm
  obtain ⟨y3, hy3, hm⟩ := bnd_some hm
  refine xs_set (A := va T y3) (xe_eq (xe_sub (xe_call (xa_cons (xe_mw mc.cl mc.nw (xe_var (i := 0) rfl) (stt_get ok (i := 0) rfl)) (xa_cons (xe_bxor (xe_var (i := 1) rfl) (xe_var (i := 2) rfl)) xa_nil)) ⟨x0.w, (Builtin.bitXor x1 x2), z2, rfl, hz2, rfl⟩ cal0) xe_int) (Option.some.inj hy3)) ?_
  show XS (tSeq _ _) _ _ [some (vr p0), some (va T x1), some (va T x2), some (va T z1), some (va T y3)] (stt Ω [(k0, machA T p0 x0)] [])
  obtain ⟨z4, hz4, hm⟩ := bnd_some hm
  refine xs_drop (xe_mcall (xe_var (i := 0) rfl) (stt_get ok (i := 0) rfl) (xa_cons xe_str (xa_cons (xe_sub (xe_var (i := 3) rfl) (xe_max2 (xe_var (i := 4) rfl) xe_int)) xa_nil)) ⟨k0, p0, x0, ("looked" : Str), (z1 - (max y3 (0 : Int))), rfl, (stt_get ok (i := 0) rfl), chkP_some hz4, rfl⟩ (cal1 ok (i := 0) rfl)) ?_
  show XS (tRet _) _ _ [some (vr p0), some (va T x1), some (va T x2), some (va T z1), some (va T y3)] (stt Ω [(k0, machA T p0 (x0.step ("looked" : Str) (z1 - (max y3 (0 : Int)))))] [])
  obtain rfl := Option.some.inj hm
  refine xs_ret (xe_var (i := 4) rfl) hrt.all
noncomputable def M_check_big (x0 : Bg) (x1 : Str) : Option Unit :=
  (chkP (true = true)).bind fun z1 => some ()
def Pre_check_big (T : TC) : PreT := fun As Ω R => ∃ (x0 : Bg) (x1 : Str) (r : Unit), As = [va T x0, va T x1] ∧ M_check_big x0 x1 = some r ∧ R = RV (va T r) (stt Ω [] [])
theorem sc_check_big : FnScope ["value", "name"] ["value", "name"] (defScope s_check_big) := ⟨rfl, rfl, rfl, by decide +kernel, rfl, by decide +kernel, by decide +kernel⟩
theorem ok_check_big {f : Addr} {fd : FuncData} (F : Fun T.K "check_big" "check_big" s_check_big f fd) (z_isinstance : mg "isinstance" = none) (icb : ICls T.K (T.C 1)) (g_Big : ∃ u, mg "Big" = some u ∧ RelV (.ref (T.C 1)) u) : FnOk P w T.K mg base CX0 1 f fd ["value", "name"] (mkSp (Pre_check_big T)) := by
  refine fn_ok F sc_check_big (fun As Ω R h => ?_) (fun cdv A outer s H E hr As Ω R F0 h => ?_)
  · obtain ⟨x0, x1, r, rfl, _⟩ := h
    rfl
  obtain ⟨x0, x1, r, rfl, hm, rfl⟩ := h
  refine ⟨_, (pss_one (ps_if (pt_not (pt_val (pe_callB (cr_isiK (K := T.K) rfl) (by rfl) z_isinstance (by decide +kernel) (pa_cons (pv 0) (pa_cons (pe_gl rfl g_Big) pa_nil))))) pss_never pss_nil)), fun D hrt hnx => ?_⟩
  have ok : Okk Ω [] := okk0
  suffices hx : XS _ D F0 [some (va T x0), some (va T x1)] (stt Ω [] []) by
    rw [show (stt Ω [] []) = Ω from stt_self (by simp)] at hx
    exact hx
  unfold M_check_big at hm
  obtain ⟨z1, hz1, hm⟩ := bnd_some hm
  refine xs_ifF1 (xt_notF (xt_eq (xt_tB (T := T) (xe_isi (xe_var (i := 0) rfl) xe_vx (.own _) (fun F H v hh a => ty_big icb hh a) icb.kit)) (chkP_some hz1))) ?_
  obtain rfl := Option.some.inj hm
  exact fun σ H ⟨F, f0, e, hh⟩ => hnx F σ H _ f0 hh.all ⟨rfl, rfl⟩
noncomputable def M_check_fit (x0 : MS) (x1 : Bg) (x2 : Str) : Option Unit :=
  (M_check_big x1 x2).bind fun z1 => (chkP (x1.w = x0.w)).bind fun z2 => some ()
def Pre_check_fit (T : TC) : PreT := fun As Ω R => ∃ (k0 : Nat) (p0 : Addr) (x0 : MS) (x1 : Bg) (x2 : Str) (r : Unit), As = [vr p0, va T x1, va T x2] ∧ Ω[k0]? = some (machA T p0 x0) ∧ M_check_fit x0 x1 x2 = some r ∧ R = RV (va T r) (stt Ω [] [])
theorem sc_check_fit : FnScope ["machine", "value", "name"] ["machine", "value", "name"] (defScope s_check_fit) := ⟨rfl, rfl, rfl, by decide +kernel, rfl, by decide +kernel, by decide +kernel⟩
theorem ok_check_fit {f : Addr} {fd : FuncData} (F : Fun T.K "check_fit" "check_fit" s_check_fit f fd) (c_check_big : Cal P w T.K mg base 1 "check_big" ["value", "name"] (mkSp (Pre_check_big T))) (bc : BCls T.K (T.C 1)) (mc : MCls T.K (T.C 0)) : FnOk P w T.K mg base CX0 2 f fd ["machine", "value", "name"] (mkSp (Pre_check_fit T)) := by
  refine fn_ok F sc_check_fit (fun As Ω R h => ?_) (fun cdv A outer s H E hr As Ω R F0 h => ?_)
  · obtain ⟨k0, p0, x0, x1, x2, r, rfl, _⟩ := h
    rfl
  obtain ⟨k0, p0, x0, x1, x2, r, rfl, hk0, hm, rfl⟩ := h
  refine ⟨_, (pss_cons (ps_expr (pe_cal c_check_big (hr.mono (by decide)) (by rfl) (pa_cons (pv 1) (pa_cons (pv 2) pa_nil)))) (pss_one (ps_if (pt_cmpR (op_neXK (K := T.K) (by exact hr.units) rfl) (pe_fldK (K := T.K) (pv 1) (by rfl) rfl) (pe_fldK (K := T.K) (pv 0) (by rfl) rfl) (nomark _)) pss_never pss_nil))), fun D hrt hnx => ?_⟩
  have ok : Okk Ω [] := okk0
  suffices hx : XS _ D F0 [some (vr p0), some (va T x1), some (va T x2)] (stt Ω [] []) by
    rw [show (stt Ω [] []) = Ω from stt_self (by simp)] at hx
    exact hx
  unfold M_check_fit at hm
  obtain ⟨z1, hz1, hm⟩ := bnd_some hm
  refine xs_drop (xe_call (xa_cons (xe_var (i := 1) rfl) (xa_cons (xe_var (i := 2) rfl) xa_nil)) ⟨x1, x2, z1, rfl, hz1, rfl⟩ cal0) ?_
  show XS (tIfS _ _ _) _ _ [some (vr p0), some (va T x1), some (va T x2)] (stt Ω [] [])
  obtain ⟨z2, hz2, hm⟩ := bnd_some hm
  refine xs_ifF1 (xt_test (T := T) (xe_eq (xe_neI (xe_bw bc.cl bc.nw (xe_var (i := 1) rfl)) (xe_mw mc.cl mc.nw (xe_var (i := 0) rfl) (stt_getU hk0))) (neK_ (chkP_some hz2)))) ?_
  obtain rfl := Option.some.inj hm
  exact fun σ H ⟨F, f0, e, hh⟩ => hnx F σ H _ f0 hh.all ⟨rfl, rfl⟩
noncomputable def M_check_one (x0 : MS) (x1 : Bg) : Option Unit :=
  (M_check_machine x0).bind fun z1 => (M_check_fit x0 x1 ("x" : Str)).bind fun z2 => some ()
def Pre_check_one (T : TC) : PreT := fun As Ω R => ∃ (k0 : Nat) (p0 : Addr) (x0 : MS) (x1 : Bg) (r : Unit), As = [vr p0, va T x1] ∧ Ω[k0]? = some (machA T p0 x0) ∧ M_check_one x0 x1 = some r ∧ R = RV (va T r) (stt Ω [] [])
theorem sc_check_one : FnScope ["machine", "x"] ["machine", "x"] (defScope s_check_one) := ⟨rfl, rfl, rfl, by decide +kernel, rfl, by decide +kernel, by decide +kernel⟩
theorem ok_check_one {f : Addr} {fd : FuncData} (F : Fun T.K "check_one" "check_one" s_check_one f fd) (c_check_machine : Cal P w T.K mg base 1 "check_machine" ["machine"] (mkSp (Pre_check_machine T))) (c_check_fit : Cal P w T.K mg base 2 "check_fit" ["machine", "value", "name"] (mkSp (Pre_check_fit T))) : FnOk P w T.K mg base CX0 3 f fd ["machine", "x"] (mkSp (Pre_check_one T)) := by
  refine fn_ok F sc_check_one (fun As Ω R h => ?_) (fun cdv A outer s H E hr As Ω R F0 h => ?_)
  · obtain ⟨k0, p0, x0, x1, r, rfl, _⟩ := h
    rfl
  obtain ⟨k0, p0, x0, x1, r, rfl, hk0, hm, rfl⟩ := h
  refine ⟨_, (pss_cons (ps_expr (pe_cal c_check_machine (hr.mono (by decide)) (by rfl) (pa_cons (pv 0) pa_nil))) (pss_one (ps_expr (pe_cal c_check_fit (hr.mono (by decide)) (by rfl) (pa_cons (pv 0) (pa_cons (pv 1) (pa_cons pe_str pa_nil))))))), fun D hrt hnx => ?_⟩
  have ok : Okk Ω [] := okk0
  suffices hx : XS _ D F0 [some (vr p0), some (va T x1)] (stt Ω [] []) by
    rw [show (stt Ω [] []) = Ω from stt_self (by simp)] at hx
    exact hx
  unfold M_check_one at hm
  obtain ⟨z1, hz1, hm⟩ := bnd_some hm
  refine xs_drop (xe_call (xa_cons (xe_var (i := 0) rfl) xa_nil) ⟨k0, p0, x0, z1, rfl, (stt_getU hk0), hz1, rfl⟩ cal0) ?_
  show XS (tDrop _) _ _ [some (vr p0), some (va T x1)] (stt Ω [] [])
  obtain ⟨z2, hz2, hm⟩ := bnd_some hm
  refine xs_drop1 (xe_call (xa_cons (xe_var (i := 0) rfl) (xa_cons (xe_var (i := 1) rfl) (xa_cons xe_str xa_nil))) ⟨k0, p0, x0, x1, ("x" : Str), z2, rfl, (stt_getU hk0), hz2, rfl⟩ cal0) ?_
  obtain rfl := Option.some.inj hm
  exact fun σ H ⟨F, f0, e, hh⟩ => hnx F σ H _ f0 hh.all ⟨rfl, rfl⟩
noncomputable def M_check_two (x0 : MS) (x1 : Bg) (x2 : Bg) : Option Unit :=
  (M_check_one x0 x1).bind fun z1 => (M_check_fit x0 x2 ("y" : Str)).bind fun z2 => some ()
def Pre_check_two (T : TC) : PreT := fun As Ω R => ∃ (k0 : Nat) (p0 : Addr) (x0 : MS) (x1 : Bg) (x2 : Bg) (r : Unit), As = [vr p0, va T x1, va T x2] ∧ Ω[k0]? = some (machA T p0 x0) ∧ M_check_two x0 x1 x2 = some r ∧ R = RV (va T r) (stt Ω [] [])
theorem sc_check_two : FnScope ["machine", "x", "y"] ["machine", "x", "y"] (defScope s_check_two) := ⟨rfl, rfl, rfl, by decide +kernel, rfl, by decide +kernel, by decide +kernel⟩
theorem ok_check_two {f : Addr} {fd : FuncData} (F : Fun T.K "check_two" "check_two" s_check_two f fd) (c_check_one : Cal P w T.K mg base 3 "check_one" ["machine", "x"] (mkSp (Pre_check_one T))) (c_check_fit : Cal P w T.K mg base 2 "check_fit" ["machine", "value", "name"] (mkSp (Pre_check_fit T))) : FnOk P w T.K mg base CX0 4 f fd ["machine", "x", "y"] (mkSp (Pre_check_two T)) := by
  refine fn_ok F sc_check_two (fun As Ω R h => ?_) (fun cdv A outer s H E hr As Ω R F0 h => ?_)
  · obtain ⟨k0, p0, x0, x1, x2, r, rfl, _⟩ := h
    rfl
  obtain ⟨k0, p0, x0, x1, x2, r, rfl, hk0, hm, rfl⟩ := h
  refine ⟨_, (pss_cons (ps_expr (pe_cal c_check_one (hr.mono (by decide)) (by rfl) (pa_cons (pv 0) (pa_cons (pv 1) pa_nil)))) (pss_one (ps_expr (pe_cal c_check_fit (hr.mono (by decide)) (by rfl) (pa_cons (pv 0) (pa_cons (pv 2) (pa_cons pe_str pa_nil))))))), fun D hrt hnx => ?_⟩
  have ok : Okk Ω [] := okk0
  suffices hx : XS _ D F0 [some (vr p0), some (va T x1), some (va T x2)] (stt Ω [] []) by
    rw [show (stt Ω [] []) = Ω from stt_self (by simp)] at hx
    exact hx
  unfold M_check_two at hm
  obtain ⟨z1, hz1, hm⟩ := bnd_some hm
  refine xs_drop (xe_call (xa_cons (xe_var (i := 0) rfl) (xa_cons (xe_var (i := 1) rfl) xa_nil)) ⟨k0, p0, x0, x1, z1, rfl, (stt_getU hk0), hz1, rfl⟩ cal0) ?_
  show XS (tDrop _) _ _ [some (vr p0), some (va T x1), some (va T x2)] (stt Ω [] [])
  obtain ⟨z2, hz2, hm⟩ := bnd_some hm
  refine xs_drop1 (xe_call (xa_cons (xe_var (i := 0) rfl) (xa_cons (xe_var (i := 2) rfl) (xa_cons xe_str xa_nil))) ⟨k0, p0, x0, x2, ("y" : Str), z2, rfl, (stt_getU hk0), hz2, rfl⟩ cal0) ?_
  obtain rfl := Option.some.inj hm
  exact fun σ H ⟨F, f0, e, hh⟩ => hnx F σ H _ f0 hh.all ⟨rfl, rfl⟩
noncomputable def M_big_of (x0 : MS) (x1 : Int) : Option Bg :=
  (M_size_of x0.w x1).bind fun z1 => (M_row_of 20 x0.w ((x1.natAbs : Nat) : Int) z1).bind fun z2 => some (Bg.mk x0.w z2 x1)
def Pre_big_of (T : TC) : PreT := fun As Ω R => ∃ (k0 : Nat) (p0 : Addr) (x0 : MS) (x1 : Int) (r : Bg), As = [vr p0, va T x1] ∧ Ω[k0]? = some (machA T p0 x0) ∧ M_big_of x0 x1 = some r ∧ R = RV (va T r) (stt Ω [] [])
theorem sc_big_of : FnScope ["machine", "value"] ["machine", "value"] (defScope s_big_of) := ⟨rfl, rfl, rfl, by decide +kernel, rfl, by decide +kernel, by decide +kernel⟩
theorem ok_big_of {f : Addr} {fd : FuncData} (F : Fun T.K "big_of" "big_of" s_big_of f fd) (mc : MCls T.K (T.C 0)) (z_abs : mg "abs" = none) (c_size_of : Cal P w T.K mg base 2 "size_of" ["width", "n"] (mkSp (Pre_size_of T))) (c_row_of : Cal P w T.K mg base 21 "row_of" ["width", "n", "size"] (mkSp (Pre_row_of 20 T))) (c_Big : CalC P w T.K mg base 2 "Big" (T.C 1) ["self", "width", "value", "row"] [] (mkSp (Pre_Big T))) : FnOk P w T.K mg base CX0 22 f fd ["machine", "value"] (mkSp (Pre_big_of T)) := by
  refine fn_ok F sc_big_of (fun As Ω R h => ?_) (fun cdv A outer s H E hr As Ω R F0 h => ?_)
  · obtain ⟨k0, p0, x0, x1, r, rfl, _⟩ := h
    rfl
  obtain ⟨k0, p0, x0, x1, r, rfl, hk0, hm, rfl⟩ := h
  refine ⟨_, (pss_one (ps_ret (pe_calC c_Big (hr.mono (by decide)) (by rfl) (pa_cons (pe_fldK (K := T.K) (pv 0) (by rfl) rfl) (pa_cons (pv 1) (pa_cons (pe_cal c_row_of (hr.mono (by decide)) (by rfl) (pa_cons (pe_fldK (K := T.K) (pv 0) (by rfl) rfl) (pa_cons (pe_callB cr_abs (by rfl) z_abs (by decide +kernel) (pa_cons (pv 1) pa_nil)) (pa_cons (pe_cal c_size_of (hr.mono (by decide)) (by rfl) (pa_cons (pe_fldK (K := T.K) (pv 0) (by rfl) rfl) (pa_cons (pv 1) pa_nil))) pa_nil)))) pa_nil)))))), fun D hrt hnx => ?_⟩
  have ok : Okk Ω [] := okk0
  suffices hx : XS _ D F0 [some (vr p0), some (va T x1)] (stt Ω [] []) by
    rw [show (stt Ω [] []) = Ω from stt_self (by simp)] at hx
    exact hx
  unfold M_big_of at hm
  obtain ⟨z1, hz1, hm⟩ := bnd_some hm
  obtain ⟨z2, hz2, hm⟩ := bnd_some hm
  obtain rfl := Option.some.inj hm
  refine xs_ret (xe_fzB (xn_make (Ds := []) (xa_cons (xe_mw mc.cl mc.nw (xe_var (i := 0) rfl) (stt_getU hk0)) (xa_cons (xe_var (i := 1) rfl) (xa_cons (xe_call (xa_cons (xe_mw mc.cl mc.nw (xe_var (i := 0) rfl) (stt_getU hk0)) (xa_cons (xe_abs (xe_var (i := 1) rfl)) (xa_cons (xe_call (xa_cons (xe_mw mc.cl mc.nw (xe_var (i := 0) rfl) (stt_getU hk0)) (xa_cons (xe_var (i := 1) rfl) xa_nil)) ⟨x0.w, x1, z1, rfl, hz1, rfl⟩ cal0) xa_nil))) ⟨x0.w, ((x1.natAbs : Nat) : Int), z1, z2, rfl, hz2, rfl⟩ cal0) xa_nil))) (fun _ => .nil) (fun q => ⟨_, q, x0.w, x1, z2, _, .inl rfl, rfl, rfl, rfl⟩))) hrt.all
noncomputable def M_are_compact (x0 : MS) (x1 : Int) (x2 : Int) : Option Bool :=
  some ((decide (((Builtin.Int.intBits x1 : Nat) : Int) ≤ x0.w)) && (decide (((Builtin.Int.intBits x2 : Nat) : Int) ≤ x0.w)))
def Pre_are_compact (T : TC) : PreT := fun As Ω R => ∃ (k0 : Nat) (p0 : Addr) (x0 : MS) (x1 : Int) (x2 : Int) (r : Bool), As = [vr p0, va T x1, va T x2] ∧ Ω[k0]? = some (machA T p0 x0) ∧ M_are_compact x0 x1 x2 = some r ∧ R = RV (va T r) (stt Ω [] [])
theorem sc_are_compact : FnScope ["machine", "x", "y"] ["machine", "x", "y"] (defScope s_are_compact) := ⟨rfl, rfl, rfl, by decide +kernel, rfl, by decide +kernel, by decide +kernel⟩
theorem ok_are_compact {f : Addr} {fd : FuncData} (F : Fun T.K "are_compact" "are_compact" s_are_compact f fd) (mc : MCls T.K (T.C 0)) : FnOk P w T.K mg base CX0 2 f fd ["machine", "x", "y"] (mkSp (Pre_are_compact T)) := by
  refine fn_ok F sc_are_compact (fun As Ω R h => ?_) (fun cdv A outer s H E hr As Ω R F0 h => ?_)
  · obtain ⟨k0, p0, x0, x1, x2, r, rfl, _⟩ := h
    rfl
  obtain ⟨k0, p0, x0, x1, x2, r, rfl, hk0, hm, rfl⟩ := h
  refine ⟨_, (pss_one (ps_ret (pe_and (pe_cmpR op_le (pe_bits (pv 1)) (pe_fldK (K := T.K) (pv 0) (by rfl) rfl) (nomark _)) (pe_one (pe_cmpR op_le (pe_bits (pv 2)) (pe_fldK (K := T.K) (pv 0) (by rfl) rfl) (nomark _)))))), fun D hrt hnx => ?_⟩
  have ok : Okk Ω [] := okk0
  suffices hx : XS _ D F0 [some (vr p0), some (va T x1), some (va T x2)] (stt Ω [] []) by
    rw [show (stt Ω [] []) = Ω from stt_self (by simp)] at hx
    exact hx
  unfold M_are_compact at hm
  obtain rfl := Option.some.inj hm
  refine xs_ret (xe_andV (xe_le (xe_bits (xe_var (i := 1) rfl)) (xe_mw mc.cl mc.nw (xe_var (i := 0) rfl) (stt_getU hk0))) (fun _ => (xe_le (xe_bits (xe_var (i := 2) rfl)) (xe_mw mc.cl mc.nw (xe_var (i := 0) rfl) (stt_getU hk0))))) hrt.all
noncomputable def M_big (x0 : MS) (x1 : Int) : Option Bg :=
  (M_check_machine x0).bind fun z1 => (M_is_integer x1).bind fun z2 => (chkP (z2 = true)).bind fun z3 => (M_big_of x0 x1).bind fun z4 => some z4
def Pre_big (T : TC) : PreT := fun As Ω R => ∃ (k0 : Nat) (p0 : Addr) (x0 : MS) (x1 : Int) (r : Bg), As = [vr p0, va T x1] ∧ Ω[k0]? = some (machA T p0 x0) ∧ M_big x0 x1 = some r ∧ R = RV (va T r) (stt Ω [] [])
theorem sc_big : FnScope ["machine", "n"] ["machine", "n"] (defScope s_big) := ⟨rfl, rfl, rfl, by decide +kernel, rfl, by decide +kernel, by decide +kernel⟩
theorem ok_big {f : Addr} {fd : FuncData} (F : Fun T.K "big" "big" s_big f fd) (c_check_machine : Cal P w T.K mg base 1 "check_machine" ["machine"] (mkSp (Pre_check_machine T))) (c_is_integer : Cal P w T.K mg base 1 "is_integer" ["value"] (mkSp (Pre_is_integer T))) (c_big_of : Cal P w T.K mg base 22 "big_of" ["machine", "value"] (mkSp (Pre_big_of T))) : FnOk P w T.K mg base CX0 23 f fd ["machine", "n"] (mkSp (Pre_big T)) := by
  refine fn_ok F sc_big (fun As Ω R h => ?_) (fun cdv A outer s H E hr As Ω R F0 h => ?_)
  · obtain ⟨k0, p0, x0, x1, r, rfl, _⟩ := h
    rfl
  obtain ⟨k0, p0, x0, x1, r, rfl, hk0, hm, rfl⟩ := h
  refine ⟨_, (pss_cons (ps_expr (pe_cal c_check_machine (hr.mono (by decide)) (by rfl) (pa_cons (pv 0) pa_nil))) (pss_cons (ps_if (pt_not (pt_val (pe_cal c_is_integer (hr.mono (by decide)) (by rfl) (pa_cons (pv 1) pa_nil)))) pss_never pss_nil) (pss_one (ps_ret (pe_cal c_big_of (hr.mono (by decide)) (by rfl) (pa_cons (pv 0) (pa_cons (pv 1) pa_nil))))))), fun D hrt hnx => ?_⟩
  have ok : Okk Ω [] := okk0
  suffices hx : XS _ D F0 [some (vr p0), some (va T x1)] (stt Ω [] []) by
    rw [show (stt Ω [] []) = Ω from stt_self (by simp)] at hx
    exact hx
  unfold M_big at hm
  obtain ⟨z1, hz1, hm⟩ := bnd_some hm
  refine xs_drop (xe_call (xa_cons (xe_var (i := 0) rfl) xa_nil) ⟨k0, p0, x0, z1, rfl, (stt_getU hk0), hz1, rfl⟩ cal0) ?_
  show XS (tSeq _ _) _ _ [some (vr p0), some (va T x1)] (stt Ω [] [])
  obtain ⟨z2, hz2, hm⟩ := bnd_some hm
  obtain ⟨z3, hz3, hm⟩ := bnd_some hm
  refine xs_ifN (xt_notF (xt_eq (xt_tB (T := T) (xe_call (xa_cons (xe_var (i := 1) rfl) xa_nil) ⟨x1, z2, rfl, hz2, rfl⟩ cal0)) (chkP_some hz3))) ?_
  show XS (tRet _) _ _ [some (vr p0), some (va T x1)] (stt Ω [] [])
  obtain ⟨z4, hz4, hm⟩ := bnd_some hm
  obtain rfl := Option.some.inj hm
  refine xs_ret (xe_call (xa_cons (xe_var (i := 0) rfl) (xa_cons (xe_var (i := 1) rfl) xa_nil)) ⟨k0, p0, x0, x1, z4, rfl, (stt_getU hk0), hz4, rfl⟩ cal0) hrt.all
noncomputable def M_plain (x0 : Bg) : Option Int :=
  (M_check_big x0 ("x" : Str)).bind fun z1 => some x0.v
def Pre_plain (T : TC) : PreT := fun As Ω R => ∃ (x0 : Bg) (r : Int), As = [va T x0] ∧ M_plain x0 = some r ∧ R = RV (va T r) (stt Ω [] [])
theorem sc_plain : FnScope ["x"] ["x"] (defScope s_plain) := ⟨rfl, rfl, rfl, by decide +kernel, rfl, by decide +kernel, by decide +kernel⟩
theorem ok_plain {f : Addr} {fd : FuncData} (F : Fun T.K "plain" "plain" s_plain f fd) (c_check_big : Cal P w T.K mg base 1 "check_big" ["value", "name"] (mkSp (Pre_check_big T))) (bc : BCls T.K (T.C 1)) : FnOk P w T.K mg base CX0 2 f fd ["x"] (mkSp (Pre_plain T)) := by
  refine fn_ok F sc_plain (fun As Ω R h => ?_) (fun cdv A outer s H E hr As Ω R F0 h => ?_)
  · obtain ⟨x0, r, rfl, _⟩ := h
    rfl
  obtain ⟨x0, r, rfl, hm, rfl⟩ := h
  refine ⟨_, (pss_cons (ps_expr (pe_cal c_check_big (hr.mono (by decide)) (by rfl) (pa_cons (pv 0) (pa_cons pe_str pa_nil)))) (pss_one (ps_ret (pe_fldK (K := T.K) (pv 0) (by rfl) rfl)))), fun D hrt hnx => ?_⟩
  have ok : Okk Ω [] := okk0
  suffices hx : XS _ D F0 [some (va T x0)] (stt Ω [] []) by
    rw [show (stt Ω [] []) = Ω from stt_self (by simp)] at hx
    exact hx
  unfold M_plain at hm
  obtain ⟨z1, hz1, hm⟩ := bnd_some hm
  refine xs_drop (xe_call (xa_cons (xe_var (i := 0) rfl) (xa_cons xe_str xa_nil)) ⟨x0, ("x" : Str), z1, rfl, hz1, rfl⟩ cal0) ?_
  show XS (tRet _) _ _ [some (va T x0)] (stt Ω [] [])
  obtain rfl := Option.some.inj hm
  refine xs_ret (xe_bv bc.cl bc.nv (xe_var (i := 0) rfl)) hrt.all
noncomputable def M_bit_length (x0 : Bg) : Option Int :=
  (M_check_big x0 ("x" : Str)).bind fun z1 => some ((Builtin.Int.intBits x0.v : Nat) : Int)
def Pre_bit_length (T : TC) : PreT := fun As Ω R => ∃ (x0 : Bg) (r : Int), As = [va T x0] ∧ M_bit_length x0 = some r ∧ R = RV (va T r) (stt Ω [] [])
theorem sc_bit_length : FnScope ["x"] ["x"] (defScope s_bit_length) := ⟨rfl, rfl, rfl, by decide +kernel, rfl, by decide +kernel, by decide +kernel⟩
theorem ok_bit_length {f : Addr} {fd : FuncData} (F : Fun T.K "bit_length" "bit_length" s_bit_length f fd) (c_check_big : Cal P w T.K mg base 1 "check_big" ["value", "name"] (mkSp (Pre_check_big T))) (bc : BCls T.K (T.C 1)) : FnOk P w T.K mg base CX0 2 f fd ["x"] (mkSp (Pre_bit_length T)) := by
  refine fn_ok F sc_bit_length (fun As Ω R h => ?_) (fun cdv A outer s H E hr As Ω R F0 h => ?_)
  · obtain ⟨x0, r, rfl, _⟩ := h
    rfl
  obtain ⟨x0, r, rfl, hm, rfl⟩ := h
  refine ⟨_, (pss_cons (ps_expr (pe_cal c_check_big (hr.mono (by decide)) (by rfl) (pa_cons (pv 0) (pa_cons pe_str pa_nil)))) (pss_one (ps_ret (pe_bits (pe_fldK (K := T.K) (pv 0) (by rfl) rfl))))), fun D hrt hnx => ?_⟩
  have ok : Okk Ω [] := okk0
  suffices hx : XS _ D F0 [some (va T x0)] (stt Ω [] []) by
    rw [show (stt Ω [] []) = Ω from stt_self (by simp)] at hx
    exact hx
  unfold M_bit_length at hm
  obtain ⟨z1, hz1, hm⟩ := bnd_some hm
  refine xs_drop (xe_call (xa_cons (xe_var (i := 0) rfl) (xa_cons xe_str xa_nil)) ⟨x0, ("x" : Str), z1, rfl, hz1, rfl⟩ cal0) ?_
  show XS (tRet _) _ _ [some (va T x0)] (stt Ω [] [])
  obtain rfl := Option.some.inj hm
  refine xs_ret (xe_bits (xe_bv bc.cl bc.nv (xe_var (i := 0) rfl))) hrt.all
noncomputable def M_check_signed (x0 : Bool) : Option Unit :=
  (chkP (true = true)).bind fun z1 => some ()
def Pre_check_signed (T : TC) : PreT := fun As Ω R => ∃ (x0 : Bool) (r : Unit), As = [va T x0] ∧ M_check_signed x0 = some r ∧ R = RV (va T r) (stt Ω [] [])
theorem sc_check_signed : FnScope ["signed"] ["signed"] (defScope s_check_signed) := ⟨rfl, rfl, rfl, by decide +kernel, rfl, by decide +kernel, by decide +kernel⟩
theorem ok_check_signed {f : Addr} {fd : FuncData} (F : Fun T.K "check_signed" "check_signed" s_check_signed f fd) (z_isinstance : mg "isinstance" = none) (z_bool : mg "bool" = none) : FnOk P w T.K mg base CX0 1 f fd ["signed"] (mkSp (Pre_check_signed T)) := by
  refine fn_ok F sc_check_signed (fun As Ω R h => ?_) (fun cdv A outer s H E hr As Ω R F0 h => ?_)
  · obtain ⟨x0, r, rfl, _⟩ := h
    rfl
  obtain ⟨x0, r, rfl, hm, rfl⟩ := h
  refine ⟨_, (pss_one (ps_if (pt_not (pt_val (pe_callB (cr_isiK (K := T.K) rfl) (by rfl) z_isinstance (by decide +kernel) (pa_cons (pv 0) (pa_cons (pe_bltn (v := .ty "bool") (by rfl) z_bool (by decide +kernel) rfl) pa_nil))))) pss_never pss_nil)), fun D hrt hnx => ?_⟩
  have ok : Okk Ω [] := okk0
  suffices hx : XS _ D F0 [some (va T x0)] (stt Ω [] []) by
    rw [show (stt Ω [] []) = Ω from stt_self (by simp)] at hx
    exact hx
  unfold M_check_signed at hm
  obtain ⟨z1, hz1, hm⟩ := bnd_some hm
  refine xs_ifF1 (xt_notF (xt_eq (xt_tB (T := T) (xe_isi (xe_var (i := 0) rfl) xe_vx (.ty _) (fun F H v hh a => ty_bool hh a) (kit_ty (by decide +kernel)))) (chkP_some hz1))) ?_
  obtain rfl := Option.some.inj hm
  exact fun σ H ⟨F, f0, e, hh⟩ => hnx F σ H _ f0 hh.all ⟨rfl, rfl⟩
noncomputable def M_magnitude_of (x0 : Int) : Option Int :=
  some (if (decide (x0 < (0 : Int))) = true then ((-x0) - (1 : Int)) else x0)
def Pre_magnitude_of (T : TC) : PreT := fun As Ω R => ∃ (x0 : Int) (r : Int), As = [va T x0] ∧ M_magnitude_of x0 = some r ∧ R = RV (va T r) (stt Ω [] [])
theorem sc_magnitude_of : FnScope ["value"] ["value"] (defScope s_magnitude_of) := ⟨rfl, rfl, rfl, by decide +kernel, rfl, by decide +kernel, by decide +kernel⟩
theorem ok_magnitude_of {f : Addr} {fd : FuncData} (F : Fun T.K "magnitude_of" "magnitude_of" s_magnitude_of f fd)  : FnOk P w T.K mg base CX0 1 f fd ["value"] (mkSp (Pre_magnitude_of T)) := by
  refine fn_ok F sc_magnitude_of (fun As Ω R h => ?_) (fun cdv A outer s H E hr As Ω R F0 h => ?_)
  · obtain ⟨x0, r, rfl, _⟩ := h
    rfl
  obtain ⟨x0, r, rfl, hm, rfl⟩ := h
  refine ⟨_, (pss_one (ps_ret (pe_ifExp (pt_cmpR op_lt (pv 0) pe_int (nomark _)) (pe_op op_sub (pe_un un_neg (pv 0)) pe_int) (pv 0)))), fun D hrt hnx => ?_⟩
  have ok : Okk Ω [] := okk0
  suffices hx : XS _ D F0 [some (va T x0)] (stt Ω [] []) by
    rw [show (stt Ω [] []) = Ω from stt_self (by simp)] at hx
    exact hx
  unfold M_magnitude_of at hm
  obtain rfl := Option.some.inj hm
  refine xs_ret (xe_ite (xt_test (T := T) (xe_lt (xe_var (i := 0) rfl) xe_int)) (xe_sub (xe_neg (xe_var (i := 0) rfl)) xe_int) (xe_var (i := 0) rfl)) hrt.all
noncomputable def M_least_length (x0 : Int) (x1 : Bool) : Option Int :=
  if (decide (x0 = (0 : Int))) = true then some (0 : Int) else (M_magnitude_of x0).bind fun z1 => (some (((Builtin.Int.intBits z1 : Nat) : Int) + (if x1 = true then (1 : Int) else (0 : Int)))).bind fun y2 => (chkP (CDivW ((y2 + (8 : Int)) - (1 : Int)) (8 : Int))).bind fun z3 => some (((y2 + (8 : Int)) - (1 : Int)) / (8 : Int))
def Pre_least_length (T : TC) : PreT := fun As Ω R => ∃ (x0 : Int) (x1 : Bool) (r : Int), As = [va T x0, va T x1] ∧ M_least_length x0 x1 = some r ∧ R = RV (va T r) (stt Ω [] [])
theorem sc_least_length : FnScope ["value", "signed", "bits"] ["value", "signed"] (defScope s_least_length) := ⟨rfl, rfl, rfl, by decide +kernel, rfl, by decide +kernel, by decide +kernel⟩
theorem ok_least_length {f : Addr} {fd : FuncData} (F : Fun T.K "least_length" "least_length" s_least_length f fd) (c_magnitude_of : Cal P w T.K mg base 1 "magnitude_of" ["value"] (mkSp (Pre_magnitude_of T))) (g_BYTE : ∃ u, mg "BYTE" = some u ∧ RelV (.int 8) u) : FnOk P w T.K mg base CX0 2 f fd ["value", "signed"] (mkSp (Pre_least_length T)) := by
  refine fn_ok F sc_least_length (fun As Ω R h => ?_) (fun cdv A outer s H E hr As Ω R F0 h => ?_)
  · obtain ⟨x0, x1, r, rfl, _⟩ := h
    rfl
  obtain ⟨x0, x1, r, rfl, hm, rfl⟩ := h
  refine ⟨_, (pss_cons (ps_if (pt_cmpR (op_eqXK (K := T.K) (by exact hr.units) rfl) (pv 0) pe_int (nomark _)) (pss_one (ps_ret pe_int)) pss_nil) (pss_cons (ps_set (i := 2) sc_least_length.nd rfl (.inl rfl) (pe_op op_addQ (pe_bits (pe_cal c_magnitude_of (hr.mono (by decide)) (by rfl) (pa_cons (pv 0) pa_nil))) (pe_ifExp (pt_val (pv 1)) pe_int pe_int))) (pss_one (ps_ret (pe_op op_fdivW (pe_op op_sub (pe_op op_addQ (pv 2) (pe_gl rfl g_BYTE)) pe_int) (pe_gl rfl g_BYTE)))))), fun D hrt hnx => ?_⟩
  have ok : Okk Ω [] := okk0
  suffices hx : XS _ D F0 [some (va T x0), some (va T x1), none] (stt Ω [] []) by
    rw [show (stt Ω [] []) = Ω from stt_self (by simp)] at hx
    exact hx
  unfold M_least_length at hm
  by_cases hc : (decide (x0 = (0 : Int))) = true
  · rw [if_pos hc] at hm
    refine xs_ifT (xt_eq (xt_test (T := T) (xe_eqI (xe_var (i := 0) rfl) xe_int)) hc) ?_
    obtain rfl := Option.some.inj hm
    refine xs_ret xe_int hrt.all
  · rw [if_neg hc] at hm
    refine xs_ifN (xt_eq (xt_test (T := T) (xe_eqI (xe_var (i := 0) rfl) xe_int)) (nt hc)) ?_
    show XS (tSeq _ _) _ _ [some (va T x0), some (va T x1), none] (stt Ω [] [])
    obtain ⟨z1, hz1, hm⟩ := bnd_some hm
    obtain ⟨y2, hy2, hm⟩ := bnd_some hm
    refine xs_set (A := va T y2) (xe_eq (xe_add (xe_bits (xe_call (xa_cons (xe_var (i := 0) rfl) xa_nil) ⟨x0, z1, rfl, hz1, rfl⟩ cal0)) (xe_ite (xt_tB (T := T) (xe_var (i := 1) rfl)) xe_int xe_int)) (Option.some.inj hy2)) ?_
    show XS (tRet _) _ _ [some (va T x0), some (va T x1), some (va T y2)] (stt Ω [] [])
    obtain ⟨z3, hz3, hm⟩ := bnd_some hm
    obtain rfl := Option.some.inj hm
    refine xs_ret (xe_fdiv (chkP_some hz3) (xe_sub (xe_add (xe_var (i := 2) rfl) xe_int) xe_int) xe_int) hrt.all
noncomputable def M_byte_length (x0 : Bg) (x1 : Bool) : Option Int :=
  (M_check_big x0 ("x" : Str)).bind fun z1 => (M_check_signed x1).bind fun z2 => (chkP (((decide (x0.v < (0 : Int))) && (!x1)) = false)).bind fun z3 => (M_least_length x0.v x1).bind fun z4 => some z4
def Pre_byte_length (T : TC) : PreT := fun As Ω R => ∃ (x0 : Bg) (x1 : Bool) (r : Int), As = [va T x0, va T x1] ∧ M_byte_length x0 x1 = some r ∧ R = RV (va T r) (stt Ω [] [])
theorem sc_byte_length : FnScope ["x", "signed"] ["x", "signed"] (defScope s_byte_length) := ⟨rfl, rfl, rfl, by decide +kernel, rfl, by decide +kernel, by decide +kernel⟩
theorem ok_byte_length {f : Addr} {fd : FuncData} (F : FunD T.K "byte_length" "byte_length" (defArgs s_byte_length) (defBody s_byte_length) (defScope s_byte_length) [] [("signed", V.bl false)] f fd) (c_check_big : Cal P w T.K mg base 1 "check_big" ["value", "name"] (mkSp (Pre_check_big T))) (c_check_signed : Cal P w T.K mg base 1 "check_signed" ["signed"] (mkSp (Pre_check_signed T))) (bc : BCls T.K (T.C 1)) (c_least_length : Cal P w T.K mg base 2 "least_length" ["value", "signed"] (mkSp (Pre_least_length T))) : FnOk P w T.K mg base CX0 3 f fd ["x", "signed"] (mkSp (Pre_byte_length T)) := by
  refine fn_okK F sc_byte_length (fun As Ω R h => ?_) (fun cdv A outer s H E hr As Ω R F0 h => ?_)
  · obtain ⟨x0, x1, r, rfl, _⟩ := h
    rfl
  obtain ⟨x0, x1, r, rfl, hm, rfl⟩ := h
  refine ⟨_, (pss_cons (ps_expr (pe_cal c_check_big (hr.mono (by decide)) (by rfl) (pa_cons (pv 0) (pa_cons pe_str pa_nil)))) (pss_cons (ps_expr (pe_cal c_check_signed (hr.mono (by decide)) (by rfl) (pa_cons (pv 1) pa_nil))) (pss_cons (ps_if (PW.pt (pw_and (pt_cmpR op_lt (pe_fldK (K := T.K) (pv 0) (by rfl) rfl) pe_int (nomark _)) (pw_and1 (pt_not (pt_val (pv 1)))))) pss_never pss_nil) (pss_one (ps_ret (pe_cal c_least_length (hr.mono (by decide)) (by rfl) (pa_cons (pe_fldK (K := T.K) (pv 0) (by rfl) rfl) (pa_cons (pv 1) pa_nil)))))))), fun D hrt hnx => ?_⟩
  have ok : Okk Ω [] := okk0
  suffices hx : XS _ D F0 [some (va T x0), some (va T x1)] (stt Ω [] []) by
    rw [show (stt Ω [] []) = Ω from stt_self (by simp)] at hx
    exact hx
  unfold M_byte_length at hm
  obtain ⟨z1, hz1, hm⟩ := bnd_some hm
  refine xs_drop (xe_call (xa_cons (xe_var (i := 0) rfl) (xa_cons xe_str xa_nil)) ⟨x0, ("x" : Str), z1, rfl, hz1, rfl⟩ cal0) ?_
  show XS (tSeq _ _) _ _ [some (va T x0), some (va T x1)] (stt Ω [] [])
  obtain ⟨z2, hz2, hm⟩ := bnd_some hm
  refine xs_drop (xe_call (xa_cons (xe_var (i := 1) rfl) xa_nil) ⟨x1, z2, rfl, hz2, rfl⟩ cal0) ?_
  show XS (tSeq _ _) _ _ [some (va T x0), some (va T x1)] (stt Ω [] [])
  obtain ⟨z3, hz3, hm⟩ := bnd_some hm
  refine xs_ifN (xt_eq (xt_and (xt_test (T := T) (xe_lt (xe_bv bc.cl bc.nv (xe_var (i := 0) rfl)) xe_int)) (fun _ => (xt_not (xt_tB (T := T) (xe_var (i := 1) rfl)))) (fun _ => rfl)) (chkP_some hz3)) ?_
  show XS (tRet _) _ _ [some (va T x0), some (va T x1)] (stt Ω [] [])
  obtain ⟨z4, hz4, hm⟩ := bnd_some hm
  obtain rfl := Option.some.inj hm
  refine xs_ret (xe_call (xa_cons (xe_bv bc.cl bc.nv (xe_var (i := 0) rfl)) (xa_cons (xe_var (i := 1) rfl) xa_nil)) ⟨x0.v, x1, z4, rfl, hz4, rfl⟩ cal0) hrt.all
noncomputable def M_check_order (x0 : Str) : Option Unit :=
  (chkP (true = true)).bind fun z1 => (chkP ((!inS x0 ([("little" : Str), ("big" : Str)] : List Str)) = false)).bind fun z2 => some ()
def Pre_check_order (T : TC) : PreT := fun As Ω R => ∃ (x0 : Str) (r : Unit), As = [va T x0] ∧ M_check_order x0 = some r ∧ R = RV (va T r) (stt Ω [] [])
theorem sc_check_order : FnScope ["order"] ["order"] (defScope s_check_order) := ⟨rfl, rfl, rfl, by decide +kernel, rfl, by decide +kernel, by decide +kernel⟩
theorem ok_check_order {f : Addr} {fd : FuncData} (F : Fun T.K "check_order" "check_order" s_check_order f fd) (z_isinstance : mg "isinstance" = none) (z_str : mg "str" = none) : FnOk P w T.K mg base CX0 1 f fd ["order"] (mkSp (Pre_check_order T)) := by
  refine fn_ok F sc_check_order (fun As Ω R h => ?_) (fun cdv A outer s H E hr As Ω R F0 h => ?_)
  · obtain ⟨x0, r, rfl, _⟩ := h
    rfl
  obtain ⟨x0, r, rfl, hm, rfl⟩ := h
  refine ⟨_, (pss_one (ps_if (PW.pt (pw_or (pt_not (pt_val (pe_callB (cr_isiK (K := T.K) rfl) (by rfl) z_isinstance (by decide +kernel) (pa_cons (pv 0) (pa_cons (pe_bltn (v := .ty "str") (by rfl) z_str (by decide +kernel) rfl) pa_nil))))) (pw_or1 (pt_cmpR (op_notInK (K := T.K) rfl) (pv 0) (pe_tup (pa_cons pe_str (pa_cons pe_str pa_nil))) (by with_unfolding_all rfl))))) pss_never pss_nil)), fun D hrt hnx => ?_⟩
  have ok : Okk Ω [] := okk0
  suffices hx : XS _ D F0 [some (va T x0)] (stt Ω [] []) by
    rw [show (stt Ω [] []) = Ω from stt_self (by simp)] at hx
    exact hx
  unfold M_check_order at hm
  obtain ⟨z1, hz1, hm⟩ := bnd_some hm
  obtain ⟨z2, hz2, hm⟩ := bnd_some hm
  refine xs_ifF1 (xt_orF (xt_notF (xt_eq (xt_tB (T := T) (xe_isi (xe_var (i := 0) rfl) xe_vx (.ty _) (fun F H v hh a => ty_str hh a) (kit_ty (by decide +kernel)))) (chkP_some hz1))) (xt_eq (xt_test (T := T) (xe_notInS (xe_var (i := 0) rfl) (xe_tupF (l := [("little" : Str), ("big" : Str)]) (xa_cons xe_str (xa_cons xe_str xa_nil)) (by show 2 ≤ sizeLine; decide)))) (chkP_some hz2))) ?_
  obtain rfl := Option.some.inj hm
  exact fun σ H ⟨F, f0, e, hh⟩ => hnx F σ H _ f0 hh.all ⟨rfl, rfl⟩
noncomputable def M_to_bytes (x0 : MS) (x1 : Bg) (x2 : Int) (x3 : Str) (x4 : Bool) : Option (List Int × MS) :=
  (M_check_one x0 x1).bind fun z1 => (M_is_between x2 (0 : Int) (10000 : Int)).bind fun z2 => (chkP (z2 = true)).bind fun z3 => (M_check_order x3).bind fun z4 => (M_check_signed x4).bind fun z5 => (chkP (((decide (x1.v < (0 : Int))) && (!x4)) = false)).bind fun z6 => (M_least_length x1.v x4).bind fun z7 => (chkP ((decide (x2 < z7)) = false)).bind fun z8 => (if (decide (x1.v < (0 : Int))) = true then (chkP (("complemented" : Str) ∈ mwords)).bind fun z9 => some ((x0.enter ("to bytes" : Str) (x1.row.length : Int) x2).step ("complemented" : Str) (x1.row.length : Int)) else some (x0.enter ("to bytes" : Str) (x1.row.length : Int) x2)).bind fun z12 => (M_magnitude_of x1.v).bind fun z13 => (M_size_of (8 : Int) z13).bind fun z14 => (chkP (("shifted" : Str) ∈ mwords)).bind fun z15 => (M_row_of 20 (8 : Int) x1.v x2).bind fun z16 => some ((if (decide (x3 = ("little" : Str))) = true then z16 else z16.reverse), (z12.step ("shifted" : Str) z14))
def Pre_to_bytes (T : TC) : PreT := fun As Ω R => ∃ (k0 : Nat) (p0 : Addr) (x0 : MS) (x1 : Bg) (x2 : Int) (x3 : Str) (x4 : Bool) (r : List Int × MS), As = [vr p0, va T x1, va T x2, va T x3, va T x4] ∧ Ω[k0]? = some (machA T p0 x0) ∧ M_to_bytes x0 x1 x2 x3 x4 = some r ∧ R = RV (va T (LF.mk r.1)) (stt Ω [(k0, machA T p0 r.2)] [])
theorem sc_to_bytes : FnScope ["machine", "x", "length", "order", "signed", "row"] ["machine", "x", "length", "order", "signed"] (defScope s_to_bytes) := ⟨rfl, rfl, rfl, by decide +kernel, rfl, by decide +kernel, by decide +kernel⟩
theorem ok_to_bytes {f : Addr} {fd : FuncData} (F : FunD T.K "to_bytes" "to_bytes" (defArgs s_to_bytes) (defBody s_to_bytes) (defScope s_to_bytes) [V.int 1, V.str "big"] [("signed", V.bl false)] f fd) (c_check_one : Cal P w T.K mg base 3 "check_one" ["machine", "x"] (mkSp (Pre_check_one T))) (g_LONGEST_ROW : ∃ u, mg "LONGEST_ROW" = some u ∧ RelV (.int 10000) u) (c_is_between : Cal P w T.K mg base 2 "is_between" ["value", "low", "high"] (mkSp (Pre_is_between T))) (c_check_order : Cal P w T.K mg base 1 "check_order" ["order"] (mkSp (Pre_check_order T))) (c_check_signed : Cal P w T.K mg base 1 "check_signed" ["signed"] (mkSp (Pre_check_signed T))) (bc : BCls T.K (T.C 1)) (c_least_length : Cal P w T.K mg base 2 "least_length" ["value", "signed"] (mkSp (Pre_least_length T))) (mc : MCls T.K (T.C 0)) (z_len : mg "len" = none) (c_Mach_enter : CalM P w T.K mg base 1 (T.C 0) "enter" ["self", "word", "m", "n"] (mkSp (Pre_Mach_enter T))) (c_Mach_step : CalM P w T.K mg base 1 (T.C 0) "step" ["self", "word", "many"] (mkSp (Pre_Mach_step T))) (g_BYTE : ∃ u, mg "BYTE" = some u ∧ RelV (.int 8) u) (c_magnitude_of : Cal P w T.K mg base 1 "magnitude_of" ["value"] (mkSp (Pre_magnitude_of T))) (c_size_of : Cal P w T.K mg base 2 "size_of" ["width", "n"] (mkSp (Pre_size_of T))) (c_row_of : Cal P w T.K mg base 21 "row_of" ["width", "n", "size"] (mkSp (Pre_row_of 20 T))) (z_list : mg "list" = none) (z_reversed : mg "reversed" = none) : FnOk P w T.K mg base CX0 22 f fd ["machine", "x", "length", "order", "signed"] (mkSp (Pre_to_bytes T)) := by
  refine fn_okK F sc_to_bytes (fun As Ω R h => ?_) (fun cdv A outer s H E hr As Ω R F0 h => ?_)
  · obtain ⟨k0, p0, x0, x1, x2, x3, x4, r, rfl, _⟩ := h
    rfl
  obtain ⟨k0, p0, x0, x1, x2, x3, x4, r, rfl, hk0, hm, rfl⟩ := h
  refine ⟨_, (pss_cons (ps_expr (pe_cal c_check_one (hr.mono (by decide)) (by rfl) (pa_cons (pv 0) (pa_cons (pv 1) pa_nil)))) (pss_cons (ps_if (pt_not (pt_val (pe_cal c_is_between (hr.mono (by decide)) (by rfl) (pa_cons (pv 2) (pa_cons pe_int (pa_cons (pe_gl rfl g_LONGEST_ROW) pa_nil)))))) pss_never pss_nil) (pss_cons (ps_expr (pe_cal c_check_order (hr.mono (by decide)) (by rfl) (pa_cons (pv 3) pa_nil))) (pss_cons (ps_expr (pe_cal c_check_signed (hr.mono (by decide)) (by rfl) (pa_cons (pv 4) pa_nil))) (pss_cons (ps_if (PW.pt (pw_or (PW.pt (pw_and (pt_cmpR op_lt (pe_fldK (K := T.K) (pv 1) (by rfl) rfl) pe_int (nomark _)) (pw_and1 (pt_not (pt_val (pv 4)))))) (pw_or1 (pt_cmpR op_gt (pe_cal c_least_length (hr.mono (by decide)) (by rfl) (pa_cons (pe_fldK (K := T.K) (pv 1) (by rfl) rfl) (pa_cons (pv 4) pa_nil))) (pv 2) (nomark _))))) pss_never pss_nil) (pss_cons (ps_expr (pe_calM (pv 0) c_Mach_enter (hr.mono (by decide)) (pa_cons pe_str (pa_cons (pe_callB (cr_lenK (K := T.K) rfl) (by rfl) z_len PySem.boot_len (pa_cons (pe_fldK (K := T.K) (pv 1) (by rfl) rfl) pa_nil)) (pa_cons (pv 2) pa_nil))))) (Evl.pss_cut (ps_if (pt_cmpR op_lt (pe_fldK (K := T.K) (pv 1) (by rfl) rfl) pe_int (nomark _)) (pss_one (ps_expr (pe_calM (pv 0) c_Mach_step (hr.mono (by decide)) (pa_cons pe_str (pa_cons (pe_callB (cr_lenK (K := T.K) rfl) (by rfl) z_len PySem.boot_len (pa_cons (pe_fldK (K := T.K) (pv 1) (by rfl) rfl) pa_nil)) pa_nil))))) pss_nil) (pss_cons (ps_expr (pe_calM (pv 0) c_Mach_step (hr.mono (by decide)) (pa_cons pe_str (pa_cons (pe_cal c_size_of (hr.mono (by decide)) (by rfl) (pa_cons (pe_gl rfl g_BYTE) (pa_cons (pe_cal c_magnitude_of (hr.mono (by decide)) (by rfl) (pa_cons (pe_fldK (K := T.K) (pv 1) (by rfl) rfl) pa_nil)) pa_nil))) pa_nil)))) (pss_cons (ps_set (i := 5) sc_to_bytes.nd rfl (.inl rfl) (pe_cal c_row_of (hr.mono (by decide)) (by rfl) (pa_cons (pe_gl rfl g_BYTE) (pa_cons (pe_fldK (K := T.K) (pv 1) (by rfl) rfl) (pa_cons (pv 2) pa_nil))))) (pss_one (ps_ret (pe_ifExp (pt_cmpR (op_eqXK (K := T.K) (by exact hr.units) rfl) (pv 3) pe_str (nomark _)) (pv 5) (pe_listRevK (K := T.K) rfl rfl (by rfl) z_list (by rfl) z_reversed (pv 5)))))))))))))), fun D hrt hnx => ?_⟩
  have ok := okk1 hk0
  suffices hx : XS _ D F0 [some (vr p0), some (va T x1), some (va T x2), some (va T x3), some (va T x4), none] (stt Ω [(k0, machA T p0 x0)] []) by
    rw [show (stt Ω [(k0, machA T p0 x0)] []) = Ω from stt_self (by simp [hk0])] at hx
    exact hx
  unfold M_to_bytes at hm
  obtain ⟨z1, hz1, hm⟩ := bnd_some hm
  refine xs_drop (xe_call (xa_cons (xe_var (i := 0) rfl) (xa_cons (xe_var (i := 1) rfl) xa_nil)) ⟨k0, p0, x0, x1, z1, rfl, (stt_get ok (i := 0) rfl), hz1, rfl⟩ cal0) ?_
  show XS (tSeq _ _) _ _ [some (vr p0), some (va T x1), some (va T x2), some (va T x3), some (va T x4), none] (stt Ω [(k0, machA T p0 x0)] [])
  obtain ⟨z2, hz2, hm⟩ := bnd_some hm
  obtain ⟨z3, hz3, hm⟩ := bnd_some hm
  refine xs_ifN (xt_notF (xt_eq (xt_tB (T := T) (xe_call (xa_cons (xe_var (i := 2) rfl) (xa_cons xe_int (xa_cons xe_int xa_nil))) ⟨x2, (0 : Int), (10000 : Int), z2, rfl, hz2, rfl⟩ cal0)) (chkP_some hz3))) ?_
  show XS (tSeq _ _) _ _ [some (vr p0), some (va T x1), some (va T x2), some (va T x3), some (va T x4), none] (stt Ω [(k0, machA T p0 x0)] [])
  obtain ⟨z4, hz4, hm⟩ := bnd_some hm
  refine xs_drop (xe_call (xa_cons (xe_var (i := 3) rfl) xa_nil) ⟨x3, z4, rfl, hz4, rfl⟩ cal0) ?_
  show XS (tSeq _ _) _ _ [some (vr p0), some (va T x1), some (va T x2), some (va T x3), some (va T x4), none] (stt Ω [(k0, machA T p0 x0)] [])
  obtain ⟨z5, hz5, hm⟩ := bnd_some hm
  refine xs_drop (xe_call (xa_cons (xe_var (i := 4) rfl) xa_nil) ⟨x4, z5, rfl, hz5, rfl⟩ cal0) ?_
  show XS (tSeq _ _) _ _ [some (vr p0), some (va T x1), some (va T x2), some (va T x3), some (va T x4), none] (stt Ω [(k0, machA T p0 x0)] [])
  obtain ⟨z6, hz6, hm⟩ := bnd_some hm
  obtain ⟨z7, hz7, hm⟩ := bnd_some hm
  obtain ⟨z8, hz8, hm⟩ := bnd_some hm
  refine xs_ifN (xt_orF (xt_eq (xt_and (xt_test (T := T) (xe_lt (xe_bv bc.cl bc.nv (xe_var (i := 1) rfl)) xe_int)) (fun _ => (xt_not (xt_tB (T := T) (xe_var (i := 4) rfl)))) (fun _ => rfl)) (chkP_some hz6)) (xt_eq (xt_test (T := T) (xe_gt (xe_call (xa_cons (xe_bv bc.cl bc.nv (xe_var (i := 1) rfl)) (xa_cons (xe_var (i := 4) rfl) xa_nil)) ⟨x1.v, x4, z7, rfl, hz7, rfl⟩ cal0) (xe_var (i := 2) rfl))) (chkP_some hz8))) ?_
  show XS (tSeq _ _) _ _ [some (vr p0), some (va T x1), some (va T x2), some (va T x3), some (va T x4), none] (stt Ω [(k0, machA T p0 x0)] [])
  refine xs_drop (xe_mcall (xe_var (i := 0) rfl) (stt_get ok (i := 0) rfl) (xa_cons xe_str (xa_cons (xe_lenT (xe_br bc.cl bc.nr (xe_var (i := 1) rfl)) isT_TF) (xa_cons (xe_var (i := 2) rfl) xa_nil))) ⟨k0, p0, x0, ("to bytes" : Str), (x1.row.length : Int), x2, rfl, (stt_get ok (i := 0) rfl), rfl⟩ (cal1 ok (i := 0) rfl)) ?_
  show XS (Evl.tCut _ _) _ _ [some (vr p0), some (va T x1), some (va T x2), some (va T x3), some (va T x4), none] (stt Ω [(k0, machA T p0 (x0.enter ("to bytes" : Str) (x1.row.length : Int) x2))] [])
  obtain ⟨z12, hz12, hm⟩ := bnd_some hm
  refine xs_cut (Γ' := [some (vr p0), some (va T x1), some (va T x2), some (va T x3), some (va T x4), none]) (Ω' := (stt Ω [(k0, machA T p0 z12)] [])) ?_ ?_
  · clear hm
    have hm := hz12
    clear hz12
    by_cases hc : (decide (x1.v < (0 : Int))) = true
    · rw [if_pos hc] at hm
      refine xs_ifT1 (xt_eq (xt_test (T := T) (xe_lt (xe_bv bc.cl bc.nv (xe_var (i := 1) rfl)) xe_int)) hc) ?_
      obtain ⟨z9, hz9, hm⟩ := bnd_some hm
      refine xs_drop1 (xe_mcall (xe_var (i := 0) rfl) (stt_get ok (i := 0) rfl) (xa_cons xe_str (xa_cons (xe_lenT (xe_br bc.cl bc.nr (xe_var (i := 1) rfl)) isT_TF) xa_nil)) ⟨k0, p0, (x0.enter ("to bytes" : Str) (x1.row.length : Int) x2), ("complemented" : Str), (x1.row.length : Int), rfl, (stt_get ok (i := 0) rfl), chkP_some hz9, rfl⟩ (cal1 ok (i := 0) rfl)) ?_
      obtain rfl := Option.some.inj hm
      exact fun σ H n => n
    · rw [if_neg hc] at hm
      refine xs_ifF1 (xt_eq (xt_test (T := T) (xe_lt (xe_bv bc.cl bc.nv (xe_var (i := 1) rfl)) xe_int)) (nt hc)) ?_
      obtain rfl := Option.some.inj hm
      exact fun σ H n => n
  · obtain ⟨z13, hz13, hm⟩ := bnd_some hm
    obtain ⟨z14, hz14, hm⟩ := bnd_some hm
    obtain ⟨z15, hz15, hm⟩ := bnd_some hm
    refine xs_drop (xe_mcall (xe_var (i := 0) rfl) (stt_get ok (i := 0) rfl) (xa_cons xe_str (xa_cons (xe_call (xa_cons xe_int (xa_cons (xe_call (xa_cons (xe_bv bc.cl bc.nv (xe_var (i := 1) rfl)) xa_nil) ⟨x1.v, z13, rfl, hz13, rfl⟩ cal0) xa_nil)) ⟨(8 : Int), z13, z14, rfl, hz14, rfl⟩ cal0) xa_nil)) ⟨k0, p0, z12, ("shifted" : Str), z14, rfl, (stt_get ok (i := 0) rfl), chkP_some hz15, rfl⟩ (cal1 ok (i := 0) rfl)) ?_
    show XS (tSeq _ _) _ _ [some (vr p0), some (va T x1), some (va T x2), some (va T x3), some (va T x4), none] (stt Ω [(k0, machA T p0 (z12.step ("shifted" : Str) z14))] [])
    obtain ⟨z16, hz16, hm⟩ := bnd_some hm
    refine xs_set (A := va T (LF.mk z16)) (xe_call (xa_cons xe_int (xa_cons (xe_bv bc.cl bc.nv (xe_var (i := 1) rfl)) (xa_cons (xe_var (i := 2) rfl) xa_nil))) ⟨(8 : Int), x1.v, x2, z16, rfl, hz16, rfl⟩ cal0) ?_
    show XS (tRet _) _ _ [some (vr p0), some (va T x1), some (va T x2), some (va T x3), some (va T x4), some (va T (LF.mk z16))] (stt Ω [(k0, machA T p0 (z12.step ("shifted" : Str) z14))] [])
    obtain rfl := Option.some.inj hm
    refine xs_ret (xe_iteL (xt_test (T := T) (xe_eqS (xe_var (i := 3) rfl) xe_str)) (xe_var (i := 5) rfl) (xe_listRev (xe_var (i := 5) rfl) isL_LF)) hrt.all
noncomputable def M_count_reading (x0 : MS) (x1 : Int) (x2 : Int) : Option (Unit × MS) :=
  (M_magnitude_of x1).bind fun z1 => (M_size_of (8 : Int) z1).bind fun z2 => (chkP (("looked" : Str) ∈ mwords)).bind fun z3 => (if (decide (x1 < (0 : Int))) = true then (some (min (z2 + (1 : Int)) x2)).bind fun y4 => (chkP (("complemented" : Str) ∈ mwords)).bind fun z5 => some (y4, ((x0.step ("looked" : Str) (min ((x2 - z2) + (1 : Int)) x2)).step ("complemented" : Str) y4)) else some (z2, (x0.step ("looked" : Str) (min ((x2 - z2) + (1 : Int)) x2)))).bind fun z8 => (chkP (("shifted" : Str) ∈ mwords)).bind fun z9 => some ((), (z8.2.step ("shifted" : Str) z8.1))
def Pre_count_reading (T : TC) : PreT := fun As Ω R => ∃ (k0 : Nat) (p0 : Addr) (x0 : MS) (x1 : Int) (x2 : Int) (r : Unit × MS), As = [vr p0, va T x1, va T x2] ∧ Ω[k0]? = some (machA T p0 x0) ∧ M_count_reading x0 x1 x2 = some r ∧ R = RV (va T r.1) (stt Ω [(k0, machA T p0 r.2)] [])
theorem sc_count_reading : FnScope ["machine", "number", "size", "kept"] ["machine", "number", "size"] (defScope s_count_reading) := ⟨rfl, rfl, rfl, by decide +kernel, rfl, by decide +kernel, by decide +kernel⟩
theorem ok_count_reading {f : Addr} {fd : FuncData} (F : Fun T.K "count_reading" "count_reading" s_count_reading f fd) (g_BYTE : ∃ u, mg "BYTE" = some u ∧ RelV (.int 8) u) (c_magnitude_of : Cal P w T.K mg base 1 "magnitude_of" ["value"] (mkSp (Pre_magnitude_of T))) (c_size_of : Cal P w T.K mg base 2 "size_of" ["width", "n"] (mkSp (Pre_size_of T))) (mc : MCls T.K (T.C 0)) (z_min : mg "min" = none) (c_Mach_step : CalM P w T.K mg base 1 (T.C 0) "step" ["self", "word", "many"] (mkSp (Pre_Mach_step T))) : FnOk P w T.K mg base CX0 3 f fd ["machine", "number", "size"] (mkSp (Pre_count_reading T)) := by
  refine fn_ok F sc_count_reading (fun As Ω R h => ?_) (fun cdv A outer s H E hr As Ω R F0 h => ?_)
  · obtain ⟨k0, p0, x0, x1, x2, r, rfl, _⟩ := h
    rfl
  obtain ⟨k0, p0, x0, x1, x2, r, rfl, hk0, hm, rfl⟩ := h
  refine ⟨_, (pss_cons (ps_set (i := 3) sc_count_reading.nd rfl (.inl rfl) (pe_cal c_size_of (hr.mono (by decide)) (by rfl) (pa_cons (pe_gl rfl g_BYTE) (pa_cons (pe_cal c_magnitude_of (hr.mono (by decide)) (by rfl) (pa_cons (pv 1) pa_nil)) pa_nil)))) (pss_cons (ps_expr (pe_calM (pv 0) c_Mach_step (hr.mono (by decide)) (pa_cons pe_str (pa_cons (pe_callB (cr_min2 rfl) (by rfl) z_min (by decide +kernel) (pa_cons (pe_op op_addQ (pe_op op_sub (pv 2) (pv 3)) pe_int) (pa_cons (pv 2) pa_nil))) pa_nil)))) (Evl.pss_cut (ps_if (pt_cmpR op_lt (pv 1) pe_int (nomark _)) (pss_cons (ps_set (i := 3) sc_count_reading.nd rfl (.inl rfl) (pe_callB (cr_min2 rfl) (by rfl) z_min (by decide +kernel) (pa_cons (pe_op op_addQ (pv 3) pe_int) (pa_cons (pv 2) pa_nil)))) (pss_one (ps_expr (pe_calM (pv 0) c_Mach_step (hr.mono (by decide)) (pa_cons pe_str (pa_cons (pv 3) pa_nil)))))) pss_nil) (pss_one (ps_expr (pe_calM (pv 0) c_Mach_step (hr.mono (by decide)) (pa_cons pe_str (pa_cons (pv 3) pa_nil)))))))), fun D hrt hnx => ?_⟩
  have ok := okk1 hk0
  suffices hx : XS _ D F0 [some (vr p0), some (va T x1), some (va T x2), none] (stt Ω [(k0, machA T p0 x0)] []) by
    rw [show (stt Ω [(k0, machA T p0 x0)] []) = Ω from stt_self (by simp [hk0])] at hx
    exact hx
  unfold M_count_reading at hm
  obtain ⟨z1, hz1, hm⟩ := bnd_some hm
  obtain ⟨z2, hz2, hm⟩ := bnd_some hm
  refine xs_set (A := va T z2) (xe_call (xa_cons xe_int (xa_cons (xe_call (xa_cons (xe_var (i := 1) rfl) xa_nil) ⟨x1, z1, rfl, hz1, rfl⟩ cal0) xa_nil)) ⟨(8 : Int), z1, z2, rfl, hz2, rfl⟩ cal0) ?_
  show XS (tSeq _ _) _ _ [some (vr p0), some (va T x1), some (va T x2), some (va T z2)] (stt Ω [(k0, machA T p0 x0)] [])
  obtain ⟨z3, hz3, hm⟩ := bnd_some hm
  refine xs_drop (xe_mcall (xe_var (i := 0) rfl) (stt_get ok (i := 0) rfl) (xa_cons xe_str (xa_cons (xe_min2 (xe_add (xe_sub (xe_var (i := 2) rfl) (xe_var (i := 3) rfl)) xe_int) (xe_var (i := 2) rfl)) xa_nil)) ⟨k0, p0, x0, ("looked" : Str), (min ((x2 - z2) + (1 : Int)) x2), rfl, (stt_get ok (i := 0) rfl), chkP_some hz3, rfl⟩ (cal1 ok (i := 0) rfl)) ?_
  show XS (Evl.tCut _ _) _ _ [some (vr p0), some (va T x1), some (va T x2), some (va T z2)] (stt Ω [(k0, machA T p0 (x0.step ("looked" : Str) (min ((x2 - z2) + (1 : Int)) x2)))] [])
  obtain ⟨z8, hz8, hm⟩ := bnd_some hm
  refine xs_cut (Γ' := [some (vr p0), some (va T x1), some (va T x2), some (va T z8.1)]) (Ω' := (stt Ω [(k0, machA T p0 z8.2)] [])) ?_ ?_
  · clear hm
    have hm := hz8
    clear hz8
    by_cases hc : (decide (x1 < (0 : Int))) = true
    · rw [if_pos hc] at hm
      refine xs_ifT1 (xt_eq (xt_test (T := T) (xe_lt (xe_var (i := 1) rfl) xe_int)) hc) ?_
      obtain ⟨y4, hy4, hm⟩ := bnd_some hm
      refine xs_set (A := va T y4) (xe_eq (xe_min2 (xe_add (xe_var (i := 3) rfl) xe_int) (xe_var (i := 2) rfl)) (Option.some.inj hy4)) ?_
      show XS (tDrop _) _ _ [some (vr p0), some (va T x1), some (va T x2), some (va T y4)] (stt Ω [(k0, machA T p0 (x0.step ("looked" : Str) (min ((x2 - z2) + (1 : Int)) x2)))] [])
      obtain ⟨z5, hz5, hm⟩ := bnd_some hm
      refine xs_drop1 (xe_mcall (xe_var (i := 0) rfl) (stt_get ok (i := 0) rfl) (xa_cons xe_str (xa_cons (xe_var (i := 3) rfl) xa_nil)) ⟨k0, p0, (x0.step ("looked" : Str) (min ((x2 - z2) + (1 : Int)) x2)), ("complemented" : Str), y4, rfl, (stt_get ok (i := 0) rfl), chkP_some hz5, rfl⟩ (cal1 ok (i := 0) rfl)) ?_
      obtain rfl := Option.some.inj hm
      exact fun σ H n => n
    · rw [if_neg hc] at hm
      refine xs_ifF1 (xt_eq (xt_test (T := T) (xe_lt (xe_var (i := 1) rfl) xe_int)) (nt hc)) ?_
      obtain rfl := Option.some.inj hm
      exact fun σ H n => n
  · obtain ⟨z9, hz9, hm⟩ := bnd_some hm
    refine xs_drop1 (xe_mcall (xe_var (i := 0) rfl) (stt_get ok (i := 0) rfl) (xa_cons xe_str (xa_cons (xe_var (i := 3) rfl) xa_nil)) ⟨k0, p0, z8.2, ("shifted" : Str), z8.1, rfl, (stt_get ok (i := 0) rfl), chkP_some hz9, rfl⟩ (cal1 ok (i := 0) rfl)) ?_
    obtain rfl := Option.some.inj hm
    exact fun σ H ⟨F, f0, e, hh⟩ => hnx F σ H _ f0 hh.all ⟨rfl, rfl⟩
noncomputable def M_from_bytes (x0 : MS) (x1 : List Int) (x2 : Str) (x3 : Bool) : Option (Bg × MS) :=
  (M_check_machine x0).bind fun z1 => (chkP (true = true)).bind fun z2 => (chkP ((decide ((10000 : Int) < (x1.length : Int))) = false)).bind fun z3 => (chkP (x1.length ≤ sizeLine)).bind fun z4 => (lcM (fun (a6 : Int) (s5 : Unit) => (M_is_between a6 (0 : Int) (255 : Int)).bind fun z7 => some (some z7, ())) x1 ()).bind fun z8 => (chkP ((z8.1.all id) = true)).bind fun z10 => (M_check_order x2).bind fun z11 => (M_check_signed x3).bind fun z12 => (some (x1.length : Int)).bind fun y13 => if (decide (y13 = (0 : Int))) = true then (M_big_of x0 (0 : Int)).bind fun z14 => some (z14, x0) else (M_number_of 20 (8 : Int) (if (decide (x2 = ("little" : Str))) = true then x1 else x1.reverse)).bind fun z15 => (if x3 = true then (chkP (IntMulOk (y13 - (1 : Int)) (8 : Int))).bind fun z16 => (chkP (0 ≤ ((y13 - (1 : Int)) * (8 : Int)))).bind fun z17 => some (decide ((128 : Int) ≤ (z15 / 2 ^ (((y13 - (1 : Int)) * (8 : Int))).toNat))) else some false).bind fun z18 => (if z18 = true then (chkP (IntMulOk y13 (8 : Int))).bind fun z20 => (chkP (CShl (1 : Int) (y13 * (8 : Int)))).bind fun z21 => (some (z15 - ((1 : Int) * 2 ^ ((y13 * (8 : Int))).toNat))).bind fun y22 => some y22 else some z15).bind fun z25 => (M_count_reading (x0.enter ("from bytes" : Str) y13 (0 : Int)) z25 y13).bind fun z26 => (M_big_of z26.2 z25).bind fun z27 => some (z27, z26.2)
def Pre_from_bytes (T : TC) : PreT := fun As Ω R => ∃ (k0 : Nat) (p0 : Addr) (x0 : MS) (x1 : List Int) (x2 : Str) (x3 : Bool) (r : Bg × MS), As = [vr p0, va T (LF.mk x1), va T x2, va T x3] ∧ Ω[k0]? = some (machA T p0 x0) ∧ M_from_bytes x0 x1 x2 x3 = some r ∧ R = RV (va T r.1) (stt Ω [(k0, machA T p0 r.2)] [])
theorem sc_from_bytes : FnScope ["machine", "row", "order", "signed", "size", "number", "part"] ["machine", "row", "order", "signed"] (defScope s_from_bytes) := ⟨rfl, rfl, rfl, by decide +kernel, rfl, by decide +kernel, by decide +kernel⟩
theorem ok_from_bytes {f : Addr} {fd : FuncData} (F : FunD T.K "from_bytes" "from_bytes" (defArgs s_from_bytes) (defBody s_from_bytes) (defScope s_from_bytes) [V.str "big"] [("signed", V.bl false)] f fd) (c_check_machine : Cal P w T.K mg base 1 "check_machine" ["machine"] (mkSp (Pre_check_machine T))) (z_isinstance : mg "isinstance" = none) (z_list : mg "list" = none) (z_len : mg "len" = none) (g_LONGEST_ROW : ∃ u, mg "LONGEST_ROW" = some u ∧ RelV (.int 10000) u) (g_GREATEST_BYTE : ∃ u, mg "GREATEST_BYTE" = some u ∧ RelV (.int 255) u) (c_is_between : Cal P w T.K mg base 2 "is_between" ["value", "low", "high"] (mkSp (Pre_is_between T))) (z_all : mg "all" = none) (c_check_order : Cal P w T.K mg base 1 "check_order" ["order"] (mkSp (Pre_check_order T))) (c_check_signed : Cal P w T.K mg base 1 "check_signed" ["signed"] (mkSp (Pre_check_signed T))) (c_big_of : Cal P w T.K mg base 22 "big_of" ["machine", "value"] (mkSp (Pre_big_of T))) (g_BYTE : ∃ u, mg "BYTE" = some u ∧ RelV (.int 8) u) (z_reversed : mg "reversed" = none) (c_number_of : Cal P w T.K mg base 21 "number_of" ["width", "row"] (mkSp (Pre_number_of 20 T))) (g_SIGN_BYTE : ∃ u, mg "SIGN_BYTE" = some u ∧ RelV (.int 128) u) (mc : MCls T.K (T.C 0)) (c_Mach_enter : CalM P w T.K mg base 1 (T.C 0) "enter" ["self", "word", "m", "n"] (mkSp (Pre_Mach_enter T))) (c_count_reading : Cal P w T.K mg base 3 "count_reading" ["machine", "number", "size"] (mkSp (Pre_count_reading T))) : FnOk P w T.K mg base CX0 23 f fd ["machine", "row", "order", "signed"] (mkSp (Pre_from_bytes T)) := by
  refine fn_okK F sc_from_bytes (fun As Ω R h => ?_) (fun cdv A outer s H E hr As Ω R F0 h => ?_)
  · obtain ⟨k0, p0, x0, x1, x2, x3, r, rfl, _⟩ := h
    rfl
  obtain ⟨k0, p0, x0, x1, x2, x3, r, rfl, hk0, hm, rfl⟩ := h
  refine ⟨_, (pss_cons (ps_expr (pe_cal c_check_machine (hr.mono (by decide)) (by rfl) (pa_cons (pv 0) pa_nil))) (pss_cons (ps_if (PW.pt (pw_or (pt_not (pt_val (pe_callB (cr_isiK (K := T.K) rfl) (by rfl) z_isinstance (by decide +kernel) (pa_cons (pv 1) (pa_cons (pe_bltn (v := .ty "list") (by rfl) z_list (by decide +kernel) rfl) pa_nil))))) (pw_or1 (pt_cmpR op_gt (pe_callB (cr_lenK (K := T.K) rfl) (by rfl) z_len PySem.boot_len (pa_cons (pv 1) pa_nil)) (pe_gl rfl g_LONGEST_ROW) (nomark _))))) pss_never pss_nil) (pss_cons (ps_if (pt_not (pt_val (pe_callB (cr_allK (K := T.K) rfl rfl) (by rfl) z_all (by decide +kernel) (pa_cons (pe_lc (own := [("part", 6)]) rfl sc_from_bytes.nd (pi_listK (K := T.K) (pv 1) rfl) (blkOk_by (N := ["machine", "row", "order", "signed", "size", "number", "part"]) (sc := defScope s_from_bytes) (by decide +kernel)) (fun _ _ _ _ _ => (pg_name (i := 6) sc_from_bytes.nd rfl (.inl rfl))) (fun _ _ _ _ _ => pts_nil) (fun _ _ _ _ _ => (pe_cal c_is_between (hr.mono (by decide)) (by rfl) (pa_cons (pv 6) (pa_cons pe_int (pa_cons (pe_gl rfl g_GREATEST_BYTE) pa_nil)))))) pa_nil)))) pss_never pss_nil) (pss_cons (ps_expr (pe_cal c_check_order (hr.mono (by decide)) (by rfl) (pa_cons (pv 2) pa_nil))) (pss_cons (ps_expr (pe_cal c_check_signed (hr.mono (by decide)) (by rfl) (pa_cons (pv 3) pa_nil))) (pss_cons (ps_set (i := 4) sc_from_bytes.nd rfl (.inl rfl) (pe_callB (cr_lenK (K := T.K) rfl) (by rfl) z_len PySem.boot_len (pa_cons (pv 1) pa_nil))) (pss_cons (ps_if (pt_cmpR (op_eqXK (K := T.K) (by exact hr.units) rfl) (pv 4) pe_int (nomark _)) (pss_one (ps_ret (pe_cal c_big_of (hr.mono (by decide)) (by rfl) (pa_cons (pv 0) (pa_cons pe_int pa_nil))))) pss_nil) (pss_cons (ps_set (i := 5) sc_from_bytes.nd rfl (.inl rfl) (pe_cal c_number_of (hr.mono (by decide)) (by rfl) (pa_cons (pe_gl rfl g_BYTE) (pa_cons (pe_ifExp (pt_cmpR (op_eqXK (K := T.K) (by exact hr.units) rfl) (pv 2) pe_str (nomark _)) (pv 1) (pe_listRevK (K := T.K) rfl rfl (by rfl) z_list (by rfl) z_reversed (pv 1))) pa_nil)))) (Evl.pss_cut (ps_if (PW.pt (pw_and (pt_val (pv 3)) (pw_and1 (pt_cmpR op_ge (pe_op op_shr (pv 5) (pe_op op_mulQ (pe_op op_sub (pv 4) pe_int) (pe_gl rfl g_BYTE))) (pe_gl rfl g_SIGN_BYTE) (nomark _))))) (pss_one (ps_aug (i := 5) sc_from_bytes.nd rfl (.inl rfl) (pe_op op_shlW pe_int (pe_op op_mulQ (pv 4) (pe_gl rfl g_BYTE))) (ip_of iop_sub))) pss_nil) (pss_cons (ps_expr (pe_calM (pv 0) c_Mach_enter (hr.mono (by decide)) (pa_cons pe_str (pa_cons (pv 4) (pa_cons pe_int pa_nil))))) (pss_cons (ps_expr (pe_cal c_count_reading (hr.mono (by decide)) (by rfl) (pa_cons (pv 0) (pa_cons (pv 5) (pa_cons (pv 4) pa_nil))))) (pss_one (ps_ret (pe_cal c_big_of (hr.mono (by decide)) (by rfl) (pa_cons (pv 0) (pa_cons (pv 5) pa_nil)))))))))))))))), fun D hrt hnx => ?_⟩
  have ok := okk1 hk0
  suffices hx : XS _ D F0 [some (vr p0), some (va T (LF.mk x1)), some (va T x2), some (va T x3), none, none, none] (stt Ω [(k0, machA T p0 x0)] []) by
    rw [show (stt Ω [(k0, machA T p0 x0)] []) = Ω from stt_self (by simp [hk0])] at hx
    exact hx
  unfold M_from_bytes at hm
  obtain ⟨z1, hz1, hm⟩ := bnd_some hm
  refine xs_drop (xe_call (xa_cons (xe_var (i := 0) rfl) xa_nil) ⟨k0, p0, x0, z1, rfl, (stt_get ok (i := 0) rfl), hz1, rfl⟩ cal0) ?_
  show XS (tSeq _ _) _ _ [some (vr p0), some (va T (LF.mk x1)), some (va T x2), some (va T x3), none, none, none] (stt Ω [(k0, machA T p0 x0)] [])
  obtain ⟨z2, hz2, hm⟩ := bnd_some hm
  obtain ⟨z3, hz3, hm⟩ := bnd_some hm
  refine xs_ifN (xt_orF (xt_notF (xt_eq (xt_tB (T := T) (xe_isi (xe_var (i := 1) rfl) xe_vx (.ty _) (fun F H v hh a => ty_lst hh a) (kit_ty (by decide +kernel)))) (chkP_some hz2))) (xt_eq (xt_test (T := T) (xe_gt (xe_lenL (xe_var (i := 1) rfl) isL_LF) xe_int)) (chkP_some hz3))) ?_
  show XS (tSeq _ _) _ _ [some (vr p0), some (va T (LF.mk x1)), some (va T x2), some (va T x3), none, none, none] (stt Ω [(k0, machA T p0 x0)] [])
  obtain ⟨z4, hz4, hm⟩ := bnd_some hm
  obtain ⟨z8, hz8, hm⟩ := bnd_some hm
  obtain ⟨z10, hz10, hm⟩ := bnd_some hm
  refine xs_ifN (xt_notF (xt_eq (xt_tB (T := T) (xe_all (xe_fz (xn_lcS (T := T) (fun (s5 : Unit) => [(k0, machA T p0 x0)]) (fun (s5 : Unit) => []) hz8 (xi_LF (xe_var (i := 1) rfl)) (fun _ => tgt_name) (by simp) (chkP_some hz4) ?q9)) isL_LF)) (chkP_some hz10))) ?_
  case q9 =>
    exact (fun a6 s5 o s2 ha hm X => by
      obtain ⟨z7, hz7, hm⟩ := bnd_some hm
      obtain ⟨rfl, rfl⟩ := Prod.mk.inj (Option.some.inj hm)
      refine ⟨(fun e => nomatch e), fun y e => ?_⟩
      obtain rfl := Option.some.inj e
      refine ⟨xt_yes, (xe_call (xa_cons (xe_var (i := 6) rfl) (xa_cons xe_int (xa_cons xe_int xa_nil))) ⟨a6, (0 : Int), (255 : Int), z7, rfl, hz7, rfl⟩ cal0)⟩)
  show XS (tSeq _ _) _ _ [some (vr p0), some (va T (LF.mk x1)), some (va T x2), some (va T x3), none, none, none] (stt Ω [(k0, machA T p0 x0)] [])
  obtain ⟨z11, hz11, hm⟩ := bnd_some hm
  refine xs_drop (xe_call (xa_cons (xe_var (i := 2) rfl) xa_nil) ⟨x2, z11, rfl, hz11, rfl⟩ cal0) ?_
  show XS (tSeq _ _) _ _ [some (vr p0), some (va T (LF.mk x1)), some (va T x2), some (va T x3), none, none, none] (stt Ω [(k0, machA T p0 x0)] [])
  obtain ⟨z12, hz12, hm⟩ := bnd_some hm
  refine xs_drop (xe_call (xa_cons (xe_var (i := 3) rfl) xa_nil) ⟨x3, z12, rfl, hz12, rfl⟩ cal0) ?_
  show XS (tSeq _ _) _ _ [some (vr p0), some (va T (LF.mk x1)), some (va T x2), some (va T x3), none, none, none] (stt Ω [(k0, machA T p0 x0)] [])
  obtain ⟨y13, hy13, hm⟩ := bnd_some hm
  refine xs_set (A := va T y13) (xe_eq (xe_lenL (xe_var (i := 1) rfl) isL_LF) (Option.some.inj hy13)) ?_
  show XS (tSeq _ _) _ _ [some (vr p0), some (va T (LF.mk x1)), some (va T x2), some (va T x3), some (va T y13), none, none] (stt Ω [(k0, machA T p0 x0)] [])
  by_cases hc : (decide (y13 = (0 : Int))) = true
  · rw [if_pos hc] at hm
    refine xs_ifT (xt_eq (xt_test (T := T) (xe_eqI (xe_var (i := 4) rfl) xe_int)) hc) ?_
    obtain ⟨z14, hz14, hm⟩ := bnd_some hm
    obtain rfl := Option.some.inj hm
    refine xs_ret (xe_call (xa_cons (xe_var (i := 0) rfl) (xa_cons xe_int xa_nil)) ⟨k0, p0, x0, (0 : Int), z14, rfl, (stt_get ok (i := 0) rfl), hz14, rfl⟩ cal0) hrt.all
  · rw [if_neg hc] at hm
    refine xs_ifN (xt_eq (xt_test (T := T) (xe_eqI (xe_var (i := 4) rfl) xe_int)) (nt hc)) ?_
    show XS (tSeq _ _) _ _ [some (vr p0), some (va T (LF.mk x1)), some (va T x2), some (va T x3), some (va T y13), none, none] (stt Ω [(k0, machA T p0 x0)] [])
    obtain ⟨z15, hz15, hm⟩ := bnd_some hm
    refine xs_set (A := va T z15) (xe_call (xa_cons xe_int (xa_cons (xe_iteL (xt_test (T := T) (xe_eqS (xe_var (i := 2) rfl) xe_str)) (xe_var (i := 1) rfl) (xe_listRev (xe_var (i := 1) rfl) isL_LF)) xa_nil)) ⟨(8 : Int), (if (decide (x2 = ("little" : Str))) = true then x1 else x1.reverse), z15, rfl, hz15, rfl⟩ cal0) ?_
    show XS (Evl.tCut _ _) _ _ [some (vr p0), some (va T (LF.mk x1)), some (va T x2), some (va T x3), some (va T y13), some (va T z15), none] (stt Ω [(k0, machA T p0 x0)] [])
    obtain ⟨z18, hz18, hm⟩ := bnd_some hm
    obtain ⟨z25, hz25, hm⟩ := bnd_some hm
    refine xs_cut (Γ' := [some (vr p0), some (va T (LF.mk x1)), some (va T x2), some (va T x3), some (va T y13), some (va T z25), none]) (Ω' := (stt Ω [(k0, machA T p0 x0)] [])) ?_ ?_
    · clear hm
      have hm := hz25
      clear hz25
      by_cases hc : z18 = true
      · rw [if_pos hc] at hm
        refine xs_ifT1 (xt_eq (xt_andO (xt_tB (T := T) (xe_var (i := 3) rfl)) hz18 ?q19) hc) ?_
        case q19 =>
          exact (fun v hm => by
            obtain ⟨z16, hz16, hm⟩ := bnd_some hm
            obtain ⟨z17, hz17, hm⟩ := bnd_some hm
            obtain rfl := Option.some.inj hm
            exact (xt_test (T := T) (xe_ge (xe_shr (chkP_some hz17) (xe_var (i := 5) rfl) (xe_mul (chkP_some hz16) (xe_sub (xe_var (i := 4) rfl) xe_int) xe_int)) xe_int)))
        obtain ⟨z20, hz20, hm⟩ := bnd_some hm
        obtain ⟨z21, hz21, hm⟩ := bnd_some hm
        obtain ⟨y22, hy22, hm⟩ := bnd_some hm
        refine xs_augI1 (T := T) rfl (xe_shl (chkP_some hz21) xe_int (xe_mul (chkP_some hz20) (xe_var (i := 4) rfl) xe_int)) (Option.some.inj hy22) ?_
        obtain rfl := Option.some.inj hm
        exact fun σ H n => n
      · rw [if_neg hc] at hm
        refine xs_ifF1 (xt_eq (xt_andO (xt_tB (T := T) (xe_var (i := 3) rfl)) hz18 ?q19) (nt hc)) ?_
        case q19 =>
          exact (fun v hm => by
            obtain ⟨z16, hz16, hm⟩ := bnd_some hm
            obtain ⟨z17, hz17, hm⟩ := bnd_some hm
            obtain rfl := Option.some.inj hm
            exact (xt_test (T := T) (xe_ge (xe_shr (chkP_some hz17) (xe_var (i := 5) rfl) (xe_mul (chkP_some hz16) (xe_sub (xe_var (i := 4) rfl) xe_int) xe_int)) xe_int)))
        obtain rfl := Option.some.inj hm
        exact fun σ H n => n
    · refine xs_drop (xe_mcall (xe_var (i := 0) rfl) (stt_get ok (i := 0) rfl) (xa_cons xe_str (xa_cons (xe_var (i := 4) rfl) (xa_cons xe_int xa_nil))) ⟨k0, p0, x0, ("from bytes" : Str), y13, (0 : Int), rfl, (stt_get ok (i := 0) rfl), rfl⟩ (cal1 ok (i := 0) rfl)) ?_
      show XS (tSeq _ _) _ _ [some (vr p0), some (va T (LF.mk x1)), some (va T x2), some (va T x3), some (va T y13), some (va T z25), none] (stt Ω [(k0, machA T p0 (x0.enter ("from bytes" : Str) y13 (0 : Int)))] [])
      obtain ⟨z26, hz26, hm⟩ := bnd_some hm
      refine xs_drop (xe_call (xa_cons (xe_var (i := 0) rfl) (xa_cons (xe_var (i := 5) rfl) (xa_cons (xe_var (i := 4) rfl) xa_nil))) ⟨k0, p0, (x0.enter ("from bytes" : Str) y13 (0 : Int)), z25, y13, z26, rfl, (stt_get ok (i := 0) rfl), hz26, rfl⟩ (cal1 ok (i := 0) rfl)) ?_
      show XS (tRet _) _ _ [some (vr p0), some (va T (LF.mk x1)), some (va T x2), some (va T x3), some (va T y13), some (va T z25), none] (stt Ω [(k0, machA T p0 z26.2)] [])
      obtain ⟨z27, hz27, hm⟩ := bnd_some hm
      obtain rfl := Option.some.inj hm
      refine xs_ret (xe_call (xa_cons (xe_var (i := 0) rfl) (xa_cons (xe_var (i := 5) rfl) xa_nil)) ⟨k0, p0, z26.2, z25, z27, rfl, (stt_get ok (i := 0) rfl), hz27, rfl⟩ cal0) hrt.all
noncomputable def M_added (x0 : MS) (x1 : Int) (x2 : Int) (x3 : Int) (x4 : Int) : Option (Int × MS) :=
  (chkP (("sum" : Str) ∈ mwords)).bind fun z1 => some ((x1 + x3), ((x0.enter ("add" : Str) x2 x4).step ("sum" : Str) (max x2 x4)))
def Pre_added (T : TC) : PreT := fun As Ω R => ∃ (k0 : Nat) (p0 : Addr) (x0 : MS) (x1 : Int) (x2 : Int) (x3 : Int) (x4 : Int) (r : Int × MS), As = [vr p0, va T x1, va T x2, va T x3, va T x4] ∧ Ω[k0]? = some (machA T p0 x0) ∧ M_added x0 x1 x2 x3 x4 = some r ∧ R = RV (va T r.1) (stt Ω [(k0, machA T p0 r.2)] [])
theorem sc_added : FnScope ["machine", "a", "m", "b", "n"] ["machine", "a", "m", "b", "n"] (defScope s_added) := ⟨rfl, rfl, rfl, by decide +kernel, rfl, by decide +kernel, by decide +kernel⟩
theorem ok_added {f : Addr} {fd : FuncData} (F : Fun T.K "added" "added" s_added f fd) (mc : MCls T.K (T.C 0)) (c_Mach_enter : CalM P w T.K mg base 1 (T.C 0) "enter" ["self", "word", "m", "n"] (mkSp (Pre_Mach_enter T))) (z_max : mg "max" = none) (c_Mach_step : CalM P w T.K mg base 1 (T.C 0) "step" ["self", "word", "many"] (mkSp (Pre_Mach_step T))) : FnOk P w T.K mg base CX0 2 f fd ["machine", "a", "m", "b", "n"] (mkSp (Pre_added T)) := by
  refine fn_ok F sc_added (fun As Ω R h => ?_) (fun cdv A outer s H E hr As Ω R F0 h => ?_)
  · obtain ⟨k0, p0, x0, x1, x2, x3, x4, r, rfl, _⟩ := h
    rfl
  obtain ⟨k0, p0, x0, x1, x2, x3, x4, r, rfl, hk0, hm, rfl⟩ := h
  refine ⟨_, (pss_cons (ps_expr (pe_calM (pv 0) c_Mach_enter (hr.mono (by decide)) (pa_cons pe_str (pa_cons (pv 2) (pa_cons (pv 4) pa_nil))))) (pss_cons (ps_expr (pe_calM (pv 0) c_Mach_step (hr.mono (by decide)) (pa_cons pe_str (pa_cons (pe_callB (cr_max2 rfl) (by rfl) z_max (by decide +kernel) (pa_cons (pv 2) (pa_cons (pv 4) pa_nil))) pa_nil)))) (pss_one (ps_ret (pe_op op_addQ (pv 1) (pv 3)))))), fun D hrt hnx => ?_⟩
  have ok := okk1 hk0
  suffices hx : XS _ D F0 [some (vr p0), some (va T x1), some (va T x2), some (va T x3), some (va T x4)] (stt Ω [(k0, machA T p0 x0)] []) by
    rw [show (stt Ω [(k0, machA T p0 x0)] []) = Ω from stt_self (by simp [hk0])] at hx
    exact hx
  unfold M_added at hm
  refine xs_drop (xe_mcall (xe_var (i := 0) rfl) (stt_get ok (i := 0) rfl) (xa_cons xe_str (xa_cons (xe_var (i := 2) rfl) (xa_cons (xe_var (i := 4) rfl) xa_nil))) ⟨k0, p0, x0, ("add" : Str), x2, x4, rfl, (stt_get ok (i := 0) rfl), rfl⟩ (cal1 ok (i := 0) rfl)) ?_
  show XS (tSeq _ _) _ _ [some (vr p0), some (va T x1), some (va T x2), some (va T x3), some (va T x4)] (stt Ω [(k0, machA T p0 (x0.enter ("add" : Str) x2 x4))] [])
  obtain ⟨z1, hz1, hm⟩ := bnd_some hm
  refine xs_drop (xe_mcall (xe_var (i := 0) rfl) (stt_get ok (i := 0) rfl) (xa_cons xe_str (xa_cons (xe_max2 (xe_var (i := 2) rfl) (xe_var (i := 4) rfl)) xa_nil)) ⟨k0, p0, (x0.enter ("add" : Str) x2 x4), ("sum" : Str), (max x2 x4), rfl, (stt_get ok (i := 0) rfl), chkP_some hz1, rfl⟩ (cal1 ok (i := 0) rfl)) ?_
  show XS (tRet _) _ _ [some (vr p0), some (va T x1), some (va T x2), some (va T x3), some (va T x4)] (stt Ω [(k0, machA T p0 ((x0.enter ("add" : Str) x2 x4).step ("sum" : Str) (max x2 x4)))] [])
  obtain rfl := Option.some.inj hm
  refine xs_ret (xe_add (xe_var (i := 1) rfl) (xe_var (i := 3) rfl)) hrt.all
noncomputable def M_taken (x0 : MS) (x1 : Int) (x2 : Int) : Option (Int × MS) :=
  (M_size_of x0.w x1).bind fun z1 => (M_size_of x0.w x2).bind fun z2 => (if (decide (z1 = z2)) = true then (M_last_difference (x0.enter ("take" : Str) z1 z2) x1 x2).bind fun z3 => (chkP (("sum" : Str) ∈ mwords)).bind fun z4 => some (z3.2.step ("sum" : Str) (z3.1 + (1 : Int))) else (chkP (("sum" : Str) ∈ mwords)).bind fun z6 => some ((x0.enter ("take" : Str) z1 z2).step ("sum" : Str) (max z1 z2))).bind fun z8 => some ((x1 - x2), z8)
def Pre_taken (T : TC) : PreT := fun As Ω R => ∃ (k0 : Nat) (p0 : Addr) (x0 : MS) (x1 : Int) (x2 : Int) (r : Int × MS), As = [vr p0, va T x1, va T x2] ∧ Ω[k0]? = some (machA T p0 x0) ∧ M_taken x0 x1 x2 = some r ∧ R = RV (va T r.1) (stt Ω [(k0, machA T p0 r.2)] [])
theorem sc_taken : FnScope ["machine", "a", "b", "m", "n"] ["machine", "a", "b"] (defScope s_taken) := ⟨rfl, rfl, rfl, by decide +kernel, rfl, by decide +kernel, by decide +kernel⟩
theorem ok_taken {f : Addr} {fd : FuncData} (F : Fun T.K "taken" "taken" s_taken f fd) (mc : MCls T.K (T.C 0)) (c_size_of : Cal P w T.K mg base 2 "size_of" ["width", "n"] (mkSp (Pre_size_of T))) (c_Mach_enter : CalM P w T.K mg base 1 (T.C 0) "enter" ["self", "word", "m", "n"] (mkSp (Pre_Mach_enter T))) (c_last_difference : Cal P w T.K mg base 3 "last_difference" ["machine", "a", "b"] (mkSp (Pre_last_difference T))) (c_Mach_step : CalM P w T.K mg base 1 (T.C 0) "step" ["self", "word", "many"] (mkSp (Pre_Mach_step T))) (z_max : mg "max" = none) : FnOk P w T.K mg base CX0 4 f fd ["machine", "a", "b"] (mkSp (Pre_taken T)) := by
  refine fn_ok F sc_taken (fun As Ω R h => ?_) (fun cdv A outer s H E hr As Ω R F0 h => ?_)
  · obtain ⟨k0, p0, x0, x1, x2, r, rfl, _⟩ := h
    rfl
  obtain ⟨k0, p0, x0, x1, x2, r, rfl, hk0, hm, rfl⟩ := h
  refine ⟨_, (pss_cons (ps_set (i := 3) sc_taken.nd rfl (.inl rfl) (pe_cal c_size_of (hr.mono (by decide)) (by rfl) (pa_cons (pe_fldK (K := T.K) (pv 0) (by rfl) rfl) (pa_cons (pv 1) pa_nil)))) (pss_cons (ps_set (i := 4) sc_taken.nd rfl (.inl rfl) (pe_cal c_size_of (hr.mono (by decide)) (by rfl) (pa_cons (pe_fldK (K := T.K) (pv 0) (by rfl) rfl) (pa_cons (pv 2) pa_nil)))) (pss_cons (ps_expr (pe_calM (pv 0) c_Mach_enter (hr.mono (by decide)) (pa_cons pe_str (pa_cons (pv 3) (pa_cons (pv 4) pa_nil))))) (Evl.pss_cut (ps_if (pt_cmpR (op_eqXK (K := T.K) (by exact hr.units) rfl) (pv 3) (pv 4) (nomark _)) (pss_one (ps_expr (pe_calM (pv 0) c_Mach_step (hr.mono (by decide)) (pa_cons pe_str (pa_cons (pe_op op_addQ (pe_cal c_last_difference (hr.mono (by decide)) (by rfl) (pa_cons (pv 0) (pa_cons (pv 1) (pa_cons (pv 2) pa_nil)))) pe_int) pa_nil))))) (pss_one (ps_expr (pe_calM (pv 0) c_Mach_step (hr.mono (by decide)) (pa_cons pe_str (pa_cons (pe_callB (cr_max2 rfl) (by rfl) z_max (by decide +kernel) (pa_cons (pv 3) (pa_cons (pv 4) pa_nil))) pa_nil)))))) (pss_one (ps_ret (pe_op op_sub (pv 1) (pv 2)))))))), fun D hrt hnx => ?_⟩
  have ok := okk1 hk0
  suffices hx : XS _ D F0 [some (vr p0), some (va T x1), some (va T x2), none, none] (stt Ω [(k0, machA T p0 x0)] []) by
    rw [show (stt Ω [(k0, machA T p0 x0)] []) = Ω from stt_self (by simp [hk0])] at hx
    exact hx
  unfold M_taken at hm
  obtain ⟨z1, hz1, hm⟩ := bnd_some hm
  refine xs_set (A := va T z1) (xe_call (xa_cons (xe_mw mc.cl mc.nw (xe_var (i := 0) rfl) (stt_get ok (i := 0) rfl)) (xa_cons (xe_var (i := 1) rfl) xa_nil)) ⟨x0.w, x1, z1, rfl, hz1, rfl⟩ cal0) ?_
  show XS (tSeq _ _) _ _ [some (vr p0), some (va T x1), some (va T x2), some (va T z1), none] (stt Ω [(k0, machA T p0 x0)] [])
  obtain ⟨z2, hz2, hm⟩ := bnd_some hm
  refine xs_set (A := va T z2) (xe_call (xa_cons (xe_mw mc.cl mc.nw (xe_var (i := 0) rfl) (stt_get ok (i := 0) rfl)) (xa_cons (xe_var (i := 2) rfl) xa_nil)) ⟨x0.w, x2, z2, rfl, hz2, rfl⟩ cal0) ?_
  show XS (tSeq _ _) _ _ [some (vr p0), some (va T x1), some (va T x2), some (va T z1), some (va T z2)] (stt Ω [(k0, machA T p0 x0)] [])
  refine xs_drop (xe_mcall (xe_var (i := 0) rfl) (stt_get ok (i := 0) rfl) (xa_cons xe_str (xa_cons (xe_var (i := 3) rfl) (xa_cons (xe_var (i := 4) rfl) xa_nil))) ⟨k0, p0, x0, ("take" : Str), z1, z2, rfl, (stt_get ok (i := 0) rfl), rfl⟩ (cal1 ok (i := 0) rfl)) ?_
  show XS (Evl.tCut _ _) _ _ [some (vr p0), some (va T x1), some (va T x2), some (va T z1), some (va T z2)] (stt Ω [(k0, machA T p0 (x0.enter ("take" : Str) z1 z2))] [])
  obtain ⟨z8, hz8, hm⟩ := bnd_some hm
  refine xs_cut (Γ' := [some (vr p0), some (va T x1), some (va T x2), some (va T z1), some (va T z2)]) (Ω' := (stt Ω [(k0, machA T p0 z8)] [])) ?_ ?_
  · clear hm
    have hm := hz8
    clear hz8
    by_cases hc : (decide (z1 = z2)) = true
    · rw [if_pos hc] at hm
      refine xs_ifT1 (xt_eq (xt_test (T := T) (xe_eqI (xe_var (i := 3) rfl) (xe_var (i := 4) rfl))) hc) ?_
      obtain ⟨z3, hz3, hm⟩ := bnd_some hm
      obtain ⟨z4, hz4, hm⟩ := bnd_some hm
      refine xs_drop1 (xe_mcall (xe_var (i := 0) rfl) (stt_get ok (i := 0) rfl) (xa_cons xe_str (xa_cons (xe_add (xe_call (xa_cons (xe_var (i := 0) rfl) (xa_cons (xe_var (i := 1) rfl) (xa_cons (xe_var (i := 2) rfl) xa_nil))) ⟨k0, p0, (x0.enter ("take" : Str) z1 z2), x1, x2, z3, rfl, (stt_get ok (i := 0) rfl), hz3, rfl⟩ (cal1 ok (i := 0) rfl)) xe_int) xa_nil)) ⟨k0, p0, z3.2, ("sum" : Str), (z3.1 + (1 : Int)), rfl, (stt_get ok (i := 0) rfl), chkP_some hz4, rfl⟩ (cal1 ok (i := 0) rfl)) ?_
      obtain rfl := Option.some.inj hm
      exact fun σ H n => n
    · rw [if_neg hc] at hm
      refine xs_ifF1 (xt_eq (xt_test (T := T) (xe_eqI (xe_var (i := 3) rfl) (xe_var (i := 4) rfl))) (nt hc)) ?_
      obtain ⟨z6, hz6, hm⟩ := bnd_some hm
      refine xs_drop1 (xe_mcall (xe_var (i := 0) rfl) (stt_get ok (i := 0) rfl) (xa_cons xe_str (xa_cons (xe_max2 (xe_var (i := 3) rfl) (xe_var (i := 4) rfl)) xa_nil)) ⟨k0, p0, (x0.enter ("take" : Str) z1 z2), ("sum" : Str), (max z1 z2), rfl, (stt_get ok (i := 0) rfl), chkP_some hz6, rfl⟩ (cal1 ok (i := 0) rfl)) ?_
      obtain rfl := Option.some.inj hm
      exact fun σ H n => n
  · obtain rfl := Option.some.inj hm
    refine xs_ret (xe_sub (xe_var (i := 1) rfl) (xe_var (i := 2) rfl)) hrt.all
noncomputable def M_joined (x0 : MS) (x1 : Int) (x2 : Int) (x3 : Int) : Option (Int × MS) :=
  (M_are_compact x0 x1 x2).bind fun z1 => if z1 = true then (chkP (("short" : Str) ∈ mwords)).bind fun z2 => (chkP (IntMulOk x3 x2)).bind fun z3 => some ((x1 + (x3 * x2)), (x0.step ("short" : Str) (1 : Int))) else if (decide ((decide ((decide (x1 < (0 : Int))) = (decide (x2 < (0 : Int))))) = (decide (x3 = (1 : Int))))) = true then (M_size_of x0.w x1).bind fun z4 => (M_size_of x0.w x2).bind fun z5 => (M_added x0 ((x1.natAbs : Nat) : Int) z4 ((x2.natAbs : Nat) : Int) z5).bind fun z6 => some ((if (decide (x1 < (0 : Int))) = true then (-z6.1) else z6.1), z6.2) else if (decide (x1 < (0 : Int))) = true then (M_taken x0 ((x2.natAbs : Nat) : Int) ((x1.natAbs : Nat) : Int)).bind fun z7 => some (z7.1, z7.2) else (M_taken x0 ((x1.natAbs : Nat) : Int) ((x2.natAbs : Nat) : Int)).bind fun z8 => some (z8.1, z8.2)
def Pre_joined (T : TC) : PreT := fun As Ω R => ∃ (k0 : Nat) (p0 : Addr) (x0 : MS) (x1 : Int) (x2 : Int) (x3 : Int) (r : Int × MS), As = [vr p0, va T x1, va T x2, va T x3] ∧ Ω[k0]? = some (machA T p0 x0) ∧ M_joined x0 x1 x2 x3 = some r ∧ R = RV (va T r.1) (stt Ω [(k0, machA T p0 r.2)] [])
theorem sc_joined : FnScope ["machine", "x", "y", "turn", "total"] ["machine", "x", "y", "turn"] (defScope s_joined) := ⟨rfl, rfl, rfl, by decide +kernel, rfl, by decide +kernel, by decide +kernel⟩
theorem ok_joined {f : Addr} {fd : FuncData} (F : Fun T.K "joined" "joined" s_joined f fd) (c_are_compact : Cal P w T.K mg base 2 "are_compact" ["machine", "x", "y"] (mkSp (Pre_are_compact T))) (mc : MCls T.K (T.C 0)) (c_Mach_step : CalM P w T.K mg base 1 (T.C 0) "step" ["self", "word", "many"] (mkSp (Pre_Mach_step T))) (z_abs : mg "abs" = none) (c_size_of : Cal P w T.K mg base 2 "size_of" ["width", "n"] (mkSp (Pre_size_of T))) (c_added : Cal P w T.K mg base 2 "added" ["machine", "a", "m", "b", "n"] (mkSp (Pre_added T))) (c_taken : Cal P w T.K mg base 4 "taken" ["machine", "a", "b"] (mkSp (Pre_taken T))) : FnOk P w T.K mg base CX0 5 f fd ["machine", "x", "y", "turn"] (mkSp (Pre_joined T)) := by
  refine fn_ok F sc_joined (fun As Ω R h => ?_) (fun cdv A outer s H E hr As Ω R F0 h => ?_)
  · obtain ⟨k0, p0, x0, x1, x2, x3, r, rfl, _⟩ := h
    rfl
  obtain ⟨k0, p0, x0, x1, x2, x3, r, rfl, hk0, hm, rfl⟩ := h
  refine ⟨_, (pss_cons (ps_if (pt_val (pe_cal c_are_compact (hr.mono (by decide)) (by rfl) (pa_cons (pv 0) (pa_cons (pv 1) (pa_cons (pv 2) pa_nil))))) (pss_cons (ps_expr (pe_calM (pv 0) c_Mach_step (hr.mono (by decide)) (pa_cons pe_str (pa_cons pe_int pa_nil)))) (pss_one (ps_ret (pe_op op_addQ (pv 1) (pe_op op_mulQ (pv 3) (pv 2)))))) pss_nil) (pss_cons (ps_if (pt_cmpR (op_eqXK (K := T.K) (by exact hr.units) rfl) (pe_cmpR (op_eqXK (K := T.K) (by exact hr.units) rfl) (pe_cmpR op_lt (pv 1) pe_int (nomark _)) (pe_cmpR op_lt (pv 2) pe_int (nomark _)) (nomark _)) (pe_cmpR (op_eqXK (K := T.K) (by exact hr.units) rfl) (pv 3) pe_int (nomark _)) (nomark _)) (pss_cons (ps_set (i := 4) sc_joined.nd rfl (.inl rfl) (pe_cal c_added (hr.mono (by decide)) (by rfl) (pa_cons (pv 0) (pa_cons (pe_callB cr_abs (by rfl) z_abs (by decide +kernel) (pa_cons (pv 1) pa_nil)) (pa_cons (pe_cal c_size_of (hr.mono (by decide)) (by rfl) (pa_cons (pe_fldK (K := T.K) (pv 0) (by rfl) rfl) (pa_cons (pv 1) pa_nil))) (pa_cons (pe_callB cr_abs (by rfl) z_abs (by decide +kernel) (pa_cons (pv 2) pa_nil)) (pa_cons (pe_cal c_size_of (hr.mono (by decide)) (by rfl) (pa_cons (pe_fldK (K := T.K) (pv 0) (by rfl) rfl) (pa_cons (pv 2) pa_nil))) pa_nil))))))) (pss_one (ps_ret (pe_ifExp (pt_cmpR op_lt (pv 1) pe_int (nomark _)) (pe_un un_neg (pv 4)) (pv 4))))) pss_nil) (pss_cons (ps_if (pt_cmpR op_lt (pv 1) pe_int (nomark _)) (pss_one (ps_ret (pe_cal c_taken (hr.mono (by decide)) (by rfl) (pa_cons (pv 0) (pa_cons (pe_callB cr_abs (by rfl) z_abs (by decide +kernel) (pa_cons (pv 2) pa_nil)) (pa_cons (pe_callB cr_abs (by rfl) z_abs (by decide +kernel) (pa_cons (pv 1) pa_nil)) pa_nil)))))) pss_nil) (pss_one (ps_ret (pe_cal c_taken (hr.mono (by decide)) (by rfl) (pa_cons (pv 0) (pa_cons (pe_callB cr_abs (by rfl) z_abs (by decide +kernel) (pa_cons (pv 1) pa_nil)) (pa_cons (pe_callB cr_abs (by rfl) z_abs (by decide +kernel) (pa_cons (pv 2) pa_nil)) pa_nil))))))))), fun D hrt hnx => ?_⟩
  have ok := okk1 hk0
  suffices hx : XS _ D F0 [some (vr p0), some (va T x1), some (va T x2), some (va T x3), none] (stt Ω [(k0, machA T p0 x0)] []) by
    rw [show (stt Ω [(k0, machA T p0 x0)] []) = Ω from stt_self (by simp [hk0])] at hx
    exact hx
  unfold M_joined at hm
  obtain ⟨z1, hz1, hm⟩ := bnd_some hm
  by_cases hc : z1 = true
  · rw [if_pos hc] at hm
    refine xs_ifT (xt_eq (xt_tB (T := T) (xe_call (xa_cons (xe_var (i := 0) rfl) (xa_cons (xe_var (i := 1) rfl) (xa_cons (xe_var (i := 2) rfl) xa_nil))) ⟨k0, p0, x0, x1, x2, z1, rfl, (stt_get ok (i := 0) rfl), hz1, rfl⟩ cal0)) hc) ?_
    obtain ⟨z2, hz2, hm⟩ := bnd_some hm
    refine xs_drop (xe_mcall (xe_var (i := 0) rfl) (stt_get ok (i := 0) rfl) (xa_cons xe_str (xa_cons xe_int xa_nil)) ⟨k0, p0, x0, ("short" : Str), (1 : Int), rfl, (stt_get ok (i := 0) rfl), chkP_some hz2, rfl⟩ (cal1 ok (i := 0) rfl)) ?_
    show XS (tRet _) _ _ [some (vr p0), some (va T x1), some (va T x2), some (va T x3), none] (stt Ω [(k0, machA T p0 (x0.step ("short" : Str) (1 : Int)))] [])
    obtain ⟨z3, hz3, hm⟩ := bnd_some hm
    obtain rfl := Option.some.inj hm
    refine xs_ret (xe_add (xe_var (i := 1) rfl) (xe_mul (chkP_some hz3) (xe_var (i := 3) rfl) (xe_var (i := 2) rfl))) hrt.all
  · rw [if_neg hc] at hm
    refine xs_ifN (xt_eq (xt_tB (T := T) (xe_call (xa_cons (xe_var (i := 0) rfl) (xa_cons (xe_var (i := 1) rfl) (xa_cons (xe_var (i := 2) rfl) xa_nil))) ⟨k0, p0, x0, x1, x2, z1, rfl, (stt_get ok (i := 0) rfl), hz1, rfl⟩ cal0)) (nt hc)) ?_
    show XS (tSeq _ _) _ _ [some (vr p0), some (va T x1), some (va T x2), some (va T x3), none] (stt Ω [(k0, machA T p0 x0)] [])
    by_cases hc : (decide ((decide ((decide (x1 < (0 : Int))) = (decide (x2 < (0 : Int))))) = (decide (x3 = (1 : Int))))) = true
    · rw [if_pos hc] at hm
      refine xs_ifT (xt_eq (xt_test (T := T) (xe_eqB (xe_eqB (xe_lt (xe_var (i := 1) rfl) xe_int) (xe_lt (xe_var (i := 2) rfl) xe_int)) (xe_eqI (xe_var (i := 3) rfl) xe_int))) hc) ?_
      obtain ⟨z4, hz4, hm⟩ := bnd_some hm
      obtain ⟨z5, hz5, hm⟩ := bnd_some hm
      obtain ⟨z6, hz6, hm⟩ := bnd_some hm
      refine xs_set (A := va T z6.1) (xe_call (xa_cons (xe_var (i := 0) rfl) (xa_cons (xe_abs (xe_var (i := 1) rfl)) (xa_cons (xe_call (xa_cons (xe_mw mc.cl mc.nw (xe_var (i := 0) rfl) (stt_get ok (i := 0) rfl)) (xa_cons (xe_var (i := 1) rfl) xa_nil)) ⟨x0.w, x1, z4, rfl, hz4, rfl⟩ cal0) (xa_cons (xe_abs (xe_var (i := 2) rfl)) (xa_cons (xe_call (xa_cons (xe_mw mc.cl mc.nw (xe_var (i := 0) rfl) (stt_get ok (i := 0) rfl)) (xa_cons (xe_var (i := 2) rfl) xa_nil)) ⟨x0.w, x2, z5, rfl, hz5, rfl⟩ cal0) xa_nil))))) ⟨k0, p0, x0, ((x1.natAbs : Nat) : Int), z4, ((x2.natAbs : Nat) : Int), z5, z6, rfl, (stt_get ok (i := 0) rfl), hz6, rfl⟩ (cal1 ok (i := 0) rfl)) ?_
      show XS (tRet _) _ _ [some (vr p0), some (va T x1), some (va T x2), some (va T x3), some (va T z6.1)] (stt Ω [(k0, machA T p0 z6.2)] [])
      obtain rfl := Option.some.inj hm
      refine xs_ret (xe_ite (xt_test (T := T) (xe_lt (xe_var (i := 1) rfl) xe_int)) (xe_neg (xe_var (i := 4) rfl)) (xe_var (i := 4) rfl)) hrt.all
    · rw [if_neg hc] at hm
      refine xs_ifN (xt_eq (xt_test (T := T) (xe_eqB (xe_eqB (xe_lt (xe_var (i := 1) rfl) xe_int) (xe_lt (xe_var (i := 2) rfl) xe_int)) (xe_eqI (xe_var (i := 3) rfl) xe_int))) (nt hc)) ?_
      show XS (tSeq _ _) _ _ [some (vr p0), some (va T x1), some (va T x2), some (va T x3), none] (stt Ω [(k0, machA T p0 x0)] [])
      by_cases hc : (decide (x1 < (0 : Int))) = true
      · rw [if_pos hc] at hm
        refine xs_ifT (xt_eq (xt_test (T := T) (xe_lt (xe_var (i := 1) rfl) xe_int)) hc) ?_
        obtain ⟨z7, hz7, hm⟩ := bnd_some hm
        obtain rfl := Option.some.inj hm
        refine xs_ret (xe_call (xa_cons (xe_var (i := 0) rfl) (xa_cons (xe_abs (xe_var (i := 2) rfl)) (xa_cons (xe_abs (xe_var (i := 1) rfl)) xa_nil))) ⟨k0, p0, x0, ((x2.natAbs : Nat) : Int), ((x1.natAbs : Nat) : Int), z7, rfl, (stt_get ok (i := 0) rfl), hz7, rfl⟩ (cal1 ok (i := 0) rfl)) hrt.all
      · rw [if_neg hc] at hm
        refine xs_ifN (xt_eq (xt_test (T := T) (xe_lt (xe_var (i := 1) rfl) xe_int)) (nt hc)) ?_
        show XS (tRet _) _ _ [some (vr p0), some (va T x1), some (va T x2), some (va T x3), none] (stt Ω [(k0, machA T p0 x0)] [])
        obtain ⟨z8, hz8, hm⟩ := bnd_some hm
        obtain rfl := Option.some.inj hm
        refine xs_ret (xe_call (xa_cons (xe_var (i := 0) rfl) (xa_cons (xe_abs (xe_var (i := 1) rfl)) (xa_cons (xe_abs (xe_var (i := 2) rfl)) xa_nil))) ⟨k0, p0, x0, ((x1.natAbs : Nat) : Int), ((x2.natAbs : Nat) : Int), z8, rfl, (stt_get ok (i := 0) rfl), hz8, rfl⟩ (cal1 ok (i := 0) rfl)) hrt.all
noncomputable def M_count_complement (x0 : MS) (x1 : Int) : Option (Unit × MS) :=
  (chkP (("complemented" : Str) ∈ mwords)).bind fun z1 => some ((), ((x0.enter ("complement" : Str) x1 (0 : Int)).step ("complemented" : Str) x1))
def Pre_count_complement (T : TC) : PreT := fun As Ω R => ∃ (k0 : Nat) (p0 : Addr) (x0 : MS) (x1 : Int) (r : Unit × MS), As = [vr p0, va T x1] ∧ Ω[k0]? = some (machA T p0 x0) ∧ M_count_complement x0 x1 = some r ∧ R = RV (va T r.1) (stt Ω [(k0, machA T p0 r.2)] [])
theorem sc_count_complement : FnScope ["machine", "size"] ["machine", "size"] (defScope s_count_complement) := ⟨rfl, rfl, rfl, by decide +kernel, rfl, by decide +kernel, by decide +kernel⟩
theorem ok_count_complement {f : Addr} {fd : FuncData} (F : Fun T.K "count_complement" "count_complement" s_count_complement f fd) (mc : MCls T.K (T.C 0)) (c_Mach_enter : CalM P w T.K mg base 1 (T.C 0) "enter" ["self", "word", "m", "n"] (mkSp (Pre_Mach_enter T))) (c_Mach_step : CalM P w T.K mg base 1 (T.C 0) "step" ["self", "word", "many"] (mkSp (Pre_Mach_step T))) : FnOk P w T.K mg base CX0 2 f fd ["machine", "size"] (mkSp (Pre_count_complement T)) := by
  refine fn_ok F sc_count_complement (fun As Ω R h => ?_) (fun cdv A outer s H E hr As Ω R F0 h => ?_)
  · obtain ⟨k0, p0, x0, x1, r, rfl, _⟩ := h
    rfl
  obtain ⟨k0, p0, x0, x1, r, rfl, hk0, hm, rfl⟩ := h
  refine ⟨_, (pss_cons (ps_expr (pe_calM (pv 0) c_Mach_enter (hr.mono (by decide)) (pa_cons pe_str (pa_cons (pv 1) (pa_cons pe_int pa_nil))))) (pss_one (ps_expr (pe_calM (pv 0) c_Mach_step (hr.mono (by decide)) (pa_cons pe_str (pa_cons (pv 1) pa_nil)))))), fun D hrt hnx => ?_⟩
  have ok := okk1 hk0
  suffices hx : XS _ D F0 [some (vr p0), some (va T x1)] (stt Ω [(k0, machA T p0 x0)] []) by
    rw [show (stt Ω [(k0, machA T p0 x0)] []) = Ω from stt_self (by simp [hk0])] at hx
    exact hx
  unfold M_count_complement at hm
  refine xs_drop (xe_mcall (xe_var (i := 0) rfl) (stt_get ok (i := 0) rfl) (xa_cons xe_str (xa_cons (xe_var (i := 1) rfl) (xa_cons xe_int xa_nil))) ⟨k0, p0, x0, ("complement" : Str), x1, (0 : Int), rfl, (stt_get ok (i := 0) rfl), rfl⟩ (cal1 ok (i := 0) rfl)) ?_
  show XS (tDrop _) _ _ [some (vr p0), some (va T x1)] (stt Ω [(k0, machA T p0 (x0.enter ("complement" : Str) x1 (0 : Int)))] [])
  obtain ⟨z1, hz1, hm⟩ := bnd_some hm
  refine xs_drop1 (xe_mcall (xe_var (i := 0) rfl) (stt_get ok (i := 0) rfl) (xa_cons xe_str (xa_cons (xe_var (i := 1) rfl) xa_nil)) ⟨k0, p0, (x0.enter ("complement" : Str) x1 (0 : Int)), ("complemented" : Str), x1, rfl, (stt_get ok (i := 0) rfl), chkP_some hz1, rfl⟩ (cal1 ok (i := 0) rfl)) ?_
  obtain rfl := Option.some.inj hm
  exact fun σ H ⟨F, f0, e, hh⟩ => hnx F σ H _ f0 hh.all ⟨rfl, rfl⟩
noncomputable def M_count_combining (x0 : MS) (x1 : Str) (x2 : Int) (x3 : Int) (x4 : Int) : Option (Unit × MS) :=
  (M_are_compact x0 x2 x3).bind fun z1 => if z1 = true then (chkP (("short" : Str) ∈ mwords)).bind fun z2 => some ((), (x0.step ("short" : Str) (1 : Int))) else (M_size_of x0.w x2).bind fun z3 => (M_size_of x0.w x3).bind fun z4 => (if (decide (x2 < (0 : Int))) = true then (M_count_complement (x0.enter x1 z3 z4) z3).bind fun z5 => some z5.2 else some (x0.enter x1 z3 z4)).bind fun z8 => (if (decide (x3 < (0 : Int))) = true then (M_count_complement z8 z4).bind fun z9 => some z9.2 else some z8).bind fun z12 => (some (if (decide (z3 < z4)) = true then (decide (x2 < (0 : Int))) else (decide (x3 < (0 : Int))))).bind fun y13 => (chkP (("combined" : Str) ∈ mwords)).bind fun z14 => if (decide (x4 < (0 : Int))) = true then (some (if ((decide (x1 = ("or" : Str))) && y13) = true then (min z3 z4) else (max z3 z4))).bind fun y15 => (M_count_complement (z12.step ("combined" : Str) (if ((decide (x1 = ("xor" : Str))) && y13) = true then (max z3 z4) else (min z3 z4))) (y15 + (1 : Int))).bind fun z16 => some ((), z16.2) else some ((), (z12.step ("combined" : Str) (if ((decide (x1 = ("xor" : Str))) && y13) = true then (max z3 z4) else (min z3 z4))))
def Pre_count_combining (T : TC) : PreT := fun As Ω R => ∃ (k0 : Nat) (p0 : Addr) (x0 : MS) (x1 : Str) (x2 : Int) (x3 : Int) (x4 : Int) (r : Unit × MS), As = [vr p0, va T x1, va T x2, va T x3, va T x4] ∧ Ω[k0]? = some (machA T p0 x0) ∧ M_count_combining x0 x1 x2 x3 x4 = some r ∧ R = RV (va T r.1) (stt Ω [(k0, machA T p0 r.2)] [])
theorem sc_count_combining : FnScope ["machine", "word", "x", "y", "result", "m", "n", "short_is_below", "size"] ["machine", "word", "x", "y", "result"] (defScope s_count_combining) := ⟨rfl, rfl, rfl, by decide +kernel, rfl, by decide +kernel, by decide +kernel⟩
theorem ok_count_combining {f : Addr} {fd : FuncData} (F : Fun T.K "count_combining" "count_combining" s_count_combining f fd) (c_are_compact : Cal P w T.K mg base 2 "are_compact" ["machine", "x", "y"] (mkSp (Pre_are_compact T))) (mc : MCls T.K (T.C 0)) (c_Mach_step : CalM P w T.K mg base 1 (T.C 0) "step" ["self", "word", "many"] (mkSp (Pre_Mach_step T))) (c_size_of : Cal P w T.K mg base 2 "size_of" ["width", "n"] (mkSp (Pre_size_of T))) (c_Mach_enter : CalM P w T.K mg base 1 (T.C 0) "enter" ["self", "word", "m", "n"] (mkSp (Pre_Mach_enter T))) (c_count_complement : Cal P w T.K mg base 2 "count_complement" ["machine", "size"] (mkSp (Pre_count_complement T))) (z_max : mg "max" = none) (z_min : mg "min" = none) : FnOk P w T.K mg base CX0 3 f fd ["machine", "word", "x", "y", "result"] (mkSp (Pre_count_combining T)) := by
  refine fn_ok F sc_count_combining (fun As Ω R h => ?_) (fun cdv A outer s H E hr As Ω R F0 h => ?_)
  · obtain ⟨k0, p0, x0, x1, x2, x3, x4, r, rfl, _⟩ := h
    rfl
  obtain ⟨k0, p0, x0, x1, x2, x3, x4, r, rfl, hk0, hm, rfl⟩ := h
  refine ⟨_, (pss_cons (ps_if (pt_val (pe_cal c_are_compact (hr.mono (by decide)) (by rfl) (pa_cons (pv 0) (pa_cons (pv 2) (pa_cons (pv 3) pa_nil))))) (pss_cons (ps_expr (pe_calM (pv 0) c_Mach_step (hr.mono (by decide)) (pa_cons pe_str (pa_cons pe_int pa_nil)))) (pss_one ps_retN)) pss_nil) (pss_cons (ps_set (i := 5) sc_count_combining.nd rfl (.inl rfl) (pe_cal c_size_of (hr.mono (by decide)) (by rfl) (pa_cons (pe_fldK (K := T.K) (pv 0) (by rfl) rfl) (pa_cons (pv 2) pa_nil)))) (pss_cons (ps_set (i := 6) sc_count_combining.nd rfl (.inl rfl) (pe_cal c_size_of (hr.mono (by decide)) (by rfl) (pa_cons (pe_fldK (K := T.K) (pv 0) (by rfl) rfl) (pa_cons (pv 3) pa_nil)))) (pss_cons (ps_expr (pe_calM (pv 0) c_Mach_enter (hr.mono (by decide)) (pa_cons (pv 1) (pa_cons (pv 5) (pa_cons (pv 6) pa_nil))))) (Evl.pss_cut (ps_if (pt_cmpR op_lt (pv 2) pe_int (nomark _)) (pss_one (ps_expr (pe_cal c_count_complement (hr.mono (by decide)) (by rfl) (pa_cons (pv 0) (pa_cons (pv 5) pa_nil))))) pss_nil) (Evl.pss_cut (ps_if (pt_cmpR op_lt (pv 3) pe_int (nomark _)) (pss_one (ps_expr (pe_cal c_count_complement (hr.mono (by decide)) (by rfl) (pa_cons (pv 0) (pa_cons (pv 6) pa_nil))))) pss_nil) (pss_cons (ps_set (i := 7) sc_count_combining.nd rfl (.inl rfl) (pe_ifExp (pt_cmpR op_lt (pv 5) (pv 6) (nomark _)) (pe_cmpR op_lt (pv 2) pe_int (nomark _)) (pe_cmpR op_lt (pv 3) pe_int (nomark _)))) (pss_cons (ps_expr (pe_calM (pv 0) c_Mach_step (hr.mono (by decide)) (pa_cons pe_str (pa_cons (pe_ifExp (PW.pt (pw_and (pt_cmpR (op_eqXK (K := T.K) (by exact hr.units) rfl) (pv 1) pe_str (nomark _)) (pw_and1 (pt_val (pv 7))))) (pe_callB (cr_max2 rfl) (by rfl) z_max (by decide +kernel) (pa_cons (pv 5) (pa_cons (pv 6) pa_nil))) (pe_callB (cr_min2 rfl) (by rfl) z_min (by decide +kernel) (pa_cons (pv 5) (pa_cons (pv 6) pa_nil)))) pa_nil)))) (pss_one (ps_if (pt_cmpR op_lt (pv 4) pe_int (nomark _)) (pss_cons (ps_set (i := 8) sc_count_combining.nd rfl (.inl rfl) (pe_ifExp (PW.pt (pw_and (pt_cmpR (op_eqXK (K := T.K) (by exact hr.units) rfl) (pv 1) pe_str (nomark _)) (pw_and1 (pt_val (pv 7))))) (pe_callB (cr_min2 rfl) (by rfl) z_min (by decide +kernel) (pa_cons (pv 5) (pa_cons (pv 6) pa_nil))) (pe_callB (cr_max2 rfl) (by rfl) z_max (by decide +kernel) (pa_cons (pv 5) (pa_cons (pv 6) pa_nil))))) (pss_one (ps_expr (pe_cal c_count_complement (hr.mono (by decide)) (by rfl) (pa_cons (pv 0) (pa_cons (pe_op op_addQ (pv 8) pe_int) pa_nil)))))) pss_nil)))))))))), fun D hrt hnx => ?_⟩
  have ok := okk1 hk0
  suffices hx : XS _ D F0 [some (vr p0), some (va T x1), some (va T x2), some (va T x3), some (va T x4), none, none, none, none] (stt Ω [(k0, machA T p0 x0)] []) by
    rw [show (stt Ω [(k0, machA T p0 x0)] []) = Ω from stt_self (by simp [hk0])] at hx
    exact hx
  unfold M_count_combining at hm
  obtain ⟨z1, hz1, hm⟩ := bnd_some hm
  by_cases hc : z1 = true
  · rw [if_pos hc] at hm
    refine xs_ifT (xt_eq (xt_tB (T := T) (xe_call (xa_cons (xe_var (i := 0) rfl) (xa_cons (xe_var (i := 2) rfl) (xa_cons (xe_var (i := 3) rfl) xa_nil))) ⟨k0, p0, x0, x2, x3, z1, rfl, (stt_get ok (i := 0) rfl), hz1, rfl⟩ cal0)) hc) ?_
    obtain ⟨z2, hz2, hm⟩ := bnd_some hm
    refine xs_drop (xe_mcall (xe_var (i := 0) rfl) (stt_get ok (i := 0) rfl) (xa_cons xe_str (xa_cons xe_int xa_nil)) ⟨k0, p0, x0, ("short" : Str), (1 : Int), rfl, (stt_get ok (i := 0) rfl), chkP_some hz2, rfl⟩ (cal1 ok (i := 0) rfl)) ?_
    show XS tRetN _ _ [some (vr p0), some (va T x1), some (va T x2), some (va T x3), some (va T x4), none, none, none, none] (stt Ω [(k0, machA T p0 (x0.step ("short" : Str) (1 : Int)))] [])
    obtain rfl := Option.some.inj hm
    exact xs_retN (fun F H f hh => ⟨rfl, rfl⟩) hrt.all
  · rw [if_neg hc] at hm
    refine xs_ifN (xt_eq (xt_tB (T := T) (xe_call (xa_cons (xe_var (i := 0) rfl) (xa_cons (xe_var (i := 2) rfl) (xa_cons (xe_var (i := 3) rfl) xa_nil))) ⟨k0, p0, x0, x2, x3, z1, rfl, (stt_get ok (i := 0) rfl), hz1, rfl⟩ cal0)) (nt hc)) ?_
    show XS (tSeq _ _) _ _ [some (vr p0), some (va T x1), some (va T x2), some (va T x3), some (va T x4), none, none, none, none] (stt Ω [(k0, machA T p0 x0)] [])
    obtain ⟨z3, hz3, hm⟩ := bnd_some hm
    refine xs_set (A := va T z3) (xe_call (xa_cons (xe_mw mc.cl mc.nw (xe_var (i := 0) rfl) (stt_get ok (i := 0) rfl)) (xa_cons (xe_var (i := 2) rfl) xa_nil)) ⟨x0.w, x2, z3, rfl, hz3, rfl⟩ cal0) ?_
    show XS (tSeq _ _) _ _ [some (vr p0), some (va T x1), some (va T x2), some (va T x3), some (va T x4), some (va T z3), none, none, none] (stt Ω [(k0, machA T p0 x0)] [])
    obtain ⟨z4, hz4, hm⟩ := bnd_some hm
    refine xs_set (A := va T z4) (xe_call (xa_cons (xe_mw mc.cl mc.nw (xe_var (i := 0) rfl) (stt_get ok (i := 0) rfl)) (xa_cons (xe_var (i := 3) rfl) xa_nil)) ⟨x0.w, x3, z4, rfl, hz4, rfl⟩ cal0) ?_
    show XS (tSeq _ _) _ _ [some (vr p0), some (va T x1), some (va T x2), some (va T x3), some (va T x4), some (va T z3), some (va T z4), none, none] (stt Ω [(k0, machA T p0 x0)] [])
    refine xs_drop (xe_mcall (xe_var (i := 0) rfl) (stt_get ok (i := 0) rfl) (xa_cons (xe_var (i := 1) rfl) (xa_cons (xe_var (i := 5) rfl) (xa_cons (xe_var (i := 6) rfl) xa_nil))) ⟨k0, p0, x0, x1, z3, z4, rfl, (stt_get ok (i := 0) rfl), rfl⟩ (cal1 ok (i := 0) rfl)) ?_
    show XS (Evl.tCut _ _) _ _ [some (vr p0), some (va T x1), some (va T x2), some (va T x3), some (va T x4), some (va T z3), some (va T z4), none, none] (stt Ω [(k0, machA T p0 (x0.enter x1 z3 z4))] [])
    obtain ⟨z8, hz8, hm⟩ := bnd_some hm
    refine xs_cut (Γ' := [some (vr p0), some (va T x1), some (va T x2), some (va T x3), some (va T x4), some (va T z3), some (va T z4), none, none]) (Ω' := (stt Ω [(k0, machA T p0 z8)] [])) ?_ ?_
    · clear hm
      have hm := hz8
      clear hz8
      by_cases hc : (decide (x2 < (0 : Int))) = true
      · rw [if_pos hc] at hm
        refine xs_ifT1 (xt_eq (xt_test (T := T) (xe_lt (xe_var (i := 2) rfl) xe_int)) hc) ?_
        obtain ⟨z5, hz5, hm⟩ := bnd_some hm
        refine xs_drop1 (xe_call (xa_cons (xe_var (i := 0) rfl) (xa_cons (xe_var (i := 5) rfl) xa_nil)) ⟨k0, p0, (x0.enter x1 z3 z4), z3, z5, rfl, (stt_get ok (i := 0) rfl), hz5, rfl⟩ (cal1 ok (i := 0) rfl)) ?_
        obtain rfl := Option.some.inj hm
        exact fun σ H n => n
      · rw [if_neg hc] at hm
        refine xs_ifF1 (xt_eq (xt_test (T := T) (xe_lt (xe_var (i := 2) rfl) xe_int)) (nt hc)) ?_
        obtain rfl := Option.some.inj hm
        exact fun σ H n => n
    · obtain ⟨z12, hz12, hm⟩ := bnd_some hm
      refine xs_cut (Γ' := [some (vr p0), some (va T x1), some (va T x2), some (va T x3), some (va T x4), some (va T z3), some (va T z4), none, none]) (Ω' := (stt Ω [(k0, machA T p0 z12)] [])) ?_ ?_
      · clear hm
        have hm := hz12
        clear hz12
        by_cases hc : (decide (x3 < (0 : Int))) = true
        · rw [if_pos hc] at hm
          refine xs_ifT1 (xt_eq (xt_test (T := T) (xe_lt (xe_var (i := 3) rfl) xe_int)) hc) ?_
          obtain ⟨z9, hz9, hm⟩ := bnd_some hm
          refine xs_drop1 (xe_call (xa_cons (xe_var (i := 0) rfl) (xa_cons (xe_var (i := 6) rfl) xa_nil)) ⟨k0, p0, z8, z4, z9, rfl, (stt_get ok (i := 0) rfl), hz9, rfl⟩ (cal1 ok (i := 0) rfl)) ?_
          obtain rfl := Option.some.inj hm
          exact fun σ H n => n
        · rw [if_neg hc] at hm
          refine xs_ifF1 (xt_eq (xt_test (T := T) (xe_lt (xe_var (i := 3) rfl) xe_int)) (nt hc)) ?_
          obtain rfl := Option.some.inj hm
          exact fun σ H n => n
      · obtain ⟨y13, hy13, hm⟩ := bnd_some hm
        refine xs_set (A := va T y13) (xe_eq (xe_ite (xt_test (T := T) (xe_lt (xe_var (i := 5) rfl) (xe_var (i := 6) rfl))) (xe_lt (xe_var (i := 2) rfl) xe_int) (xe_lt (xe_var (i := 3) rfl) xe_int)) (Option.some.inj hy13)) ?_
        show XS (tSeq _ _) _ _ [some (vr p0), some (va T x1), some (va T x2), some (va T x3), some (va T x4), some (va T z3), some (va T z4), some (va T y13), none] (stt Ω [(k0, machA T p0 z12)] [])
        obtain ⟨z14, hz14, hm⟩ := bnd_some hm
        refine xs_drop (xe_mcall (xe_var (i := 0) rfl) (stt_get ok (i := 0) rfl) (xa_cons xe_str (xa_cons (xe_ite (xt_and (xt_test (T := T) (xe_eqS (xe_var (i := 1) rfl) xe_str)) (fun _ => (xt_tB (T := T) (xe_var (i := 7) rfl))) (fun _ => rfl)) (xe_max2 (xe_var (i := 5) rfl) (xe_var (i := 6) rfl)) (xe_min2 (xe_var (i := 5) rfl) (xe_var (i := 6) rfl))) xa_nil)) ⟨k0, p0, z12, ("combined" : Str), (if ((decide (x1 = ("xor" : Str))) && y13) = true then (max z3 z4) else (min z3 z4)), rfl, (stt_get ok (i := 0) rfl), chkP_some hz14, rfl⟩ (cal1 ok (i := 0) rfl)) ?_
        show XS (tIfS _ _ _) _ _ [some (vr p0), some (va T x1), some (va T x2), some (va T x3), some (va T x4), some (va T z3), some (va T z4), some (va T y13), none] (stt Ω [(k0, machA T p0 (z12.step ("combined" : Str) (if ((decide (x1 = ("xor" : Str))) && y13) = true then (max z3 z4) else (min z3 z4))))] [])
        by_cases hc : (decide (x4 < (0 : Int))) = true
        · rw [if_pos hc] at hm
          refine xs_ifT1 (xt_eq (xt_test (T := T) (xe_lt (xe_var (i := 4) rfl) xe_int)) hc) ?_
          obtain ⟨y15, hy15, hm⟩ := bnd_some hm
          refine xs_set (A := va T y15) (xe_eq (xe_ite (xt_and (xt_test (T := T) (xe_eqS (xe_var (i := 1) rfl) xe_str)) (fun _ => (xt_tB (T := T) (xe_var (i := 7) rfl))) (fun _ => rfl)) (xe_min2 (xe_var (i := 5) rfl) (xe_var (i := 6) rfl)) (xe_max2 (xe_var (i := 5) rfl) (xe_var (i := 6) rfl))) (Option.some.inj hy15)) ?_
          show XS (tDrop _) _ _ [some (vr p0), some (va T x1), some (va T x2), some (va T x3), some (va T x4), some (va T z3), some (va T z4), some (va T y13), some (va T y15)] (stt Ω [(k0, machA T p0 (z12.step ("combined" : Str) (if ((decide (x1 = ("xor" : Str))) && y13) = true then (max z3 z4) else (min z3 z4))))] [])
          obtain ⟨z16, hz16, hm⟩ := bnd_some hm
          refine xs_drop1 (xe_call (xa_cons (xe_var (i := 0) rfl) (xa_cons (xe_add (xe_var (i := 8) rfl) xe_int) xa_nil)) ⟨k0, p0, (z12.step ("combined" : Str) (if ((decide (x1 = ("xor" : Str))) && y13) = true then (max z3 z4) else (min z3 z4))), (y15 + (1 : Int)), z16, rfl, (stt_get ok (i := 0) rfl), hz16, rfl⟩ (cal1 ok (i := 0) rfl)) ?_
          obtain rfl := Option.some.inj hm
          exact fun σ H ⟨F, f0, e, hh⟩ => hnx F σ H _ f0 hh.all ⟨rfl, rfl⟩
        · rw [if_neg hc] at hm
          refine xs_ifF1 (xt_eq (xt_test (T := T) (xe_lt (xe_var (i := 4) rfl) xe_int)) (nt hc)) ?_
          obtain rfl := Option.some.inj hm
          exact fun σ H ⟨F, f0, e, hh⟩ => hnx F σ H _ f0 hh.all ⟨rfl, rfl⟩
noncomputable def M_bit_and (x0 : MS) (x1 : Bg) (x2 : Bg) : Option (Bg × MS) :=
  (M_check_two x0 x1 x2).bind fun z1 => (M_count_combining x0 ("and" : Str) x1.v x2.v (Builtin.bitAnd x1.v x2.v)).bind fun z2 => (M_big_of z2.2 (Builtin.bitAnd x1.v x2.v)).bind fun z3 => some (z3, z2.2)
def Pre_bit_and (T : TC) : PreT := fun As Ω R => ∃ (k0 : Nat) (p0 : Addr) (x0 : MS) (x1 : Bg) (x2 : Bg) (r : Bg × MS), As = [vr p0, va T x1, va T x2] ∧ Ω[k0]? = some (machA T p0 x0) ∧ M_bit_and x0 x1 x2 = some r ∧ R = RV (va T r.1) (stt Ω [(k0, machA T p0 r.2)] [])
theorem sc_bit_and : FnScope ["machine", "x", "y"] ["machine", "x", "y"] (defScope s_bit_and) := ⟨rfl, rfl, rfl, by decide +kernel, rfl, by decide +kernel, by decide +kernel⟩
theorem ok_bit_and {f : Addr} {fd : FuncData} (F : Fun T.K "bit_and" "bit_and" s_bit_and f fd) (c_check_two : Cal P w T.K mg base 4 "check_two" ["machine", "x", "y"] (mkSp (Pre_check_two T))) (bc : BCls T.K (T.C 1)) (c_count_combining : Cal P w T.K mg base 3 "count_combining" ["machine", "word", "x", "y", "result"] (mkSp (Pre_count_combining T))) (c_big_of : Cal P w T.K mg base 22 "big_of" ["machine", "value"] (mkSp (Pre_big_of T))) : FnOk P w T.K mg base CX0 23 f fd ["machine", "x", "y"] (mkSp (Pre_bit_and T)) := by
  refine fn_ok F sc_bit_and (fun As Ω R h => ?_) (fun cdv A outer s H E hr As Ω R F0 h => ?_)
  · obtain ⟨k0, p0, x0, x1, x2, r, rfl, _⟩ := h
    rfl
  obtain ⟨k0, p0, x0, x1, x2, r, rfl, hk0, hm, rfl⟩ := h
  refine ⟨_, (pss_cons (ps_expr (pe_cal c_check_two (hr.mono (by decide)) (by rfl) (pa_cons (pv 0) (pa_cons (pv 1) (pa_cons (pv 2) pa_nil))))) (pss_cons (ps_expr (pe_cal c_count_combining (hr.mono (by decide)) (by rfl) (pa_cons (pv 0) (pa_cons pe_str (pa_cons (pe_fldK (K := T.K) (pv 1) (by rfl) rfl) (pa_cons (pe_fldK (K := T.K) (pv 2) (by rfl) rfl) (pa_cons (pe_op op_and (pe_fldK (K := T.K) (pv 1) (by rfl) rfl) (pe_fldK (K := T.K) (pv 2) (by rfl) rfl)) pa_nil))))))) (pss_one (ps_ret (pe_cal c_big_of (hr.mono (by decide)) (by rfl) (pa_cons (pv 0) (pa_cons (pe_op op_and (pe_fldK (K := T.K) (pv 1) (by rfl) rfl) (pe_fldK (K := T.K) (pv 2) (by rfl) rfl)) pa_nil))))))), fun D hrt hnx => ?_⟩
  have ok := okk1 hk0
  suffices hx : XS _ D F0 [some (vr p0), some (va T x1), some (va T x2)] (stt Ω [(k0, machA T p0 x0)] []) by
    rw [show (stt Ω [(k0, machA T p0 x0)] []) = Ω from stt_self (by simp [hk0])] at hx
    exact hx
  unfold M_bit_and at hm
  obtain ⟨z1, hz1, hm⟩ := bnd_some hm
  refine xs_drop (xe_call (xa_cons (xe_var (i := 0) rfl) (xa_cons (xe_var (i := 1) rfl) (xa_cons (xe_var (i := 2) rfl) xa_nil))) ⟨k0, p0, x0, x1, x2, z1, rfl, (stt_get ok (i := 0) rfl), hz1, rfl⟩ cal0) ?_
  show XS (tSeq _ _) _ _ [some (vr p0), some (va T x1), some (va T x2)] (stt Ω [(k0, machA T p0 x0)] [])
  obtain ⟨z2, hz2, hm⟩ := bnd_some hm
  refine xs_drop (xe_call (xa_cons (xe_var (i := 0) rfl) (xa_cons xe_str (xa_cons (xe_bv bc.cl bc.nv (xe_var (i := 1) rfl)) (xa_cons (xe_bv bc.cl bc.nv (xe_var (i := 2) rfl)) (xa_cons (xe_band (xe_bv bc.cl bc.nv (xe_var (i := 1) rfl)) (xe_bv bc.cl bc.nv (xe_var (i := 2) rfl))) xa_nil))))) ⟨k0, p0, x0, ("and" : Str), x1.v, x2.v, (Builtin.bitAnd x1.v x2.v), z2, rfl, (stt_get ok (i := 0) rfl), hz2, rfl⟩ (cal1 ok (i := 0) rfl)) ?_
  show XS (tRet _) _ _ [some (vr p0), some (va T x1), some (va T x2)] (stt Ω [(k0, machA T p0 z2.2)] [])
  obtain ⟨z3, hz3, hm⟩ := bnd_some hm
  obtain rfl := Option.some.inj hm
  refine xs_ret (xe_call (xa_cons (xe_var (i := 0) rfl) (xa_cons (xe_band (xe_bv bc.cl bc.nv (xe_var (i := 1) rfl)) (xe_bv bc.cl bc.nv (xe_var (i := 2) rfl))) xa_nil)) ⟨k0, p0, z2.2, (Builtin.bitAnd x1.v x2.v), z3, rfl, (stt_get ok (i := 0) rfl), hz3, rfl⟩ cal0) hrt.all
noncomputable def M_bit_or (x0 : MS) (x1 : Bg) (x2 : Bg) : Option (Bg × MS) :=
  (M_check_two x0 x1 x2).bind fun z1 => (M_count_combining x0 ("or" : Str) x1.v x2.v (Builtin.bitOr x1.v x2.v)).bind fun z2 => (M_big_of z2.2 (Builtin.bitOr x1.v x2.v)).bind fun z3 => some (z3, z2.2)
def Pre_bit_or (T : TC) : PreT := fun As Ω R => ∃ (k0 : Nat) (p0 : Addr) (x0 : MS) (x1 : Bg) (x2 : Bg) (r : Bg × MS), As = [vr p0, va T x1, va T x2] ∧ Ω[k0]? = some (machA T p0 x0) ∧ M_bit_or x0 x1 x2 = some r ∧ R = RV (va T r.1) (stt Ω [(k0, machA T p0 r.2)] [])
theorem sc_bit_or : FnScope ["machine", "x", "y"] ["machine", "x", "y"] (defScope s_bit_or) := ⟨rfl, rfl, rfl, by decide +kernel, rfl, by decide +kernel, by decide +kernel⟩
theorem ok_bit_or {f : Addr} {fd : FuncData} (F : Fun T.K "bit_or" "bit_or" s_bit_or f fd) (c_check_two : Cal P w T.K mg base 4 "check_two" ["machine", "x", "y"] (mkSp (Pre_check_two T))) (bc : BCls T.K (T.C 1)) (c_count_combining : Cal P w T.K mg base 3 "count_combining" ["machine", "word", "x", "y", "result"] (mkSp (Pre_count_combining T))) (c_big_of : Cal P w T.K mg base 22 "big_of" ["machine", "value"] (mkSp (Pre_big_of T))) : FnOk P w T.K mg base CX0 23 f fd ["machine", "x", "y"] (mkSp (Pre_bit_or T)) := by
  refine fn_ok F sc_bit_or (fun As Ω R h => ?_) (fun cdv A outer s H E hr As Ω R F0 h => ?_)
  · obtain ⟨k0, p0, x0, x1, x2, r, rfl, _⟩ := h
    rfl
  obtain ⟨k0, p0, x0, x1, x2, r, rfl, hk0, hm, rfl⟩ := h
  refine ⟨_, (pss_cons (ps_expr (pe_cal c_check_two (hr.mono (by decide)) (by rfl) (pa_cons (pv 0) (pa_cons (pv 1) (pa_cons (pv 2) pa_nil))))) (pss_cons (ps_expr (pe_cal c_count_combining (hr.mono (by decide)) (by rfl) (pa_cons (pv 0) (pa_cons pe_str (pa_cons (pe_fldK (K := T.K) (pv 1) (by rfl) rfl) (pa_cons (pe_fldK (K := T.K) (pv 2) (by rfl) rfl) (pa_cons (pe_op op_or (pe_fldK (K := T.K) (pv 1) (by rfl) rfl) (pe_fldK (K := T.K) (pv 2) (by rfl) rfl)) pa_nil))))))) (pss_one (ps_ret (pe_cal c_big_of (hr.mono (by decide)) (by rfl) (pa_cons (pv 0) (pa_cons (pe_op op_or (pe_fldK (K := T.K) (pv 1) (by rfl) rfl) (pe_fldK (K := T.K) (pv 2) (by rfl) rfl)) pa_nil))))))), fun D hrt hnx => ?_⟩
  have ok := okk1 hk0
  suffices hx : XS _ D F0 [some (vr p0), some (va T x1), some (va T x2)] (stt Ω [(k0, machA T p0 x0)] []) by
    rw [show (stt Ω [(k0, machA T p0 x0)] []) = Ω from stt_self (by simp [hk0])] at hx
    exact hx
  unfold M_bit_or at hm
  obtain ⟨z1, hz1, hm⟩ := bnd_some hm
  refine xs_drop (xe_call (xa_cons (xe_var (i := 0) rfl) (xa_cons (xe_var (i := 1) rfl) (xa_cons (xe_var (i := 2) rfl) xa_nil))) ⟨k0, p0, x0, x1, x2, z1, rfl, (stt_get ok (i := 0) rfl), hz1, rfl⟩ cal0) ?_
  show XS (tSeq _ _) _ _ [some (vr p0), some (va T x1), some (va T x2)] (stt Ω [(k0, machA T p0 x0)] [])
  obtain ⟨z2, hz2, hm⟩ := bnd_some hm
  refine xs_drop (xe_call (xa_cons (xe_var (i := 0) rfl) (xa_cons xe_str (xa_cons (xe_bv bc.cl bc.nv (xe_var (i := 1) rfl)) (xa_cons (xe_bv bc.cl bc.nv (xe_var (i := 2) rfl)) (xa_cons (xe_bor (xe_bv bc.cl bc.nv (xe_var (i := 1) rfl)) (xe_bv bc.cl bc.nv (xe_var (i := 2) rfl))) xa_nil))))) ⟨k0, p0, x0, ("or" : Str), x1.v, x2.v, (Builtin.bitOr x1.v x2.v), z2, rfl, (stt_get ok (i := 0) rfl), hz2, rfl⟩ (cal1 ok (i := 0) rfl)) ?_
  show XS (tRet _) _ _ [some (vr p0), some (va T x1), some (va T x2)] (stt Ω [(k0, machA T p0 z2.2)] [])
  obtain ⟨z3, hz3, hm⟩ := bnd_some hm
  obtain rfl := Option.some.inj hm
  refine xs_ret (xe_call (xa_cons (xe_var (i := 0) rfl) (xa_cons (xe_bor (xe_bv bc.cl bc.nv (xe_var (i := 1) rfl)) (xe_bv bc.cl bc.nv (xe_var (i := 2) rfl))) xa_nil)) ⟨k0, p0, z2.2, (Builtin.bitOr x1.v x2.v), z3, rfl, (stt_get ok (i := 0) rfl), hz3, rfl⟩ cal0) hrt.all
noncomputable def M_bit_not (x0 : MS) (x1 : Bg) : Option (Bg × MS) :=
  (M_check_one x0 x1).bind fun z1 => (M_are_compact x0 x1.v x1.v).bind fun z2 => if z2 = true then (chkP (("short" : Str) ∈ mwords)).bind fun z3 => (M_big_of (x0.step ("short" : Str) (1 : Int)) (Builtin.bitNot x1.v)).bind fun z4 => some (z4, (x0.step ("short" : Str) (1 : Int))) else (M_joined x0 x1.v (1 : Int) (1 : Int)).bind fun z5 => (M_big_of z5.2 (-z5.1)).bind fun z6 => some (z6, z5.2)
def Pre_bit_not (T : TC) : PreT := fun As Ω R => ∃ (k0 : Nat) (p0 : Addr) (x0 : MS) (x1 : Bg) (r : Bg × MS), As = [vr p0, va T x1] ∧ Ω[k0]? = some (machA T p0 x0) ∧ M_bit_not x0 x1 = some r ∧ R = RV (va T r.1) (stt Ω [(k0, machA T p0 r.2)] [])
theorem sc_bit_not : FnScope ["machine", "x"] ["machine", "x"] (defScope s_bit_not) := ⟨rfl, rfl, rfl, by decide +kernel, rfl, by decide +kernel, by decide +kernel⟩
theorem ok_bit_not {f : Addr} {fd : FuncData} (F : Fun T.K "bit_not" "bit_not" s_bit_not f fd) (c_check_one : Cal P w T.K mg base 3 "check_one" ["machine", "x"] (mkSp (Pre_check_one T))) (bc : BCls T.K (T.C 1)) (c_are_compact : Cal P w T.K mg base 2 "are_compact" ["machine", "x", "y"] (mkSp (Pre_are_compact T))) (mc : MCls T.K (T.C 0)) (c_Mach_step : CalM P w T.K mg base 1 (T.C 0) "step" ["self", "word", "many"] (mkSp (Pre_Mach_step T))) (c_big_of : Cal P w T.K mg base 22 "big_of" ["machine", "value"] (mkSp (Pre_big_of T))) (c_joined : Cal P w T.K mg base 5 "joined" ["machine", "x", "y", "turn"] (mkSp (Pre_joined T))) : FnOk P w T.K mg base CX0 23 f fd ["machine", "x"] (mkSp (Pre_bit_not T)) := by
  refine fn_ok F sc_bit_not (fun As Ω R h => ?_) (fun cdv A outer s H E hr As Ω R F0 h => ?_)
  · obtain ⟨k0, p0, x0, x1, r, rfl, _⟩ := h
    rfl
  obtain ⟨k0, p0, x0, x1, r, rfl, hk0, hm, rfl⟩ := h
  refine ⟨_, (pss_cons (ps_expr (pe_cal c_check_one (hr.mono (by decide)) (by rfl) (pa_cons (pv 0) (pa_cons (pv 1) pa_nil)))) (pss_cons (ps_if (pt_val (pe_cal c_are_compact (hr.mono (by decide)) (by rfl) (pa_cons (pv 0) (pa_cons (pe_fldK (K := T.K) (pv 1) (by rfl) rfl) (pa_cons (pe_fldK (K := T.K) (pv 1) (by rfl) rfl) pa_nil))))) (pss_cons (ps_expr (pe_calM (pv 0) c_Mach_step (hr.mono (by decide)) (pa_cons pe_str (pa_cons pe_int pa_nil)))) (pss_one (ps_ret (pe_cal c_big_of (hr.mono (by decide)) (by rfl) (pa_cons (pv 0) (pa_cons (pe_un un_inv (pe_fldK (K := T.K) (pv 1) (by rfl) rfl)) pa_nil)))))) pss_nil) (pss_one (ps_ret (pe_cal c_big_of (hr.mono (by decide)) (by rfl) (pa_cons (pv 0) (pa_cons (pe_un un_neg (pe_cal c_joined (hr.mono (by decide)) (by rfl) (pa_cons (pv 0) (pa_cons (pe_fldK (K := T.K) (pv 1) (by rfl) rfl) (pa_cons pe_int (pa_cons pe_int pa_nil)))))) pa_nil))))))), fun D hrt hnx => ?_⟩
  have ok := okk1 hk0
  suffices hx : XS _ D F0 [some (vr p0), some (va T x1)] (stt Ω [(k0, machA T p0 x0)] []) by
    rw [show (stt Ω [(k0, machA T p0 x0)] []) = Ω from stt_self (by simp [hk0])] at hx
    exact hx
  unfold M_bit_not at hm
  obtain ⟨z1, hz1, hm⟩ := bnd_some hm
  refine xs_drop (xe_call (xa_cons (xe_var (i := 0) rfl) (xa_cons (xe_var (i := 1) rfl) xa_nil)) ⟨k0, p0, x0, x1, z1, rfl, (stt_get ok (i := 0) rfl), hz1, rfl⟩ cal0) ?_
  show XS (tSeq _ _) _ _ [some (vr p0), some (va T x1)] (stt Ω [(k0, machA T p0 x0)] [])
  obtain ⟨z2, hz2, hm⟩ := bnd_some hm
  by_cases hc : z2 = true
  · rw [if_pos hc] at hm
    refine xs_ifT (xt_eq (xt_tB (T := T) (xe_call (xa_cons (xe_var (i := 0) rfl) (xa_cons (xe_bv bc.cl bc.nv (xe_var (i := 1) rfl)) (xa_cons (xe_bv bc.cl bc.nv (xe_var (i := 1) rfl)) xa_nil))) ⟨k0, p0, x0, x1.v, x1.v, z2, rfl, (stt_get ok (i := 0) rfl), hz2, rfl⟩ cal0)) hc) ?_
    obtain ⟨z3, hz3, hm⟩ := bnd_some hm
    refine xs_drop (xe_mcall (xe_var (i := 0) rfl) (stt_get ok (i := 0) rfl) (xa_cons xe_str (xa_cons xe_int xa_nil)) ⟨k0, p0, x0, ("short" : Str), (1 : Int), rfl, (stt_get ok (i := 0) rfl), chkP_some hz3, rfl⟩ (cal1 ok (i := 0) rfl)) ?_
    show XS (tRet _) _ _ [some (vr p0), some (va T x1)] (stt Ω [(k0, machA T p0 (x0.step ("short" : Str) (1 : Int)))] [])
    obtain ⟨z4, hz4, hm⟩ := bnd_some hm
    obtain rfl := Option.some.inj hm
    refine xs_ret (xe_call (xa_cons (xe_var (i := 0) rfl) (xa_cons (xe_bnot (xe_bv bc.cl bc.nv (xe_var (i := 1) rfl))) xa_nil)) ⟨k0, p0, (x0.step ("short" : Str) (1 : Int)), (Builtin.bitNot x1.v), z4, rfl, (stt_get ok (i := 0) rfl), hz4, rfl⟩ cal0) hrt.all
  · rw [if_neg hc] at hm
    refine xs_ifN (xt_eq (xt_tB (T := T) (xe_call (xa_cons (xe_var (i := 0) rfl) (xa_cons (xe_bv bc.cl bc.nv (xe_var (i := 1) rfl)) (xa_cons (xe_bv bc.cl bc.nv (xe_var (i := 1) rfl)) xa_nil))) ⟨k0, p0, x0, x1.v, x1.v, z2, rfl, (stt_get ok (i := 0) rfl), hz2, rfl⟩ cal0)) (nt hc)) ?_
    show XS (tRet _) _ _ [some (vr p0), some (va T x1)] (stt Ω [(k0, machA T p0 x0)] [])
    obtain ⟨z5, hz5, hm⟩ := bnd_some hm
    obtain ⟨z6, hz6, hm⟩ := bnd_some hm
    obtain rfl := Option.some.inj hm
    refine xs_ret (xe_call (xa_cons (xe_var (i := 0) rfl) (xa_cons (xe_neg (xe_call (xa_cons (xe_var (i := 0) rfl) (xa_cons (xe_bv bc.cl bc.nv (xe_var (i := 1) rfl)) (xa_cons xe_int (xa_cons xe_int xa_nil)))) ⟨k0, p0, x0, x1.v, (1 : Int), (1 : Int), z5, rfl, (stt_get ok (i := 0) rfl), hz5, rfl⟩ (cal1 ok (i := 0) rfl))) xa_nil)) ⟨k0, p0, z5.2, (-z5.1), z6, rfl, (stt_get ok (i := 0) rfl), hz6, rfl⟩ cal0) hrt.all
noncomputable def M_check_shift (x0 : MS) (x1 : Bg) (x2 : Int) : Option Unit :=
  (M_check_one x0 x1).bind fun z1 => (M_is_integer x2).bind fun z2 => (chkP (z2 = true)).bind fun z3 => (chkP ((decide (x2 < (0 : Int))) = false)).bind fun z4 => some ()
def Pre_check_shift (T : TC) : PreT := fun As Ω R => ∃ (k0 : Nat) (p0 : Addr) (x0 : MS) (x1 : Bg) (x2 : Int) (r : Unit), As = [vr p0, va T x1, va T x2] ∧ Ω[k0]? = some (machA T p0 x0) ∧ M_check_shift x0 x1 x2 = some r ∧ R = RV (va T r) (stt Ω [] [])
theorem sc_check_shift : FnScope ["machine", "x", "count"] ["machine", "x", "count"] (defScope s_check_shift) := ⟨rfl, rfl, rfl, by decide +kernel, rfl, by decide +kernel, by decide +kernel⟩
theorem ok_check_shift {f : Addr} {fd : FuncData} (F : Fun T.K "check_shift" "check_shift" s_check_shift f fd) (c_check_one : Cal P w T.K mg base 3 "check_one" ["machine", "x"] (mkSp (Pre_check_one T))) (c_is_integer : Cal P w T.K mg base 1 "is_integer" ["value"] (mkSp (Pre_is_integer T))) : FnOk P w T.K mg base CX0 4 f fd ["machine", "x", "count"] (mkSp (Pre_check_shift T)) := by
  refine fn_ok F sc_check_shift (fun As Ω R h => ?_) (fun cdv A outer s H E hr As Ω R F0 h => ?_)
  · obtain ⟨k0, p0, x0, x1, x2, r, rfl, _⟩ := h
    rfl
  obtain ⟨k0, p0, x0, x1, x2, r, rfl, hk0, hm, rfl⟩ := h
  refine ⟨_, (pss_cons (ps_expr (pe_cal c_check_one (hr.mono (by decide)) (by rfl) (pa_cons (pv 0) (pa_cons (pv 1) pa_nil)))) (pss_one (ps_if (PW.pt (pw_or (pt_not (pt_val (pe_cal c_is_integer (hr.mono (by decide)) (by rfl) (pa_cons (pv 2) pa_nil)))) (pw_or1 (pt_cmpR op_lt (pv 2) pe_int (nomark _))))) pss_never pss_nil))), fun D hrt hnx => ?_⟩
  have ok : Okk Ω [] := okk0
  suffices hx : XS _ D F0 [some (vr p0), some (va T x1), some (va T x2)] (stt Ω [] []) by
    rw [show (stt Ω [] []) = Ω from stt_self (by simp)] at hx
    exact hx
  unfold M_check_shift at hm
  obtain ⟨z1, hz1, hm⟩ := bnd_some hm
  refine xs_drop (xe_call (xa_cons (xe_var (i := 0) rfl) (xa_cons (xe_var (i := 1) rfl) xa_nil)) ⟨k0, p0, x0, x1, z1, rfl, (stt_getU hk0), hz1, rfl⟩ cal0) ?_
  show XS (tIfS _ _ _) _ _ [some (vr p0), some (va T x1), some (va T x2)] (stt Ω [] [])
  obtain ⟨z2, hz2, hm⟩ := bnd_some hm
  obtain ⟨z3, hz3, hm⟩ := bnd_some hm
  obtain ⟨z4, hz4, hm⟩ := bnd_some hm
  refine xs_ifF1 (xt_orF (xt_notF (xt_eq (xt_tB (T := T) (xe_call (xa_cons (xe_var (i := 2) rfl) xa_nil) ⟨x2, z2, rfl, hz2, rfl⟩ cal0)) (chkP_some hz3))) (xt_eq (xt_test (T := T) (xe_lt (xe_var (i := 2) rfl) xe_int)) (chkP_some hz4))) ?_
  obtain rfl := Option.some.inj hm
  exact fun σ H ⟨F, f0, e, hh⟩ => hnx F σ H _ f0 hh.all ⟨rfl, rfl⟩
noncomputable def M_shifted_left (x0 : MS) (x1 : Int) (x2 : Int) : Option (Int × MS) :=
  if (decide (x1 = (0 : Int))) = true then some ((0 : Int), x0) else (M_size_of x0.w x1).bind fun z1 => (if ((decide (z1 = (1 : Int))) && (decide (x2 < x0.w))) = true then (chkP (("short" : Str) ∈ mwords)).bind fun z2 => some (x0.step ("short" : Str) (1 : Int)) else (chkP (("shifted" : Str) ∈ mwords)).bind fun z4 => some ((x0.enter ("left" : Str) z1 x2).step ("shifted" : Str) z1)).bind fun z6 => (chkP (CShl x1 x2)).bind fun z7 => some ((x1 * 2 ^ (x2).toNat), z6)
def Pre_shifted_left (T : TC) : PreT := fun As Ω R => ∃ (k0 : Nat) (p0 : Addr) (x0 : MS) (x1 : Int) (x2 : Int) (r : Int × MS), As = [vr p0, va T x1, va T x2] ∧ Ω[k0]? = some (machA T p0 x0) ∧ M_shifted_left x0 x1 x2 = some r ∧ R = RV (va T r.1) (stt Ω [(k0, machA T p0 r.2)] [])
theorem sc_shifted_left : FnScope ["machine", "x", "count", "size"] ["machine", "x", "count"] (defScope s_shifted_left) := ⟨rfl, rfl, rfl, by decide +kernel, rfl, by decide +kernel, by decide +kernel⟩
theorem ok_shifted_left {f : Addr} {fd : FuncData} (F : Fun T.K "shifted_left" "shifted_left" s_shifted_left f fd) (mc : MCls T.K (T.C 0)) (c_size_of : Cal P w T.K mg base 2 "size_of" ["width", "n"] (mkSp (Pre_size_of T))) (c_Mach_step : CalM P w T.K mg base 1 (T.C 0) "step" ["self", "word", "many"] (mkSp (Pre_Mach_step T))) (c_Mach_enter : CalM P w T.K mg base 1 (T.C 0) "enter" ["self", "word", "m", "n"] (mkSp (Pre_Mach_enter T))) : FnOk P w T.K mg base CX0 3 f fd ["machine", "x", "count"] (mkSp (Pre_shifted_left T)) := by
  refine fn_ok F sc_shifted_left (fun As Ω R h => ?_) (fun cdv A outer s H E hr As Ω R F0 h => ?_)
  · obtain ⟨k0, p0, x0, x1, x2, r, rfl, _⟩ := h
    rfl
  obtain ⟨k0, p0, x0, x1, x2, r, rfl, hk0, hm, rfl⟩ := h
  refine ⟨_, (pss_cons (ps_if (pt_cmpR (op_eqXK (K := T.K) (by exact hr.units) rfl) (pv 1) pe_int (nomark _)) (pss_one (ps_ret pe_int)) pss_nil) (pss_cons (ps_set (i := 3) sc_shifted_left.nd rfl (.inl rfl) (pe_cal c_size_of (hr.mono (by decide)) (by rfl) (pa_cons (pe_fldK (K := T.K) (pv 0) (by rfl) rfl) (pa_cons (pv 1) pa_nil)))) (Evl.pss_cut (ps_if (PW.pt (pw_and (pt_cmpR (op_eqXK (K := T.K) (by exact hr.units) rfl) (pv 3) pe_int (nomark _)) (pw_and1 (pt_cmpR op_lt (pv 2) (pe_fldK (K := T.K) (pv 0) (by rfl) rfl) (nomark _))))) (pss_one (ps_expr (pe_calM (pv 0) c_Mach_step (hr.mono (by decide)) (pa_cons pe_str (pa_cons pe_int pa_nil))))) (pss_cons (ps_expr (pe_calM (pv 0) c_Mach_enter (hr.mono (by decide)) (pa_cons pe_str (pa_cons (pv 3) (pa_cons (pv 2) pa_nil))))) (pss_one (ps_expr (pe_calM (pv 0) c_Mach_step (hr.mono (by decide)) (pa_cons pe_str (pa_cons (pv 3) pa_nil))))))) (pss_one (ps_ret (pe_op op_shlW (pv 1) (pv 2))))))), fun D hrt hnx => ?_⟩
  have ok := okk1 hk0
  suffices hx : XS _ D F0 [some (vr p0), some (va T x1), some (va T x2), none] (stt Ω [(k0, machA T p0 x0)] []) by
    rw [show (stt Ω [(k0, machA T p0 x0)] []) = Ω from stt_self (by simp [hk0])] at hx
    exact hx
  unfold M_shifted_left at hm
  by_cases hc : (decide (x1 = (0 : Int))) = true
  · rw [if_pos hc] at hm
    refine xs_ifT (xt_eq (xt_test (T := T) (xe_eqI (xe_var (i := 1) rfl) xe_int)) hc) ?_
    obtain rfl := Option.some.inj hm
    refine xs_ret xe_int hrt.all
  · rw [if_neg hc] at hm
    refine xs_ifN (xt_eq (xt_test (T := T) (xe_eqI (xe_var (i := 1) rfl) xe_int)) (nt hc)) ?_
    show XS (tSeq _ _) _ _ [some (vr p0), some (va T x1), some (va T x2), none] (stt Ω [(k0, machA T p0 x0)] [])
    obtain ⟨z1, hz1, hm⟩ := bnd_some hm
    refine xs_set (A := va T z1) (xe_call (xa_cons (xe_mw mc.cl mc.nw (xe_var (i := 0) rfl) (stt_get ok (i := 0) rfl)) (xa_cons (xe_var (i := 1) rfl) xa_nil)) ⟨x0.w, x1, z1, rfl, hz1, rfl⟩ cal0) ?_
    show XS (Evl.tCut _ _) _ _ [some (vr p0), some (va T x1), some (va T x2), some (va T z1)] (stt Ω [(k0, machA T p0 x0)] [])
    obtain ⟨z6, hz6, hm⟩ := bnd_some hm
    refine xs_cut (Γ' := [some (vr p0), some (va T x1), some (va T x2), some (va T z1)]) (Ω' := (stt Ω [(k0, machA T p0 z6)] [])) ?_ ?_
    · clear hm
      have hm := hz6
      clear hz6
      by_cases hc : ((decide (z1 = (1 : Int))) && (decide (x2 < x0.w))) = true
      · rw [if_pos hc] at hm
        refine xs_ifT1 (xt_eq (xt_and (xt_test (T := T) (xe_eqI (xe_var (i := 3) rfl) xe_int)) (fun _ => (xt_test (T := T) (xe_lt (xe_var (i := 2) rfl) (xe_mw mc.cl mc.nw (xe_var (i := 0) rfl) (stt_get ok (i := 0) rfl))))) (fun _ => rfl)) hc) ?_
        obtain ⟨z2, hz2, hm⟩ := bnd_some hm
        refine xs_drop1 (xe_mcall (xe_var (i := 0) rfl) (stt_get ok (i := 0) rfl) (xa_cons xe_str (xa_cons xe_int xa_nil)) ⟨k0, p0, x0, ("short" : Str), (1 : Int), rfl, (stt_get ok (i := 0) rfl), chkP_some hz2, rfl⟩ (cal1 ok (i := 0) rfl)) ?_
        obtain rfl := Option.some.inj hm
        exact fun σ H n => n
      · rw [if_neg hc] at hm
        refine xs_ifF1 (xt_eq (xt_and (xt_test (T := T) (xe_eqI (xe_var (i := 3) rfl) xe_int)) (fun _ => (xt_test (T := T) (xe_lt (xe_var (i := 2) rfl) (xe_mw mc.cl mc.nw (xe_var (i := 0) rfl) (stt_get ok (i := 0) rfl))))) (fun _ => rfl)) (nt hc)) ?_
        refine xs_drop (xe_mcall (xe_var (i := 0) rfl) (stt_get ok (i := 0) rfl) (xa_cons xe_str (xa_cons (xe_var (i := 3) rfl) (xa_cons (xe_var (i := 2) rfl) xa_nil))) ⟨k0, p0, x0, ("left" : Str), z1, x2, rfl, (stt_get ok (i := 0) rfl), rfl⟩ (cal1 ok (i := 0) rfl)) ?_
        show XS (tDrop _) _ _ [some (vr p0), some (va T x1), some (va T x2), some (va T z1)] (stt Ω [(k0, machA T p0 (x0.enter ("left" : Str) z1 x2))] [])
        obtain ⟨z4, hz4, hm⟩ := bnd_some hm
        refine xs_drop1 (xe_mcall (xe_var (i := 0) rfl) (stt_get ok (i := 0) rfl) (xa_cons xe_str (xa_cons (xe_var (i := 3) rfl) xa_nil)) ⟨k0, p0, (x0.enter ("left" : Str) z1 x2), ("shifted" : Str), z1, rfl, (stt_get ok (i := 0) rfl), chkP_some hz4, rfl⟩ (cal1 ok (i := 0) rfl)) ?_
        obtain rfl := Option.some.inj hm
        exact fun σ H n => n
    · obtain ⟨z7, hz7, hm⟩ := bnd_some hm
      obtain rfl := Option.some.inj hm
      refine xs_ret (xe_shl (chkP_some hz7) (xe_var (i := 1) rfl) (xe_var (i := 2) rfl)) hrt.all
noncomputable def M_shift_left (x0 : MS) (x1 : Bg) (x2 : Int) : Option (Bg × MS) :=
  (M_check_shift x0 x1 x2).bind fun z1 => (chkP (((!decide (x1.v = (0 : Int))) && (decide ((100000 : Int) < x2))) = false)).bind fun z2 => (M_shifted_left x0 x1.v x2).bind fun z3 => (M_big_of z3.2 z3.1).bind fun z4 => some (z4, z3.2)
def Pre_shift_left (T : TC) : PreT := fun As Ω R => ∃ (k0 : Nat) (p0 : Addr) (x0 : MS) (x1 : Bg) (x2 : Int) (r : Bg × MS), As = [vr p0, va T x1, va T x2] ∧ Ω[k0]? = some (machA T p0 x0) ∧ M_shift_left x0 x1 x2 = some r ∧ R = RV (va T r.1) (stt Ω [(k0, machA T p0 r.2)] [])
theorem sc_shift_left : FnScope ["machine", "x", "count"] ["machine", "x", "count"] (defScope s_shift_left) := ⟨rfl, rfl, rfl, by decide +kernel, rfl, by decide +kernel, by decide +kernel⟩
theorem ok_shift_left {f : Addr} {fd : FuncData} (F : Fun T.K "shift_left" "shift_left" s_shift_left f fd) (c_check_shift : Cal P w T.K mg base 4 "check_shift" ["machine", "x", "count"] (mkSp (Pre_check_shift T))) (bc : BCls T.K (T.C 1)) (g_GREATEST_SHIFT : ∃ u, mg "GREATEST_SHIFT" = some u ∧ RelV (.int 100000) u) (c_shifted_left : Cal P w T.K mg base 3 "shifted_left" ["machine", "x", "count"] (mkSp (Pre_shifted_left T))) (c_big_of : Cal P w T.K mg base 22 "big_of" ["machine", "value"] (mkSp (Pre_big_of T))) : FnOk P w T.K mg base CX0 23 f fd ["machine", "x", "count"] (mkSp (Pre_shift_left T)) := by
  refine fn_ok F sc_shift_left (fun As Ω R h => ?_) (fun cdv A outer s H E hr As Ω R F0 h => ?_)
  · obtain ⟨k0, p0, x0, x1, x2, r, rfl, _⟩ := h
    rfl
  obtain ⟨k0, p0, x0, x1, x2, r, rfl, hk0, hm, rfl⟩ := h
  refine ⟨_, (pss_cons (ps_expr (pe_cal c_check_shift (hr.mono (by decide)) (by rfl) (pa_cons (pv 0) (pa_cons (pv 1) (pa_cons (pv 2) pa_nil))))) (pss_cons (ps_if (PW.pt (pw_and (pt_cmpR (op_neXK (K := T.K) (by exact hr.units) rfl) (pe_fldK (K := T.K) (pv 1) (by rfl) rfl) pe_int (nomark _)) (pw_and1 (pt_cmpR op_gt (pv 2) (pe_gl rfl g_GREATEST_SHIFT) (nomark _))))) pss_never pss_nil) (pss_one (ps_ret (pe_cal c_big_of (hr.mono (by decide)) (by rfl) (pa_cons (pv 0) (pa_cons (pe_cal c_shifted_left (hr.mono (by decide)) (by rfl) (pa_cons (pv 0) (pa_cons (pe_fldK (K := T.K) (pv 1) (by rfl) rfl) (pa_cons (pv 2) pa_nil)))) pa_nil))))))), fun D hrt hnx => ?_⟩
  have ok := okk1 hk0
  suffices hx : XS _ D F0 [some (vr p0), some (va T x1), some (va T x2)] (stt Ω [(k0, machA T p0 x0)] []) by
    rw [show (stt Ω [(k0, machA T p0 x0)] []) = Ω from stt_self (by simp [hk0])] at hx
    exact hx
  unfold M_shift_left at hm
  obtain ⟨z1, hz1, hm⟩ := bnd_some hm
  refine xs_drop (xe_call (xa_cons (xe_var (i := 0) rfl) (xa_cons (xe_var (i := 1) rfl) (xa_cons (xe_var (i := 2) rfl) xa_nil))) ⟨k0, p0, x0, x1, x2, z1, rfl, (stt_get ok (i := 0) rfl), hz1, rfl⟩ cal0) ?_
  show XS (tSeq _ _) _ _ [some (vr p0), some (va T x1), some (va T x2)] (stt Ω [(k0, machA T p0 x0)] [])
  obtain ⟨z2, hz2, hm⟩ := bnd_some hm
  refine xs_ifN (xt_eq (xt_and (xt_test (T := T) (xe_neI (xe_bv bc.cl bc.nv (xe_var (i := 1) rfl)) xe_int)) (fun _ => (xt_test (T := T) (xe_gt (xe_var (i := 2) rfl) xe_int))) (fun _ => rfl)) (chkP_some hz2)) ?_
  show XS (tRet _) _ _ [some (vr p0), some (va T x1), some (va T x2)] (stt Ω [(k0, machA T p0 x0)] [])
  obtain ⟨z3, hz3, hm⟩ := bnd_some hm
  obtain ⟨z4, hz4, hm⟩ := bnd_some hm
  obtain rfl := Option.some.inj hm
  refine xs_ret (xe_call (xa_cons (xe_var (i := 0) rfl) (xa_cons (xe_call (xa_cons (xe_var (i := 0) rfl) (xa_cons (xe_bv bc.cl bc.nv (xe_var (i := 1) rfl)) (xa_cons (xe_var (i := 2) rfl) xa_nil))) ⟨k0, p0, x0, x1.v, x2, z3, rfl, (stt_get ok (i := 0) rfl), hz3, rfl⟩ (cal1 ok (i := 0) rfl)) xa_nil)) ⟨k0, p0, z3.2, z3.1, z4, rfl, (stt_get ok (i := 0) rfl), hz4, rfl⟩ cal0) hrt.all
noncomputable def M_count_right_steps (x0 : MS) (x1 : Bool) (x2 : Int) (x3 : Int) : Option (Unit × MS) :=
  (chkP (CDivW x3 x0.w)).bind fun z1 => (some (x3 / x0.w)).bind fun y2 => (if x1 = true then (chkP (IntMulOk y2 x0.w)).bind fun z3 => some (decide (x3 = (y2 * x0.w))) else some false).bind fun z4 => (if z4 = true then (some (y2 - (1 : Int))).bind fun y6 => some y6 else some y2).bind fun z9 => if (decide (x2 ≤ z9)) = true then some ((), x0) else (if x1 = true then (chkP (("looked" : Str) ∈ mwords)).bind fun z10 => some (x0.step ("looked" : Str) z9) else some x0).bind fun z13 => (chkP (("shifted" : Str) ∈ mwords)).bind fun z14 => some ((), (z13.step ("shifted" : Str) ((x2 - (1 : Int)) - z9)))
def Pre_count_right_steps (T : TC) : PreT := fun As Ω R => ∃ (k0 : Nat) (p0 : Addr) (x0 : MS) (x1 : Bool) (x2 : Int) (x3 : Int) (r : Unit × MS), As = [vr p0, va T x1, va T x2, va T x3] ∧ Ω[k0]? = some (machA T p0 x0) ∧ M_count_right_steps x0 x1 x2 x3 = some r ∧ R = RV (va T r.1) (stt Ω [(k0, machA T p0 r.2)] [])
theorem sc_count_right_steps : FnScope ["machine", "below", "size", "count", "first"] ["machine", "below", "size", "count"] (defScope s_count_right_steps) := ⟨rfl, rfl, rfl, by decide +kernel, rfl, by decide +kernel, by decide +kernel⟩
theorem ok_count_right_steps {f : Addr} {fd : FuncData} (F : Fun T.K "count_right_steps" "count_right_steps" s_count_right_steps f fd) (mc : MCls T.K (T.C 0)) (c_Mach_step : CalM P w T.K mg base 1 (T.C 0) "step" ["self", "word", "many"] (mkSp (Pre_Mach_step T))) : FnOk P w T.K mg base CX0 2 f fd ["machine", "below", "size", "count"] (mkSp (Pre_count_right_steps T)) := by
  refine fn_ok F sc_count_right_steps (fun As Ω R h => ?_) (fun cdv A outer s H E hr As Ω R F0 h => ?_)
  · obtain ⟨k0, p0, x0, x1, x2, x3, r, rfl, _⟩ := h
    rfl
  obtain ⟨k0, p0, x0, x1, x2, x3, r, rfl, hk0, hm, rfl⟩ := h
  refine ⟨_, (pss_cons (ps_set (i := 4) sc_count_right_steps.nd rfl (.inl rfl) (pe_op op_fdivW (pv 3) (pe_fldK (K := T.K) (pv 0) (by rfl) rfl))) (Evl.pss_cut (ps_if (PW.pt (pw_and (pt_val (pv 1)) (pw_and1 (pt_cmpR (op_eqXK (K := T.K) (by exact hr.units) rfl) (pv 3) (pe_op op_mulQ (pv 4) (pe_fldK (K := T.K) (pv 0) (by rfl) rfl)) (nomark _))))) (pss_one (ps_aug (i := 4) sc_count_right_steps.nd rfl (.inl rfl) pe_int (ip_of iop_sub))) pss_nil) (pss_cons (ps_if (pt_cmpR op_ge (pv 4) (pv 2) (nomark _)) (pss_one ps_retN) pss_nil) (Evl.pss_cut (ps_if (pt_val (pv 1)) (pss_one (ps_expr (pe_calM (pv 0) c_Mach_step (hr.mono (by decide)) (pa_cons pe_str (pa_cons (pv 4) pa_nil))))) pss_nil) (pss_one (ps_expr (pe_calM (pv 0) c_Mach_step (hr.mono (by decide)) (pa_cons pe_str (pa_cons (pe_op op_sub (pe_op op_sub (pv 2) pe_int) (pv 4)) pa_nil))))))))), fun D hrt hnx => ?_⟩
  have ok := okk1 hk0
  suffices hx : XS _ D F0 [some (vr p0), some (va T x1), some (va T x2), some (va T x3), none] (stt Ω [(k0, machA T p0 x0)] []) by
    rw [show (stt Ω [(k0, machA T p0 x0)] []) = Ω from stt_self (by simp [hk0])] at hx
    exact hx
  unfold M_count_right_steps at hm
  obtain ⟨z1, hz1, hm⟩ := bnd_some hm
  obtain ⟨y2, hy2, hm⟩ := bnd_some hm
  refine xs_set (A := va T y2) (xe_eq (xe_fdiv (chkP_some hz1) (xe_var (i := 3) rfl) (xe_mw mc.cl mc.nw (xe_var (i := 0) rfl) (stt_get ok (i := 0) rfl))) (Option.some.inj hy2)) ?_
  show XS (Evl.tCut _ _) _ _ [some (vr p0), some (va T x1), some (va T x2), some (va T x3), some (va T y2)] (stt Ω [(k0, machA T p0 x0)] [])
  obtain ⟨z4, hz4, hm⟩ := bnd_some hm
  obtain ⟨z9, hz9, hm⟩ := bnd_some hm
  refine xs_cut (Γ' := [some (vr p0), some (va T x1), some (va T x2), some (va T x3), some (va T z9)]) (Ω' := (stt Ω [(k0, machA T p0 x0)] [])) ?_ ?_
  · clear hm
    have hm := hz9
    clear hz9
    by_cases hc : z4 = true
    · rw [if_pos hc] at hm
      refine xs_ifT1 (xt_eq (xt_andO (xt_tB (T := T) (xe_var (i := 1) rfl)) hz4 ?q5) hc) ?_
      case q5 =>
        exact (fun v hm => by
          obtain ⟨z3, hz3, hm⟩ := bnd_some hm
          obtain rfl := Option.some.inj hm
          exact (xt_test (T := T) (xe_eqI (xe_var (i := 3) rfl) (xe_mul (chkP_some hz3) (xe_var (i := 4) rfl) (xe_mw mc.cl mc.nw (xe_var (i := 0) rfl) (stt_get ok (i := 0) rfl))))))
      obtain ⟨y6, hy6, hm⟩ := bnd_some hm
      refine xs_augI1 (T := T) rfl xe_int (Option.some.inj hy6) ?_
      obtain rfl := Option.some.inj hm
      exact fun σ H n => n
    · rw [if_neg hc] at hm
      refine xs_ifF1 (xt_eq (xt_andO (xt_tB (T := T) (xe_var (i := 1) rfl)) hz4 ?q5) (nt hc)) ?_
      case q5 =>
        exact (fun v hm => by
          obtain ⟨z3, hz3, hm⟩ := bnd_some hm
          obtain rfl := Option.some.inj hm
          exact (xt_test (T := T) (xe_eqI (xe_var (i := 3) rfl) (xe_mul (chkP_some hz3) (xe_var (i := 4) rfl) (xe_mw mc.cl mc.nw (xe_var (i := 0) rfl) (stt_get ok (i := 0) rfl))))))
      obtain rfl := Option.some.inj hm
      exact fun σ H n => n
  · by_cases hc : (decide (x2 ≤ z9)) = true
    · rw [if_pos hc] at hm
      refine xs_ifT (xt_eq (xt_test (T := T) (xe_ge (xe_var (i := 4) rfl) (xe_var (i := 2) rfl))) hc) ?_
      obtain rfl := Option.some.inj hm
      exact xs_retN (fun F H f hh => ⟨rfl, rfl⟩) hrt.all
    · rw [if_neg hc] at hm
      refine xs_ifN (xt_eq (xt_test (T := T) (xe_ge (xe_var (i := 4) rfl) (xe_var (i := 2) rfl))) (nt hc)) ?_
      show XS (Evl.tCut _ _) _ _ [some (vr p0), some (va T x1), some (va T x2), some (va T x3), some (va T z9)] (stt Ω [(k0, machA T p0 x0)] [])
      obtain ⟨z13, hz13, hm⟩ := bnd_some hm
      refine xs_cut (Γ' := [some (vr p0), some (va T x1), some (va T x2), some (va T x3), some (va T z9)]) (Ω' := (stt Ω [(k0, machA T p0 z13)] [])) ?_ ?_
      · clear hm
        have hm := hz13
        clear hz13
        by_cases hc : x1 = true
        · rw [if_pos hc] at hm
          refine xs_ifT1 (xt_eq (xt_tB (T := T) (xe_var (i := 1) rfl)) hc) ?_
          obtain ⟨z10, hz10, hm⟩ := bnd_some hm
          refine xs_drop1 (xe_mcall (xe_var (i := 0) rfl) (stt_get ok (i := 0) rfl) (xa_cons xe_str (xa_cons (xe_var (i := 4) rfl) xa_nil)) ⟨k0, p0, x0, ("looked" : Str), z9, rfl, (stt_get ok (i := 0) rfl), chkP_some hz10, rfl⟩ (cal1 ok (i := 0) rfl)) ?_
          obtain rfl := Option.some.inj hm
          exact fun σ H n => n
        · rw [if_neg hc] at hm
          refine xs_ifF1 (xt_eq (xt_tB (T := T) (xe_var (i := 1) rfl)) (nt hc)) ?_
          obtain rfl := Option.some.inj hm
          exact fun σ H n => n
      · obtain ⟨z14, hz14, hm⟩ := bnd_some hm
        refine xs_drop1 (xe_mcall (xe_var (i := 0) rfl) (stt_get ok (i := 0) rfl) (xa_cons xe_str (xa_cons (xe_sub (xe_sub (xe_var (i := 2) rfl) xe_int) (xe_var (i := 4) rfl)) xa_nil)) ⟨k0, p0, z13, ("shifted" : Str), ((x2 - (1 : Int)) - z9), rfl, (stt_get ok (i := 0) rfl), chkP_some hz14, rfl⟩ (cal1 ok (i := 0) rfl)) ?_
        obtain rfl := Option.some.inj hm
        exact fun σ H ⟨F, f0, e, hh⟩ => hnx F σ H _ f0 hh.all ⟨rfl, rfl⟩
noncomputable def M_shifted_right (x0 : MS) (x1 : Int) (x2 : Int) : Option (Int × MS) :=
  (M_size_of x0.w x1).bind fun z1 => if ((decide (z1 = (0 : Int))) || ((decide ((1 : Int) < z1)) && ((decide (x1 < (0 : Int))) && (decide (x2 = (0 : Int)))))) = true then some (x1, x0) else (if (decide (z1 = (1 : Int))) = true then (chkP (("short" : Str) ∈ mwords)).bind fun z2 => some (x0.step ("short" : Str) (1 : Int)) else (M_count_right_steps (x0.enter ("right" : Str) z1 x2) (decide (x1 < (0 : Int))) z1 x2).bind fun z4 => some z4.2).bind fun z6 => (chkP (0 ≤ (min x2 ((Builtin.Int.intBits x1 : Nat) : Int)))).bind fun z7 => some ((x1 / 2 ^ ((min x2 ((Builtin.Int.intBits x1 : Nat) : Int))).toNat), z6)
def Pre_shifted_right (T : TC) : PreT := fun As Ω R => ∃ (k0 : Nat) (p0 : Addr) (x0 : MS) (x1 : Int) (x2 : Int) (r : Int × MS), As = [vr p0, va T x1, va T x2] ∧ Ω[k0]? = some (machA T p0 x0) ∧ M_shifted_right x0 x1 x2 = some r ∧ R = RV (va T r.1) (stt Ω [(k0, machA T p0 r.2)] [])
theorem sc_shifted_right : FnScope ["machine", "x", "count", "size"] ["machine", "x", "count"] (defScope s_shifted_right) := ⟨rfl, rfl, rfl, by decide +kernel, rfl, by decide +kernel, by decide +kernel⟩
theorem ok_shifted_right {f : Addr} {fd : FuncData} (F : Fun T.K "shifted_right" "shifted_right" s_shifted_right f fd) (mc : MCls T.K (T.C 0)) (c_size_of : Cal P w T.K mg base 2 "size_of" ["width", "n"] (mkSp (Pre_size_of T))) (c_Mach_step : CalM P w T.K mg base 1 (T.C 0) "step" ["self", "word", "many"] (mkSp (Pre_Mach_step T))) (c_Mach_enter : CalM P w T.K mg base 1 (T.C 0) "enter" ["self", "word", "m", "n"] (mkSp (Pre_Mach_enter T))) (c_count_right_steps : Cal P w T.K mg base 2 "count_right_steps" ["machine", "below", "size", "count"] (mkSp (Pre_count_right_steps T))) (z_min : mg "min" = none) : FnOk P w T.K mg base CX0 3 f fd ["machine", "x", "count"] (mkSp (Pre_shifted_right T)) := by
  refine fn_ok F sc_shifted_right (fun As Ω R h => ?_) (fun cdv A outer s H E hr As Ω R F0 h => ?_)
  · obtain ⟨k0, p0, x0, x1, x2, r, rfl, _⟩ := h
    rfl
  obtain ⟨k0, p0, x0, x1, x2, r, rfl, hk0, hm, rfl⟩ := h
  refine ⟨_, (pss_cons (ps_set (i := 3) sc_shifted_right.nd rfl (.inl rfl) (pe_cal c_size_of (hr.mono (by decide)) (by rfl) (pa_cons (pe_fldK (K := T.K) (pv 0) (by rfl) rfl) (pa_cons (pv 1) pa_nil)))) (pss_cons (ps_if (PW.pt (pw_or (pt_cmpR (op_eqXK (K := T.K) (by exact hr.units) rfl) (pv 3) pe_int (nomark _)) (pw_or1 (PW.pt (pw_and (pt_cmpR op_gt (pv 3) pe_int (nomark _)) (pw_and (pt_cmpR op_lt (pv 1) pe_int (nomark _)) (pw_and1 (pt_cmpR (op_eqXK (K := T.K) (by exact hr.units) rfl) (pv 2) pe_int (nomark _))))))))) (pss_one (ps_ret (pv 1))) pss_nil) (Evl.pss_cut (ps_if (pt_cmpR (op_eqXK (K := T.K) (by exact hr.units) rfl) (pv 3) pe_int (nomark _)) (pss_one (ps_expr (pe_calM (pv 0) c_Mach_step (hr.mono (by decide)) (pa_cons pe_str (pa_cons pe_int pa_nil))))) (pss_cons (ps_expr (pe_calM (pv 0) c_Mach_enter (hr.mono (by decide)) (pa_cons pe_str (pa_cons (pv 3) (pa_cons (pv 2) pa_nil))))) (pss_one (ps_expr (pe_cal c_count_right_steps (hr.mono (by decide)) (by rfl) (pa_cons (pv 0) (pa_cons (pe_cmpR op_lt (pv 1) pe_int (nomark _)) (pa_cons (pv 3) (pa_cons (pv 2) pa_nil))))))))) (pss_one (ps_ret (pe_op op_shr (pv 1) (pe_callB (cr_min2 rfl) (by rfl) z_min (by decide +kernel) (pa_cons (pv 2) (pa_cons (pe_bits (pv 1)) pa_nil))))))))), fun D hrt hnx => ?_⟩
  have ok := okk1 hk0
  suffices hx : XS _ D F0 [some (vr p0), some (va T x1), some (va T x2), none] (stt Ω [(k0, machA T p0 x0)] []) by
    rw [show (stt Ω [(k0, machA T p0 x0)] []) = Ω from stt_self (by simp [hk0])] at hx
    exact hx
  unfold M_shifted_right at hm
  obtain ⟨z1, hz1, hm⟩ := bnd_some hm
  refine xs_set (A := va T z1) (xe_call (xa_cons (xe_mw mc.cl mc.nw (xe_var (i := 0) rfl) (stt_get ok (i := 0) rfl)) (xa_cons (xe_var (i := 1) rfl) xa_nil)) ⟨x0.w, x1, z1, rfl, hz1, rfl⟩ cal0) ?_
  show XS (tSeq _ _) _ _ [some (vr p0), some (va T x1), some (va T x2), some (va T z1)] (stt Ω [(k0, machA T p0 x0)] [])
  by_cases hc : ((decide (z1 = (0 : Int))) || ((decide ((1 : Int) < z1)) && ((decide (x1 < (0 : Int))) && (decide (x2 = (0 : Int)))))) = true
  · rw [if_pos hc] at hm
    refine xs_ifT (xt_eq (xt_or (xt_test (T := T) (xe_eqI (xe_var (i := 3) rfl) xe_int)) (fun _ => (xt_and (xt_test (T := T) (xe_gt (xe_var (i := 3) rfl) xe_int)) (fun _ => (xt_and (xt_test (T := T) (xe_lt (xe_var (i := 1) rfl) xe_int)) (fun _ => (xt_test (T := T) (xe_eqI (xe_var (i := 2) rfl) xe_int))) (fun _ => rfl))) (fun _ => rfl))) (fun _ => rfl)) hc) ?_
    obtain rfl := Option.some.inj hm
    refine xs_ret (xe_var (i := 1) rfl) hrt.all
  · rw [if_neg hc] at hm
    refine xs_ifN (xt_eq (xt_or (xt_test (T := T) (xe_eqI (xe_var (i := 3) rfl) xe_int)) (fun _ => (xt_and (xt_test (T := T) (xe_gt (xe_var (i := 3) rfl) xe_int)) (fun _ => (xt_and (xt_test (T := T) (xe_lt (xe_var (i := 1) rfl) xe_int)) (fun _ => (xt_test (T := T) (xe_eqI (xe_var (i := 2) rfl) xe_int))) (fun _ => rfl))) (fun _ => rfl))) (fun _ => rfl)) (nt hc)) ?_
    show XS (Evl.tCut _ _) _ _ [some (vr p0), some (va T x1), some (va T x2), some (va T z1)] (stt Ω [(k0, machA T p0 x0)] [])
    obtain ⟨z6, hz6, hm⟩ := bnd_some hm
    refine xs_cut (Γ' := [some (vr p0), some (va T x1), some (va T x2), some (va T z1)]) (Ω' := (stt Ω [(k0, machA T p0 z6)] [])) ?_ ?_
    · clear hm
      have hm := hz6
      clear hz6
      by_cases hc : (decide (z1 = (1 : Int))) = true
      · rw [if_pos hc] at hm
        refine xs_ifT1 (xt_eq (xt_test (T := T) (xe_eqI (xe_var (i := 3) rfl) xe_int)) hc) ?_
        obtain ⟨z2, hz2, hm⟩ := bnd_some hm
        refine xs_drop1 (xe_mcall (xe_var (i := 0) rfl) (stt_get ok (i := 0) rfl) (xa_cons xe_str (xa_cons xe_int xa_nil)) ⟨k0, p0, x0, ("short" : Str), (1 : Int), rfl, (stt_get ok (i := 0) rfl), chkP_some hz2, rfl⟩ (cal1 ok (i := 0) rfl)) ?_
        obtain rfl := Option.some.inj hm
        exact fun σ H n => n
      · rw [if_neg hc] at hm
        refine xs_ifF1 (xt_eq (xt_test (T := T) (xe_eqI (xe_var (i := 3) rfl) xe_int)) (nt hc)) ?_
        refine xs_drop (xe_mcall (xe_var (i := 0) rfl) (stt_get ok (i := 0) rfl) (xa_cons xe_str (xa_cons (xe_var (i := 3) rfl) (xa_cons (xe_var (i := 2) rfl) xa_nil))) ⟨k0, p0, x0, ("right" : Str), z1, x2, rfl, (stt_get ok (i := 0) rfl), rfl⟩ (cal1 ok (i := 0) rfl)) ?_
        show XS (tDrop _) _ _ [some (vr p0), some (va T x1), some (va T x2), some (va T z1)] (stt Ω [(k0, machA T p0 (x0.enter ("right" : Str) z1 x2))] [])
        obtain ⟨z4, hz4, hm⟩ := bnd_some hm
        refine xs_drop1 (xe_call (xa_cons (xe_var (i := 0) rfl) (xa_cons (xe_lt (xe_var (i := 1) rfl) xe_int) (xa_cons (xe_var (i := 3) rfl) (xa_cons (xe_var (i := 2) rfl) xa_nil)))) ⟨k0, p0, (x0.enter ("right" : Str) z1 x2), (decide (x1 < (0 : Int))), z1, x2, z4, rfl, (stt_get ok (i := 0) rfl), hz4, rfl⟩ (cal1 ok (i := 0) rfl)) ?_
        obtain rfl := Option.some.inj hm
        exact fun σ H n => n
    · obtain ⟨z7, hz7, hm⟩ := bnd_some hm
      obtain rfl := Option.some.inj hm
      refine xs_ret (xe_shr (chkP_some hz7) (xe_var (i := 1) rfl) (xe_min2 (xe_var (i := 2) rfl) (xe_bits (xe_var (i := 1) rfl)))) hrt.all
noncomputable def M_shift_right (x0 : MS) (x1 : Bg) (x2 : Int) : Option (Bg × MS) :=
  (M_check_shift x0 x1 x2).bind fun z1 => (M_shifted_right x0 x1.v x2).bind fun z2 => (M_big_of z2.2 z2.1).bind fun z3 => some (z3, z2.2)
def Pre_shift_right (T : TC) : PreT := fun As Ω R => ∃ (k0 : Nat) (p0 : Addr) (x0 : MS) (x1 : Bg) (x2 : Int) (r : Bg × MS), As = [vr p0, va T x1, va T x2] ∧ Ω[k0]? = some (machA T p0 x0) ∧ M_shift_right x0 x1 x2 = some r ∧ R = RV (va T r.1) (stt Ω [(k0, machA T p0 r.2)] [])
theorem sc_shift_right : FnScope ["machine", "x", "count"] ["machine", "x", "count"] (defScope s_shift_right) := ⟨rfl, rfl, rfl, by decide +kernel, rfl, by decide +kernel, by decide +kernel⟩
theorem ok_shift_right {f : Addr} {fd : FuncData} (F : Fun T.K "shift_right" "shift_right" s_shift_right f fd) (c_check_shift : Cal P w T.K mg base 4 "check_shift" ["machine", "x", "count"] (mkSp (Pre_check_shift T))) (bc : BCls T.K (T.C 1)) (c_shifted_right : Cal P w T.K mg base 3 "shifted_right" ["machine", "x", "count"] (mkSp (Pre_shifted_right T))) (c_big_of : Cal P w T.K mg base 22 "big_of" ["machine", "value"] (mkSp (Pre_big_of T))) : FnOk P w T.K mg base CX0 23 f fd ["machine", "x", "count"] (mkSp (Pre_shift_right T)) := by
  refine fn_ok F sc_shift_right (fun As Ω R h => ?_) (fun cdv A outer s H E hr As Ω R F0 h => ?_)
  · obtain ⟨k0, p0, x0, x1, x2, r, rfl, _⟩ := h
    rfl
  obtain ⟨k0, p0, x0, x1, x2, r, rfl, hk0, hm, rfl⟩ := h
  refine ⟨_, (pss_cons (ps_expr (pe_cal c_check_shift (hr.mono (by decide)) (by rfl) (pa_cons (pv 0) (pa_cons (pv 1) (pa_cons (pv 2) pa_nil))))) (pss_one (ps_ret (pe_cal c_big_of (hr.mono (by decide)) (by rfl) (pa_cons (pv 0) (pa_cons (pe_cal c_shifted_right (hr.mono (by decide)) (by rfl) (pa_cons (pv 0) (pa_cons (pe_fldK (K := T.K) (pv 1) (by rfl) rfl) (pa_cons (pv 2) pa_nil)))) pa_nil)))))), fun D hrt hnx => ?_⟩
  have ok := okk1 hk0
  suffices hx : XS _ D F0 [some (vr p0), some (va T x1), some (va T x2)] (stt Ω [(k0, machA T p0 x0)] []) by
    rw [show (stt Ω [(k0, machA T p0 x0)] []) = Ω from stt_self (by simp [hk0])] at hx
    exact hx
  unfold M_shift_right at hm
  obtain ⟨z1, hz1, hm⟩ := bnd_some hm
  refine xs_drop (xe_call (xa_cons (xe_var (i := 0) rfl) (xa_cons (xe_var (i := 1) rfl) (xa_cons (xe_var (i := 2) rfl) xa_nil))) ⟨k0, p0, x0, x1, x2, z1, rfl, (stt_get ok (i := 0) rfl), hz1, rfl⟩ cal0) ?_
  show XS (tRet _) _ _ [some (vr p0), some (va T x1), some (va T x2)] (stt Ω [(k0, machA T p0 x0)] [])
  obtain ⟨z2, hz2, hm⟩ := bnd_some hm
  obtain ⟨z3, hz3, hm⟩ := bnd_some hm
  obtain rfl := Option.some.inj hm
  refine xs_ret (xe_call (xa_cons (xe_var (i := 0) rfl) (xa_cons (xe_call (xa_cons (xe_var (i := 0) rfl) (xa_cons (xe_bv bc.cl bc.nv (xe_var (i := 1) rfl)) (xa_cons (xe_var (i := 2) rfl) xa_nil))) ⟨k0, p0, x0, x1.v, x2, z2, rfl, (stt_get ok (i := 0) rfl), hz2, rfl⟩ (cal1 ok (i := 0) rfl)) xa_nil)) ⟨k0, p0, z2.2, z2.1, z3, rfl, (stt_get ok (i := 0) rfl), hz3, rfl⟩ cal0) hrt.all
noncomputable def M__law_source_of (x0 : Int) : Option (List Int) :=
  (if (decide ((0 : Int) ≤ x0)) = true then some x0 else (chkP (IntMulOk (3 : Int) x0)).bind fun z1 => some (((0 : Int) - ((3 : Int) * x0)) - (1 : Int))).bind fun z2 => (chkP (CPow (10 : Int) (18 : Int))).bind fun z4 => (chkP (IntMulOk z2 (if (decide (((10 : Int) ^ ((18 : Int)).toNat) ≤ z2)) = true then (1 : Int) else 0))).bind fun z5 => (chkP (0 < (2147483647 : Int))).bind fun z6 => some ([(z2 * (if (decide (((10 : Int) ^ ((18 : Int)).toNat) ≤ z2)) = true then (1 : Int) else 0)), (z2 % (2147483647 : Int)), (0 : Int)] : List Int)
def Pre__law_source_of (T : TC) : PreT := fun As Ω R => ∃ (x0 : Int) (r : List Int), As = [va T x0] ∧ M__law_source_of x0 = some r ∧ R = RN (stt Ω [] []) (fun q => lstA T q r)
theorem sc__law_source_of : FnScope ["_law_cell"] ["_law_cell"] (defScope s__law_source_of) := ⟨rfl, rfl, rfl, by decide +kernel, rfl, by decide +kernel, by decide +kernel⟩
theorem ok__law_source_of {f : Addr} {fd : FuncData} (F : Fun T.K "_law_source_of" "_law_source_of" s__law_source_of f fd) (z_int : mg "int" = none) : FnOk P w T.K mg base CX0 1 f fd ["_law_cell"] (mkSp (Pre__law_source_of T)) := by
  refine fn_ok F sc__law_source_of (fun As Ω R h => ?_) (fun cdv A outer s H E hr As Ω R F0 h => ?_)
  · obtain ⟨x0, r, rfl, _⟩ := h
    rfl
  obtain ⟨x0, r, rfl, hm, rfl⟩ := h
  refine ⟨_, (pss_cons (ps_set (i := 0) sc__law_source_of.nd rfl (.inl rfl) (pe_ifExp (pt_cmpR op_ge (pv 0) pe_int (nomark _)) (pv 0) (pe_op op_sub (pe_op op_sub pe_int (pe_op op_mulQ pe_int (pv 0))) pe_int))) (pss_one (ps_ret (pe_lst (pa_cons (pe_op op_mulQ (pv 0) (pe_callTy cr_int (by rfl) z_int (by decide +kernel) (pa_cons (pe_cmpR op_ge (pv 0) (pe_op op_pow pe_int pe_int) (nomark _)) pa_nil))) (pa_cons (pe_op op_mod (pe_callTy cr_int (by rfl) z_int (by decide +kernel) (pa_cons (pv 0) pa_nil)) pe_int) (pa_cons pe_int pa_nil))))))), fun D hrt hnx => ?_⟩
  have ok : Okk Ω [] := okk0
  suffices hx : XS _ D F0 [some (va T x0)] (stt Ω [] []) by
    rw [show (stt Ω [] []) = Ω from stt_self (by simp)] at hx
    exact hx
  unfold M__law_source_of at hm
  obtain ⟨z2, hz2, hm⟩ := bnd_some hm
  refine xs_set (A := va T z2) (show XE _ _ _ (va T z2) (stt Ω [] []) from ?q3) ?_
  case q3 =>
    exact (by
      by_cases hc : (decide ((0 : Int) ≤ x0)) = true
      · rw [if_pos hc] at hz2
        obtain rfl := Option.some.inj hz2
        exact xe_ifT (xt_eq (xt_test (T := T) (xe_ge (xe_var (i := 0) rfl) xe_int)) hc) (xe_var (i := 0) rfl)
      · rw [if_neg hc] at hz2
        obtain ⟨z1, hz1, hz2⟩ := bnd_some hz2
        obtain rfl := Option.some.inj hz2
        exact xe_ifF (xt_eq (xt_test (T := T) (xe_ge (xe_var (i := 0) rfl) xe_int)) (nt hc)) (xe_sub (xe_sub xe_int (xe_mul (chkP_some hz1) xe_int (xe_var (i := 0) rfl))) xe_int))
  show XS (tRet _) _ _ [some (va T z2)] (stt Ω [] [])
  obtain ⟨z4, hz4, hm⟩ := bnd_some hm
  obtain ⟨z5, hz5, hm⟩ := bnd_some hm
  obtain ⟨z6, hz6, hm⟩ := bnd_some hm
  obtain rfl := Option.some.inj hm
  refine xs_ret (xn_lst (T := T) (l := [(z2 * (if (decide (((10 : Int) ^ ((18 : Int)).toNat) ≤ z2)) = true then (1 : Int) else 0)), (z2 % (2147483647 : Int)), (0 : Int)]) (xa_cons (xe_mul (chkP_some hz5) (xe_var (i := 0) rfl) (xe_intb (xe_ge (xe_var (i := 0) rfl) (xe_pow (chkP_some hz4) xe_int xe_int)))) (xa_cons (xe_mod (chkP_some hz6) (xe_int1 (xe_var (i := 0) rfl)) xe_int) (xa_cons xe_int xa_nil))) (by show 3 ≤ sizeLine; decide)) (RT.allN hrt)
noncomputable def M__law_next (x0 : List Int) (x1 : Int) : Option (Int × List Int) :=
  (atI x0 (0 : Int)).bind fun z1 => if (decide ((0 : Int) < z1)) = true then (atI x0 (0 : Int)).bind fun z2 => (chkP (0 < x1)).bind fun z3 => (some (z2 % x1)).bind fun y4 => (atI x0 (0 : Int)).bind fun z5 => (chkP (CDivW z5 x1)).bind fun z6 => (some (z5 / x1)).bind fun y7 => (ixN x0.length (0 : Int)).bind fun z8 => some (y4, (x0.set z8 y7)) else (atI x0 (2 : Int)).bind fun z9 => (some (z9 + (1 : Int))).bind fun y10 => (ixN x0.length (2 : Int)).bind fun z11 => (atI (x0.set z11 y10) (1 : Int)).bind fun z12 => (atI (x0.set z11 y10) (2 : Int)).bind fun z13 => (chkP (IntMulOk (104729 : Int) z13)).bind fun z14 => (chkP (0 < (2147483647 : Int))).bind fun z15 => (some (((z12 + ((104729 : Int) * z13)) + (7919 : Int)) % (2147483647 : Int))).bind fun y16 => (chkP (IntMulOk y16 (48271 : Int))).bind fun z17 => (chkP (0 < (2147483647 : Int))).bind fun z18 => (some ((y16 * (48271 : Int)) % (2147483647 : Int))).bind fun y19 => (chkP (CDivW y19 (1009 : Int))).bind fun z20 => (chkP (IntMulOk y19 ((y19 / (1009 : Int)) + (69621 : Int)))).bind fun z21 => (chkP (0 < (2147483647 : Int))).bind fun z22 => (some ((y19 * ((y19 / (1009 : Int)) + (69621 : Int))) % (2147483647 : Int))).bind fun y23 => (chkP (CDivW y23 (2003 : Int))).bind fun z24 => (chkP (IntMulOk y23 ((y23 / (2003 : Int)) + (40692 : Int)))).bind fun z25 => (chkP (0 < (2147483399 : Int))).bind fun z26 => (some ((y23 * ((y23 / (2003 : Int)) + (40692 : Int))) % (2147483399 : Int))).bind fun y27 => (chkP (CDivW y27 (7 : Int))).bind fun z28 => (chkP (0 < x1)).bind fun z29 => some (((y27 / (7 : Int)) % x1), (x0.set z11 y10))
def Pre__law_next (T : TC) : PreT := fun As Ω R => ∃ (k0 : Nat) (p0 : Addr) (x0 : List Int) (x1 : Int) (r : Int × List Int), As = [vr p0, va T x1] ∧ Ω[k0]? = some (lstA T p0 x0) ∧ M__law_next x0 x1 = some r ∧ R = RV (va T r.1) (stt Ω [(k0, lstA T p0 r.2)] [])
theorem sc__law_next : FnScope ["_law_source", "_law_times", "_law_found", "_law_prime", "_law_number"] ["_law_source", "_law_times"] (defScope s__law_next) := ⟨rfl, rfl, rfl, by decide +kernel, rfl, by decide +kernel, by decide +kernel⟩
theorem ok__law_next {f : Addr} {fd : FuncData} (F : Fun T.K "_law_next" "_law_next" s__law_next f fd) (z_int : mg "int" = none) : FnOk P w T.K mg base CX0 1 f fd ["_law_source", "_law_times"] (mkSp (Pre__law_next T)) := by
  refine fn_ok F sc__law_next (fun As Ω R h => ?_) (fun cdv A outer s H E hr As Ω R F0 h => ?_)
  · obtain ⟨k0, p0, x0, x1, r, rfl, _⟩ := h
    rfl
  obtain ⟨k0, p0, x0, x1, r, rfl, hk0, hm, rfl⟩ := h
  refine ⟨_, (pss_cons (ps_if (pt_cmpR op_gt (pe_ix (ix_seqK (K := T.K) rfl) (pv 0) pe_int (by intro _ _; rfl)) pe_int (nomark _)) (pss_cons (ps_set (i := 2) sc__law_next.nd rfl (.inl rfl) (pe_op op_mod (pe_callTy cr_int (by rfl) z_int (by decide +kernel) (pa_cons (pe_ix (ix_seqK (K := T.K) rfl) (pv 0) pe_int (by intro _ _; rfl)) pa_nil)) (pv 1))) (pss_cons (ps_asg (pe_op op_fdivW (pe_ix (ix_seqK (K := T.K) rfl) (pv 0) pe_int (by intro _ _; rfl)) (pv 1)) (pg_sub (pv 0) pe_int set_list)) (pss_one (ps_ret (pv 2))))) pss_nil) (pss_cons (ps_asg (pe_op op_addQ (pe_ix (ix_seqK (K := T.K) rfl) (pv 0) pe_int (by intro _ _; rfl)) pe_int) (pg_sub (pv 0) pe_int set_list)) (pss_cons (ps_set (i := 3) sc__law_next.nd rfl (.inl rfl) pe_int) (pss_cons (ps_set (i := 4) sc__law_next.nd rfl (.inl rfl) (pe_op op_mod (pe_callTy cr_int (by rfl) z_int (by decide +kernel) (pa_cons (pe_op op_addQ (pe_op op_addQ (pe_ix (ix_seqK (K := T.K) rfl) (pv 0) pe_int (by intro _ _; rfl)) (pe_op op_mulQ pe_int (pe_ix (ix_seqK (K := T.K) rfl) (pv 0) pe_int (by intro _ _; rfl)))) pe_int) pa_nil)) (pv 3))) (pss_cons (ps_set (i := 4) sc__law_next.nd rfl (.inl rfl) (pe_op op_mod (pe_callTy cr_int (by rfl) z_int (by decide +kernel) (pa_cons (pe_op op_mulQ (pv 4) pe_int) pa_nil)) (pv 3))) (pss_cons (ps_set (i := 4) sc__law_next.nd rfl (.inl rfl) (pe_op op_mod (pe_callTy cr_int (by rfl) z_int (by decide +kernel) (pa_cons (pe_op op_mulQ (pv 4) (pe_op op_addQ (pe_op op_fdivW (pv 4) pe_int) pe_int)) pa_nil)) (pv 3))) (pss_cons (ps_set (i := 4) sc__law_next.nd rfl (.inl rfl) (pe_op op_mod (pe_callTy cr_int (by rfl) z_int (by decide +kernel) (pa_cons (pe_op op_mulQ (pv 4) (pe_op op_addQ (pe_op op_fdivW (pv 4) pe_int) pe_int)) pa_nil)) pe_int)) (pss_one (ps_ret (pe_op op_mod (pe_callTy cr_int (by rfl) z_int (by decide +kernel) (pa_cons (pe_op op_fdivW (pv 4) pe_int) pa_nil)) (pv 1))))))))))), fun D hrt hnx => ?_⟩
  have ok := okk1 hk0
  suffices hx : XS _ D F0 [some (vr p0), some (va T x1), none, none, none] (stt Ω [(k0, lstA T p0 (x0 : List Int))] []) by
    rw [show (stt Ω [(k0, lstA T p0 (x0 : List Int))] []) = Ω from stt_self (by simp [hk0])] at hx
    exact hx
  unfold M__law_next at hm
  obtain ⟨z1, hz1, hm⟩ := bnd_some hm
  by_cases hc : (decide ((0 : Int) < z1)) = true
  · rw [if_pos hc] at hm
    refine xs_ifT (xt_eq (xt_test (T := T) (xe_gt (xe_ix (xe_var (i := 0) rfl) xe_int (isL_M (stt_get ok (i := 0) rfl)) hz1) xe_int)) hc) ?_
    obtain ⟨z2, hz2, hm⟩ := bnd_some hm
    obtain ⟨z3, hz3, hm⟩ := bnd_some hm
    obtain ⟨y4, hy4, hm⟩ := bnd_some hm
    refine xs_set (A := va T y4) (xe_eq (xe_mod (chkP_some hz3) (xe_int1 (xe_ix (xe_var (i := 0) rfl) xe_int (isL_M (stt_get ok (i := 0) rfl)) hz2)) (xe_var (i := 1) rfl)) (Option.some.inj hy4)) ?_
    show XS (tSeq _ _) _ _ [some (vr p0), some (va T x1), some (va T y4), none, none] (stt Ω [(k0, lstA T p0 (x0 : List Int))] [])
    obtain ⟨z5, hz5, hm⟩ := bnd_some hm
    obtain ⟨z6, hz6, hm⟩ := bnd_some hm
    obtain ⟨y7, hy7, hm⟩ := bnd_some hm
    obtain ⟨z8, hz8, hm⟩ := bnd_some hm
    refine xs_setL (xe_eq (xe_fdiv (chkP_some hz6) (xe_ix (xe_var (i := 0) rfl) xe_int (isL_M (stt_get ok (i := 0) rfl)) hz5) (xe_var (i := 1) rfl)) (Option.some.inj hy7)) (xe_var (i := 0) rfl) xe_int (stt_get ok (i := 0) rfl) hz8 ?_
    rw [(stt_set ok (i := 0) rfl)]
    show XS (tRet _) _ _ [some (vr p0), some (va T x1), some (va T y4), none, none] (stt Ω [(k0, lstA T p0 ((x0.set z8 y7) : List Int))] [])
    obtain rfl := Option.some.inj hm
    refine xs_ret (xe_var (i := 2) rfl) hrt.all
  · rw [if_neg hc] at hm
    refine xs_ifN (xt_eq (xt_test (T := T) (xe_gt (xe_ix (xe_var (i := 0) rfl) xe_int (isL_M (stt_get ok (i := 0) rfl)) hz1) xe_int)) (nt hc)) ?_
    show XS (tSeq _ _) _ _ [some (vr p0), some (va T x1), none, none, none] (stt Ω [(k0, lstA T p0 (x0 : List Int))] [])
    obtain ⟨z9, hz9, hm⟩ := bnd_some hm
    obtain ⟨y10, hy10, hm⟩ := bnd_some hm
    obtain ⟨z11, hz11, hm⟩ := bnd_some hm
    refine xs_setL (xe_eq (xe_add (xe_ix (xe_var (i := 0) rfl) xe_int (isL_M (stt_get ok (i := 0) rfl)) hz9) xe_int) (Option.some.inj hy10)) (xe_var (i := 0) rfl) xe_int (stt_get ok (i := 0) rfl) hz11 ?_
    rw [(stt_set ok (i := 0) rfl)]
    show XS (tSeq _ _) _ _ [some (vr p0), some (va T x1), none, none, none] (stt Ω [(k0, lstA T p0 ((x0.set z11 y10) : List Int))] [])
    refine xs_set (A := va T (2147483647 : Int)) xe_int ?_
    show XS (tSeq _ _) _ _ [some (vr p0), some (va T x1), none, some (va T (2147483647 : Int)), none] (stt Ω [(k0, lstA T p0 ((x0.set z11 y10) : List Int))] [])
    obtain ⟨z12, hz12, hm⟩ := bnd_some hm
    obtain ⟨z13, hz13, hm⟩ := bnd_some hm
    obtain ⟨z14, hz14, hm⟩ := bnd_some hm
    obtain ⟨z15, hz15, hm⟩ := bnd_some hm
    obtain ⟨y16, hy16, hm⟩ := bnd_some hm
    refine xs_set (A := va T y16) (xe_eq (xe_mod (chkP_some hz15) (xe_int1 (xe_add (xe_add (xe_ix (xe_var (i := 0) rfl) xe_int (isL_M (stt_get ok (i := 0) rfl)) hz12) (xe_mul (chkP_some hz14) xe_int (xe_ix (xe_var (i := 0) rfl) xe_int (isL_M (stt_get ok (i := 0) rfl)) hz13))) xe_int)) (xe_var (i := 3) rfl)) (Option.some.inj hy16)) ?_
    show XS (tSeq _ _) _ _ [some (vr p0), some (va T x1), none, some (va T (2147483647 : Int)), some (va T y16)] (stt Ω [(k0, lstA T p0 ((x0.set z11 y10) : List Int))] [])
    obtain ⟨z17, hz17, hm⟩ := bnd_some hm
    obtain ⟨z18, hz18, hm⟩ := bnd_some hm
    obtain ⟨y19, hy19, hm⟩ := bnd_some hm
    refine xs_set (A := va T y19) (xe_eq (xe_mod (chkP_some hz18) (xe_int1 (xe_mul (chkP_some hz17) (xe_var (i := 4) rfl) xe_int)) (xe_var (i := 3) rfl)) (Option.some.inj hy19)) ?_
    show XS (tSeq _ _) _ _ [some (vr p0), some (va T x1), none, some (va T (2147483647 : Int)), some (va T y19)] (stt Ω [(k0, lstA T p0 ((x0.set z11 y10) : List Int))] [])
    obtain ⟨z20, hz20, hm⟩ := bnd_some hm
    obtain ⟨z21, hz21, hm⟩ := bnd_some hm
    obtain ⟨z22, hz22, hm⟩ := bnd_some hm
    obtain ⟨y23, hy23, hm⟩ := bnd_some hm
    refine xs_set (A := va T y23) (xe_eq (xe_mod (chkP_some hz22) (xe_int1 (xe_mul (chkP_some hz21) (xe_var (i := 4) rfl) (xe_add (xe_fdiv (chkP_some hz20) (xe_var (i := 4) rfl) xe_int) xe_int))) (xe_var (i := 3) rfl)) (Option.some.inj hy23)) ?_
    show XS (tSeq _ _) _ _ [some (vr p0), some (va T x1), none, some (va T (2147483647 : Int)), some (va T y23)] (stt Ω [(k0, lstA T p0 ((x0.set z11 y10) : List Int))] [])
    obtain ⟨z24, hz24, hm⟩ := bnd_some hm
    obtain ⟨z25, hz25, hm⟩ := bnd_some hm
    obtain ⟨z26, hz26, hm⟩ := bnd_some hm
    obtain ⟨y27, hy27, hm⟩ := bnd_some hm
    refine xs_set (A := va T y27) (xe_eq (xe_mod (chkP_some hz26) (xe_int1 (xe_mul (chkP_some hz25) (xe_var (i := 4) rfl) (xe_add (xe_fdiv (chkP_some hz24) (xe_var (i := 4) rfl) xe_int) xe_int))) xe_int) (Option.some.inj hy27)) ?_
    show XS (tRet _) _ _ [some (vr p0), some (va T x1), none, some (va T (2147483647 : Int)), some (va T y27)] (stt Ω [(k0, lstA T p0 ((x0.set z11 y10) : List Int))] [])
    obtain ⟨z28, hz28, hm⟩ := bnd_some hm
    obtain ⟨z29, hz29, hm⟩ := bnd_some hm
    obtain rfl := Option.some.inj hm
    refine xs_ret (xe_mod (chkP_some hz29) (xe_int1 (xe_fdiv (chkP_some hz28) (xe_var (i := 4) rfl) xe_int)) (xe_var (i := 1) rfl)) hrt.all
noncomputable def M__law_one (x0 : List Int) (x1 : List Int) : Option (Int × List Int) :=
  (M__law_next x0 (x1.length : Int)).bind fun z1 => (atI x1 z1.1).bind fun z2 => some (z2, z1.2)
def Pre__law_one (T : TC) : PreT := fun As Ω R => ∃ (k0 : Nat) (p0 : Addr) (x0 : List Int) (x1 : List Int) (r : Int × List Int), As = [vr p0, va T (LF.mk x1)] ∧ Ω[k0]? = some (lstA T p0 x0) ∧ M__law_one x0 x1 = some r ∧ R = RV (va T r.1) (stt Ω [(k0, lstA T p0 r.2)] [])
theorem sc__law_one : FnScope ["_law_source", "_law_some"] ["_law_source", "_law_some"] (defScope s__law_one) := ⟨rfl, rfl, rfl, by decide +kernel, rfl, by decide +kernel, by decide +kernel⟩
theorem ok__law_one {f : Addr} {fd : FuncData} (F : Fun T.K "_law_one" "_law_one" s__law_one f fd) (z_len : mg "len" = none) (c__law_next : Cal P w T.K mg base 1 "_law_next" ["_law_source", "_law_times"] (mkSp (Pre__law_next T))) : FnOk P w T.K mg base CX0 2 f fd ["_law_source", "_law_some"] (mkSp (Pre__law_one T)) := by
  refine fn_ok F sc__law_one (fun As Ω R h => ?_) (fun cdv A outer s H E hr As Ω R F0 h => ?_)
  · obtain ⟨k0, p0, x0, x1, r, rfl, _⟩ := h
    rfl
  obtain ⟨k0, p0, x0, x1, r, rfl, hk0, hm, rfl⟩ := h
  refine ⟨_, (pss_one (ps_ret (pe_ix (ix_seqK (K := T.K) rfl) (pv 1) (pe_cal c__law_next (hr.mono (by decide)) (by rfl) (pa_cons (pv 0) (pa_cons (pe_callB (cr_lenK (K := T.K) rfl) (by rfl) z_len PySem.boot_len (pa_cons (pv 1) pa_nil)) pa_nil))) (by intro _ _; rfl)))), fun D hrt hnx => ?_⟩
  have ok := okk1 hk0
  suffices hx : XS _ D F0 [some (vr p0), some (va T (LF.mk x1))] (stt Ω [(k0, lstA T p0 (x0 : List Int))] []) by
    rw [show (stt Ω [(k0, lstA T p0 (x0 : List Int))] []) = Ω from stt_self (by simp [hk0])] at hx
    exact hx
  unfold M__law_one at hm
  obtain ⟨z1, hz1, hm⟩ := bnd_some hm
  obtain ⟨z2, hz2, hm⟩ := bnd_some hm
  obtain rfl := Option.some.inj hm
  refine xs_ret (xe_ix (xe_var (i := 1) rfl) (xe_call (xa_cons (xe_var (i := 0) rfl) (xa_cons (xe_lenL (xe_var (i := 1) rfl) isL_LF) xa_nil)) ⟨k0, p0, x0, (x1.length : Int), z1, rfl, (stt_get ok (i := 0) rfl), hz1, rfl⟩ (cal1 ok (i := 0) rfl)) isL_LF hz2) hrt.all
noncomputable def M__law_cell_at (x0 : List Int) (x1 : Int) : Option Int :=
  (chkP ((cut x0 (some x1) (some (x1 + (1 : Int)))).length + ([(0 : Int)] : List Int).length ≤ sizeLine)).bind fun z1 => (atI ((cut x0 (some x1) (some (x1 + (1 : Int)))) ++ ([(0 : Int)] : List Int)) (0 : Int)).bind fun z2 => some z2
def Pre__law_cell_at (T : TC) : PreT := fun As Ω R => ∃ (x0 : List Int) (x1 : Int) (r : Int), As = [va T (SF.mk x0), va T x1] ∧ M__law_cell_at x0 x1 = some r ∧ R = RV (va T r) (stt Ω [] [])
theorem sc__law_cell_at : FnScope ["_law_script", "_law_index"] ["_law_script", "_law_index"] (defScope s__law_cell_at) := ⟨rfl, rfl, rfl, by decide +kernel, rfl, by decide +kernel, by decide +kernel⟩
theorem ok__law_cell_at {f : Addr} {fd : FuncData} (F : Fun T.K "_law_cell_at" "_law_cell_at" s__law_cell_at f fd)  : FnOk P w T.K mg base CX0 1 f fd ["_law_script", "_law_index"] (mkSp (Pre__law_cell_at T)) := by
  refine fn_ok F sc__law_cell_at (fun As Ω R h => ?_) (fun cdv A outer s H E hr As Ω R F0 h => ?_)
  · obtain ⟨x0, x1, r, rfl, _⟩ := h
    rfl
  obtain ⟨x0, x1, r, rfl, hm, rfl⟩ := h
  refine ⟨_, (pss_one (ps_ret (pe_ix (ix_seqK (K := T.K) rfl) (pe_op op_addQ (pe_slice (sl_listK (K := T.K) rfl) (pv 0) (po_some (pv 1)) (po_some (pe_op op_addQ (pv 1) pe_int))) (pe_lst (pa_cons pe_int pa_nil))) pe_int (by intro _ _; rfl)))), fun D hrt hnx => ?_⟩
  have ok : Okk Ω [] := okk0
  suffices hx : XS _ D F0 [some (va T (SF.mk x0)), some (va T x1)] (stt Ω [] []) by
    rw [show (stt Ω [] []) = Ω from stt_self (by simp)] at hx
    exact hx
  unfold M__law_cell_at at hm
  obtain ⟨z1, hz1, hm⟩ := bnd_some hm
  obtain ⟨z2, hz2, hm⟩ := bnd_some hm
  obtain rfl := Option.some.inj hm
  refine xs_ret (xe_ix (xe_cat (xe_sliceL (xe_var (i := 0) rfl) (xo_some (T := T) (xe_var (i := 1) rfl)) (xo_some (T := T) (xe_add (xe_var (i := 1) rfl) xe_int)) isL_SF) (xe_lst (l := [(0 : Int)]) (xa_cons xe_int xa_nil) (by show 1 ≤ sizeLine; decide)) isLs_LF isLs_LF (chkP_some hz1)) xe_int isL_LF hz2) hrt.all
noncomputable def M__law_power (x0 : Int) (x1 : Int) : Option Int :=
  (chkP (-(2 ^ 62) ≤ x1 ∧ x1 < 2 ^ 62)).bind fun z1 => (forM' (ρ := Unit) (fun (a3 : Int) (s2 : Int) => (chkP (IntMulOk s2 x0)).bind fun z4 => (some (s2 * x0)).bind fun y5 => some (Stp.nx y5)) (rng 0 (x1).toNat) (1 : Int)).bind fun z6 => (nxt z6).bind fun s7 => some s7
def Pre__law_power (T : TC) : PreT := fun As Ω R => ∃ (x0 : Int) (x1 : Int) (r : Int), As = [va T x0, va T x1] ∧ M__law_power x0 x1 = some r ∧ R = RV (va T r) (stt Ω [] [])
theorem sc__law_power : FnScope ["_law_base", "_law_times", "_law_found", "_law_k"] ["_law_base", "_law_times"] (defScope s__law_power) := ⟨rfl, rfl, rfl, by decide +kernel, rfl, by decide +kernel, by decide +kernel⟩
theorem ok__law_power {f : Addr} {fd : FuncData} (F : Fun T.K "_law_power" "_law_power" s__law_power f fd) (z_range : mg "range" = none) : FnOk P w T.K mg base CX0 1 f fd ["_law_base", "_law_times"] (mkSp (Pre__law_power T)) := by
  refine fn_ok F sc__law_power (fun As Ω R h => ?_) (fun cdv A outer s H E hr As Ω R F0 h => ?_)
  · obtain ⟨x0, x1, r, rfl, _⟩ := h
    rfl
  obtain ⟨x0, x1, r, rfl, hm, rfl⟩ := h
  refine ⟨_, (pss_cons (ps_set (i := 2) sc__law_power.nd rfl (.inl rfl) pe_int) (pss_cons (ps_for PassesOwn.never rfl (pi_range1 rfl z_range (pa_cons (pv 1) pa_nil)) (pg_name (i := 3) sc__law_power.nd rfl (.inl rfl)) (pss_one (ps_set (i := 2) sc__law_power.nd rfl (.inl rfl) (pe_op op_mulQ (pv 2) (pv 0))))) (pss_one (ps_ret (pv 2))))), fun D hrt hnx => ?_⟩
  have ok : Okk Ω [] := okk0
  suffices hx : XS _ D F0 [some (va T x0), some (va T x1), none, none] (stt Ω [] []) by
    rw [show (stt Ω [] []) = Ω from stt_self (by simp)] at hx
    exact hx
  unfold M__law_power at hm
  refine xs_set (A := va T (1 : Int)) xe_int ?_
  show XS (tSeq _ _) _ _ [some (va T x0), some (va T x1), some (va T (1 : Int)), none] (stt Ω [] [])
  obtain ⟨z1, hz1, hm⟩ := bnd_some hm
  obtain ⟨z6, hz6, hm⟩ := bnd_some hm
  refine xs_forS (fun (s2 : Int) => [some (va T x0), some (va T x1), some (va T s2), none]) (fun (s2 : Int) => (stt Ω [] [])) (fun (_ : Unit) _ _ _ => False) hz6 (xi_range1 (T := T) (xa_cons (xe_var (i := 1) rfl) xa_nil) (chkP_some hz1).1 (chkP_some hz1).2) (fun _ => tgt_name) (fun a3 s2 s' ha hm F1 D1 e1 hD => ?_) (fun s7 es => ?_) (fun r1 es => ?_)
  · show XS (tAsg _ _) _ _ [some (va T x0), some (va T x1), some (va T s2), some (va T a3)] (stt Ω [] [])
    obtain ⟨z4, hz4, hm⟩ := bnd_some hm
    obtain ⟨y5, hy5, hm⟩ := bnd_some hm
    refine xs_set1 (A := va T y5) (xe_eq (xe_mul (chkP_some hz4) (xe_var (i := 2) rfl) (xe_var (i := 0) rfl)) (Option.some.inj hy5)) ?_
    obtain rfl := Option.some.inj hm
    exact fun σ H n => hD.nx _ rfl σ H (n.forget 3)
  · subst es
    obtain ⟨s2, hs2, hm⟩ := bnd_some hm
    cases hs2
    show XS (tRet _) _ _ [some (va T x0), some (va T x1), some (va T s7), none] (stt Ω [] [])
    obtain rfl := Option.some.inj hm
    refine xs_ret (xe_var (i := 2) rfl) hrt.all
  · subst es
    cases hm
noncomputable def M__law_machine (x0 : List Int) : Option (MS × List Int) :=
  (M__law_next x0 (23 : Int)).bind fun z1 => (some ((8 : Int) + z1.1)).bind fun y2 => (M__law_next z1.2 (8 : Int)).bind fun z3 => (M__law_next z3.2 (999 : Int)).bind fun z4 => (M__law_one z4.2 ([((2 : Int) + z3.1), (70 : Int), ((2 : Int) + z4.1)] : List Int)).bind fun z5 => (M__law_one z5.2 ([(8 : Int), (8 : Int), (9 : Int), (15 : Int), (30 : Int), (30 : Int), y2] : List Int)).bind fun z6 => (chkP ((8 ≤ z6.1 ∧ z6.1 ≤ 30) ∧ 2 ≤ z5.1 ∧ z5.1 ≤ 1000)).bind fun z7 => some ((MS.fresh z6.1 z5.1), z6.2)
def Pre__law_machine (T : TC) : PreT := fun As Ω R => ∃ (k0 : Nat) (p0 : Addr) (x0 : List Int) (r : MS × List Int), As = [vr p0] ∧ Ω[k0]? = some (lstA T p0 x0) ∧ M__law_machine x0 = some r ∧ R = RN (stt Ω [(k0, lstA T p0 r.2)] []) (fun q => machA T q r.1)
theorem sc__law_machine : FnScope ["_law_source", "_law_drawn_here", "_law_cut"] ["_law_source"] (defScope s__law_machine) := ⟨rfl, rfl, rfl, by decide +kernel, rfl, by decide +kernel, by decide +kernel⟩
theorem ok__law_machine {f : Addr} {fd : FuncData} (F : Fun T.K "_law_machine" "_law_machine" s__law_machine f fd) (c__law_next : Cal P w T.K mg base 1 "_law_next" ["_law_source", "_law_times"] (mkSp (Pre__law_next T))) (c__law_one : Cal P w T.K mg base 2 "_law_one" ["_law_source", "_law_some"] (mkSp (Pre__law_one T))) (c_Machine2 : CalC P w T.K mg base 3 "Machine" (T.C 0) ["self", "bits", "cutoff"] [] (mkSp (Pre_Machine T))) : FnOk P w T.K mg base CX0 5 f fd ["_law_source"] (mkSp (Pre__law_machine T)) := by
  refine fn_ok F sc__law_machine (fun As Ω R h => ?_) (fun cdv A outer s H E hr As Ω R F0 h => ?_)
  · obtain ⟨k0, p0, x0, r, rfl, _⟩ := h
    rfl
  obtain ⟨k0, p0, x0, r, rfl, hk0, hm, rfl⟩ := h
  refine ⟨_, (pss_cons (ps_set (i := 1) sc__law_machine.nd rfl (.inl rfl) (pe_op op_addQ pe_int (pe_cal c__law_next (hr.mono (by decide)) (by rfl) (pa_cons (pv 0) (pa_cons pe_int pa_nil))))) (pss_cons (ps_set (i := 2) sc__law_machine.nd rfl (.inl rfl) (pe_cal c__law_one (hr.mono (by decide)) (by rfl) (pa_cons (pv 0) (pa_cons (pe_lst (pa_cons (pe_op op_addQ pe_int (pe_cal c__law_next (hr.mono (by decide)) (by rfl) (pa_cons (pv 0) (pa_cons pe_int pa_nil)))) (pa_cons pe_int (pa_cons (pe_op op_addQ pe_int (pe_cal c__law_next (hr.mono (by decide)) (by rfl) (pa_cons (pv 0) (pa_cons pe_int pa_nil)))) pa_nil)))) pa_nil)))) (pss_one (ps_ret (pe_calC c_Machine2 (hr.mono (by decide)) (by rfl) (pa_cons (pe_cal c__law_one (hr.mono (by decide)) (by rfl) (pa_cons (pv 0) (pa_cons (pe_lst (pa_cons pe_int (pa_cons pe_int (pa_cons pe_int (pa_cons pe_int (pa_cons pe_int (pa_cons pe_int (pa_cons (pv 1) pa_nil)))))))) pa_nil))) (pa_cons (pv 2) pa_nil))))))), fun D hrt hnx => ?_⟩
  have ok := okk1 hk0
  suffices hx : XS _ D F0 [some (vr p0), none, none] (stt Ω [(k0, lstA T p0 (x0 : List Int))] []) by
    rw [show (stt Ω [(k0, lstA T p0 (x0 : List Int))] []) = Ω from stt_self (by simp [hk0])] at hx
    exact hx
  unfold M__law_machine at hm
  obtain ⟨z1, hz1, hm⟩ := bnd_some hm
  obtain ⟨y2, hy2, hm⟩ := bnd_some hm
  refine xs_set (A := va T y2) (xe_eq (xe_add xe_int (xe_call (xa_cons (xe_var (i := 0) rfl) (xa_cons xe_int xa_nil)) ⟨k0, p0, x0, (23 : Int), z1, rfl, (stt_get ok (i := 0) rfl), hz1, rfl⟩ (cal1 ok (i := 0) rfl))) (Option.some.inj hy2)) ?_
  show XS (tSeq _ _) _ _ [some (vr p0), some (va T y2), none] (stt Ω [(k0, lstA T p0 (z1.2 : List Int))] [])
  obtain ⟨z3, hz3, hm⟩ := bnd_some hm
  obtain ⟨z4, hz4, hm⟩ := bnd_some hm
  obtain ⟨z5, hz5, hm⟩ := bnd_some hm
  refine xs_set (A := va T z5.1) (xe_call (xa_cons (xe_var (i := 0) rfl) (xa_cons (xe_lst (l := [((2 : Int) + z3.1), (70 : Int), ((2 : Int) + z4.1)]) (xa_cons (xe_add xe_int (xe_call (xa_cons (xe_var (i := 0) rfl) (xa_cons xe_int xa_nil)) ⟨k0, p0, z1.2, (8 : Int), z3, rfl, (stt_get ok (i := 0) rfl), hz3, rfl⟩ (cal1 ok (i := 0) rfl))) (xa_cons xe_int (xa_cons (xe_add xe_int (xe_call (xa_cons (xe_var (i := 0) rfl) (xa_cons xe_int xa_nil)) ⟨k0, p0, z3.2, (999 : Int), z4, rfl, (stt_get ok (i := 0) rfl), hz4, rfl⟩ (cal1 ok (i := 0) rfl))) xa_nil))) (by show 3 ≤ sizeLine; decide)) xa_nil)) ⟨k0, p0, z4.2, ([((2 : Int) + z3.1), (70 : Int), ((2 : Int) + z4.1)] : List Int), z5, rfl, (stt_get ok (i := 0) rfl), hz5, rfl⟩ (cal1 ok (i := 0) rfl)) ?_
  show XS (tRet _) _ _ [some (vr p0), some (va T y2), some (va T z5.1)] (stt Ω [(k0, lstA T p0 (z5.2 : List Int))] [])
  obtain ⟨z6, hz6, hm⟩ := bnd_some hm
  obtain ⟨z7, hz7, hm⟩ := bnd_some hm
  obtain rfl := Option.some.inj hm
  refine xs_ret (xn_make (Ds := []) (xa_cons (xe_call (xa_cons (xe_var (i := 0) rfl) (xa_cons (xe_lst (l := [(8 : Int), (8 : Int), (9 : Int), (15 : Int), (30 : Int), (30 : Int), y2]) (xa_cons xe_int (xa_cons xe_int (xa_cons xe_int (xa_cons xe_int (xa_cons xe_int (xa_cons xe_int (xa_cons (xe_var (i := 1) rfl) xa_nil))))))) (by show 7 ≤ sizeLine; decide)) xa_nil)) ⟨k0, p0, z5.2, ([(8 : Int), (8 : Int), (9 : Int), (15 : Int), (30 : Int), (30 : Int), y2] : List Int), z6, rfl, (stt_get ok (i := 0) rfl), hz6, rfl⟩ (cal1 ok (i := 0) rfl)) (xa_cons (xe_var (i := 2) rfl) xa_nil)) (fun _ => .nil) (fun q => ⟨_, q, z6.1, z5.1, rfl, chkP_some hz7, rfl, rfl⟩)) (RT.allN hrt)
noncomputable def M__law_drawn (x0 : List Int) (x1 : Int) (x2 : Int) : Option (Int × List Int) :=
  (M__law_next x0 (x2 + (1 : Int))).bind fun z1 => (chkP (-(2 ^ 62) ≤ z1.1 ∧ z1.1 < 2 ^ 62)).bind fun z2 => (forM' (ρ := Unit) (fun (a4 : Int) (s3 : Int × (List Int)) => (M__law_next s3.2 x1).bind fun z5 => (chkP (IntMulOk s3.1 x1)).bind fun z6 => (chkP (CDivW x1 (2 : Int))).bind fun z7 => (M__law_one z5.2 ([z5.1, z5.1, (0 : Int), (0 : Int), (x1 - (1 : Int)), (1 : Int), (x1 / (2 : Int))] : List Int)).bind fun z8 => (some ((s3.1 * x1) + z8.1)).bind fun y9 => some (Stp.nx (y9, z8.2))) (rng 0 (z1.1).toNat) ((0 : Int), z1.2)).bind fun z10 => (nxt z10).bind fun s11 => (M__law_next s11.2 (x2 + (1 : Int))).bind fun z12 => (M__law_power x1 z12.1).bind fun z13 => (M__law_next z12.2 (3 : Int)).bind fun z14 => (chkP (IntMulOk z13 (if (decide (z14.1 = (0 : Int))) = true then (1 : Int) else 0))).bind fun z15 => (some (s11.1 + (z13 * (if (decide (z14.1 = (0 : Int))) = true then (1 : Int) else 0)))).bind fun y16 => (M__law_one z14.2 ([y16, y16, ((0 : Int) - y16), ((0 : Int) - y16), (y16 - (1 : Int))] : List Int)).bind fun z17 => some (z17.1, z17.2)
def Pre__law_drawn (T : TC) : PreT := fun As Ω R => ∃ (k0 : Nat) (p0 : Addr) (x0 : List Int) (x1 : Int) (x2 : Int) (r : Int × List Int), As = [vr p0, va T x1, va T x2] ∧ Ω[k0]? = some (lstA T p0 x0) ∧ M__law_drawn x0 x1 x2 = some r ∧ R = RV (va T r.1) (stt Ω [(k0, lstA T p0 r.2)] [])
theorem sc__law_drawn : FnScope ["_law_source", "_law_base", "_law_most", "_law_found", "_law_k", "_law_drawn_here"] ["_law_source", "_law_base", "_law_most"] (defScope s__law_drawn) := ⟨rfl, rfl, rfl, by decide +kernel, rfl, by decide +kernel, by decide +kernel⟩
theorem ok__law_drawn {f : Addr} {fd : FuncData} (F : Fun T.K "_law_drawn" "_law_drawn" s__law_drawn f fd) (c__law_next : Cal P w T.K mg base 1 "_law_next" ["_law_source", "_law_times"] (mkSp (Pre__law_next T))) (z_range : mg "range" = none) (c__law_one : Cal P w T.K mg base 2 "_law_one" ["_law_source", "_law_some"] (mkSp (Pre__law_one T))) (c__law_power : Cal P w T.K mg base 1 "_law_power" ["_law_base", "_law_times"] (mkSp (Pre__law_power T))) (z_int : mg "int" = none) : FnOk P w T.K mg base CX0 3 f fd ["_law_source", "_law_base", "_law_most"] (mkSp (Pre__law_drawn T)) := by
  refine fn_ok F sc__law_drawn (fun As Ω R h => ?_) (fun cdv A outer s H E hr As Ω R F0 h => ?_)
  · obtain ⟨k0, p0, x0, x1, x2, r, rfl, _⟩ := h
    rfl
  obtain ⟨k0, p0, x0, x1, x2, r, rfl, hk0, hm, rfl⟩ := h
  refine ⟨_, (pss_cons (ps_set (i := 3) sc__law_drawn.nd rfl (.inl rfl) pe_int) (pss_cons (ps_for PassesOwn.never rfl (pi_range1 rfl z_range (pa_cons (pe_cal c__law_next (hr.mono (by decide)) (by rfl) (pa_cons (pv 0) (pa_cons (pe_op op_addQ (pv 2) pe_int) pa_nil))) pa_nil)) (pg_name (i := 4) sc__law_drawn.nd rfl (.inl rfl)) (pss_cons (ps_set (i := 5) sc__law_drawn.nd rfl (.inl rfl) (pe_cal c__law_next (hr.mono (by decide)) (by rfl) (pa_cons (pv 0) (pa_cons (pv 1) pa_nil)))) (pss_one (ps_set (i := 3) sc__law_drawn.nd rfl (.inl rfl) (pe_op op_addQ (pe_op op_mulQ (pv 3) (pv 1)) (pe_cal c__law_one (hr.mono (by decide)) (by rfl) (pa_cons (pv 0) (pa_cons (pe_lst (pa_cons (pv 5) (pa_cons (pv 5) (pa_cons pe_int (pa_cons pe_int (pa_cons (pe_op op_sub (pv 1) pe_int) (pa_cons pe_int (pa_cons (pe_op op_fdivW (pv 1) pe_int) pa_nil)))))))) pa_nil)))))))) (pss_cons (ps_set (i := 3) sc__law_drawn.nd rfl (.inl rfl) (pe_op op_addQ (pv 3) (pe_op op_mulQ (pe_cal c__law_power (hr.mono (by decide)) (by rfl) (pa_cons (pv 1) (pa_cons (pe_cal c__law_next (hr.mono (by decide)) (by rfl) (pa_cons (pv 0) (pa_cons (pe_op op_addQ (pv 2) pe_int) pa_nil))) pa_nil))) (pe_callTy cr_int (by rfl) z_int (by decide +kernel) (pa_cons (pe_cmpR (op_eqXK (K := T.K) (by exact hr.units) rfl) (pe_cal c__law_next (hr.mono (by decide)) (by rfl) (pa_cons (pv 0) (pa_cons pe_int pa_nil))) pe_int (nomark _)) pa_nil))))) (pss_one (ps_ret (pe_cal c__law_one (hr.mono (by decide)) (by rfl) (pa_cons (pv 0) (pa_cons (pe_lst (pa_cons (pv 3) (pa_cons (pv 3) (pa_cons (pe_op op_sub pe_int (pv 3)) (pa_cons (pe_op op_sub pe_int (pv 3)) (pa_cons (pe_op op_sub (pv 3) pe_int) pa_nil)))))) pa_nil)))))))), fun D hrt hnx => ?_⟩
  have ok := okk1 hk0
  suffices hx : XS _ D F0 [some (vr p0), some (va T x1), some (va T x2), none, none, none] (stt Ω [(k0, lstA T p0 (x0 : List Int))] []) by
    rw [show (stt Ω [(k0, lstA T p0 (x0 : List Int))] []) = Ω from stt_self (by simp [hk0])] at hx
    exact hx
  unfold M__law_drawn at hm
  refine xs_set (A := va T (0 : Int)) xe_int ?_
  show XS (tSeq _ _) _ _ [some (vr p0), some (va T x1), some (va T x2), some (va T (0 : Int)), none, none] (stt Ω [(k0, lstA T p0 (x0 : List Int))] [])
  obtain ⟨z1, hz1, hm⟩ := bnd_some hm
  obtain ⟨z2, hz2, hm⟩ := bnd_some hm
  obtain ⟨z10, hz10, hm⟩ := bnd_some hm
  refine xs_forS (fun (s3 : Int × (List Int)) => [some (vr p0), some (va T x1), some (va T x2), some (va T s3.1), none, none]) (fun (s3 : Int × (List Int)) => (stt Ω [(k0, lstA T p0 (s3.2 : List Int))] [])) (fun (_ : Unit) _ _ _ => False) hz10 (xi_range1 (T := T) (xa_cons (xe_call (xa_cons (xe_var (i := 0) rfl) (xa_cons (xe_add (xe_var (i := 2) rfl) xe_int) xa_nil)) ⟨k0, p0, x0, (x2 + (1 : Int)), z1, rfl, (stt_get ok (i := 0) rfl), hz1, rfl⟩ (cal1 ok (i := 0) rfl)) xa_nil) (chkP_some hz2).1 (chkP_some hz2).2) (fun _ => tgt_name) (fun a4 s3 s' ha hm F1 D1 e1 hD => ?_) (fun s11 es => ?_) (fun r1 es => ?_)
  · show XS (tSeq _ _) _ _ [some (vr p0), some (va T x1), some (va T x2), some (va T s3.1), some (va T a4), none] (stt Ω [(k0, lstA T p0 (s3.2 : List Int))] [])
    obtain ⟨z5, hz5, hm⟩ := bnd_some hm
    refine xs_set (A := va T z5.1) (xe_call (xa_cons (xe_var (i := 0) rfl) (xa_cons (xe_var (i := 1) rfl) xa_nil)) ⟨k0, p0, s3.2, x1, z5, rfl, (stt_get ok (i := 0) rfl), hz5, rfl⟩ (cal1 ok (i := 0) rfl)) ?_
    show XS (tAsg _ _) _ _ [some (vr p0), some (va T x1), some (va T x2), some (va T s3.1), some (va T a4), some (va T z5.1)] (stt Ω [(k0, lstA T p0 (z5.2 : List Int))] [])
    obtain ⟨z6, hz6, hm⟩ := bnd_some hm
    obtain ⟨z7, hz7, hm⟩ := bnd_some hm
    obtain ⟨z8, hz8, hm⟩ := bnd_some hm
    obtain ⟨y9, hy9, hm⟩ := bnd_some hm
    refine xs_set1 (A := va T y9) (xe_eq (xe_add (xe_mul (chkP_some hz6) (xe_var (i := 3) rfl) (xe_var (i := 1) rfl)) (xe_call (xa_cons (xe_var (i := 0) rfl) (xa_cons (xe_lst (l := [z5.1, z5.1, (0 : Int), (0 : Int), (x1 - (1 : Int)), (1 : Int), (x1 / (2 : Int))]) (xa_cons (xe_var (i := 5) rfl) (xa_cons (xe_var (i := 5) rfl) (xa_cons xe_int (xa_cons xe_int (xa_cons (xe_sub (xe_var (i := 1) rfl) xe_int) (xa_cons xe_int (xa_cons (xe_fdiv (chkP_some hz7) (xe_var (i := 1) rfl) xe_int) xa_nil))))))) (by show 7 ≤ sizeLine; decide)) xa_nil)) ⟨k0, p0, z5.2, ([z5.1, z5.1, (0 : Int), (0 : Int), (x1 - (1 : Int)), (1 : Int), (x1 / (2 : Int))] : List Int), z8, rfl, (stt_get ok (i := 0) rfl), hz8, rfl⟩ (cal1 ok (i := 0) rfl))) (Option.some.inj hy9)) ?_
    obtain rfl := Option.some.inj hm
    exact fun σ H n => hD.nx _ rfl σ H ((n.forget 5).forget 4)
  · subst es
    obtain ⟨s2, hs2, hm⟩ := bnd_some hm
    cases hs2
    show XS (tSeq _ _) _ _ [some (vr p0), some (va T x1), some (va T x2), some (va T s11.1), none, none] (stt Ω [(k0, lstA T p0 (s11.2 : List Int))] [])
    obtain ⟨z12, hz12, hm⟩ := bnd_some hm
    obtain ⟨z13, hz13, hm⟩ := bnd_some hm
    obtain ⟨z14, hz14, hm⟩ := bnd_some hm
    obtain ⟨z15, hz15, hm⟩ := bnd_some hm
    obtain ⟨y16, hy16, hm⟩ := bnd_some hm
    refine xs_set (A := va T y16) (xe_eq (xe_add (xe_var (i := 3) rfl) (xe_mul (chkP_some hz15) (xe_call (xa_cons (xe_var (i := 1) rfl) (xa_cons (xe_call (xa_cons (xe_var (i := 0) rfl) (xa_cons (xe_add (xe_var (i := 2) rfl) xe_int) xa_nil)) ⟨k0, p0, s11.2, (x2 + (1 : Int)), z12, rfl, (stt_get ok (i := 0) rfl), hz12, rfl⟩ (cal1 ok (i := 0) rfl)) xa_nil)) ⟨x1, z12.1, z13, rfl, hz13, rfl⟩ cal0) (xe_intb (xe_eqI (xe_call (xa_cons (xe_var (i := 0) rfl) (xa_cons xe_int xa_nil)) ⟨k0, p0, z12.2, (3 : Int), z14, rfl, (stt_get ok (i := 0) rfl), hz14, rfl⟩ (cal1 ok (i := 0) rfl)) xe_int)))) (Option.some.inj hy16)) ?_
    show XS (tRet _) _ _ [some (vr p0), some (va T x1), some (va T x2), some (va T y16), none, none] (stt Ω [(k0, lstA T p0 (z14.2 : List Int))] [])
    obtain ⟨z17, hz17, hm⟩ := bnd_some hm
    obtain rfl := Option.some.inj hm
    refine xs_ret (xe_call (xa_cons (xe_var (i := 0) rfl) (xa_cons (xe_lst (l := [y16, y16, ((0 : Int) - y16), ((0 : Int) - y16), (y16 - (1 : Int))]) (xa_cons (xe_var (i := 3) rfl) (xa_cons (xe_var (i := 3) rfl) (xa_cons (xe_sub xe_int (xe_var (i := 3) rfl)) (xa_cons (xe_sub xe_int (xe_var (i := 3) rfl)) (xa_cons (xe_sub (xe_var (i := 3) rfl) xe_int) xa_nil))))) (by show 5 ≤ sizeLine; decide)) xa_nil)) ⟨k0, p0, z14.2, ([y16, y16, ((0 : Int) - y16), ((0 : Int) - y16), (y16 - (1 : Int))] : List Int), z17, rfl, (stt_get ok (i := 0) rfl), hz17, rfl⟩ (cal1 ok (i := 0) rfl)) hrt.all
  · subst es
    cases hm
noncomputable def M__law_counted (x0 : MS) (x1 : DF) (x2 : List (T3 Str Int Int)) : Option (Bool × MS) :=
  (chkP (x0.tally.length ≤ sizeLine)).bind fun z1 => (lcM (fun (a3 : (Str × Int)) (s2 : Unit) => if (decide ((0 : Int) < a3.2)) = true then some (some (a3.1, a3.2), ()) else some (none, ())) x0.tally ()).bind fun z4 => (chkP ((z4.1.map (·.1)).Nodup)).bind fun z6 => (some (DF.mk z4.1)).bind fun y7 => (chkP (x1.l.length ≤ sizeLine)).bind fun z8 => (lcM (fun (a10 : (Str × Int)) (s9 : Unit) => if (decide ((0 : Int) < a10.2)) = true then some (some (a10.1, a10.2), ()) else some (none, ())) x1.l ()).bind fun z11 => (chkP ((z11.1.map (·.1)).Nodup)).bind fun z13 => (some (DF.mk z11.1)).bind fun y14 => (chkP (sameD y7.l y14.l)).bind fun z15 => (if true = true then (chkP (Dat.ok (LF.mk x0.wk) ∧ Dat.ok (LF.mk x2))).bind fun z16 => some (eqD (LF.mk x0.wk) (LF.mk x2)) else some false).bind fun z17 => (chkP (z17 = true)).bind fun z19 => some (true, x0.reset)
def Pre__law_counted (T : TC) : PreT := fun As Ω R => ∃ (k0 : Nat) (p0 : Addr) (x0 : MS) (x1 : DF) (x2 : List (T3 Str Int Int)) (r : Bool × MS), As = [vr p0, va T x1, va T (LF.mk x2)] ∧ Ω[k0]? = some (machA T p0 x0) ∧ M__law_counted x0 x1 x2 = some r ∧ R = RV (va T r.1) (stt Ω [(k0, machA T p0 r.2)] [])
theorem sc__law_counted : FnScope ["_law_machine_here", "_law_got", "_law_entered", "_law_found", "_law_due", "_law_is_same", "_law_word", "_law_number"] ["_law_machine_here", "_law_got", "_law_entered"] (defScope s__law_counted) := ⟨rfl, rfl, rfl, by decide +kernel, rfl, by decide +kernel, by decide +kernel⟩
theorem ok__law_counted {f : Addr} {fd : FuncData} (F : Fun T.K "_law_counted" "_law_counted" s__law_counted f fd) (mc : MCls T.K (T.C 0)) (c_Mach_tally : CalM P w T.K mg base 1 (T.C 0) "tally" ["self"] (mkSp (Pre_Mach_tally T))) (z_dict : mg "dict" = none) (c_Mach_walk : CalM P w T.K mg base 1 (T.C 0) "walk" ["self"] (mkSp (Pre_Mach_walk T))) (c_Mach_reset : CalM P w T.K mg base 1 (T.C 0) "reset" ["self"] (mkSp (Pre_Mach_reset T))) : FnOk P w T.K mg base CX0 2 f fd ["_law_machine_here", "_law_got", "_law_entered"] (mkSp (Pre__law_counted T)) := by
  refine fn_ok F sc__law_counted (fun As Ω R h => ?_) (fun cdv A outer s H E hr As Ω R F0 h => ?_)
  · obtain ⟨k0, p0, x0, x1, x2, r, rfl, _⟩ := h
    rfl
  obtain ⟨k0, p0, x0, x1, x2, r, rfl, hk0, hm, rfl⟩ := h
  refine ⟨_, (pss_cons (ps_set (i := 3) sc__law_counted.nd rfl (.inl rfl) (pe_fz (pe_callTy (cr_dictPK (K := T.K) rfl rfl) (by rfl) z_dict (by decide +kernel) (pa_cons (pe_lc (own := [("_law_word", 6), ("_law_number", 7)]) rfl sc__law_counted.nd (pi_listK (K := T.K) (pe_calM0 (pv 0) c_Mach_tally (hr.mono (by decide))) rfl) (blkOk_by (N := ["_law_machine_here", "_law_got", "_law_entered", "_law_found", "_law_due", "_law_is_same", "_law_word", "_law_number"]) (sc := defScope s__law_counted) (by decide +kernel)) (fun _ _ _ _ _ => (pg_tupK (K := T.K) (n := 2) rfl rfl (pgs_cons (pg_name (i := 6) sc__law_counted.nd rfl (.inl rfl)) (pgs_cons (pg_name (i := 7) sc__law_counted.nd rfl (.inl rfl)) pgs_nil)))) (fun _ _ _ _ _ => (pts_one (pt_cmpR op_gt (pv 7) pe_int (nomark _)))) (fun _ _ _ _ _ => (pe_tup (pa_cons (pv 6) (pa_cons (pv 7) pa_nil))))) pa_nil)))) (pss_cons (ps_set (i := 4) sc__law_counted.nd rfl (.inl rfl) (pe_fz (pe_callTy (cr_dictPK (K := T.K) rfl rfl) (by rfl) z_dict (by decide +kernel) (pa_cons (pe_lc (own := [("_law_word", 6), ("_law_number", 7)]) rfl sc__law_counted.nd (pi_items (pv 1)) (blkOk_by (N := ["_law_machine_here", "_law_got", "_law_entered", "_law_found", "_law_due", "_law_is_same", "_law_word", "_law_number"]) (sc := defScope s__law_counted) (by decide +kernel)) (fun _ _ _ _ _ => (pg_tupK (K := T.K) (n := 2) rfl rfl (pgs_cons (pg_name (i := 6) sc__law_counted.nd rfl (.inl rfl)) (pgs_cons (pg_name (i := 7) sc__law_counted.nd rfl (.inl rfl)) pgs_nil)))) (fun _ _ _ _ _ => (pts_one (pt_cmpR op_gt (pv 7) pe_int (nomark _)))) (fun _ _ _ _ _ => (pe_tup (pa_cons (pv 6) (pa_cons (pv 7) pa_nil))))) pa_nil)))) (pss_cons (ps_set (i := 5) sc__law_counted.nd rfl (.inl rfl) (pe_and (pe_cmpR (op_eqF (Nat.lt_of_le_of_lt (Nat.le_add_right _ 64) (by exact hr.units))) (pv 3) (pv 4) (nomark _)) (pe_one (pe_cmpR (op_eqXK (K := T.K) (by exact hr.units) rfl) (pe_calM0 (pv 0) c_Mach_walk (hr.mono (by decide))) (pv 2) (nomark _))))) (pss_cons (ps_expr (pe_calM0 (pv 0) c_Mach_reset (hr.mono (by decide)))) (pss_one (ps_ret (pv 5))))))), fun D hrt hnx => ?_⟩
  have ok := okk1 hk0
  suffices hx : XS _ D F0 [some (vr p0), some (va T x1), some (va T (LF.mk x2)), none, none, none, none, none] (stt Ω [(k0, machA T p0 x0)] []) by
    rw [show (stt Ω [(k0, machA T p0 x0)] []) = Ω from stt_self (by simp [hk0])] at hx
    exact hx
  unfold M__law_counted at hm
  obtain ⟨z1, hz1, hm⟩ := bnd_some hm
  obtain ⟨z4, hz4, hm⟩ := bnd_some hm
  obtain ⟨z6, hz6, hm⟩ := bnd_some hm
  obtain ⟨y7, hy7, hm⟩ := bnd_some hm
  refine xs_set (A := va T y7) (xe_eq (xe_dictP (xe_fz (xn_lcS (T := T) (fun (s2 : Unit) => [(k0, machA T p0 x0)]) (fun (s2 : Unit) => []) hz4 (xi_LF (xe_mcall (xe_var (i := 0) rfl) (stt_get ok (i := 0) rfl) xa_nil ⟨k0, p0, x0, rfl, (stt_get ok (i := 0) rfl), rfl⟩ rfl)) (fun _ => tgt_pair) (by simp) (chkP_some hz1) ?q5)) isL_LF (chkP_some hz6)) (Option.some.inj hy7)) ?_
  case q5 =>
    exact (fun a3 s2 o s2 ha hm X => by
      by_cases hc : (decide ((0 : Int) < a3.2)) = true
      · rw [if_pos hc] at hm
        obtain ⟨rfl, rfl⟩ := Prod.mk.inj (Option.some.inj hm)
        refine ⟨(fun e => nomatch e), fun y e => ?_⟩
        obtain rfl := Option.some.inj e
        refine ⟨xt_eq (xt_test (T := T) (xe_gt (xe_var (i := 7) rfl) xe_int)) hc, (xe_tup2 (xa_cons (xe_var (i := 6) rfl) (xa_cons (xe_var (i := 7) rfl) xa_nil)))⟩
      · rw [if_neg hc] at hm
        obtain ⟨rfl, rfl⟩ := Prod.mk.inj (Option.some.inj hm)
        exact ⟨fun _ => xt_eq (xt_test (T := T) (xe_gt (xe_var (i := 7) rfl) xe_int)) (nt hc), fun y e => nomatch e⟩)
  show XS (tSeq _ _) _ _ [some (vr p0), some (va T x1), some (va T (LF.mk x2)), some (va T y7), none, none, none, none] (stt Ω [(k0, machA T p0 x0)] [])
  obtain ⟨z8, hz8, hm⟩ := bnd_some hm
  obtain ⟨z11, hz11, hm⟩ := bnd_some hm
  obtain ⟨z13, hz13, hm⟩ := bnd_some hm
  obtain ⟨y14, hy14, hm⟩ := bnd_some hm
  refine xs_set (A := va T y14) (xe_eq (xe_dictP (xe_fz (xn_lcS (T := T) (fun (s9 : Unit) => [(k0, machA T p0 x0)]) (fun (s9 : Unit) => []) hz11 (xi_items (xe_var (i := 1) rfl)) (fun _ => tgt_pair) (by simp) (chkP_some hz8) ?q12)) isL_LF (chkP_some hz13)) (Option.some.inj hy14)) ?_
  case q12 =>
    exact (fun a10 s9 o s2 ha hm X => by
      by_cases hc : (decide ((0 : Int) < a10.2)) = true
      · rw [if_pos hc] at hm
        obtain ⟨rfl, rfl⟩ := Prod.mk.inj (Option.some.inj hm)
        refine ⟨(fun e => nomatch e), fun y e => ?_⟩
        obtain rfl := Option.some.inj e
        refine ⟨xt_eq (xt_test (T := T) (xe_gt (xe_var (i := 7) rfl) xe_int)) hc, (xe_tup2 (xa_cons (xe_var (i := 6) rfl) (xa_cons (xe_var (i := 7) rfl) xa_nil)))⟩
      · rw [if_neg hc] at hm
        obtain ⟨rfl, rfl⟩ := Prod.mk.inj (Option.some.inj hm)
        exact ⟨fun _ => xt_eq (xt_test (T := T) (xe_gt (xe_var (i := 7) rfl) xe_int)) (nt hc), fun y e => nomatch e⟩)
  show XS (tSeq _ _) _ _ [some (vr p0), some (va T x1), some (va T (LF.mk x2)), some (va T y7), some (va T y14), none, none, none] (stt Ω [(k0, machA T p0 x0)] [])
  obtain ⟨z15, hz15, hm⟩ := bnd_some hm
  obtain ⟨z17, hz17, hm⟩ := bnd_some hm
  refine xs_set (A := va T z17) (xe_andO (xe_eqDF (xe_var (i := 3) rfl) (xe_var (i := 4) rfl) (chkP_some hz15)) hz17 ?q18) ?_
  case q18 =>
    exact (fun v hm => by
      obtain ⟨z16, hz16, hm⟩ := bnd_some hm
      obtain rfl := Option.some.inj hm
      exact (xe_eqD (chkP_some hz16) (by decide) (xe_mcall (xe_var (i := 0) rfl) (stt_get ok (i := 0) rfl) xa_nil ⟨k0, p0, x0, rfl, (stt_get ok (i := 0) rfl), rfl⟩ rfl) (xe_var (i := 2) rfl) isD_va isD_va))
  show XS (tSeq _ _) _ _ [some (vr p0), some (va T x1), some (va T (LF.mk x2)), some (va T y7), some (va T y14), some (va T z17), none, none] (stt Ω [(k0, machA T p0 x0)] [])
  refine xs_drop (xe_mcall (xe_var (i := 0) rfl) (stt_get ok (i := 0) rfl) xa_nil ⟨k0, p0, x0, rfl, (stt_get ok (i := 0) rfl), rfl⟩ (cal1 ok (i := 0) rfl)) ?_
  show XS (tRet _) _ _ [some (vr p0), some (va T x1), some (va T (LF.mk x2)), some (va T y7), some (va T y14), some (va T z17), none, none] (stt Ω [(k0, machA T p0 x0.reset)] [])
  obtain ⟨z19, hz19, hm⟩ := bnd_some hm
  obtain rfl := Option.some.inj hm
  refine xs_ret (xe_eq (xe_var (i := 5) rfl) (chkP_some hz19)) hrt.all
noncomputable def M__law_back_right (x0 : MS) (x1 : Bg) (x2 : Int) (x3 : Bool) : Option (Bool × MS) :=
  (forM' (ρ := Unit) (fun (a2 : Str) (s1 : MS) => (M_to_bytes s1 x1 x2 a2 x3).bind fun z3 => (M_from_bytes z3.2 z3.1 a2 x3).bind fun z4 => (M_Big_eq z4.1 x1).bind fun z5 => (chkP ((!z5) = false)).bind fun z6 => (chkP ((z3.1.length : Int) = x2)).bind fun z7 => (atI ([("big" : Str), ("little" : Str)] : List Str) (if (decide (a2 = ("big" : Str))) = true then (1 : Int) else 0)).bind fun z8 => (M_to_bytes z4.2 x1 x2 z8 x3).bind fun z9 => (chkP ((LF.mk z9.1) = (LF.mk (z3.1).reverse) ∧ Dat.ok (LF.mk z9.1))).bind fun z10 => some (Stp.nx z9.2)) ([("little" : Str), ("big" : Str)] : List Str) x0).bind fun z11 => (nxt z11).bind fun s12 => some (true, s12)
def Pre__law_back_right (T : TC) : PreT := fun As Ω R => ∃ (k0 : Nat) (p0 : Addr) (x0 : MS) (x1 : Bg) (x2 : Int) (x3 : Bool) (r : Bool × MS), As = [vr p0, va T x1, va T x2, va T x3] ∧ Ω[k0]? = some (machA T p0 x0) ∧ M__law_back_right x0 x1 x2 x3 = some r ∧ R = RV (va T r.1) (stt Ω [(k0, machA T p0 r.2)] [])
theorem sc__law_back_right : FnScope ["_law_here", "_law_x_here", "_law_size", "_law_is_signed", "_law_way", "_law_got"] ["_law_here", "_law_x_here", "_law_size", "_law_is_signed"] (defScope s__law_back_right) := ⟨rfl, rfl, rfl, by decide +kernel, rfl, by decide +kernel, by decide +kernel⟩
theorem ok__law_back_right {f : Addr} {fd : FuncData} (F : Fun T.K "_law_back_right" "_law_back_right" s__law_back_right f fd) (ckd_to_bytes_4_signed : CalKD P w T.K mg base 22 "to_bytes" ["machine", "x", "length", "order", "signed"] 4 ["signed"] [V.int 1, V.str "big"] [0, 1, 2, 3, 6] (mkSp (Pre_to_bytes T))) (ckd_from_bytes_3_signed : CalKD P w T.K mg base 23 "from_bytes" ["machine", "row", "order", "signed"] 3 ["signed"] [V.str "big"] [0, 1, 2, 4] (mkSp (Pre_from_bytes T))) (ceq : CalEq P w T.K mg base 1 (T.C 1) (mkSp (Pre_Big_eq T))) (z_len : mg "len" = none) (z_int : mg "int" = none) : FnOk P w T.K mg base CX0 24 f fd ["_law_here", "_law_x_here", "_law_size", "_law_is_signed"] (mkSp (Pre__law_back_right T)) := by
  refine fn_ok F sc__law_back_right (fun As Ω R h => ?_) (fun cdv A outer s H E hr As Ω R F0 h => ?_)
  · obtain ⟨k0, p0, x0, x1, x2, x3, r, rfl, _⟩ := h
    rfl
  obtain ⟨k0, p0, x0, x1, x2, x3, r, rfl, hk0, hm, rfl⟩ := h
  refine ⟨_, (pss_cons (ps_for PassesOwn.never rfl (pi_tupK (K := T.K) (pe_tup (pa_cons pe_str (pa_cons pe_str pa_nil))) rfl) (pg_name (i := 4) sc__law_back_right.nd rfl (.inl rfl)) (pss_cons (ps_set (i := 5) sc__law_back_right.nd rfl (.inl rfl) (pe_calKD ckd_to_bytes_4_signed (hr.mono (by decide)) (by rfl) (pa_cons (pv 0) (pa_cons (pv 1) (pa_cons (pv 2) (pa_cons (pv 4) pa_nil)))) (pk_cons (pv 3) pk_nil))) (pss_cons (ps_if (PW.pt (pw_or (pt_cmpR (op_neC ceq (hr.mono (by decide))) (pe_calKD ckd_from_bytes_3_signed (hr.mono (by decide)) (by rfl) (pa_cons (pv 0) (pa_cons (pv 5) (pa_cons (pv 4) pa_nil))) (pk_cons (pv 3) pk_nil)) (pv 1) (nomark _)) (pw_or1 (pt_cmpR (op_neXK (K := T.K) (by exact hr.units) rfl) (pe_callB (cr_lenK (K := T.K) rfl) (by rfl) z_len PySem.boot_len (pa_cons (pv 5) pa_nil)) (pv 2) (nomark _))))) pss_never pss_nil) (pss_one (ps_if (pt_cmpR (op_neXK (K := T.K) (by exact hr.units) rfl) (pe_calKD ckd_to_bytes_4_signed (hr.mono (by decide)) (by rfl) (pa_cons (pv 0) (pa_cons (pv 1) (pa_cons (pv 2) (pa_cons (pe_ix (ix_seqK (K := T.K) rfl) (pe_lst (pa_cons pe_str (pa_cons pe_str pa_nil))) (pe_callTy cr_int (by rfl) z_int (by decide +kernel) (pa_cons (pe_cmpR (op_eqXK (K := T.K) (by exact hr.units) rfl) (pv 4) pe_str (nomark _)) pa_nil)) (by intro _ _; rfl)) pa_nil)))) (pk_cons (pv 3) pk_nil)) (pe_revLK (K := T.K) (pv 5) rfl) (nomark _)) pss_never pss_nil))))) (pss_one (ps_ret pe_bl))), fun D hrt hnx => ?_⟩
  have ok := okk1 hk0
  suffices hx : XS _ D F0 [some (vr p0), some (va T x1), some (va T x2), some (va T x3), none, none] (stt Ω [(k0, machA T p0 x0)] []) by
    rw [show (stt Ω [(k0, machA T p0 x0)] []) = Ω from stt_self (by simp [hk0])] at hx
    exact hx
  unfold M__law_back_right at hm
  obtain ⟨z11, hz11, hm⟩ := bnd_some hm
  refine xs_forS (fun (s1 : MS) => [some (vr p0), some (va T x1), some (va T x2), some (va T x3), none, none]) (fun (s1 : MS) => (stt Ω [(k0, machA T p0 s1)] [])) (fun (_ : Unit) _ _ _ => False) hz11 (xi_TF (xe_tupF (l := [("little" : Str), ("big" : Str)]) (xa_cons xe_str (xa_cons xe_str xa_nil)) (by show 2 ≤ sizeLine; decide))) (fun _ => tgt_name) (fun a2 s1 s' ha hm F1 D1 e1 hD => ?_) (fun s12 es => ?_) (fun r1 es => ?_)
  · show XS (tSeq _ _) _ _ [some (vr p0), some (va T x1), some (va T x2), some (va T x3), some (va T a2), none] (stt Ω [(k0, machA T p0 s1)] [])
    obtain ⟨z3, hz3, hm⟩ := bnd_some hm
    refine xs_set (A := va T (LF.mk z3.1)) (xe_callND (Ds := [va T (1 : Int), va T ("big" : Str)]) (xa_cons (xe_var (i := 0) rfl) (xa_cons (xe_var (i := 1) rfl) (xa_cons (xe_var (i := 2) rfl) (xa_cons (xe_var (i := 4) rfl) xa_nil)))) (xa_cons (xe_var (i := 3) rfl) xa_nil) (fun _ => (.cons rfl (.cons rfl .nil))) ⟨k0, p0, s1, x1, x2, a2, x3, z3, rfl, (stt_get ok (i := 0) rfl), hz3, rfl⟩ (cal1 ok (i := 0) rfl)) ?_
    show XS (tSeq _ _) _ _ [some (vr p0), some (va T x1), some (va T x2), some (va T x3), some (va T a2), some (va T (LF.mk z3.1))] (stt Ω [(k0, machA T p0 z3.2)] [])
    obtain ⟨z4, hz4, hm⟩ := bnd_some hm
    obtain ⟨z5, hz5, hm⟩ := bnd_some hm
    obtain ⟨z6, hz6, hm⟩ := bnd_some hm
    obtain ⟨z7, hz7, hm⟩ := bnd_some hm
    refine xs_ifN (xt_orF (xt_eq (xt_test (T := T) (xe_ownNe (xe_callND (Ds := [va T ("big" : Str)]) (xa_cons (xe_var (i := 0) rfl) (xa_cons (xe_var (i := 5) rfl) (xa_cons (xe_var (i := 4) rfl) xa_nil))) (xa_cons (xe_var (i := 3) rfl) xa_nil) (fun _ => (.cons rfl .nil)) ⟨k0, p0, z3.2, z3.1, a2, x3, z4, rfl, (stt_get ok (i := 0) rfl), hz4, rfl⟩ (cal1 ok (i := 0) rfl)) (xe_var (i := 1) rfl) ⟨z4.1, x1, z5, rfl, hz5, rfl⟩ cal0)) (chkP_some hz6)) (xt_test (T := T) (xe_eq (xe_neI (xe_lenL (xe_var (i := 5) rfl) isL_LF) (xe_var (i := 2) rfl)) (neK_ (chkP_some hz7))))) ?_
    show XS (tIfS _ _ _) _ _ [some (vr p0), some (va T x1), some (va T x2), some (va T x3), some (va T a2), some (va T (LF.mk z3.1))] (stt Ω [(k0, machA T p0 z4.2)] [])
    obtain ⟨z8, hz8, hm⟩ := bnd_some hm
    obtain ⟨z9, hz9, hm⟩ := bnd_some hm
    obtain ⟨z10, hz10, hm⟩ := bnd_some hm
    refine xs_ifF1 (xt_test (T := T) (xe_neK (chkP_some hz10) (by decide) (xe_callND (Ds := [va T (1 : Int), va T ("big" : Str)]) (xa_cons (xe_var (i := 0) rfl) (xa_cons (xe_var (i := 1) rfl) (xa_cons (xe_var (i := 2) rfl) (xa_cons (xe_ix (xe_lst (l := [("big" : Str), ("little" : Str)]) (xa_cons xe_str (xa_cons xe_str xa_nil)) (by show 2 ≤ sizeLine; decide)) (xe_intb (xe_eqS (xe_var (i := 4) rfl) xe_str)) isL_LF hz8) xa_nil)))) (xa_cons (xe_var (i := 3) rfl) xa_nil) (fun _ => (.cons rfl (.cons rfl .nil))) ⟨k0, p0, z4.2, x1, x2, z8, x3, z9, rfl, (stt_get ok (i := 0) rfl), hz9, rfl⟩ (cal1 ok (i := 0) rfl)) (xe_revL (xe_var (i := 5) rfl) isL_LF) isD_va isD_va)) ?_
    obtain rfl := Option.some.inj hm
    exact fun σ H n => hD.nx _ rfl σ H ((n.forget 5).forget 4)
  · subst es
    obtain ⟨s2, hs2, hm⟩ := bnd_some hm
    cases hs2
    show XS (tRet _) _ _ [some (vr p0), some (va T x1), some (va T x2), some (va T x3), none, none] (stt Ω [(k0, machA T p0 s12)] [])
    obtain rfl := Option.some.inj hm
    refine xs_ret xe_bl hrt.all
  · subst es
    cases hm
noncomputable def M__law_each_right (x0 : MS) (x1 : Bg) (x2 : Int) : Option (Bool × MS) :=
  if (decide (x2 = (0 : Int))) = true then (M_Big_sign x1).bind fun z1 => (chkP ((decide (z1 = (0 : Int))) = true)).bind fun z2 => some (true, x0) else (M_to_bytes x0 x1 x2 ("little" : Str) true).bind fun z3 => (M_big z3.2 (255 : Int)).bind fun z4 => (some ((LF.mk z3.1), z4)).bind fun y5 => (chkP (-(2 ^ 62) ≤ x2 ∧ x2 < 2 ^ 62)).bind fun z6 => (chkP ((rng 0 (x2).toNat).length ≤ sizeLine)).bind fun z7 => (lcM (fun (a9 : Int) (s8 : MS) => (chkP (IntMulOk (8 : Int) a9)).bind fun z10 => (M_shift_right s8 x1 ((8 : Int) * a9)).bind fun z11 => (M_bit_and z11.2 z11.1 y5.2).bind fun z12 => (M_plain z12.1).bind fun z13 => some (some z13, z12.2)) (rng 0 (x2).toNat) z3.2).bind fun z14 => (M_bit_not z14.2 x1).bind fun z16 => (M_to_bytes z16.2 z16.1 x2 ("little" : Str) true).bind fun z17 => (chkP ((LF.mk y5.1.l) = (LF.mk z14.1) ∧ Dat.ok (LF.mk y5.1.l))).bind fun z18 => (chkP (y5.1.l.length ≤ sizeLine)).bind fun z19 => (lcM (fun (a21 : Int) (s20 : Unit) => some (some ((255 : Int) - a21), ())) y5.1.l ()).bind fun z22 => (chkP ((LF.mk z17.1) = (LF.mk z22.1) ∧ Dat.ok (LF.mk z17.1))).bind fun z24 => (M_to_bytes z17.2 x1 (x2 + (3 : Int)) ("little" : Str) true).bind fun z25 => (M_Big_sign x1).bind fun z26 => (chkP (IntMulOk (255 : Int) (if (decide (z26 < (0 : Int))) = true then (1 : Int) else 0))).bind fun z27 => (chkP ((-(2 ^ 63) ≤ (3 : Int) ∧ (3 : Int) < 2 ^ 63) ∧ ([((255 : Int) * (if (decide (z26 < (0 : Int))) = true then (1 : Int) else 0))] : List Int).length * ((3 : Int)).toNat ≤ sizeLine)).bind fun z28 => (chkP (y5.1.l.length + ((List.replicate ((3 : Int)).toNat ([((255 : Int) * (if (decide (z26 < (0 : Int))) = true then (1 : Int) else 0))] : List Int)).flatten).length ≤ sizeLine)).bind fun z29 => (chkP (Dat.ok (LF.mk z25.1) ∧ Dat.ok (LF.mk (y5.1.l ++ (List.replicate ((3 : Int)).toNat ([((255 : Int) * (if (decide (z26 < (0 : Int))) = true then (1 : Int) else 0))] : List Int)).flatten)))).bind fun z30 => (chkP ((eqD (LF.mk z25.1) (LF.mk (y5.1.l ++ (List.replicate ((3 : Int)).toNat ([((255 : Int) * (if (decide (z26 < (0 : Int))) = true then (1 : Int) else 0))] : List Int)).flatten))) = true)).bind fun z31 => some (true, z25.2)
def Pre__law_each_right (T : TC) : PreT := fun As Ω R => ∃ (k0 : Nat) (p0 : Addr) (x0 : MS) (x1 : Bg) (x2 : Int) (r : Bool × MS), As = [vr p0, va T x1, va T x2] ∧ Ω[k0]? = some (machA T p0 x0) ∧ M__law_each_right x0 x1 x2 = some r ∧ R = RV (va T r.1) (stt Ω [(k0, machA T p0 r.2)] [])
theorem sc__law_each_right : FnScope ["_law_here", "_law_x_here", "_law_size", "_law_got", "_law_full", "_law_due", "_law_other", "_law_longer", "_law_k", "_law_one_here"] ["_law_here", "_law_x_here", "_law_size"] (defScope s__law_each_right) := ⟨rfl, rfl, rfl, by decide +kernel, rfl, by decide +kernel, by decide +kernel⟩
theorem ok__law_each_right {f : Addr} {fd : FuncData} (F : Fun T.K "_law_each_right" "_law_each_right" s__law_each_right f fd) (c_Big_sign : CalM P w T.K mg base 1 (T.C 1) "sign" ["self"] (mkSp (Pre_Big_sign T))) (ckd_to_bytes_4_signed : CalKD P w T.K mg base 22 "to_bytes" ["machine", "x", "length", "order", "signed"] 4 ["signed"] [V.int 1, V.str "big"] [0, 1, 2, 3, 6] (mkSp (Pre_to_bytes T))) (c_big : Cal P w T.K mg base 23 "big" ["machine", "n"] (mkSp (Pre_big T))) (z_range : mg "range" = none) (c_shift_right : Cal P w T.K mg base 23 "shift_right" ["machine", "x", "count"] (mkSp (Pre_shift_right T))) (c_bit_and : Cal P w T.K mg base 23 "bit_and" ["machine", "x", "y"] (mkSp (Pre_bit_and T))) (c_plain : Cal P w T.K mg base 2 "plain" ["x"] (mkSp (Pre_plain T))) (c_bit_not : Cal P w T.K mg base 23 "bit_not" ["machine", "x"] (mkSp (Pre_bit_not T))) (z_int : mg "int" = none) : FnOk P w T.K mg base CX0 24 f fd ["_law_here", "_law_x_here", "_law_size"] (mkSp (Pre__law_each_right T)) := by
  refine fn_ok F sc__law_each_right (fun As Ω R h => ?_) (fun cdv A outer s H E hr As Ω R F0 h => ?_)
  · obtain ⟨k0, p0, x0, x1, x2, r, rfl, _⟩ := h
    rfl
  obtain ⟨k0, p0, x0, x1, x2, r, rfl, hk0, hm, rfl⟩ := h
  refine ⟨_, (pss_cons (ps_if (pt_cmpR (op_eqXK (K := T.K) (by exact hr.units) rfl) (pv 2) pe_int (nomark _)) (pss_one (ps_ret (pe_cmpR (op_eqXK (K := T.K) (by exact hr.units) rfl) (pe_calM0 (pv 1) c_Big_sign (hr.mono (by decide))) pe_int (nomark _)))) pss_nil) (pss_cons (ps_asg (pe_tup (pa_cons (pe_calKD ckd_to_bytes_4_signed (hr.mono (by decide)) (by rfl) (pa_cons (pv 0) (pa_cons (pv 1) (pa_cons (pv 2) (pa_cons pe_str pa_nil)))) (pk_cons pe_bl pk_nil)) (pa_cons (pe_cal c_big (hr.mono (by decide)) (by rfl) (pa_cons (pv 0) (pa_cons pe_int pa_nil))) pa_nil))) (pg_tupK (K := T.K) (n := 2) rfl rfl (pgs_cons (pg_name (i := 3) sc__law_each_right.nd rfl (.inl rfl)) (pgs_cons (pg_name (i := 4) sc__law_each_right.nd rfl (.inr rfl)) pgs_nil)))) (pss_cons (ps_setLc (i := 5) (own := [("_law_k", 8)]) rfl sc__law_each_right.nd rfl rfl (sw_true rfl rfl rfl (by decide +kernel)) (pi_range1 rfl z_range (pa_cons (pv 2) pa_nil)) (blkOk_by (N := ["_law_here", "_law_x_here", "_law_size", "_law_got", "_law_full", "_law_due", "_law_other", "_law_longer", "_law_k", "_law_one_here"]) (sc := defScope s__law_each_right) (by decide +kernel)) (fun _ _ _ _ _ => (pg_name (i := 8) sc__law_each_right.nd rfl (.inl rfl))) (fun _ _ _ _ _ => pts_nil) (fun _ _ _ _ _ => (pe_cal c_plain (hr.mono (by decide)) (by rfl) (pa_cons (pe_cal c_bit_and (hr.mono (by decide)) (by rfl) (pa_cons (pv 0) (pa_cons (pe_cal c_shift_right (hr.mono (by decide)) (by rfl) (pa_cons (pv 0) (pa_cons (pv 1) (pa_cons (pe_op op_mulQ pe_int (pv 8)) pa_nil)))) (pa_cons (pv 4) pa_nil)))) pa_nil)))) (pss_cons (ps_set (i := 6) sc__law_each_right.nd rfl (.inl rfl) (pe_calKD ckd_to_bytes_4_signed (hr.mono (by decide)) (by rfl) (pa_cons (pv 0) (pa_cons (pe_cal c_bit_not (hr.mono (by decide)) (by rfl) (pa_cons (pv 0) (pa_cons (pv 1) pa_nil))) (pa_cons (pv 2) (pa_cons pe_str pa_nil)))) (pk_cons pe_bl pk_nil))) (pss_cons (ps_if (PW.pt (pw_or (pt_cmpR (op_neXK (K := T.K) (by exact hr.units) rfl) (pv 3) (pv 5) (nomark _)) (pw_or1 (pt_cmpR (op_neXK (K := T.K) (by exact hr.units) rfl) (pv 6) (pe_lc (own := [("_law_one_here", 9)]) rfl sc__law_each_right.nd (pi_listK (K := T.K) (pv 3) rfl) (blkOk_by (N := ["_law_here", "_law_x_here", "_law_size", "_law_got", "_law_full", "_law_due", "_law_other", "_law_longer", "_law_k", "_law_one_here"]) (sc := defScope s__law_each_right) (by decide +kernel)) (fun _ _ _ _ _ => (pg_name (i := 9) sc__law_each_right.nd rfl (.inl rfl))) (fun _ _ _ _ _ => pts_nil) (fun _ _ _ _ _ => (pe_op op_sub pe_int (pv 9)))) (nomark _))))) pss_never pss_nil) (pss_cons (ps_set (i := 7) sc__law_each_right.nd rfl (.inl rfl) (pe_calKD ckd_to_bytes_4_signed (hr.mono (by decide)) (by rfl) (pa_cons (pv 0) (pa_cons (pv 1) (pa_cons (pe_op op_addQ (pv 2) pe_int) (pa_cons pe_str pa_nil)))) (pk_cons pe_bl pk_nil))) (pss_one (ps_ret (pe_cmpR (op_eqXK (K := T.K) (by exact hr.units) rfl) (pv 7) (pe_op op_addQ (pv 3) (pe_op op_mulQ (pe_lst (pa_cons (pe_op op_mulQ pe_int (pe_callTy cr_int (by rfl) z_int (by decide +kernel) (pa_cons (pe_cmpR op_lt (pe_calM0 (pv 1) c_Big_sign (hr.mono (by decide))) pe_int (nomark _)) pa_nil))) pa_nil)) pe_int)) (nomark _)))))))))), fun D hrt hnx => ?_⟩
  have ok := okk1 hk0
  suffices hx : XS _ D F0 [some (vr p0), some (va T x1), some (va T x2), none, none, none, none, none, none, none] (stt Ω [(k0, machA T p0 x0)] []) by
    rw [show (stt Ω [(k0, machA T p0 x0)] []) = Ω from stt_self (by simp [hk0])] at hx
    exact hx
  unfold M__law_each_right at hm
  by_cases hc : (decide (x2 = (0 : Int))) = true
  · rw [if_pos hc] at hm
    refine xs_ifT (xt_eq (xt_test (T := T) (xe_eqI (xe_var (i := 2) rfl) xe_int)) hc) ?_
    obtain ⟨z1, hz1, hm⟩ := bnd_some hm
    obtain ⟨z2, hz2, hm⟩ := bnd_some hm
    obtain rfl := Option.some.inj hm
    refine xs_ret (xe_eq (xe_eqI (xe_mcallB (xe_var (i := 1) rfl) xa_nil ⟨x1, z1, rfl, hz1, rfl⟩ cal0) xe_int) (chkP_some hz2)) hrt.all
  · rw [if_neg hc] at hm
    refine xs_ifN (xt_eq (xt_test (T := T) (xe_eqI (xe_var (i := 2) rfl) xe_int)) (nt hc)) ?_
    show XS (tSeq _ _) _ _ [some (vr p0), some (va T x1), some (va T x2), none, none, none, none, none, none, none] (stt Ω [(k0, machA T p0 x0)] [])
    obtain ⟨z3, hz3, hm⟩ := bnd_some hm
    obtain ⟨z4, hz4, hm⟩ := bnd_some hm
    obtain ⟨y5, hy5, hm⟩ := bnd_some hm
    refine xs_asgG (xe_eq (xe_tup2 (xa_cons (xe_callND (Ds := [va T (1 : Int), va T ("big" : Str)]) (xa_cons (xe_var (i := 0) rfl) (xa_cons (xe_var (i := 1) rfl) (xa_cons (xe_var (i := 2) rfl) (xa_cons xe_str xa_nil)))) (xa_cons xe_bl xa_nil) (fun _ => (.cons rfl (.cons rfl .nil))) ⟨k0, p0, x0, x1, x2, ("little" : Str), true, z3, rfl, (stt_get ok (i := 0) rfl), hz3, rfl⟩ (cal1 ok (i := 0) rfl)) (xa_cons (xe_call (xa_cons (xe_var (i := 0) rfl) (xa_cons xe_int xa_nil)) ⟨k0, p0, z3.2, (255 : Int), z4, rfl, (stt_get ok (i := 0) rfl), hz4, rfl⟩ cal0) xa_nil))) (Option.some.inj hy5)) tgt_pair ?_
    show XS (tSeq _ _) _ _ [some (vr p0), some (va T x1), some (va T x2), some (va T (LF.mk y5.1.l)), some (va T y5.2), none, none, none, none, none] (stt Ω [(k0, machA T p0 z3.2)] [])
    obtain ⟨z6, hz6, hm⟩ := bnd_some hm
    obtain ⟨z7, hz7, hm⟩ := bnd_some hm
    obtain ⟨z14, hz14, hm⟩ := bnd_some hm
    refine xs_set (A := va T (LF.mk z14.1)) (xe_fz (xn_lcS (T := T) (fun (s8 : MS) => [(k0, machA T p0 s8)]) (fun (s8 : MS) => []) hz14 (xi_range1 (T := T) (xa_cons (xe_var (i := 2) rfl) xa_nil) (chkP_some hz6).1 (chkP_some hz6).2) (fun _ => tgt_name) (by simp) (chkP_some hz7) ?q15)) ?_
    case q15 =>
      exact (fun a9 s8 o s2 ha hm X => by
        obtain ⟨z10, hz10, hm⟩ := bnd_some hm
        obtain ⟨z11, hz11, hm⟩ := bnd_some hm
        obtain ⟨z12, hz12, hm⟩ := bnd_some hm
        obtain ⟨z13, hz13, hm⟩ := bnd_some hm
        obtain ⟨rfl, rfl⟩ := Prod.mk.inj (Option.some.inj hm)
        refine ⟨(fun e => nomatch e), fun y e => ?_⟩
        obtain rfl := Option.some.inj e
        refine ⟨xt_yes, (xe_call (xa_cons (xe_call (xa_cons (xe_var (i := 0) rfl) (xa_cons (xe_call (xa_cons (xe_var (i := 0) rfl) (xa_cons (xe_var (i := 1) rfl) (xa_cons (xe_mul (chkP_some hz10) xe_int (xe_var (i := 8) rfl)) xa_nil))) ⟨k0, p0, s8, x1, ((8 : Int) * a9), z11, rfl, (stt_get ok (i := 0) rfl), hz11, rfl⟩ (cal1 ok (i := 0) rfl)) (xa_cons (xe_var (i := 4) rfl) xa_nil))) ⟨k0, p0, z11.2, z11.1, y5.2, z12, rfl, (stt_get ok (i := 0) rfl), hz12, rfl⟩ (cal1 ok (i := 0) rfl)) xa_nil) ⟨z12.1, z13, rfl, hz13, rfl⟩ cal0)⟩)
    show XS (tSeq _ _) _ _ [some (vr p0), some (va T x1), some (va T x2), some (va T (LF.mk y5.1.l)), some (va T y5.2), some (va T (LF.mk z14.1)), none, none, none, none] (stt Ω [(k0, machA T p0 z14.2)] [])
    obtain ⟨z16, hz16, hm⟩ := bnd_some hm
    obtain ⟨z17, hz17, hm⟩ := bnd_some hm
    refine xs_set (A := va T (LF.mk z17.1)) (xe_callND (Ds := [va T (1 : Int), va T ("big" : Str)]) (xa_cons (xe_var (i := 0) rfl) (xa_cons (xe_call (xa_cons (xe_var (i := 0) rfl) (xa_cons (xe_var (i := 1) rfl) xa_nil)) ⟨k0, p0, z14.2, x1, z16, rfl, (stt_get ok (i := 0) rfl), hz16, rfl⟩ (cal1 ok (i := 0) rfl)) (xa_cons (xe_var (i := 2) rfl) (xa_cons xe_str xa_nil)))) (xa_cons xe_bl xa_nil) (fun _ => (.cons rfl (.cons rfl .nil))) ⟨k0, p0, z16.2, z16.1, x2, ("little" : Str), true, z17, rfl, (stt_get ok (i := 0) rfl), hz17, rfl⟩ (cal1 ok (i := 0) rfl)) ?_
    show XS (tSeq _ _) _ _ [some (vr p0), some (va T x1), some (va T x2), some (va T (LF.mk y5.1.l)), some (va T y5.2), some (va T (LF.mk z14.1)), some (va T (LF.mk z17.1)), none, none, none] (stt Ω [(k0, machA T p0 z17.2)] [])
    obtain ⟨z18, hz18, hm⟩ := bnd_some hm
    obtain ⟨z19, hz19, hm⟩ := bnd_some hm
    obtain ⟨z22, hz22, hm⟩ := bnd_some hm
    obtain ⟨z24, hz24, hm⟩ := bnd_some hm
    refine xs_ifN (xt_orF (xt_test (T := T) (xe_neK (chkP_some hz18) (by decide) (xe_var (i := 3) rfl) (xe_var (i := 5) rfl) isD_va isD_va)) (xt_test (T := T) (xe_neK (chkP_some hz24) (by decide) (xe_var (i := 6) rfl) (xe_fz (xn_lcS (T := T) (fun (s20 : Unit) => [(k0, machA T p0 z17.2)]) (fun (s20 : Unit) => []) hz22 (xi_LF (xe_var (i := 3) rfl)) (fun _ => tgt_name) (by simp) (chkP_some hz19) ?q23)) isD_va isD_va))) ?_
    case q23 =>
      exact (fun a21 s20 o s2 ha hm X => by
        obtain ⟨rfl, rfl⟩ := Prod.mk.inj (Option.some.inj hm)
        refine ⟨(fun e => nomatch e), fun y e => ?_⟩
        obtain rfl := Option.some.inj e
        refine ⟨xt_yes, (xe_sub xe_int (xe_var (i := 9) rfl))⟩)
    show XS (tSeq _ _) _ _ [some (vr p0), some (va T x1), some (va T x2), some (va T (LF.mk y5.1.l)), some (va T y5.2), some (va T (LF.mk z14.1)), some (va T (LF.mk z17.1)), none, none, none] (stt Ω [(k0, machA T p0 z17.2)] [])
    obtain ⟨z25, hz25, hm⟩ := bnd_some hm
    refine xs_set (A := va T (LF.mk z25.1)) (xe_callND (Ds := [va T (1 : Int), va T ("big" : Str)]) (xa_cons (xe_var (i := 0) rfl) (xa_cons (xe_var (i := 1) rfl) (xa_cons (xe_add (xe_var (i := 2) rfl) xe_int) (xa_cons xe_str xa_nil)))) (xa_cons xe_bl xa_nil) (fun _ => (.cons rfl (.cons rfl .nil))) ⟨k0, p0, z17.2, x1, (x2 + (3 : Int)), ("little" : Str), true, z25, rfl, (stt_get ok (i := 0) rfl), hz25, rfl⟩ (cal1 ok (i := 0) rfl)) ?_
    show XS (tRet _) _ _ [some (vr p0), some (va T x1), some (va T x2), some (va T (LF.mk y5.1.l)), some (va T y5.2), some (va T (LF.mk z14.1)), some (va T (LF.mk z17.1)), some (va T (LF.mk z25.1)), none, none] (stt Ω [(k0, machA T p0 z25.2)] [])
    obtain ⟨z26, hz26, hm⟩ := bnd_some hm
    obtain ⟨z27, hz27, hm⟩ := bnd_some hm
    obtain ⟨z28, hz28, hm⟩ := bnd_some hm
    obtain ⟨z29, hz29, hm⟩ := bnd_some hm
    obtain ⟨z30, hz30, hm⟩ := bnd_some hm
    obtain ⟨z31, hz31, hm⟩ := bnd_some hm
    obtain rfl := Option.some.inj hm
    refine xs_ret (xe_eq (xe_eqD (chkP_some hz30) (by decide) (xe_var (i := 7) rfl) (xe_cat (xe_var (i := 3) rfl) (xe_rep (xe_lst (l := [((255 : Int) * (if (decide (z26 < (0 : Int))) = true then (1 : Int) else 0))]) (xa_cons (xe_mul (chkP_some hz27) xe_int (xe_intb (xe_lt (xe_mcallB (xe_var (i := 1) rfl) xa_nil ⟨x1, z26, rfl, hz26, rfl⟩ cal0) xe_int))) xa_nil) (by show 1 ≤ sizeLine; decide)) xe_int isLs_LF (chkP_some hz28)) isLs_LF isLs_LF (chkP_some hz29)) isD_va isD_va) (chkP_some hz31)) hrt.all
noncomputable def M__law_joined_right (x0 : MS) (x1 : Bg) (x2 : Bg) : Option (Bool × MS) :=
  (M_byte_length x2 false).bind fun z1 => (M_to_bytes x0 x2 z1 ("little" : Str) false).bind fun z2 => (M_byte_length x1 true).bind fun z3 => (M_to_bytes z2.2 x1 (max (1 : Int) z3) ("little" : Str) true).bind fun z4 => (chkP (IntMulOk (8 : Int) (z2.1.length : Int))).bind fun z5 => (M_shift_left z4.2 x1 ((8 : Int) * (z2.1.length : Int))).bind fun z6 => (M_bit_or z6.2 z6.1 x2).bind fun z7 => (chkP (z2.1.length + z4.1.length ≤ sizeLine)).bind fun z8 => (M_from_bytes z7.2 (z2.1 ++ z4.1) ("little" : Str) true).bind fun z9 => (M_Big_eq z9.1 z7.1).bind fun z10 => (chkP (z10 = true)).bind fun z11 => some (true, z9.2)
def Pre__law_joined_right (T : TC) : PreT := fun As Ω R => ∃ (k0 : Nat) (p0 : Addr) (x0 : MS) (x1 : Bg) (x2 : Bg) (r : Bool × MS), As = [vr p0, va T x1, va T x2] ∧ Ω[k0]? = some (machA T p0 x0) ∧ M__law_joined_right x0 x1 x2 = some r ∧ R = RV (va T r.1) (stt Ω [(k0, machA T p0 r.2)] [])
theorem sc__law_joined_right : FnScope ["_law_here", "_law_x_here", "_law_y_here", "_law_low", "_law_high", "_law_due"] ["_law_here", "_law_x_here", "_law_y_here"] (defScope s__law_joined_right) := ⟨rfl, rfl, rfl, by decide +kernel, rfl, by decide +kernel, by decide +kernel⟩
theorem ok__law_joined_right {f : Addr} {fd : FuncData} (F : Fun T.K "_law_joined_right" "_law_joined_right" s__law_joined_right f fd) (cd_byte_length_1 : CalD P w T.K mg base 3 "byte_length" ["x", "signed"] [V.bl false] (mkSp (Pre_byte_length T))) (cd_to_bytes_4 : CalD P w T.K mg base 22 "to_bytes" ["machine", "x", "length", "order", "signed"] [V.bl false] (mkSp (Pre_to_bytes T))) (ckd_byte_length_1_signed : CalKD P w T.K mg base 3 "byte_length" ["x", "signed"] 1 ["signed"] [] [0, 1] (mkSp (Pre_byte_length T))) (z_max : mg "max" = none) (ckd_to_bytes_4_signed : CalKD P w T.K mg base 22 "to_bytes" ["machine", "x", "length", "order", "signed"] 4 ["signed"] [V.int 1, V.str "big"] [0, 1, 2, 3, 6] (mkSp (Pre_to_bytes T))) (z_len : mg "len" = none) (c_shift_left : Cal P w T.K mg base 23 "shift_left" ["machine", "x", "count"] (mkSp (Pre_shift_left T))) (c_bit_or : Cal P w T.K mg base 23 "bit_or" ["machine", "x", "y"] (mkSp (Pre_bit_or T))) (ckd_from_bytes_3_signed : CalKD P w T.K mg base 23 "from_bytes" ["machine", "row", "order", "signed"] 3 ["signed"] [V.str "big"] [0, 1, 2, 4] (mkSp (Pre_from_bytes T))) (ceq : CalEq P w T.K mg base 1 (T.C 1) (mkSp (Pre_Big_eq T))) : FnOk P w T.K mg base CX0 24 f fd ["_law_here", "_law_x_here", "_law_y_here"] (mkSp (Pre__law_joined_right T)) := by
  refine fn_ok F sc__law_joined_right (fun As Ω R h => ?_) (fun cdv A outer s H E hr As Ω R F0 h => ?_)
  · obtain ⟨k0, p0, x0, x1, x2, r, rfl, _⟩ := h
    rfl
  obtain ⟨k0, p0, x0, x1, x2, r, rfl, hk0, hm, rfl⟩ := h
  refine ⟨_, (pss_cons (ps_set (i := 3) sc__law_joined_right.nd rfl (.inl rfl) (pe_calD cd_to_bytes_4 (hr.mono (by decide)) (by rfl) (pa_cons (pv 0) (pa_cons (pv 2) (pa_cons (pe_calD cd_byte_length_1 (hr.mono (by decide)) (by rfl) (pa_cons (pv 2) pa_nil)) (pa_cons pe_str pa_nil)))))) (pss_cons (ps_set (i := 4) sc__law_joined_right.nd rfl (.inl rfl) (pe_calKD ckd_to_bytes_4_signed (hr.mono (by decide)) (by rfl) (pa_cons (pv 0) (pa_cons (pv 1) (pa_cons (pe_callB (cr_max2 rfl) (by rfl) z_max (by decide +kernel) (pa_cons pe_int (pa_cons (pe_calKD ckd_byte_length_1_signed (hr.mono (by decide)) (by rfl) (pa_cons (pv 1) pa_nil) (pk_cons pe_bl pk_nil)) pa_nil))) (pa_cons pe_str pa_nil)))) (pk_cons pe_bl pk_nil))) (pss_cons (ps_set (i := 5) sc__law_joined_right.nd rfl (.inl rfl) (pe_cal c_bit_or (hr.mono (by decide)) (by rfl) (pa_cons (pv 0) (pa_cons (pe_cal c_shift_left (hr.mono (by decide)) (by rfl) (pa_cons (pv 0) (pa_cons (pv 1) (pa_cons (pe_op op_mulQ pe_int (pe_callB (cr_lenK (K := T.K) rfl) (by rfl) z_len PySem.boot_len (pa_cons (pv 3) pa_nil))) pa_nil)))) (pa_cons (pv 2) pa_nil))))) (pss_one (ps_ret (pe_cmpR (op_eqC ceq (hr.mono (by decide))) (pe_calKD ckd_from_bytes_3_signed (hr.mono (by decide)) (by rfl) (pa_cons (pv 0) (pa_cons (pe_op op_addQ (pv 3) (pv 4)) (pa_cons pe_str pa_nil))) (pk_cons pe_bl pk_nil)) (pv 5) (nomark _))))))), fun D hrt hnx => ?_⟩
  have ok := okk1 hk0
  suffices hx : XS _ D F0 [some (vr p0), some (va T x1), some (va T x2), none, none, none] (stt Ω [(k0, machA T p0 x0)] []) by
    rw [show (stt Ω [(k0, machA T p0 x0)] []) = Ω from stt_self (by simp [hk0])] at hx
    exact hx
  unfold M__law_joined_right at hm
  obtain ⟨z1, hz1, hm⟩ := bnd_some hm
  obtain ⟨z2, hz2, hm⟩ := bnd_some hm
  refine xs_set (A := va T (LF.mk z2.1)) (xe_callD (Ds := [va T false]) (xa_cons (xe_var (i := 0) rfl) (xa_cons (xe_var (i := 2) rfl) (xa_cons (xe_callD (Ds := [va T false]) (xa_cons (xe_var (i := 2) rfl) xa_nil) (fun _ => (.cons rfl .nil)) ⟨x2, false, z1, rfl, hz1, rfl⟩ cal0) (xa_cons xe_str xa_nil)))) (fun _ => (.cons rfl .nil)) ⟨k0, p0, x0, x2, z1, ("little" : Str), false, z2, rfl, (stt_get ok (i := 0) rfl), hz2, rfl⟩ (cal1 ok (i := 0) rfl)) ?_
  show XS (tSeq _ _) _ _ [some (vr p0), some (va T x1), some (va T x2), some (va T (LF.mk z2.1)), none, none] (stt Ω [(k0, machA T p0 z2.2)] [])
  obtain ⟨z3, hz3, hm⟩ := bnd_some hm
  obtain ⟨z4, hz4, hm⟩ := bnd_some hm
  refine xs_set (A := va T (LF.mk z4.1)) (xe_callND (Ds := [va T (1 : Int), va T ("big" : Str)]) (xa_cons (xe_var (i := 0) rfl) (xa_cons (xe_var (i := 1) rfl) (xa_cons (xe_max2 xe_int (xe_callND (Ds := []) (xa_cons (xe_var (i := 1) rfl) xa_nil) (xa_cons xe_bl xa_nil) (fun _ => .nil) ⟨x1, true, z3, rfl, hz3, rfl⟩ cal0)) (xa_cons xe_str xa_nil)))) (xa_cons xe_bl xa_nil) (fun _ => (.cons rfl (.cons rfl .nil))) ⟨k0, p0, z2.2, x1, (max (1 : Int) z3), ("little" : Str), true, z4, rfl, (stt_get ok (i := 0) rfl), hz4, rfl⟩ (cal1 ok (i := 0) rfl)) ?_
  show XS (tSeq _ _) _ _ [some (vr p0), some (va T x1), some (va T x2), some (va T (LF.mk z2.1)), some (va T (LF.mk z4.1)), none] (stt Ω [(k0, machA T p0 z4.2)] [])
  obtain ⟨z5, hz5, hm⟩ := bnd_some hm
  obtain ⟨z6, hz6, hm⟩ := bnd_some hm
  obtain ⟨z7, hz7, hm⟩ := bnd_some hm
  refine xs_set (A := va T z7.1) (xe_call (xa_cons (xe_var (i := 0) rfl) (xa_cons (xe_call (xa_cons (xe_var (i := 0) rfl) (xa_cons (xe_var (i := 1) rfl) (xa_cons (xe_mul (chkP_some hz5) xe_int (xe_lenL (xe_var (i := 3) rfl) isL_LF)) xa_nil))) ⟨k0, p0, z4.2, x1, ((8 : Int) * (z2.1.length : Int)), z6, rfl, (stt_get ok (i := 0) rfl), hz6, rfl⟩ (cal1 ok (i := 0) rfl)) (xa_cons (xe_var (i := 2) rfl) xa_nil))) ⟨k0, p0, z6.2, z6.1, x2, z7, rfl, (stt_get ok (i := 0) rfl), hz7, rfl⟩ (cal1 ok (i := 0) rfl)) ?_
  show XS (tRet _) _ _ [some (vr p0), some (va T x1), some (va T x2), some (va T (LF.mk z2.1)), some (va T (LF.mk z4.1)), some (va T z7.1)] (stt Ω [(k0, machA T p0 z7.2)] [])
  obtain ⟨z8, hz8, hm⟩ := bnd_some hm
  obtain ⟨z9, hz9, hm⟩ := bnd_some hm
  obtain ⟨z10, hz10, hm⟩ := bnd_some hm
  obtain ⟨z11, hz11, hm⟩ := bnd_some hm
  obtain rfl := Option.some.inj hm
  refine xs_ret (xe_eq (xe_ownEq (xe_callND (Ds := [va T ("big" : Str)]) (xa_cons (xe_var (i := 0) rfl) (xa_cons (xe_cat (xe_var (i := 3) rfl) (xe_var (i := 4) rfl) isLs_LF isLs_LF (chkP_some hz8)) (xa_cons xe_str xa_nil))) (xa_cons xe_bl xa_nil) (fun _ => (.cons rfl .nil)) ⟨k0, p0, z7.2, (z2.1 ++ z4.1), ("little" : Str), true, z9, rfl, (stt_get ok (i := 0) rfl), hz9, rfl⟩ (cal1 ok (i := 0) rfl)) (xe_var (i := 5) rfl) ⟨z9.1, z7.1, z10, rfl, hz10, rfl⟩ cal0) (chkP_some hz11)) hrt.all
noncomputable def M__law_counts_right (x0 : MS) (x1 : Bg) : Option (Bool × MS) :=
  (M_Big_digits x1).bind fun z1 => (M_Big_sign x1).bind fun z2 => (some (z1.length : Int)).bind fun y3 => (some (if (decide (z2 < (0 : Int))) = true then (1 : Int) else 0)).bind fun y4 => (M_byte_length x1 true).bind fun z5 => (if (decide (y4 = (1 : Int))) = true then (M_bit_not x0 x1).bind fun z6 => some (z6.1, z6.2) else some (x1, x0)).bind fun z7 => (M_bit_length z7.1).bind fun z9 => (M_to_bytes z7.2.reset x1 z5 ("big" : Str) true).bind fun z10 => (chkP (CDivW (z9 + (7 : Int)) (8 : Int))).bind fun z11 => (chkP (IntMulOk y3 y4)).bind fun z12 => (chkP ((([(("shifted" : Str), ((z9 + (7 : Int)) / (8 : Int))), (("complemented" : Str), (y3 * y4))] : List (Str × Int)).map (·.1)).Nodup)).bind fun z13 => (M__law_counted z10.2 (DF.mk [(("shifted" : Str), ((z9 + (7 : Int)) / (8 : Int))), (("complemented" : Str), (y3 * y4))]) ([(T3.mk ("to bytes" : Str) y3 z5)] : List (T3 Str Int Int))).bind fun z14 => (chkP (z14.1 = true)).bind fun z15 => if (decide (z5 = (0 : Int))) = true then (chkP (Dat.ok (LF.mk z10.1) ∧ Dat.ok (LF.mk ([] : List Int)))).bind fun z16 => (chkP ((eqD (LF.mk z10.1) (LF.mk ([] : List Int))) = true)).bind fun z17 => some (true, z14.2) else (M_from_bytes z14.2 z10.1 ("big" : Str) true).bind fun z18 => (M_Big_eq z18.1 x1).bind fun z19 => (chkP ((!z19) = false)).bind fun z20 => (chkP (CDivW (z9 + (7 : Int)) (8 : Int))).bind fun z21 => (some ((z9 + (7 : Int)) / (8 : Int))).bind fun y22 => (some ((z5 - y22) + (if (decide ((0 : Int) < y22)) = true then (1 : Int) else 0))).bind fun y23 => (some (min z5 (y22 + y4))).bind fun y24 => (chkP (IntMulOk y24 y4)).bind fun z25 => (chkP ((([(("looked" : Str), y23), (("shifted" : Str), y24), (("complemented" : Str), (y24 * y4))] : List (Str × Int)).map (·.1)).Nodup)).bind fun z26 => (some (DF.mk [(("looked" : Str), y23), (("shifted" : Str), y24), (("complemented" : Str), (y24 * y4))])).bind fun y27 => (M__law_counted z18.2 y27 ([(T3.mk ("from bytes" : Str) z5 (0 : Int))] : List (T3 Str Int Int))).bind fun z28 => (chkP (z28.1 = true)).bind fun z29 => some (true, z28.2)
def Pre__law_counts_right (T : TC) : PreT := fun As Ω R => ∃ (k0 : Nat) (p0 : Addr) (x0 : MS) (x1 : Bg) (r : Bool × MS), As = [vr p0, va T x1] ∧ Ω[k0]? = some (machA T p0 x0) ∧ M__law_counts_right x0 x1 = some r ∧ R = RV (va T r.1) (stt Ω [(k0, machA T p0 r.2)] [])
theorem sc__law_counts_right : FnScope ["_law_here", "_law_x_here", "_law_m", "_law_is_minus", "_law_size", "_law_held", "_law_got", "_law_kept", "_law_looked", "_law_due"] ["_law_here", "_law_x_here"] (defScope s__law_counts_right) := ⟨rfl, rfl, rfl, by decide +kernel, rfl, by decide +kernel, by decide +kernel⟩
theorem ok__law_counts_right {f : Addr} {fd : FuncData} (F : Fun T.K "_law_counts_right" "_law_counts_right" s__law_counts_right f fd) (c_Big_digits : CalM P w T.K mg base 1 (T.C 1) "digits" ["self"] (mkSp (Pre_Big_digits T))) (z_len : mg "len" = none) (c_Big_sign : CalM P w T.K mg base 1 (T.C 1) "sign" ["self"] (mkSp (Pre_Big_sign T))) (z_int : mg "int" = none) (ckd_byte_length_1_signed : CalKD P w T.K mg base 3 "byte_length" ["x", "signed"] 1 ["signed"] [] [0, 1] (mkSp (Pre_byte_length T))) (c_bit_not : Cal P w T.K mg base 23 "bit_not" ["machine", "x"] (mkSp (Pre_bit_not T))) (c_bit_length : Cal P w T.K mg base 2 "bit_length" ["x"] (mkSp (Pre_bit_length T))) (mc : MCls T.K (T.C 0)) (c_Mach_reset : CalM P w T.K mg base 1 (T.C 0) "reset" ["self"] (mkSp (Pre_Mach_reset T))) (ckd_to_bytes_3_signed : CalKD P w T.K mg base 22 "to_bytes" ["machine", "x", "length", "order", "signed"] 3 ["signed"] [V.int 1, V.str "big"] [0, 1, 2, 4, 5] (mkSp (Pre_to_bytes T))) (c__law_counted : Cal P w T.K mg base 2 "_law_counted" ["_law_machine_here", "_law_got", "_law_entered"] (mkSp (Pre__law_counted T))) (ckd_from_bytes_2_signed : CalKD P w T.K mg base 23 "from_bytes" ["machine", "row", "order", "signed"] 2 ["signed"] [V.str "big"] [0, 1, 2, 3] (mkSp (Pre_from_bytes T))) (ceq : CalEq P w T.K mg base 1 (T.C 1) (mkSp (Pre_Big_eq T))) (z_min : mg "min" = none) : FnOk P w T.K mg base CX0 24 f fd ["_law_here", "_law_x_here"] (mkSp (Pre__law_counts_right T)) := by
  refine fn_ok F sc__law_counts_right (fun As Ω R h => ?_) (fun cdv A outer s H E hr As Ω R F0 h => ?_)
  · obtain ⟨k0, p0, x0, x1, r, rfl, _⟩ := h
    rfl
  obtain ⟨k0, p0, x0, x1, r, rfl, hk0, hm, rfl⟩ := h
  refine ⟨_, (pss_cons (ps_par (i := 2) (j := 3) rfl sc__law_counts_right.nd rfl rfl (by decide) rfl rfl (pa_cons (pe_callB (cr_lenK (K := T.K) rfl) (by rfl) z_len PySem.boot_len (pa_cons (pe_calM0 (pv 1) c_Big_digits (hr.mono (by decide))) pa_nil)) (pa_cons (pe_callTy cr_int (by rfl) z_int (by decide +kernel) (pa_cons (pe_cmpR op_lt (pe_calM0 (pv 1) c_Big_sign (hr.mono (by decide))) pe_int (nomark _)) pa_nil)) pa_nil)) (by rfl)) (pss_cons (ps_set (i := 4) sc__law_counts_right.nd rfl (.inl rfl) (pe_calKD ckd_byte_length_1_signed (hr.mono (by decide)) (by rfl) (pa_cons (pv 1) pa_nil) (pk_cons pe_bl pk_nil))) (pss_cons (ps_set (i := 5) sc__law_counts_right.nd rfl (.inl rfl) (pe_cal c_bit_length (hr.mono (by decide)) (by rfl) (pa_cons (pe_ifExp (pt_cmpR (op_eqXK (K := T.K) (by exact hr.units) rfl) (pv 3) pe_int (nomark _)) (pe_cal c_bit_not (hr.mono (by decide)) (by rfl) (pa_cons (pv 0) (pa_cons (pv 1) pa_nil))) (pv 1)) pa_nil))) (pss_cons (ps_expr (pe_calM0 (pv 0) c_Mach_reset (hr.mono (by decide)))) (pss_cons (ps_set (i := 6) sc__law_counts_right.nd rfl (.inl rfl) (pe_calKD ckd_to_bytes_3_signed (hr.mono (by decide)) (by rfl) (pa_cons (pv 0) (pa_cons (pv 1) (pa_cons (pv 4) pa_nil))) (pk_cons pe_bl pk_nil))) (pss_cons (ps_if (pt_not (pt_val (pe_cal c__law_counted (hr.mono (by decide)) (by rfl) (pa_cons (pv 0) (pa_cons (pe_fz (pe_disp (pps_cons pe_str (pe_op op_fdivW (pe_op op_addQ (pv 5) pe_int) pe_int) (pps_cons pe_str (pe_op op_mulQ (pv 2) (pv 3)) pps_nil)) (by rfl) (by rfl) (fun z => by cases z) (by decide))) (pa_cons (pe_lst (pa_cons (pe_tup (pa_cons pe_str (pa_cons (pv 2) (pa_cons (pv 4) pa_nil)))) pa_nil)) pa_nil)))))) pss_never pss_nil) (pss_cons (ps_if (pt_cmpR (op_eqXK (K := T.K) (by exact hr.units) rfl) (pv 4) pe_int (nomark _)) (pss_one (ps_ret (pe_cmpR (op_eqXK (K := T.K) (by exact hr.units) rfl) (pv 6) (pe_lst pa_nil) (nomark _)))) pss_nil) (pss_cons (ps_if (pt_cmpR (op_neC ceq (hr.mono (by decide))) (pe_calKD ckd_from_bytes_2_signed (hr.mono (by decide)) (by rfl) (pa_cons (pv 0) (pa_cons (pv 6) pa_nil)) (pk_cons pe_bl pk_nil)) (pv 1) (nomark _)) pss_never pss_nil) (pss_cons (ps_set (i := 7) sc__law_counts_right.nd rfl (.inl rfl) (pe_op op_fdivW (pe_op op_addQ (pv 5) pe_int) pe_int)) (pss_cons (ps_set (i := 8) sc__law_counts_right.nd rfl (.inl rfl) (pe_op op_addQ (pe_op op_sub (pv 4) (pv 7)) (pe_callTy cr_int (by rfl) z_int (by decide +kernel) (pa_cons (pe_cmpR op_gt (pv 7) pe_int (nomark _)) pa_nil)))) (pss_cons (ps_set (i := 7) sc__law_counts_right.nd rfl (.inl rfl) (pe_callB (cr_min2 rfl) (by rfl) z_min (by decide +kernel) (pa_cons (pv 4) (pa_cons (pe_op op_addQ (pv 7) (pv 3)) pa_nil)))) (pss_cons (ps_set (i := 9) sc__law_counts_right.nd rfl (.inl rfl) (pe_fz (pe_disp (pps_cons pe_str (pv 8) (pps_cons pe_str (pv 7) (pps_cons pe_str (pe_op op_mulQ (pv 7) (pv 3)) pps_nil))) (by rfl) (by rfl) (fun z => by cases z) (by decide)))) (pss_one (ps_ret (pe_cal c__law_counted (hr.mono (by decide)) (by rfl) (pa_cons (pv 0) (pa_cons (pv 9) (pa_cons (pe_lst (pa_cons (pe_tup (pa_cons pe_str (pa_cons (pv 4) (pa_cons pe_int pa_nil)))) pa_nil)) pa_nil)))))))))))))))))), fun D hrt hnx => ?_⟩
  have ok := okk1 hk0
  suffices hx : XS _ D F0 [some (vr p0), some (va T x1), none, none, none, none, none, none, none, none] (stt Ω [(k0, machA T p0 x0)] []) by
    rw [show (stt Ω [(k0, machA T p0 x0)] []) = Ω from stt_self (by simp [hk0])] at hx
    exact hx
  unfold M__law_counts_right at hm
  obtain ⟨z1, hz1, hm⟩ := bnd_some hm
  obtain ⟨z2, hz2, hm⟩ := bnd_some hm
  obtain ⟨y3, hy3, hm⟩ := bnd_some hm
  obtain ⟨y4, hy4, hm⟩ := bnd_some hm
  refine xs_par2 (A := va T y3) (B := va T y4) (xa_cons (xe_eq (xe_lenL (xe_mcallB (xe_var (i := 1) rfl) xa_nil ⟨x1, z1, rfl, hz1, rfl⟩ cal0) isL_LF) (Option.some.inj hy3)) (xa_cons (xe_eq (xe_intb (xe_lt (xe_mcallB (xe_var (i := 1) rfl) xa_nil ⟨x1, z2, rfl, hz2, rfl⟩ cal0) xe_int)) (Option.some.inj hy4)) xa_nil)) ?_
  show XS (tSeq _ _) _ _ [some (vr p0), some (va T x1), some (va T y3), some (va T y4), none, none, none, none, none, none] (stt Ω [(k0, machA T p0 x0)] [])
  obtain ⟨z5, hz5, hm⟩ := bnd_some hm
  refine xs_set (A := va T z5) (xe_callND (Ds := []) (xa_cons (xe_var (i := 1) rfl) xa_nil) (xa_cons xe_bl xa_nil) (fun _ => .nil) ⟨x1, true, z5, rfl, hz5, rfl⟩ cal0) ?_
  show XS (tSeq _ _) _ _ [some (vr p0), some (va T x1), some (va T y3), some (va T y4), some (va T z5), none, none, none, none, none] (stt Ω [(k0, machA T p0 x0)] [])
  obtain ⟨z7, hz7, hm⟩ := bnd_some hm
  obtain ⟨z9, hz9, hm⟩ := bnd_some hm
  refine xs_set (A := va T z9) (xe_call (xa_cons (show XE _ _ _ (va T z7.1) (stt Ω [(k0, machA T p0 z7.2)] []) from ?q8) xa_nil) ⟨z7.1, z9, rfl, hz9, rfl⟩ cal0) ?_
  case q8 =>
    exact (by
      by_cases hc : (decide (y4 = (1 : Int))) = true
      · rw [if_pos hc] at hz7
        obtain ⟨z6, hz6, hz7⟩ := bnd_some hz7
        obtain rfl := Option.some.inj hz7
        exact xe_ifT (xt_eq (xt_test (T := T) (xe_eqI (xe_var (i := 3) rfl) xe_int)) hc) (xe_call (xa_cons (xe_var (i := 0) rfl) (xa_cons (xe_var (i := 1) rfl) xa_nil)) ⟨k0, p0, x0, x1, z6, rfl, (stt_get ok (i := 0) rfl), hz6, rfl⟩ (cal1 ok (i := 0) rfl))
      · rw [if_neg hc] at hz7
        obtain rfl := Option.some.inj hz7
        exact xe_ifF (xt_eq (xt_test (T := T) (xe_eqI (xe_var (i := 3) rfl) xe_int)) (nt hc)) (xe_var (i := 1) rfl))
  show XS (tSeq _ _) _ _ [some (vr p0), some (va T x1), some (va T y3), some (va T y4), some (va T z5), some (va T z9), none, none, none, none] (stt Ω [(k0, machA T p0 z7.2)] [])
  refine xs_drop (xe_mcall (xe_var (i := 0) rfl) (stt_get ok (i := 0) rfl) xa_nil ⟨k0, p0, z7.2, rfl, (stt_get ok (i := 0) rfl), rfl⟩ (cal1 ok (i := 0) rfl)) ?_
  show XS (tSeq _ _) _ _ [some (vr p0), some (va T x1), some (va T y3), some (va T y4), some (va T z5), some (va T z9), none, none, none, none] (stt Ω [(k0, machA T p0 z7.2.reset)] [])
  obtain ⟨z10, hz10, hm⟩ := bnd_some hm
  refine xs_set (A := va T (LF.mk z10.1)) (xe_callND (Ds := [va T (1 : Int), va T ("big" : Str)]) (xa_cons (xe_var (i := 0) rfl) (xa_cons (xe_var (i := 1) rfl) (xa_cons (xe_var (i := 4) rfl) xa_nil))) (xa_cons xe_bl xa_nil) (fun _ => (.cons rfl (.cons rfl .nil))) ⟨k0, p0, z7.2.reset, x1, z5, ("big" : Str), true, z10, rfl, (stt_get ok (i := 0) rfl), hz10, rfl⟩ (cal1 ok (i := 0) rfl)) ?_
  show XS (tSeq _ _) _ _ [some (vr p0), some (va T x1), some (va T y3), some (va T y4), some (va T z5), some (va T z9), some (va T (LF.mk z10.1)), none, none, none] (stt Ω [(k0, machA T p0 z10.2)] [])
  obtain ⟨z11, hz11, hm⟩ := bnd_some hm
  obtain ⟨z12, hz12, hm⟩ := bnd_some hm
  obtain ⟨z13, hz13, hm⟩ := bnd_some hm
  obtain ⟨z14, hz14, hm⟩ := bnd_some hm
  obtain ⟨z15, hz15, hm⟩ := bnd_some hm
  refine xs_ifN (xt_notF (xt_eq (xt_tB (T := T) (xe_call (xa_cons (xe_var (i := 0) rfl) (xa_cons (xe_disp (fun X => (xps_cons (T := T) xe_str (xe_fdiv (chkP_some hz11) (xe_add (xe_var (i := 5) rfl) xe_int) xe_int) (xps_cons (T := T) xe_str (xe_mul (chkP_some hz12) (xe_var (i := 2) rfl) (xe_var (i := 3) rfl)) xps_nil))) (chkP_some hz13) (by show 2 ≤ 15; decide)) (xa_cons (xe_lst (l := [(T3.mk ("to bytes" : Str) y3 z5)]) (xa_cons (xe_tup3 (xa_cons xe_str (xa_cons (xe_var (i := 2) rfl) (xa_cons (xe_var (i := 4) rfl) xa_nil)))) xa_nil) (by show 1 ≤ sizeLine; decide)) xa_nil))) ⟨k0, p0, z10.2, (DF.mk [(("shifted" : Str), ((z9 + (7 : Int)) / (8 : Int))), (("complemented" : Str), (y3 * y4))]), ([(T3.mk ("to bytes" : Str) y3 z5)] : List (T3 Str Int Int)), z14, rfl, (stt_get ok (i := 0) rfl), hz14, rfl⟩ (cal1 ok (i := 0) rfl))) (chkP_some hz15))) ?_
  show XS (tSeq _ _) _ _ [some (vr p0), some (va T x1), some (va T y3), some (va T y4), some (va T z5), some (va T z9), some (va T (LF.mk z10.1)), none, none, none] (stt Ω [(k0, machA T p0 z14.2)] [])
  by_cases hc : (decide (z5 = (0 : Int))) = true
  · rw [if_pos hc] at hm
    refine xs_ifT (xt_eq (xt_test (T := T) (xe_eqI (xe_var (i := 4) rfl) xe_int)) hc) ?_
    obtain ⟨z16, hz16, hm⟩ := bnd_some hm
    obtain ⟨z17, hz17, hm⟩ := bnd_some hm
    obtain rfl := Option.some.inj hm
    refine xs_ret (xe_eq (xe_eqD (chkP_some hz16) (by decide) (xe_var (i := 6) rfl) (xe_lst (T := T) (l := ([] : List Int)) xa_nil (Nat.zero_le _)) isD_va isD_va) (chkP_some hz17)) hrt.all
  · rw [if_neg hc] at hm
    refine xs_ifN (xt_eq (xt_test (T := T) (xe_eqI (xe_var (i := 4) rfl) xe_int)) (nt hc)) ?_
    show XS (tSeq _ _) _ _ [some (vr p0), some (va T x1), some (va T y3), some (va T y4), some (va T z5), some (va T z9), some (va T (LF.mk z10.1)), none, none, none] (stt Ω [(k0, machA T p0 z14.2)] [])
    obtain ⟨z18, hz18, hm⟩ := bnd_some hm
    obtain ⟨z19, hz19, hm⟩ := bnd_some hm
    obtain ⟨z20, hz20, hm⟩ := bnd_some hm
    refine xs_ifN (xt_eq (xt_test (T := T) (xe_ownNe (xe_callND (Ds := [va T ("big" : Str)]) (xa_cons (xe_var (i := 0) rfl) (xa_cons (xe_var (i := 6) rfl) xa_nil)) (xa_cons xe_bl xa_nil) (fun _ => (.cons rfl .nil)) ⟨k0, p0, z14.2, z10.1, ("big" : Str), true, z18, rfl, (stt_get ok (i := 0) rfl), hz18, rfl⟩ (cal1 ok (i := 0) rfl)) (xe_var (i := 1) rfl) ⟨z18.1, x1, z19, rfl, hz19, rfl⟩ cal0)) (chkP_some hz20)) ?_
    show XS (tSeq _ _) _ _ [some (vr p0), some (va T x1), some (va T y3), some (va T y4), some (va T z5), some (va T z9), some (va T (LF.mk z10.1)), none, none, none] (stt Ω [(k0, machA T p0 z18.2)] [])
    obtain ⟨z21, hz21, hm⟩ := bnd_some hm
    obtain ⟨y22, hy22, hm⟩ := bnd_some hm
    refine xs_set (A := va T y22) (xe_eq (xe_fdiv (chkP_some hz21) (xe_add (xe_var (i := 5) rfl) xe_int) xe_int) (Option.some.inj hy22)) ?_
    show XS (tSeq _ _) _ _ [some (vr p0), some (va T x1), some (va T y3), some (va T y4), some (va T z5), some (va T z9), some (va T (LF.mk z10.1)), some (va T y22), none, none] (stt Ω [(k0, machA T p0 z18.2)] [])
    obtain ⟨y23, hy23, hm⟩ := bnd_some hm
    refine xs_set (A := va T y23) (xe_eq (xe_add (xe_sub (xe_var (i := 4) rfl) (xe_var (i := 7) rfl)) (xe_intb (xe_gt (xe_var (i := 7) rfl) xe_int))) (Option.some.inj hy23)) ?_
    show XS (tSeq _ _) _ _ [some (vr p0), some (va T x1), some (va T y3), some (va T y4), some (va T z5), some (va T z9), some (va T (LF.mk z10.1)), some (va T y22), some (va T y23), none] (stt Ω [(k0, machA T p0 z18.2)] [])
    obtain ⟨y24, hy24, hm⟩ := bnd_some hm
    refine xs_set (A := va T y24) (xe_eq (xe_min2 (xe_var (i := 4) rfl) (xe_add (xe_var (i := 7) rfl) (xe_var (i := 3) rfl))) (Option.some.inj hy24)) ?_
    show XS (tSeq _ _) _ _ [some (vr p0), some (va T x1), some (va T y3), some (va T y4), some (va T z5), some (va T z9), some (va T (LF.mk z10.1)), some (va T y24), some (va T y23), none] (stt Ω [(k0, machA T p0 z18.2)] [])
    obtain ⟨z25, hz25, hm⟩ := bnd_some hm
    obtain ⟨z26, hz26, hm⟩ := bnd_some hm
    obtain ⟨y27, hy27, hm⟩ := bnd_some hm
    refine xs_set (A := va T y27) (xe_eq (xe_disp (fun X => (xps_cons (T := T) xe_str (xe_var (i := 8) rfl) (xps_cons (T := T) xe_str (xe_var (i := 7) rfl) (xps_cons (T := T) xe_str (xe_mul (chkP_some hz25) (xe_var (i := 7) rfl) (xe_var (i := 3) rfl)) xps_nil)))) (chkP_some hz26) (by show 3 ≤ 15; decide)) (Option.some.inj hy27)) ?_
    show XS (tRet _) _ _ [some (vr p0), some (va T x1), some (va T y3), some (va T y4), some (va T z5), some (va T z9), some (va T (LF.mk z10.1)), some (va T y24), some (va T y23), some (va T y27)] (stt Ω [(k0, machA T p0 z18.2)] [])
    obtain ⟨z28, hz28, hm⟩ := bnd_some hm
    obtain ⟨z29, hz29, hm⟩ := bnd_some hm
    obtain rfl := Option.some.inj hm
    refine xs_ret (xe_eq (xe_call (xa_cons (xe_var (i := 0) rfl) (xa_cons (xe_var (i := 9) rfl) (xa_cons (xe_lst (l := [(T3.mk ("from bytes" : Str) z5 (0 : Int))]) (xa_cons (xe_tup3 (xa_cons xe_str (xa_cons (xe_var (i := 4) rfl) (xa_cons xe_int xa_nil)))) xa_nil) (by show 1 ≤ sizeLine; decide)) xa_nil))) ⟨k0, p0, z18.2, y27, ([(T3.mk ("from bytes" : Str) z5 (0 : Int))] : List (T3 Str Int Int)), z28, rfl, (stt_get ok (i := 0) rfl), hz28, rfl⟩ (cal1 ok (i := 0) rfl)) (chkP_some hz29)) hrt.all
noncomputable def M__law_sums_right (x0 : MS) (x1 : Bg) (x2 : Bg) : Option (Bool × MS) :=
  (M_byte_length x1 true).bind fun z1 => (some ([] : List (T3 Str Int Int))).bind fun y4 => (M_to_bytes x0 x1 z1 ("big" : Str) true).bind fun z5 => (forM' (ρ := Unit) (fun (a18 : Nat) (s17 : (List (T3 Str Int Int)) × MS × (List (LF Int))) => (if decide (a18 = 0) = true then (M_to_bytes s17.2.1.reset x1 z1 ("big" : Str) true).bind fun z19 => some z19.2 else if decide (a18 = 1) = true then (M_from_bytes s17.2.1.reset z5.1 ("big" : Str) true).bind fun z20 => some z20.2 else if decide (a18 = 2) = true then (M_shift_left s17.2.1.reset x1 (9 : Int)).bind fun z21 => some z21.2 else if decide (a18 = 3) = true then (M_shift_right s17.2.1.reset x1 (9 : Int)).bind fun z22 => some z22.2 else if decide (a18 = 4) = true then (M_bit_and s17.2.1.reset x1 x2).bind fun z23 => some z23.2 else if decide (a18 = 5) = true then (M_bit_or s17.2.1.reset x1 x1).bind fun z24 => some z24.2 else if decide (a18 = 6) = true then (M_bit_not s17.2.1.reset x2).bind fun z25 => some z25.2 else none).bind fun z26 => (chkP (z26.tally.length ≤ sizeLine)).bind fun z28 => (lcM (fun (a30 : (Str × Int)) (s29 : Unit) => some (some a30.2, ())) z26.tally ()).bind fun z31 => (chkP (s17.2.2.length < sizeLine)).bind fun z33 => (chkP (s17.1.length + z26.wk.length ≤ sizeLine)).bind fun z34 => (some (s17.1 ++ z26.wk)).bind fun y35 => some (Stp.nx (y35, z26, (s17.2.2 ++ [(LF.mk z31.1)])))) ([6, 0, 1, 2, 3, 4, 5, 0, 1, 2, 3, 4, 5] : List Nat) (y4, z5.2, ([] : List (LF Int)))).bind fun z36 => (nxt z36).bind fun s37 => (forM' (ρ := Unit) (fun (a39 : Nat) (s38 : MS) => (if decide (a39 = 0) = true then (M_to_bytes s38 x1 z1 ("big" : Str) true).bind fun z40 => some z40.2 else if decide (a39 = 1) = true then (M_from_bytes s38 z5.1 ("big" : Str) true).bind fun z41 => some z41.2 else if decide (a39 = 2) = true then (M_shift_left s38 x1 (9 : Int)).bind fun z42 => some z42.2 else if decide (a39 = 3) = true then (M_shift_right s38 x1 (9 : Int)).bind fun z43 => some z43.2 else if decide (a39 = 4) = true then (M_bit_and s38 x1 x2).bind fun z44 => some z44.2 else if decide (a39 = 5) = true then (M_bit_or s38 x1 x1).bind fun z45 => some z45.2 else if decide (a39 = 6) = true then (M_bit_not s38 x2).bind fun z46 => some z46.2 else none).bind fun z47 => some (Stp.nx z47)) ([6, 0, 1, 2, 3, 4, 5, 0, 1, 2, 3, 4, 5] : List Nat) s37.2.1.reset).bind fun z49 => (nxt z49).bind fun s50 => (atI s37.2.2 (0 : Int)).bind fun z51 => (chkP (-(2 ^ 62) ≤ (z51.l.length : Int) ∧ (z51.l.length : Int) < 2 ^ 62)).bind fun z52 => (chkP ((rng 0 ((z51.l.length : Int)).toNat).length ≤ sizeLine)).bind fun z53 => (lcM (fun (a55 : Int) (s54 : Unit) => (chkP (s37.2.2.length ≤ sizeLine)).bind fun z56 => (lcM (fun (a58 : (LF Int)) (s57 : Unit) => (atI a58.l a55).bind fun z59 => some (some z59, ())) s37.2.2 ()).bind fun z60 => some (some z60.1.sum, ())) (rng 0 ((z51.l.length : Int)).toNat) ()).bind fun z62 => (chkP (s50.tally.length ≤ sizeLine)).bind fun z64 => (lcM (fun (a66 : (Str × Int)) (s65 : Unit) => some (some a66.2, ())) s50.tally ()).bind fun z67 => (chkP (Dat.ok (LF.mk z67.1) ∧ Dat.ok (LF.mk z62.1))).bind fun z69 => (if (eqD (LF.mk z67.1) (LF.mk z62.1)) = true then (chkP (Dat.ok (LF.mk s50.wk) ∧ Dat.ok (LF.mk s37.1))).bind fun z70 => some (eqD (LF.mk s50.wk) (LF.mk s37.1)) else some false).bind fun z71 => (chkP (z71 = true)).bind fun z73 => some (true, s50.reset)
def Pre__law_sums_right (T : TC) : PreT := fun As Ω R => ∃ (kT : Nat) (k0 : Nat) (p0 : Addr) (x0 : MS) (x1 : Bg) (x2 : Bg) (r : Bool × MS), As = [vr p0, va T x1, va T x2] ∧ Ω[kT]? = some (tabA (tbs T)) ∧ Ω[k0]? = some (machA T p0 x0) ∧ k0 ≠ kT ∧ M__law_sums_right x0 x1 x2 = some r ∧ R = RV (va T r.1) (stt Ω [(k0, machA T p0 r.2)] [])
theorem sc__law_sums_right : FnScope ["_law_here", "_law_x_here", "_law_y_here", "_law_counted_here", "_law_entered", "_law_calls", "_law_call", "_law_due", "_law_is_same", "_law_got", "_law_size", "_law_word", "_law_number", "_law_k", "_law_row"] ["_law_here", "_law_x_here", "_law_y_here"] (defScope s__law_sums_right) := ⟨rfl, rfl, rfl, by decide +kernel, rfl, by decide +kernel, by decide +kernel⟩
theorem ok__law_sums_right {f : Addr} {fd : FuncData} (F : Fun T.K "_law_sums_right" "_law_sums_right" s__law_sums_right f fd) (ckd_byte_length_1_signed : CalKD P w T.K mg base 3 "byte_length" ["x", "signed"] 1 ["signed"] [] [0, 1] (mkSp (Pre_byte_length T))) (ckd_to_bytes_3_signed : CalKD P w T.K mg base 22 "to_bytes" ["machine", "x", "length", "order", "signed"] 3 ["signed"] [V.int 1, V.str "big"] [0, 1, 2, 4, 5] (mkSp (Pre_to_bytes T))) (TB__law_sums_right : LamX.TabB base mg (T.C 150) (T.C 100)) (hu__law_sums_right : ∀ p ∈ tbs T, p.1 = T.C 100 → p.2 = qual__law_sums_right) (hcd__law_sums_right : CodeIs T.K f (T.C 150)) (ckd_from_bytes_2_signed : CalKD P w T.K mg base 23 "from_bytes" ["machine", "row", "order", "signed"] 2 ["signed"] [V.str "big"] [0, 1, 2, 3] (mkSp (Pre_from_bytes T))) (c_shift_right : Cal P w T.K mg base 23 "shift_right" ["machine", "x", "count"] (mkSp (Pre_shift_right T))) (c_shift_left : Cal P w T.K mg base 23 "shift_left" ["machine", "x", "count"] (mkSp (Pre_shift_left T))) (c_bit_or : Cal P w T.K mg base 23 "bit_or" ["machine", "x", "y"] (mkSp (Pre_bit_or T))) (c_bit_and : Cal P w T.K mg base 23 "bit_and" ["machine", "x", "y"] (mkSp (Pre_bit_and T))) (c_bit_not : Cal P w T.K mg base 23 "bit_not" ["machine", "x"] (mkSp (Pre_bit_not T))) (mc : MCls T.K (T.C 0)) (c_Mach_reset : CalM P w T.K mg base 1 (T.C 0) "reset" ["self"] (mkSp (Pre_Mach_reset T))) (c_Mach_tally : CalM P w T.K mg base 1 (T.C 0) "tally" ["self"] (mkSp (Pre_Mach_tally T))) (c_Mach_walk : CalM P w T.K mg base 1 (T.C 0) "walk" ["self"] (mkSp (Pre_Mach_walk T))) (z_len : mg "len" = none) (z_range : mg "range" = none) (z_sum : mg "sum" = none) : FnOk P w T.K mg base CX0 26 f fd ["_law_here", "_law_x_here", "_law_y_here"] (mkSp (Pre__law_sums_right T)) := by
  refine fn_okC F hcd__law_sums_right sc__law_sums_right (fun As Ω R h => ?_) (fun A outer s H E hr As Ω R F0 h => ?_)
  · obtain ⟨kT, k0, p0, x0, x1, x2, r, rfl, _⟩ := h
    rfl
  obtain ⟨kT, k0, p0, x0, x1, x2, r, rfl, hkT, hk0, ne0T, hm, rfl⟩ := h
  refine ⟨_, (pss_cons (ps_asg (pe_tup (pa_cons (pe_calKD ckd_byte_length_1_signed (hr.mono (by decide)) (by rfl) (pa_cons (pv 1) pa_nil) (pk_cons pe_bl pk_nil)) (pa_cons (pe_lst pa_nil) (pa_cons (pe_lst pa_nil) pa_nil)))) (pg_tupK (K := T.K) (n := 3) rfl rfl (pgs_cons (pg_name (i := 10) sc__law_sums_right.nd rfl (.inr rfl)) (pgs_cons (pg_name (i := 3) sc__law_sums_right.nd rfl (.inr rfl)) (pgs_cons (pg_name (i := 4) sc__law_sums_right.nd rfl (.inl rfl)) pgs_nil))))) (pss_cons (ps_set (i := 9) sc__law_sums_right.nd rfl (.inr rfl) (pe_calKD ckd_to_bytes_3_signed (hr.mono (by decide)) (by rfl) (pa_cons (pv 0) (pa_cons (pv 1) (pa_cons (pv 10) pa_nil))) (pk_cons pe_bl pk_nil))) (pss_cons (ps_set (i := 5) sc__law_sums_right.nd rfl (.inl rfl) (pe_lst (pa_cons (pe_lamV (kl := 24) TB__law_sums_right rfl (LamX.lamS_by (sc := defScope s__law_sums_right) (by decide +kernel)) (fun E A outer s H f c' hr => by exact (pe_calKD ckd_to_bytes_3_signed (hr.mono (by decide)) (by rfl) (pa_cons (pv 0) (pa_cons (pv 1) (pa_cons (pv 10) pa_nil))) (pk_cons pe_bl pk_nil)))) (pa_cons (pe_lamVD (kl := 24) (nm := "_law_of") TB__law_sums_right rfl (lamSD_by (N := ["_law_here", "_law_x_here", "_law_y_here", "_law_counted_here", "_law_entered", "_law_calls", "_law_call", "_law_due", "_law_is_same", "_law_got", "_law_size", "_law_word", "_law_number", "_law_k", "_law_row"]) (sc := defScope s__law_sums_right) (by decide +kernel)) (fun E A outer s H f c' hr => by exact (pe_calKD ckd_from_bytes_2_signed (hr.mono (by decide)) (by rfl) (pa_cons (pv 0) (pa_cons (pv 9) pa_nil)) (pk_cons pe_bl pk_nil)))) pa_nil)))) (pss_cons (ps_set (i := 5) sc__law_sums_right.nd rfl (.inl rfl) (pe_op op_addQ (pv 5) (pe_lst (pa_cons (pe_lamV (kl := 24) TB__law_sums_right rfl (LamX.lamS_by (sc := defScope s__law_sums_right) (by decide +kernel)) (fun E A outer s H f c' hr => by exact (pe_cal c_shift_left (hr.mono (by decide)) (by rfl) (pa_cons (pv 0) (pa_cons (pv 1) (pa_cons pe_int pa_nil)))))) (pa_cons (pe_lamVD (kl := 24) (nm := "_law_of") TB__law_sums_right rfl (lamSD_by (N := ["_law_here", "_law_x_here", "_law_y_here", "_law_counted_here", "_law_entered", "_law_calls", "_law_call", "_law_due", "_law_is_same", "_law_got", "_law_size", "_law_word", "_law_number", "_law_k", "_law_row"]) (sc := defScope s__law_sums_right) (by decide +kernel)) (fun E A outer s H f c' hr => by exact (pe_cal c_shift_right (hr.mono (by decide)) (by rfl) (pa_cons (pv 0) (pa_cons (pv 1) (pa_cons pe_int pa_nil)))))) pa_nil))))) (pss_cons (ps_set (i := 5) sc__law_sums_right.nd rfl (.inl rfl) (pe_op op_addQ (pv 5) (pe_lst (pa_cons (pe_lamV (kl := 24) TB__law_sums_right rfl (LamX.lamS_by (sc := defScope s__law_sums_right) (by decide +kernel)) (fun E A outer s H f c' hr => by exact (pe_cal c_bit_and (hr.mono (by decide)) (by rfl) (pa_cons (pv 0) (pa_cons (pv 1) (pa_cons (pv 2) pa_nil)))))) (pa_cons (pe_lamVD (kl := 24) (nm := "_law_of") TB__law_sums_right rfl (lamSD_by (N := ["_law_here", "_law_x_here", "_law_y_here", "_law_counted_here", "_law_entered", "_law_calls", "_law_call", "_law_due", "_law_is_same", "_law_got", "_law_size", "_law_word", "_law_number", "_law_k", "_law_row"]) (sc := defScope s__law_sums_right) (by decide +kernel)) (fun E A outer s H f c' hr => by exact (pe_cal c_bit_or (hr.mono (by decide)) (by rfl) (pa_cons (pv 0) (pa_cons (pv 1) (pa_cons (pv 1) pa_nil)))))) pa_nil))))) (pss_cons (ps_set (i := 5) sc__law_sums_right.nd rfl (.inl rfl) (pe_op op_addQ (pe_op op_addQ (pe_lst (pa_cons (pe_lamV (kl := 24) TB__law_sums_right rfl (LamX.lamS_by (sc := defScope s__law_sums_right) (by decide +kernel)) (fun E A outer s H f c' hr => by exact (pe_cal c_bit_not (hr.mono (by decide)) (by rfl) (pa_cons (pv 0) (pa_cons (pv 2) pa_nil))))) pa_nil)) (pv 5)) (pv 5))) (pss_cons (ps_for PassesOwn.never rfl (pi_listK (K := T.K) (pv 5) rfl) (pg_name (i := 6) sc__law_sums_right.nd rfl (.inl rfl)) (pss_cons (ps_expr (pe_calM0 (pv 0) c_Mach_reset (hr.mono (by decide)))) (pss_cons (ps_expr (pe_self (kl := 24) (i := 6) (hr.mono (by decide)) (by rfl) (.inl rfl))) (pss_cons (ps_expr (pe_bm PySem.F.plainAttrs_list PySem.F.slot_list_append PySem.F.type_list_append mt_append (pv 3) (pa_cons (pe_lc (own := [("_law_word", 11), ("_law_number", 12)]) rfl sc__law_sums_right.nd (pi_listK (K := T.K) (pe_calM0 (pv 0) c_Mach_tally (hr.mono (by decide))) rfl) (blkOk_by (N := ["_law_here", "_law_x_here", "_law_y_here", "_law_counted_here", "_law_entered", "_law_calls", "_law_call", "_law_due", "_law_is_same", "_law_got", "_law_size", "_law_word", "_law_number", "_law_k", "_law_row"]) (sc := defScope s__law_sums_right) (by decide +kernel)) (fun _ _ _ _ _ => (pg_tupK (K := T.K) (n := 2) rfl rfl (pgs_cons (pg_name (i := 11) sc__law_sums_right.nd rfl (.inl rfl)) (pgs_cons (pg_name (i := 12) sc__law_sums_right.nd rfl (.inl rfl)) pgs_nil)))) (fun _ _ _ _ _ => pts_nil) (fun _ _ _ _ _ => (pv 12))) pa_nil))) (pss_one (ps_set (i := 4) sc__law_sums_right.nd rfl (.inl rfl) (pe_op op_addQ (pv 4) (pe_calM0 (pv 0) c_Mach_walk (hr.mono (by decide)))))))))) (pss_cons (ps_expr (pe_calM0 (pv 0) c_Mach_reset (hr.mono (by decide)))) (pss_cons (ps_for PassesOwn.never rfl (pi_listK (K := T.K) (pv 5) rfl) (pg_name (i := 6) sc__law_sums_right.nd rfl (.inl rfl)) (pss_one (ps_expr (pe_self (kl := 24) (i := 6) (hr.mono (by decide)) (by rfl) (.inl rfl))))) (pss_cons (ps_setLc (i := 7) (own := [("_law_k", 13)]) rfl sc__law_sums_right.nd rfl rfl (sw_true rfl rfl rfl (by decide +kernel)) (pi_range1 rfl z_range (pa_cons (pe_callB (cr_lenK (K := T.K) rfl) (by rfl) z_len PySem.boot_len (pa_cons (pe_ix (ix_seqK (K := T.K) rfl) (pv 3) pe_int (by intro _ _; rfl)) pa_nil)) pa_nil)) (blkOk_by (N := ["_law_here", "_law_x_here", "_law_y_here", "_law_counted_here", "_law_entered", "_law_calls", "_law_call", "_law_due", "_law_is_same", "_law_got", "_law_size", "_law_word", "_law_number", "_law_k", "_law_row"]) (sc := defScope s__law_sums_right) (by decide +kernel)) (fun _ _ _ _ _ => (pg_name (i := 13) sc__law_sums_right.nd rfl (.inr rfl))) (fun _ _ _ _ _ => pts_nil) (fun _ _ _ _ _ => (pe_callB (cr_sumK (K := T.K) rfl rfl) (by rfl) z_sum (by decide +kernel) (pa_cons (pe_lc (own := [("_law_row", 14)]) rfl sc__law_sums_right.nd (pi_listK (K := T.K) (pv 3) rfl) (blkOk_in (N := ["_law_here", "_law_x_here", "_law_y_here", "_law_counted_here", "_law_entered", "_law_calls", "_law_call", "_law_due", "_law_is_same", "_law_got", "_law_size", "_law_word", "_law_number", "_law_k", "_law_row"]) (by decide +kernel)) (fun _ _ _ _ _ => (pg_name (i := 14) sc__law_sums_right.nd rfl (.inl rfl))) (fun _ _ _ _ _ => pts_nil) (fun _ _ _ _ _ => (pe_ix (ix_seqK (K := T.K) rfl) (pv 14) (pv 13) (by intro _ _; rfl)))) pa_nil)))) (pss_cons (ps_set (i := 8) sc__law_sums_right.nd rfl (.inl rfl) (pe_and (pe_cmpR (op_eqXK (K := T.K) (by exact hr.units) rfl) (pe_lc (own := [("_law_word", 11), ("_law_number", 12)]) rfl sc__law_sums_right.nd (pi_listK (K := T.K) (pe_calM0 (pv 0) c_Mach_tally (hr.mono (by decide))) rfl) (blkOk_by (N := ["_law_here", "_law_x_here", "_law_y_here", "_law_counted_here", "_law_entered", "_law_calls", "_law_call", "_law_due", "_law_is_same", "_law_got", "_law_size", "_law_word", "_law_number", "_law_k", "_law_row"]) (sc := defScope s__law_sums_right) (by decide +kernel)) (fun _ _ _ _ _ => (pg_tupK (K := T.K) (n := 2) rfl rfl (pgs_cons (pg_name (i := 11) sc__law_sums_right.nd rfl (.inl rfl)) (pgs_cons (pg_name (i := 12) sc__law_sums_right.nd rfl (.inl rfl)) pgs_nil)))) (fun _ _ _ _ _ => pts_nil) (fun _ _ _ _ _ => (pv 12))) (pv 7) (nomark _)) (pe_one (pe_cmpR (op_eqXK (K := T.K) (by exact hr.units) rfl) (pe_calM0 (pv 0) c_Mach_walk (hr.mono (by decide))) (pv 4) (nomark _))))) (pss_cons (ps_expr (pe_calM0 (pv 0) c_Mach_reset (hr.mono (by decide)))) (pss_one (ps_ret (pv 8))))))))))))))), fun D hrt hnx => ?_⟩
  have ok := okk1 hk0
  suffices hx : XS _ D F0 [some (vr p0), some (va T x1), some (va T x2), none, none, none, none, none, none, none, none, none, none, none, none] (stt Ω [(k0, machA T p0 x0)] []) by
    rw [show (stt Ω [(k0, machA T p0 x0)] []) = Ω from stt_self (by simp [hk0])] at hx
    exact hx
  unfold M__law_sums_right at hm
  obtain ⟨z1, hz1, hm⟩ := bnd_some hm
  obtain ⟨y4, hy4, hm⟩ := bnd_some hm
  refine xs_asgVNV (A := va T z1) (C := va T (LF.mk y4)) (xe_callND (Ds := []) (xa_cons (xe_var (i := 1) rfl) xa_nil) (xa_cons xe_bl xa_nil) (fun _ => .nil) ⟨x1, true, z1, rfl, hz1, rfl⟩ cal0) (xn_lst (T := T) (l := ([] : List (LF Int))) xa_nil (Nat.zero_le _)) (fun pp2 => (xe_eq (xe_lst (T := T) (l := ([] : List (T3 Str Int Int))) xa_nil (Nat.zero_le _)) (congrArg LF.mk (Option.some.inj hy4)))) (fun pp2 => ?_)
  show XS (tSeq _ _) _ _ [some (vr p0), some (va T x1), some (va T x2), some (vr pp2), some (va T (LF.mk y4)), none, none, none, none, none, some (va T z1), none, none, none, none] (stt Ω [(k0, machA T p0 x0)] [lstA T pp2 (([] : List (LF Int)) : List (LF Int))])
  obtain ⟨z5, hz5, hm⟩ := bnd_some hm
  refine xs_set (A := va T (LF.mk z5.1)) (xe_callND (Ds := [va T (1 : Int), va T ("big" : Str)]) (xa_cons (xe_var (i := 0) rfl) (xa_cons (xe_var (i := 1) rfl) (xa_cons (xe_var (i := 10) rfl) xa_nil))) (xa_cons xe_bl xa_nil) (fun _ => (.cons rfl (.cons rfl .nil))) ⟨k0, p0, x0, x1, z1, ("big" : Str), true, z5, rfl, (stt_get ok (i := 0) rfl), hz5, rfl⟩ (cal1 ok (i := 0) rfl)) ?_
  show XS (tSeq _ _) _ _ [some (vr p0), some (va T x1), some (va T x2), some (vr pp2), some (va T (LF.mk y4)), none, none, none, none, some (va T (LF.mk z5.1)), some (va T z1), none, none, none, none] (stt Ω [(k0, machA T p0 z5.2)] [lstA T pp2 (([] : List (LF Int)) : List (LF Int))])
  refine xs_genA (xe_lsA (xa_cons (xe_lamV (l := tbs T) (stt_getU hkT (by simp [ne0T, ne0T.symm])) (mem__law_sums_right T) hu__law_sums_right) (xa_cons (xe_lamV (l := tbs T) (stt_getU hkT (by simp [ne0T, ne0T.symm])) (mem__law_sums_right T) hu__law_sums_right) xa_nil)) (by rw [sizeLine_eq]; exact Nat.le_of_ble_eq_true rfl)) (fun B8 eB8 => ?_)
  show XS (tSeq _ _) _ _ [some (vr p0), some (va T x1), some (va T x2), some (vr pp2), some (va T (LF.mk y4)), some (lsA B8), none, none, none, some (va T (LF.mk z5.1)), some (va T z1), none, none, none, none] (stt Ω [(k0, machA T p0 z5.2)] [lstA T pp2 (([] : List (LF Int)) : List (LF Int))])
  refine xs_genA (xe_catA (xe_var (i := 5) rfl) (xe_lsA (xa_cons (xe_lamV (l := tbs T) (stt_getU hkT (by simp [ne0T, ne0T.symm])) (mem__law_sums_right T) hu__law_sums_right) (xa_cons (xe_lamV (l := tbs T) (stt_getU hkT (by simp [ne0T, ne0T.symm])) (mem__law_sums_right T) hu__law_sums_right) xa_nil)) (by rw [sizeLine_eq]; exact Nat.le_of_ble_eq_true rfl)) (by subst eB8; rw [sizeLine_eq]; exact Nat.le_of_ble_eq_true rfl)) (fun B11 eB11 => ?_)
  show XS (tSeq _ _) _ _ [some (vr p0), some (va T x1), some (va T x2), some (vr pp2), some (va T (LF.mk y4)), some (lsA B11), none, none, none, some (va T (LF.mk z5.1)), some (va T z1), none, none, none, none] (stt Ω [(k0, machA T p0 z5.2)] [lstA T pp2 (([] : List (LF Int)) : List (LF Int))])
  refine xs_genA (xe_catA (xe_var (i := 5) rfl) (xe_lsA (xa_cons (xe_lamV (l := tbs T) (stt_getU hkT (by simp [ne0T, ne0T.symm])) (mem__law_sums_right T) hu__law_sums_right) (xa_cons (xe_lamV (l := tbs T) (stt_getU hkT (by simp [ne0T, ne0T.symm])) (mem__law_sums_right T) hu__law_sums_right) xa_nil)) (by rw [sizeLine_eq]; exact Nat.le_of_ble_eq_true rfl)) (by subst eB11 eB8; rw [sizeLine_eq]; exact Nat.le_of_ble_eq_true rfl)) (fun B14 eB14 => ?_)
  show XS (tSeq _ _) _ _ [some (vr p0), some (va T x1), some (va T x2), some (vr pp2), some (va T (LF.mk y4)), some (lsA B14), none, none, none, some (va T (LF.mk z5.1)), some (va T z1), none, none, none, none] (stt Ω [(k0, machA T p0 z5.2)] [lstA T pp2 (([] : List (LF Int)) : List (LF Int))])
  refine xs_genA (xe_catA (xe_catA (xe_lsA (xa_cons (xe_lamV (l := tbs T) (stt_getU hkT (by simp [ne0T, ne0T.symm])) (mem__law_sums_right T) hu__law_sums_right) xa_nil) (by rw [sizeLine_eq]; exact Nat.le_of_ble_eq_true rfl)) (xe_var (i := 5) rfl) (by subst eB14 eB11 eB8; rw [sizeLine_eq]; exact Nat.le_of_ble_eq_true rfl)) (xe_var (i := 5) rfl) (by subst eB14 eB11 eB8; rw [sizeLine_eq]; exact Nat.le_of_ble_eq_true rfl)) (fun B16 eB16 => ?_)
  show XS (tSeq _ _) _ _ [some (vr p0), some (va T x1), some (va T x2), some (vr pp2), some (va T (LF.mk y4)), some (lsA B16), none, none, none, some (va T (LF.mk z5.1)), some (va T z1), none, none, none, none] (stt Ω [(k0, machA T p0 z5.2)] [lstA T pp2 (([] : List (LF Int)) : List (LF Int))])
  obtain ⟨z36, hz36, hm⟩ := bnd_some hm
  refine xs_forS (fun (s17 : (List (T3 Str Int Int)) × MS × (List (LF Int))) => [some (vr p0), some (va T x1), some (va T x2), some (vr pp2), some (va T (LF.mk s17.1)), some (lsA B16), none, none, none, some (va T (LF.mk z5.1)), some (va T z1), none, none, none, none]) (fun (s17 : (List (T3 Str Int Int)) × MS × (List (LF Int))) => (stt Ω [(k0, machA T p0 s17.2.1)] [lstA T pp2 (s17.2.2 : List (LF Int))])) (fun (_ : Unit) _ _ _ => False) hz36 (xi_lkp (js := ([6, 0, 1, 2, 3, 4, 5, 0, 1, 2, 3, 4, 5] : List Nat)) (g := (fun (j : Nat) => [B8.getD 0 anyA, B8.getD 1 anyA, B11.getD 2 anyA, B11.getD 3 anyA, B14.getD 4 anyA, B14.getD 5 anyA, B16.getD 0 anyA].getD j anyA)) (xi_lsA (xe_var (i := 5) rfl)) (by subst eB16 eB14 eB11 eB8; rfl)) (fun _ => tgt_name) (fun a18 s17 s' ha hm F1 D1 e1 hD => ?_) (fun s37 es => ?_) (fun r1 es => ?_)
  · show XS (tSeq _ _) _ _ [some (vr p0), some (va T x1), some (va T x2), some (vr pp2), some (va T (LF.mk s17.1)), some (lsA B16), some ((fun (j : Nat) => [B8.getD 0 anyA, B8.getD 1 anyA, B11.getD 2 anyA, B11.getD 3 anyA, B14.getD 4 anyA, B14.getD 5 anyA, B16.getD 0 anyA].getD j anyA) a18), none, none, some (va T (LF.mk z5.1)), some (va T z1), none, none, none, none] (stt Ω [(k0, machA T p0 s17.2.1)] [lstA T pp2 (s17.2.2 : List (LF Int))])
    refine xs_drop (xe_mcall (xe_var (i := 0) rfl) (stt_get ok (i := 0) rfl) xa_nil ⟨k0, p0, s17.2.1, rfl, (stt_get ok (i := 0) rfl), rfl⟩ (cal1 ok (i := 0) rfl)) ?_
    show XS (tSeq _ _) _ _ [some (vr p0), some (va T x1), some (va T x2), some (vr pp2), some (va T (LF.mk s17.1)), some (lsA B16), some ((fun (j : Nat) => [B8.getD 0 anyA, B8.getD 1 anyA, B11.getD 2 anyA, B11.getD 3 anyA, B14.getD 4 anyA, B14.getD 5 anyA, B16.getD 0 anyA].getD j anyA) a18), none, none, some (va T (LF.mk z5.1)), some (va T z1), none, none, none, none] (stt Ω [(k0, machA T p0 s17.2.1.reset)] [lstA T pp2 (s17.2.2 : List (LF Int))])
    obtain ⟨z26, hz26, hm⟩ := bnd_some hm
    refine xs_drop (show XE _ _ _ anyA (stt Ω [(k0, machA T p0 z26)] [lstA T pp2 (s17.2.2 : List (LF Int))]) from ?q27) ?_
    case q27 =>
      exact (by
        by_cases hc : decide (a18 = 0) = true
        · rw [if_pos hc] at hz26
          obtain ⟨z19, hz19, hz26⟩ := bnd_some hz26
          obtain rfl := Option.some.inj hz26
          obtain rfl := of_decide_eq_true hc
          subst eB16 eB14 eB11 eB8
          exact xe_self rfl (xe_any (xe_callND (Ds := [va T (1 : Int), va T ("big" : Str)]) (xa_cons (xe_var (i := 0) rfl) (xa_cons (xe_var (i := 1) rfl) (xa_cons (xe_var (i := 10) rfl) xa_nil))) (xa_cons xe_bl xa_nil) (fun _ => (.cons rfl (.cons rfl .nil))) ⟨k0, p0, s17.2.1.reset, x1, z1, ("big" : Str), true, z19, rfl, (stt_get ok (i := 0) rfl), hz19, rfl⟩ (cal1 ok (i := 0) rfl)))
        · rw [if_neg hc] at hz26
          clear hc
          by_cases hc : decide (a18 = 1) = true
          · rw [if_pos hc] at hz26
            obtain ⟨z20, hz20, hz26⟩ := bnd_some hz26
            obtain rfl := Option.some.inj hz26
            obtain rfl := of_decide_eq_true hc
            subst eB16 eB14 eB11 eB8
            exact xe_self rfl (xe_any (xe_callND (Ds := [va T ("big" : Str)]) (xa_cons (xe_var (i := 0) rfl) (xa_cons (xe_var (i := 9) rfl) xa_nil)) (xa_cons xe_bl xa_nil) (fun _ => (.cons rfl .nil)) ⟨k0, p0, s17.2.1.reset, z5.1, ("big" : Str), true, z20, rfl, (stt_get ok (i := 0) rfl), hz20, rfl⟩ (cal1 ok (i := 0) rfl)))
          · rw [if_neg hc] at hz26
            clear hc
            by_cases hc : decide (a18 = 2) = true
            · rw [if_pos hc] at hz26
              obtain ⟨z21, hz21, hz26⟩ := bnd_some hz26
              obtain rfl := Option.some.inj hz26
              obtain rfl := of_decide_eq_true hc
              subst eB16 eB14 eB11 eB8
              exact xe_self rfl (xe_any (xe_call (xa_cons (xe_var (i := 0) rfl) (xa_cons (xe_var (i := 1) rfl) (xa_cons xe_int xa_nil))) ⟨k0, p0, s17.2.1.reset, x1, (9 : Int), z21, rfl, (stt_get ok (i := 0) rfl), hz21, rfl⟩ (cal1 ok (i := 0) rfl)))
            · rw [if_neg hc] at hz26
              clear hc
              by_cases hc : decide (a18 = 3) = true
              · rw [if_pos hc] at hz26
                obtain ⟨z22, hz22, hz26⟩ := bnd_some hz26
                obtain rfl := Option.some.inj hz26
                obtain rfl := of_decide_eq_true hc
                subst eB16 eB14 eB11 eB8
                exact xe_self rfl (xe_any (xe_call (xa_cons (xe_var (i := 0) rfl) (xa_cons (xe_var (i := 1) rfl) (xa_cons xe_int xa_nil))) ⟨k0, p0, s17.2.1.reset, x1, (9 : Int), z22, rfl, (stt_get ok (i := 0) rfl), hz22, rfl⟩ (cal1 ok (i := 0) rfl)))
              · rw [if_neg hc] at hz26
                clear hc
                by_cases hc : decide (a18 = 4) = true
                · rw [if_pos hc] at hz26
                  obtain ⟨z23, hz23, hz26⟩ := bnd_some hz26
                  obtain rfl := Option.some.inj hz26
                  obtain rfl := of_decide_eq_true hc
                  subst eB16 eB14 eB11 eB8
                  exact xe_self rfl (xe_any (xe_call (xa_cons (xe_var (i := 0) rfl) (xa_cons (xe_var (i := 1) rfl) (xa_cons (xe_var (i := 2) rfl) xa_nil))) ⟨k0, p0, s17.2.1.reset, x1, x2, z23, rfl, (stt_get ok (i := 0) rfl), hz23, rfl⟩ (cal1 ok (i := 0) rfl)))
                · rw [if_neg hc] at hz26
                  clear hc
                  by_cases hc : decide (a18 = 5) = true
                  · rw [if_pos hc] at hz26
                    obtain ⟨z24, hz24, hz26⟩ := bnd_some hz26
                    obtain rfl := Option.some.inj hz26
                    obtain rfl := of_decide_eq_true hc
                    subst eB16 eB14 eB11 eB8
                    exact xe_self rfl (xe_any (xe_call (xa_cons (xe_var (i := 0) rfl) (xa_cons (xe_var (i := 1) rfl) (xa_cons (xe_var (i := 1) rfl) xa_nil))) ⟨k0, p0, s17.2.1.reset, x1, x1, z24, rfl, (stt_get ok (i := 0) rfl), hz24, rfl⟩ (cal1 ok (i := 0) rfl)))
                  · rw [if_neg hc] at hz26
                    clear hc
                    by_cases hc : decide (a18 = 6) = true
                    · rw [if_pos hc] at hz26
                      obtain ⟨z25, hz25, hz26⟩ := bnd_some hz26
                      obtain rfl := Option.some.inj hz26
                      obtain rfl := of_decide_eq_true hc
                      subst eB16 eB14 eB11 eB8
                      exact xe_self rfl (xe_any (xe_call (xa_cons (xe_var (i := 0) rfl) (xa_cons (xe_var (i := 2) rfl) xa_nil)) ⟨k0, p0, s17.2.1.reset, x2, z25, rfl, (stt_get ok (i := 0) rfl), hz25, rfl⟩ (cal1 ok (i := 0) rfl)))
                    · rw [if_neg hc] at hz26
                      clear hc
                      cases hz26)
    show XS (tSeq _ _) _ _ [some (vr p0), some (va T x1), some (va T x2), some (vr pp2), some (va T (LF.mk s17.1)), some (lsA B16), some ((fun (j : Nat) => [B8.getD 0 anyA, B8.getD 1 anyA, B11.getD 2 anyA, B11.getD 3 anyA, B14.getD 4 anyA, B14.getD 5 anyA, B16.getD 0 anyA].getD j anyA) a18), none, none, some (va T (LF.mk z5.1)), some (va T z1), none, none, none, none] (stt Ω [(k0, machA T p0 z26)] [lstA T pp2 (s17.2.2 : List (LF Int))])
    obtain ⟨z28, hz28, hm⟩ := bnd_some hm
    obtain ⟨z31, hz31, hm⟩ := bnd_some hm
    obtain ⟨z33, hz33, hm⟩ := bnd_some hm
    refine xs_drop (xe_appE (stt_getL (j := 0) rfl) (stt_getL (j := 0) rfl) (xe_var (i := 3) rfl) (xe_fz (xn_lcS (T := T) (fun (s29 : Unit) => [(k0, machA T p0 z26)]) (fun (s29 : Unit) => [lstA T pp2 (s17.2.2 : List (LF Int))]) hz31 (xi_LF (xe_mcall (xe_var (i := 0) rfl) (stt_get ok (i := 0) rfl) xa_nil ⟨k0, p0, z26, rfl, (stt_get ok (i := 0) rfl), rfl⟩ rfl)) (fun _ => tgt_pair) (by simp) (chkP_some hz28) ?q32)) (chkP_some hz33) (stt_setL (j := 0))) ?_
    case q32 =>
      exact (fun a30 s29 o s2 ha hm X => by
        obtain ⟨rfl, rfl⟩ := Prod.mk.inj (Option.some.inj hm)
        refine ⟨(fun e => nomatch e), fun y e => ?_⟩
        obtain rfl := Option.some.inj e
        refine ⟨xt_yes, (xe_var (i := 12) rfl)⟩)
    show XS (tAsg _ _) _ _ [some (vr p0), some (va T x1), some (va T x2), some (vr pp2), some (va T (LF.mk s17.1)), some (lsA B16), some ((fun (j : Nat) => [B8.getD 0 anyA, B8.getD 1 anyA, B11.getD 2 anyA, B11.getD 3 anyA, B14.getD 4 anyA, B14.getD 5 anyA, B16.getD 0 anyA].getD j anyA) a18), none, none, some (va T (LF.mk z5.1)), some (va T z1), none, none, none, none] (stt Ω [(k0, machA T p0 z26)] [lstA T pp2 ((s17.2.2 ++ [(LF.mk z31.1)]) : List (LF Int))])
    obtain ⟨z34, hz34, hm⟩ := bnd_some hm
    obtain ⟨y35, hy35, hm⟩ := bnd_some hm
    refine xs_set1 (A := va T (LF.mk y35)) (xe_eq (xe_cat (xe_var (i := 4) rfl) (xe_mcall (xe_var (i := 0) rfl) (stt_get ok (i := 0) rfl) xa_nil ⟨k0, p0, z26, rfl, (stt_get ok (i := 0) rfl), rfl⟩ rfl) isLs_LF isLs_LF (chkP_some hz34)) (congrArg LF.mk (Option.some.inj hy35))) ?_
    obtain rfl := Option.some.inj hm
    exact fun σ H n => hD.nx _ rfl σ H (n.forget 6)
  · subst es
    obtain ⟨s2, hs2, hm⟩ := bnd_some hm
    cases hs2
    show XS (tSeq _ _) _ _ [some (vr p0), some (va T x1), some (va T x2), some (vr pp2), some (va T (LF.mk s37.1)), some (lsA B16), none, none, none, some (va T (LF.mk z5.1)), some (va T z1), none, none, none, none] (stt Ω [(k0, machA T p0 s37.2.1)] [lstA T pp2 (s37.2.2 : List (LF Int))])
    refine xs_fzJ (k := 3) (j := 0) rfl rfl ?_
    show XS _ _ _ [some (vr p0), some (va T x1), some (va T x2), some (va T (LF.mk s37.2.2)), some (va T (LF.mk s37.1)), some (lsA B16), none, none, none, some (va T (LF.mk z5.1)), some (va T z1), none, none, none, none] (stt Ω [(k0, machA T p0 s37.2.1)] [nilA])
    refine xs_drop (xe_mcall (xe_var (i := 0) rfl) (stt_get ok (i := 0) rfl) xa_nil ⟨k0, p0, s37.2.1, rfl, (stt_get ok (i := 0) rfl), rfl⟩ (cal1 ok (i := 0) rfl)) ?_
    show XS (tSeq _ _) _ _ [some (vr p0), some (va T x1), some (va T x2), some (va T (LF.mk s37.2.2)), some (va T (LF.mk s37.1)), some (lsA B16), none, none, none, some (va T (LF.mk z5.1)), some (va T z1), none, none, none, none] (stt Ω [(k0, machA T p0 s37.2.1.reset)] [nilA])
    obtain ⟨z49, hz49, hm⟩ := bnd_some hm
    refine xs_forS (fun (s38 : MS) => [some (vr p0), some (va T x1), some (va T x2), some (va T (LF.mk s37.2.2)), some (va T (LF.mk s37.1)), some (lsA B16), none, none, none, some (va T (LF.mk z5.1)), some (va T z1), none, none, none, none]) (fun (s38 : MS) => (stt Ω [(k0, machA T p0 s38)] [nilA])) (fun (_ : Unit) _ _ _ => False) hz49 (xi_lkp (js := ([6, 0, 1, 2, 3, 4, 5, 0, 1, 2, 3, 4, 5] : List Nat)) (g := (fun (j : Nat) => [B8.getD 0 anyA, B8.getD 1 anyA, B11.getD 2 anyA, B11.getD 3 anyA, B14.getD 4 anyA, B14.getD 5 anyA, B16.getD 0 anyA].getD j anyA)) (xi_lsA (xe_var (i := 5) rfl)) (by subst eB16 eB14 eB11 eB8; rfl)) (fun _ => tgt_name) (fun a39 s38 s' ha hm F1 D1 e1 hD => ?_) (fun s50 es => ?_) (fun r1 es => ?_)
    · show XS (tDrop _) _ _ [some (vr p0), some (va T x1), some (va T x2), some (va T (LF.mk s37.2.2)), some (va T (LF.mk s37.1)), some (lsA B16), some ((fun (j : Nat) => [B8.getD 0 anyA, B8.getD 1 anyA, B11.getD 2 anyA, B11.getD 3 anyA, B14.getD 4 anyA, B14.getD 5 anyA, B16.getD 0 anyA].getD j anyA) a39), none, none, some (va T (LF.mk z5.1)), some (va T z1), none, none, none, none] (stt Ω [(k0, machA T p0 s38)] [nilA])
      obtain ⟨z47, hz47, hm⟩ := bnd_some hm
      refine xs_drop1 (show XE _ _ _ anyA (stt Ω [(k0, machA T p0 z47)] [nilA]) from ?q48) ?_
      case q48 =>
        exact (by
          by_cases hc : decide (a39 = 0) = true
          · rw [if_pos hc] at hz47
            obtain ⟨z40, hz40, hz47⟩ := bnd_some hz47
            obtain rfl := Option.some.inj hz47
            obtain rfl := of_decide_eq_true hc
            subst eB16 eB14 eB11 eB8
            exact xe_self rfl (xe_any (xe_callND (Ds := [va T (1 : Int), va T ("big" : Str)]) (xa_cons (xe_var (i := 0) rfl) (xa_cons (xe_var (i := 1) rfl) (xa_cons (xe_var (i := 10) rfl) xa_nil))) (xa_cons xe_bl xa_nil) (fun _ => (.cons rfl (.cons rfl .nil))) ⟨k0, p0, s38, x1, z1, ("big" : Str), true, z40, rfl, (stt_get ok (i := 0) rfl), hz40, rfl⟩ (cal1 ok (i := 0) rfl)))
          · rw [if_neg hc] at hz47
            clear hc
            by_cases hc : decide (a39 = 1) = true
            · rw [if_pos hc] at hz47
              obtain ⟨z41, hz41, hz47⟩ := bnd_some hz47
              obtain rfl := Option.some.inj hz47
              obtain rfl := of_decide_eq_true hc
              subst eB16 eB14 eB11 eB8
              exact xe_self rfl (xe_any (xe_callND (Ds := [va T ("big" : Str)]) (xa_cons (xe_var (i := 0) rfl) (xa_cons (xe_var (i := 9) rfl) xa_nil)) (xa_cons xe_bl xa_nil) (fun _ => (.cons rfl .nil)) ⟨k0, p0, s38, z5.1, ("big" : Str), true, z41, rfl, (stt_get ok (i := 0) rfl), hz41, rfl⟩ (cal1 ok (i := 0) rfl)))
            · rw [if_neg hc] at hz47
              clear hc
              by_cases hc : decide (a39 = 2) = true
              · rw [if_pos hc] at hz47
                obtain ⟨z42, hz42, hz47⟩ := bnd_some hz47
                obtain rfl := Option.some.inj hz47
                obtain rfl := of_decide_eq_true hc
                subst eB16 eB14 eB11 eB8
                exact xe_self rfl (xe_any (xe_call (xa_cons (xe_var (i := 0) rfl) (xa_cons (xe_var (i := 1) rfl) (xa_cons xe_int xa_nil))) ⟨k0, p0, s38, x1, (9 : Int), z42, rfl, (stt_get ok (i := 0) rfl), hz42, rfl⟩ (cal1 ok (i := 0) rfl)))
              · rw [if_neg hc] at hz47
                clear hc
                by_cases hc : decide (a39 = 3) = true
                · rw [if_pos hc] at hz47
                  obtain ⟨z43, hz43, hz47⟩ := bnd_some hz47
                  obtain rfl := Option.some.inj hz47
                  obtain rfl := of_decide_eq_true hc
                  subst eB16 eB14 eB11 eB8
                  exact xe_self rfl (xe_any (xe_call (xa_cons (xe_var (i := 0) rfl) (xa_cons (xe_var (i := 1) rfl) (xa_cons xe_int xa_nil))) ⟨k0, p0, s38, x1, (9 : Int), z43, rfl, (stt_get ok (i := 0) rfl), hz43, rfl⟩ (cal1 ok (i := 0) rfl)))
                · rw [if_neg hc] at hz47
                  clear hc
                  by_cases hc : decide (a39 = 4) = true
                  · rw [if_pos hc] at hz47
                    obtain ⟨z44, hz44, hz47⟩ := bnd_some hz47
                    obtain rfl := Option.some.inj hz47
                    obtain rfl := of_decide_eq_true hc
                    subst eB16 eB14 eB11 eB8
                    exact xe_self rfl (xe_any (xe_call (xa_cons (xe_var (i := 0) rfl) (xa_cons (xe_var (i := 1) rfl) (xa_cons (xe_var (i := 2) rfl) xa_nil))) ⟨k0, p0, s38, x1, x2, z44, rfl, (stt_get ok (i := 0) rfl), hz44, rfl⟩ (cal1 ok (i := 0) rfl)))
                  · rw [if_neg hc] at hz47
                    clear hc
                    by_cases hc : decide (a39 = 5) = true
                    · rw [if_pos hc] at hz47
                      obtain ⟨z45, hz45, hz47⟩ := bnd_some hz47
                      obtain rfl := Option.some.inj hz47
                      obtain rfl := of_decide_eq_true hc
                      subst eB16 eB14 eB11 eB8
                      exact xe_self rfl (xe_any (xe_call (xa_cons (xe_var (i := 0) rfl) (xa_cons (xe_var (i := 1) rfl) (xa_cons (xe_var (i := 1) rfl) xa_nil))) ⟨k0, p0, s38, x1, x1, z45, rfl, (stt_get ok (i := 0) rfl), hz45, rfl⟩ (cal1 ok (i := 0) rfl)))
                    · rw [if_neg hc] at hz47
                      clear hc
                      by_cases hc : decide (a39 = 6) = true
                      · rw [if_pos hc] at hz47
                        obtain ⟨z46, hz46, hz47⟩ := bnd_some hz47
                        obtain rfl := Option.some.inj hz47
                        obtain rfl := of_decide_eq_true hc
                        subst eB16 eB14 eB11 eB8
                        exact xe_self rfl (xe_any (xe_call (xa_cons (xe_var (i := 0) rfl) (xa_cons (xe_var (i := 2) rfl) xa_nil)) ⟨k0, p0, s38, x2, z46, rfl, (stt_get ok (i := 0) rfl), hz46, rfl⟩ (cal1 ok (i := 0) rfl)))
                      · rw [if_neg hc] at hz47
                        clear hc
                        cases hz47)
      obtain rfl := Option.some.inj hm
      exact fun σ H n => hD.nx _ rfl σ H (n.forget 6)
    · subst es
      obtain ⟨s2, hs2, hm⟩ := bnd_some hm
      cases hs2
      show XS (tSeq _ _) _ _ [some (vr p0), some (va T x1), some (va T x2), some (va T (LF.mk s37.2.2)), some (va T (LF.mk s37.1)), some (lsA B16), none, none, none, some (va T (LF.mk z5.1)), some (va T z1), none, none, none, none] (stt Ω [(k0, machA T p0 s50)] [nilA])
      obtain ⟨z51, hz51, hm⟩ := bnd_some hm
      obtain ⟨z52, hz52, hm⟩ := bnd_some hm
      obtain ⟨z53, hz53, hm⟩ := bnd_some hm
      obtain ⟨z62, hz62, hm⟩ := bnd_some hm
      refine xs_set (A := va T (LF.mk z62.1)) (xe_fz (xn_lcS (T := T) (fun (s54 : Unit) => [(k0, machA T p0 s50)]) (fun (s54 : Unit) => [nilA]) hz62 (xi_range1 (T := T) (xa_cons (xe_lenL (xe_ix (xe_var (i := 3) rfl) xe_int isL_LF hz51) isL_LF) xa_nil) (chkP_some hz52).1 (chkP_some hz52).2) (fun _ => tgt_name) (by simp) (chkP_some hz53) ?q63)) ?_
      case q63 =>
        exact (fun a55 s54 o s2 ha hm X => by
          obtain ⟨z56, hz56, hm⟩ := bnd_some hm
          obtain ⟨z60, hz60, hm⟩ := bnd_some hm
          obtain ⟨rfl, rfl⟩ := Prod.mk.inj (Option.some.inj hm)
          refine ⟨(fun e => nomatch e), fun y e => ?_⟩
          obtain rfl := Option.some.inj e
          refine ⟨xt_yes, (xe_sum (xe_fz (xn_lcS (T := T) (fun (s57 : Unit) => [(k0, machA T p0 s50)]) (fun (s57 : Unit) => [nilA, X]) hz60 (xi_LF (xe_var (i := 3) rfl)) (fun _ => tgt_name) (by simp) (chkP_some hz56) ?q61)) isL_LF)⟩
          case q61 =>
            exact (fun a58 s57 o s2 ha hm X1 => by
              obtain ⟨z59, hz59, hm⟩ := bnd_some hm
              obtain ⟨rfl, rfl⟩ := Prod.mk.inj (Option.some.inj hm)
              refine ⟨(fun e => nomatch e), fun y e => ?_⟩
              obtain rfl := Option.some.inj e
              refine ⟨xt_yes, (xe_ix (xe_var (i := 14) rfl) (xe_var (i := 13) rfl) isL_LF hz59)⟩))
      show XS (tSeq _ _) _ _ [some (vr p0), some (va T x1), some (va T x2), some (va T (LF.mk s37.2.2)), some (va T (LF.mk s37.1)), some (lsA B16), none, some (va T (LF.mk z62.1)), none, some (va T (LF.mk z5.1)), some (va T z1), none, none, none, none] (stt Ω [(k0, machA T p0 s50)] [nilA])
      obtain ⟨z64, hz64, hm⟩ := bnd_some hm
      obtain ⟨z67, hz67, hm⟩ := bnd_some hm
      obtain ⟨z69, hz69, hm⟩ := bnd_some hm
      obtain ⟨z71, hz71, hm⟩ := bnd_some hm
      refine xs_set (A := va T z71) (xe_andO (xe_eqD (chkP_some hz69) (by decide) (xe_fz (xn_lcS (T := T) (fun (s65 : Unit) => [(k0, machA T p0 s50)]) (fun (s65 : Unit) => [nilA]) hz67 (xi_LF (xe_mcall (xe_var (i := 0) rfl) (stt_get ok (i := 0) rfl) xa_nil ⟨k0, p0, s50, rfl, (stt_get ok (i := 0) rfl), rfl⟩ rfl)) (fun _ => tgt_pair) (by simp) (chkP_some hz64) ?q68)) (xe_var (i := 7) rfl) isD_va isD_va) hz71 ?q72) ?_
      case q68 =>
        exact (fun a66 s65 o s2 ha hm X => by
          obtain ⟨rfl, rfl⟩ := Prod.mk.inj (Option.some.inj hm)
          refine ⟨(fun e => nomatch e), fun y e => ?_⟩
          obtain rfl := Option.some.inj e
          refine ⟨xt_yes, (xe_var (i := 12) rfl)⟩)
      case q72 =>
        exact (fun v hm => by
          obtain ⟨z70, hz70, hm⟩ := bnd_some hm
          obtain rfl := Option.some.inj hm
          exact (xe_eqD (chkP_some hz70) (by decide) (xe_mcall (xe_var (i := 0) rfl) (stt_get ok (i := 0) rfl) xa_nil ⟨k0, p0, s50, rfl, (stt_get ok (i := 0) rfl), rfl⟩ rfl) (xe_var (i := 4) rfl) isD_va isD_va))
      show XS (tSeq _ _) _ _ [some (vr p0), some (va T x1), some (va T x2), some (va T (LF.mk s37.2.2)), some (va T (LF.mk s37.1)), some (lsA B16), none, some (va T (LF.mk z62.1)), some (va T z71), some (va T (LF.mk z5.1)), some (va T z1), none, none, none, none] (stt Ω [(k0, machA T p0 s50)] [nilA])
      refine xs_drop (xe_mcall (xe_var (i := 0) rfl) (stt_get ok (i := 0) rfl) xa_nil ⟨k0, p0, s50, rfl, (stt_get ok (i := 0) rfl), rfl⟩ (cal1 ok (i := 0) rfl)) ?_
      show XS (tRet _) _ _ [some (vr p0), some (va T x1), some (va T x2), some (va T (LF.mk s37.2.2)), some (va T (LF.mk s37.1)), some (lsA B16), none, some (va T (LF.mk z62.1)), some (va T z71), some (va T (LF.mk z5.1)), some (va T z1), none, none, none, none] (stt Ω [(k0, machA T p0 s50.reset)] [nilA])
      obtain ⟨z73, hz73, hm⟩ := bnd_some hm
      obtain rfl := Option.some.inj hm
      refine xs_ret (xe_eq (xe_var (i := 8) rfl) (chkP_some hz73)) hrt.all
    · subst es
      cases hm
  · subst es
    cases hm
noncomputable def M_law (x0 : List Int) : Option Bool :=
  (M__law_cell_at x0 (0 : Int)).bind fun z1 => (chkP (([z1] : List Int).length + (cut x0 (some (1 : Int)) (some (4 : Int))).length ≤ sizeLine)).bind fun z2 => (forM' (ρ := Unit) (fun (a4 : Int) (s3 : Unit) => (M__law_source_of a4).bind fun z5 => (M__law_machine z5).bind fun z8 => (M__law_one z8.2 ([(8 : Int), (13 : Int), (30 : Int)] : List Int)).bind fun z11 => (chkP ((8 ≤ z11.1 ∧ z11.1 ≤ 30) ∧ 2 ≤ (3 : Int) ∧ (3 : Int) ≤ 1000)).bind fun z12 => (some (MS.fresh z11.1 (3 : Int))).bind fun y13 => (chkP (-(2 ^ 62) ≤ (10 : Int) ∧ (10 : Int) < 2 ^ 62)).bind fun z16 => (forM' (ρ := Unit) (fun (a18 : Int) (s17 : (List Int) × MS × MS) => (chkP (CShl (1 : Int) ((s17.2.1.w, s17.2.1.c).1))).bind fun z19 => (M__law_one s17.1 ([(1 : Int), (10 : Int)] : List Int)).bind fun z20 => (M__law_drawn z20.2 ((1 : Int) * 2 ^ (((s17.2.1.w, s17.2.1.c).1)).toNat) z20.1).bind fun z21 => (M_big s17.2.1 z21.1).bind fun z22 => (chkP (CShl (1 : Int) ((s17.2.1.w, s17.2.1.c).1))).bind fun z23 => (M__law_drawn z21.2 ((1 : Int) * 2 ^ (((s17.2.1.w, s17.2.1.c).1)).toNat) (5 : Int)).bind fun z24 => (M_big s17.2.1 ((z24.1.natAbs : Nat) : Int)).bind fun z25 => (M_byte_length z22 true).bind fun z26 => (M__law_next z24.2 (300 : Int)).bind fun z27 => (M__law_one z27.2 ([(0 : Int), (0 : Int), (1 : Int), z27.1] : List Int)).bind fun z28 => (some (z26 + z28.1)).bind fun y29 => (M__law_back_right s17.2.1 z22 y29 true).bind fun z30 => (chkP (z30.1 = true)).bind fun z31 => (M__law_each_right z30.2 z22 y29).bind fun z32 => (chkP (z32.1 = true)).bind fun z33 => (M_byte_length z25 false).bind fun z34 => (M__law_next z28.2 (3 : Int)).bind fun z35 => (M__law_back_right z32.2 z25 (z34 + z35.1) false).bind fun z36 => (chkP (z36.1 = true)).bind fun z37 => (M__law_joined_right z36.2 z22 z25).bind fun z38 => (chkP (z38.1 = true)).bind fun z39 => (M__law_counts_right z38.2 z22).bind fun z40 => (chkP (z40.1 = true)).bind fun z41 => (M__law_sums_right z40.2 z22 z25).bind fun z42 => (chkP (z42.1 = true)).bind fun z43 => (M_big s17.2.2 z21.1).bind fun z44 => (M_to_bytes s17.2.2 z44 y29 ("big" : Str) true).bind fun z45 => (M_to_bytes z42.2 z22 y29 ("big" : Str) true).bind fun z46 => (chkP ((LF.mk z45.1) = (LF.mk z46.1) ∧ Dat.ok (LF.mk z45.1))).bind fun z47 => (M_from_bytes z45.2 z45.1 ("big" : Str) true).bind fun z48 => (M_plain z48.1).bind fun z49 => (chkP (z49 = z21.1)).bind fun z50 => some (Stp.nx (z35.2, z46.2, z48.2))) (rng 0 ((10 : Int)).toNat) (z11.2, z8.1, y13)).bind fun z51 => (nxt z51).bind fun s52 => some (Stp.nx ())) (([z1] : List Int) ++ (cut x0 (some (1 : Int)) (some (4 : Int)))) ()).bind fun z53 => (nxt z53).bind fun s54 => some true
def Pre_law (T : TC) : PreT := fun As Ω R => ∃ (kT : Nat) (x0 : List Int) (r : Bool), As = [va T (SF.mk x0)] ∧ Ω[kT]? = some (tabA (tbs T)) ∧ M_law x0 = some r ∧ R = RV (va T r) (stt Ω [] [])
theorem sc_law : FnScope ["_law_script", "_law_cell", "_law_source", "_law_here", "_law_there", "_law_turn", "_law_whole", "_law_x_here", "_law_y_here", "_law_size", "_law_got"] ["_law_script"] (defScope s_law) := ⟨rfl, rfl, rfl, by decide +kernel, rfl, by decide +kernel, by decide +kernel⟩
theorem ok_law {f : Addr} {fd : FuncData} (F : Fun T.K "law" "law" s_law f fd) (c__law_cell_at : Cal P w T.K mg base 1 "_law_cell_at" ["_law_script", "_law_index"] (mkSp (Pre__law_cell_at T))) (c__law_source_of : Cal P w T.K mg base 1 "_law_source_of" ["_law_cell"] (mkSp (Pre__law_source_of T))) (c__law_machine : Cal P w T.K mg base 5 "_law_machine" ["_law_source"] (mkSp (Pre__law_machine T))) (c__law_one : Cal P w T.K mg base 2 "_law_one" ["_law_source", "_law_some"] (mkSp (Pre__law_one T))) (c_Machine2 : CalC P w T.K mg base 3 "Machine" (T.C 0) ["self", "bits", "cutoff"] [] (mkSp (Pre_Machine T))) (z_range : mg "range" = none) (mc : MCls T.K (T.C 0)) (c_Mach_parts : CalM P w T.K mg base 1 (T.C 0) "parts" ["self"] (mkSp (Pre_Mach_parts T))) (c__law_drawn : Cal P w T.K mg base 3 "_law_drawn" ["_law_source", "_law_base", "_law_most"] (mkSp (Pre__law_drawn T))) (c_big : Cal P w T.K mg base 23 "big" ["machine", "n"] (mkSp (Pre_big T))) (z_abs : mg "abs" = none) (ckd_byte_length_1_signed : CalKD P w T.K mg base 3 "byte_length" ["x", "signed"] 1 ["signed"] [] [0, 1] (mkSp (Pre_byte_length T))) (c__law_next : Cal P w T.K mg base 1 "_law_next" ["_law_source", "_law_times"] (mkSp (Pre__law_next T))) (c__law_back_right : Cal P w T.K mg base 24 "_law_back_right" ["_law_here", "_law_x_here", "_law_size", "_law_is_signed"] (mkSp (Pre__law_back_right T))) (c__law_each_right : Cal P w T.K mg base 24 "_law_each_right" ["_law_here", "_law_x_here", "_law_size"] (mkSp (Pre__law_each_right T))) (cd_byte_length_1 : CalD P w T.K mg base 3 "byte_length" ["x", "signed"] [V.bl false] (mkSp (Pre_byte_length T))) (c__law_joined_right : Cal P w T.K mg base 24 "_law_joined_right" ["_law_here", "_law_x_here", "_law_y_here"] (mkSp (Pre__law_joined_right T))) (c__law_counts_right : Cal P w T.K mg base 24 "_law_counts_right" ["_law_here", "_law_x_here"] (mkSp (Pre__law_counts_right T))) (c__law_sums_right : Cal P w T.K mg base 26 "_law_sums_right" ["_law_here", "_law_x_here", "_law_y_here"] (mkSp (Pre__law_sums_right T))) (ckd_to_bytes_3_signed : CalKD P w T.K mg base 22 "to_bytes" ["machine", "x", "length", "order", "signed"] 3 ["signed"] [V.int 1, V.str "big"] [0, 1, 2, 4, 5] (mkSp (Pre_to_bytes T))) (ckd_from_bytes_2_signed : CalKD P w T.K mg base 23 "from_bytes" ["machine", "row", "order", "signed"] 2 ["signed"] [V.str "big"] [0, 1, 2, 3] (mkSp (Pre_from_bytes T))) (c_plain : Cal P w T.K mg base 2 "plain" ["x"] (mkSp (Pre_plain T))) : FnOk P w T.K mg base CX0 27 f fd ["_law_script"] (mkSp (Pre_law T)) := by
  refine fn_ok F sc_law (fun As Ω R h => ?_) (fun cdv A outer s H E hr As Ω R F0 h => ?_)
  · obtain ⟨kT, x0, r, rfl, _⟩ := h
    rfl
  obtain ⟨kT, x0, r, rfl, hkT, hm, rfl⟩ := h
  refine ⟨_, (pss_cons (ps_for PassesOwn.never rfl (pi_listK (K := T.K) (pe_op op_addQ (pe_lst (pa_cons (pe_cal c__law_cell_at (hr.mono (by decide)) (by rfl) (pa_cons (pv 0) (pa_cons pe_int pa_nil))) pa_nil)) (pe_slice (sl_listK (K := T.K) rfl) (pv 0) (po_some pe_int) (po_some pe_int))) rfl) (pg_name (i := 1) sc_law.nd rfl (.inl rfl)) (pss_cons (ps_set (i := 2) sc_law.nd rfl (.inl rfl) (pe_cal c__law_source_of (hr.mono (by decide)) (by rfl) (pa_cons (pv 1) pa_nil))) (pss_cons (ps_set (i := 3) sc_law.nd rfl (.inl rfl) (pe_cal c__law_machine (hr.mono (by decide)) (by rfl) (pa_cons (pv 2) pa_nil))) (pss_cons (ps_set (i := 4) sc_law.nd rfl (.inl rfl) (pe_calC c_Machine2 (hr.mono (by decide)) (by rfl) (pa_cons (pe_cal c__law_one (hr.mono (by decide)) (by rfl) (pa_cons (pv 2) (pa_cons (pe_lst (pa_cons pe_int (pa_cons pe_int (pa_cons pe_int pa_nil)))) pa_nil))) (pa_cons pe_int pa_nil)))) (pss_one (ps_for PassesOwn.never rfl (pi_range1 rfl z_range (pa_cons pe_int pa_nil)) (pg_name (i := 5) sc_law.nd rfl (.inl rfl)) (pss_cons (ps_set (i := 6) sc_law.nd rfl (.inl rfl) (pe_cal c__law_drawn (hr.mono (by decide)) (by rfl) (pa_cons (pv 2) (pa_cons (pe_op op_shlW pe_int (pe_ix (ix_seqK (K := T.K) rfl) (pe_calM0 (pv 3) c_Mach_parts (hr.mono (by decide))) pe_int (by intro _ _; rfl))) (pa_cons (pe_cal c__law_one (hr.mono (by decide)) (by rfl) (pa_cons (pv 2) (pa_cons (pe_lst (pa_cons pe_int (pa_cons pe_int pa_nil))) pa_nil))) pa_nil))))) (pss_cons (ps_set (i := 7) sc_law.nd rfl (.inl rfl) (pe_cal c_big (hr.mono (by decide)) (by rfl) (pa_cons (pv 3) (pa_cons (pv 6) pa_nil)))) (pss_cons (ps_set (i := 8) sc_law.nd rfl (.inl rfl) (pe_cal c_big (hr.mono (by decide)) (by rfl) (pa_cons (pv 3) (pa_cons (pe_callB cr_abs (by rfl) z_abs (by decide +kernel) (pa_cons (pe_cal c__law_drawn (hr.mono (by decide)) (by rfl) (pa_cons (pv 2) (pa_cons (pe_op op_shlW pe_int (pe_ix (ix_seqK (K := T.K) rfl) (pe_calM0 (pv 3) c_Mach_parts (hr.mono (by decide))) pe_int (by intro _ _; rfl))) (pa_cons pe_int pa_nil)))) pa_nil)) pa_nil)))) (pss_cons (ps_set (i := 9) sc_law.nd rfl (.inl rfl) (pe_op op_addQ (pe_calKD ckd_byte_length_1_signed (hr.mono (by decide)) (by rfl) (pa_cons (pv 7) pa_nil) (pk_cons pe_bl pk_nil)) (pe_cal c__law_one (hr.mono (by decide)) (by rfl) (pa_cons (pv 2) (pa_cons (pe_lst (pa_cons pe_int (pa_cons pe_int (pa_cons pe_int (pa_cons (pe_cal c__law_next (hr.mono (by decide)) (by rfl) (pa_cons (pv 2) (pa_cons pe_int pa_nil))) pa_nil))))) pa_nil))))) (pss_cons (ps_if (PW.pt (pw_or (pt_not (pt_val (pe_cal c__law_back_right (hr.mono (by decide)) (by rfl) (pa_cons (pv 3) (pa_cons (pv 7) (pa_cons (pv 9) (pa_cons pe_bl pa_nil))))))) (pw_or1 (pt_not (pt_val (pe_cal c__law_each_right (hr.mono (by decide)) (by rfl) (pa_cons (pv 3) (pa_cons (pv 7) (pa_cons (pv 9) pa_nil))))))))) pss_never pss_nil) (pss_cons (ps_if (pt_not (pt_val (pe_cal c__law_back_right (hr.mono (by decide)) (by rfl) (pa_cons (pv 3) (pa_cons (pv 8) (pa_cons (pe_op op_addQ (pe_calD cd_byte_length_1 (hr.mono (by decide)) (by rfl) (pa_cons (pv 8) pa_nil)) (pe_cal c__law_next (hr.mono (by decide)) (by rfl) (pa_cons (pv 2) (pa_cons pe_int pa_nil)))) (pa_cons pe_bl pa_nil))))))) pss_never pss_nil) (pss_cons (ps_if (PW.pt (pw_or (pt_not (pt_val (pe_cal c__law_joined_right (hr.mono (by decide)) (by rfl) (pa_cons (pv 3) (pa_cons (pv 7) (pa_cons (pv 8) pa_nil)))))) (pw_or1 (pt_not (pt_val (pe_cal c__law_counts_right (hr.mono (by decide)) (by rfl) (pa_cons (pv 3) (pa_cons (pv 7) pa_nil)))))))) pss_never pss_nil) (pss_cons (ps_if (pt_not (pt_val (pe_cal c__law_sums_right (hr.mono (by decide)) (by rfl) (pa_cons (pv 3) (pa_cons (pv 7) (pa_cons (pv 8) pa_nil)))))) pss_never pss_nil) (pss_cons (ps_set (i := 10) sc_law.nd rfl (.inl rfl) (pe_calKD ckd_to_bytes_3_signed (hr.mono (by decide)) (by rfl) (pa_cons (pv 4) (pa_cons (pe_cal c_big (hr.mono (by decide)) (by rfl) (pa_cons (pv 4) (pa_cons (pv 6) pa_nil))) (pa_cons (pv 9) pa_nil))) (pk_cons pe_bl pk_nil))) (pss_one (ps_if (PW.pt (pw_or (pt_cmpR (op_neXK (K := T.K) (by exact hr.units) rfl) (pv 10) (pe_calKD ckd_to_bytes_3_signed (hr.mono (by decide)) (by rfl) (pa_cons (pv 3) (pa_cons (pv 7) (pa_cons (pv 9) pa_nil))) (pk_cons pe_bl pk_nil)) (nomark _)) (pw_or1 (pt_cmpR (op_neXK (K := T.K) (by exact hr.units) rfl) (pe_cal c_plain (hr.mono (by decide)) (by rfl) (pa_cons (pe_calKD ckd_from_bytes_2_signed (hr.mono (by decide)) (by rfl) (pa_cons (pv 4) (pa_cons (pv 10) pa_nil)) (pk_cons pe_bl pk_nil)) pa_nil)) (pv 6) (nomark _))))) pss_never pss_nil))))))))))))))))) (pss_one (ps_ret pe_bl))), fun D hrt hnx => ?_⟩
  have ok : Okk Ω [] := okk0
  suffices hx : XS _ D F0 [some (va T (SF.mk x0)), none, none, none, none, none, none, none, none, none, none] (stt Ω [] []) by
    rw [show (stt Ω [] []) = Ω from stt_self (by simp)] at hx
    exact hx
  unfold M_law at hm
  obtain ⟨z1, hz1, hm⟩ := bnd_some hm
  obtain ⟨z2, hz2, hm⟩ := bnd_some hm
  obtain ⟨z53, hz53, hm⟩ := bnd_some hm
  refine xs_forS (fun (s3 : Unit) => [some (va T (SF.mk x0)), none, none, none, none, none, none, none, none, none, none]) (fun (s3 : Unit) => (stt Ω [] [])) (fun (_ : Unit) _ _ _ => False) hz53 (xi_LF (xe_cat (xe_lst (l := [z1]) (xa_cons (xe_call (xa_cons (xe_var (i := 0) rfl) (xa_cons xe_int xa_nil)) ⟨x0, (0 : Int), z1, rfl, hz1, rfl⟩ cal0) xa_nil) (by show 1 ≤ sizeLine; decide)) (xe_sliceL (xe_var (i := 0) rfl) (xo_some (T := T) xe_int) (xo_some (T := T) xe_int) isL_SF) isLs_LF isLs_LF (chkP_some hz2))) (fun _ => tgt_name) (fun a4 s3 s' ha hm F1 D1 e1 hD => ?_) (fun s54 es => ?_) (fun r1 es => ?_)
  · show XS (tSeq _ _) _ _ [some (va T (SF.mk x0)), some (va T a4), none, none, none, none, none, none, none, none, none] (stt Ω [] [])
    obtain ⟨z5, hz5, hm⟩ := bnd_some hm
    refine xs_setO (xn_call (xa_cons (xe_var (i := 1) rfl) xa_nil) ⟨a4, z5, rfl, hz5, rfl⟩ cal0) (fun pp6 => ?_)
    show XS (tSeq _ _) _ _ [some (va T (SF.mk x0)), some (va T a4), some (vr pp6), none, none, none, none, none, none, none, none] (stt Ω [] [lstA T pp6 (z5 : List Int)])
    obtain ⟨z8, hz8, hm⟩ := bnd_some hm
    refine xs_setO (xn_call (xa_cons (xe_var (i := 2) rfl) xa_nil) ⟨(Ω.length + 0), pp6, z5, z8, rfl, (stt_getL (j := 0) rfl), hz8, rfl⟩ (cal1L (j := 0))) (fun pp9 => ?_)
    show XS (tSeq _ _) _ _ [some (va T (SF.mk x0)), some (va T a4), some (vr pp6), some (vr pp9), none, none, none, none, none, none, none] (stt Ω [] [lstA T pp6 (z8.2 : List Int), machA T pp9 z8.1])
    obtain ⟨z11, hz11, hm⟩ := bnd_some hm
    obtain ⟨z12, hz12, hm⟩ := bnd_some hm
    obtain ⟨y13, hy13, hm⟩ := bnd_some hm
    obtain rfl := Option.some.inj hy13
    refine xs_setO ((xn_make (Ds := []) (xa_cons (xe_call (xa_cons (xe_var (i := 2) rfl) (xa_cons (xe_lst (l := [(8 : Int), (13 : Int), (30 : Int)]) (xa_cons xe_int (xa_cons xe_int (xa_cons xe_int xa_nil))) (by show 3 ≤ sizeLine; decide)) xa_nil)) ⟨(Ω.length + 0), pp6, z8.2, ([(8 : Int), (13 : Int), (30 : Int)] : List Int), z11, rfl, (stt_getL (j := 0) rfl), hz11, rfl⟩ (cal1L (j := 0))) (xa_cons xe_int xa_nil)) (fun _ => .nil) (fun q => ⟨_, q, z11.1, (3 : Int), rfl, chkP_some hz12, rfl, rfl⟩))) (fun pp14 => ?_)
    show XS (tFor _ _ _) _ _ [some (va T (SF.mk x0)), some (va T a4), some (vr pp6), some (vr pp9), some (vr pp14), none, none, none, none, none, none] (stt Ω [] [lstA T pp6 (z11.2 : List Int), machA T pp9 z8.1, machA T pp14 (MS.fresh z11.1 (3 : Int))])
    obtain ⟨z16, hz16, hm⟩ := bnd_some hm
    obtain ⟨z51, hz51, hm⟩ := bnd_some hm
    refine xs_for (fun (s17 : (List Int) × MS × MS) => [some (va T (SF.mk x0)), some (va T a4), some (vr pp6), some (vr pp9), some (vr pp14), none, none, none, none, none, none]) (fun (s17 : (List Int) × MS × MS) => (stt Ω [] [lstA T pp6 (s17.1 : List Int), machA T pp9 s17.2.1, machA T pp14 s17.2.2])) (fun (_ : Unit) _ _ _ => False) hz51 (xi_range1 (T := T) (xa_cons xe_int xa_nil) (chkP_some hz16).1 (chkP_some hz16).2) (fun _ => tgt_name) (fun a18 s17 s' ha hm F1 D1 e1 hD => ?_) (fun s52 es => ?_) (fun r1 es => ?_)
    · show XS (tSeq _ _) _ _ [some (va T (SF.mk x0)), some (va T a4), some (vr pp6), some (vr pp9), some (vr pp14), some (va T a18), none, none, none, none, none] (stt Ω [] [lstA T pp6 (s17.1 : List Int), machA T pp9 s17.2.1, machA T pp14 s17.2.2])
      obtain ⟨z19, hz19, hm⟩ := bnd_some hm
      obtain ⟨z20, hz20, hm⟩ := bnd_some hm
      obtain ⟨z21, hz21, hm⟩ := bnd_some hm
      refine xs_set (A := va T z21.1) (xe_call (xa_cons (xe_var (i := 2) rfl) (xa_cons (xe_shl (chkP_some hz19) xe_int (xe_fst (xe_mcall (xe_var (i := 3) rfl) (stt_getL (j := 1) rfl) xa_nil ⟨(Ω.length + 1), pp9, s17.2.1, rfl, (stt_getL (j := 1) rfl), rfl⟩ rfl))) (xa_cons (xe_call (xa_cons (xe_var (i := 2) rfl) (xa_cons (xe_lst (l := [(1 : Int), (10 : Int)]) (xa_cons xe_int (xa_cons xe_int xa_nil)) (by show 2 ≤ sizeLine; decide)) xa_nil)) ⟨(Ω.length + 0), pp6, s17.1, ([(1 : Int), (10 : Int)] : List Int), z20, rfl, (stt_getL (j := 0) rfl), hz20, rfl⟩ (cal1L (j := 0))) xa_nil))) ⟨(Ω.length + 0), pp6, z20.2, ((1 : Int) * 2 ^ (((s17.2.1.w, s17.2.1.c).1)).toNat), z20.1, z21, rfl, (stt_getL (j := 0) rfl), hz21, rfl⟩ (cal1L (j := 0))) ?_
      show XS (tSeq _ _) _ _ [some (va T (SF.mk x0)), some (va T a4), some (vr pp6), some (vr pp9), some (vr pp14), some (va T a18), some (va T z21.1), none, none, none, none] (stt Ω [] [lstA T pp6 (z21.2 : List Int), machA T pp9 s17.2.1, machA T pp14 s17.2.2])
      obtain ⟨z22, hz22, hm⟩ := bnd_some hm
      refine xs_set (A := va T z22) (xe_call (xa_cons (xe_var (i := 3) rfl) (xa_cons (xe_var (i := 6) rfl) xa_nil)) ⟨(Ω.length + 1), pp9, s17.2.1, z21.1, z22, rfl, (stt_getL (j := 1) rfl), hz22, rfl⟩ cal0) ?_
      show XS (tSeq _ _) _ _ [some (va T (SF.mk x0)), some (va T a4), some (vr pp6), some (vr pp9), some (vr pp14), some (va T a18), some (va T z21.1), some (va T z22), none, none, none] (stt Ω [] [lstA T pp6 (z21.2 : List Int), machA T pp9 s17.2.1, machA T pp14 s17.2.2])
      obtain ⟨z23, hz23, hm⟩ := bnd_some hm
      obtain ⟨z24, hz24, hm⟩ := bnd_some hm
      obtain ⟨z25, hz25, hm⟩ := bnd_some hm
      refine xs_set (A := va T z25) (xe_call (xa_cons (xe_var (i := 3) rfl) (xa_cons (xe_abs (xe_call (xa_cons (xe_var (i := 2) rfl) (xa_cons (xe_shl (chkP_some hz23) xe_int (xe_fst (xe_mcall (xe_var (i := 3) rfl) (stt_getL (j := 1) rfl) xa_nil ⟨(Ω.length + 1), pp9, s17.2.1, rfl, (stt_getL (j := 1) rfl), rfl⟩ rfl))) (xa_cons xe_int xa_nil))) ⟨(Ω.length + 0), pp6, z21.2, ((1 : Int) * 2 ^ (((s17.2.1.w, s17.2.1.c).1)).toNat), (5 : Int), z24, rfl, (stt_getL (j := 0) rfl), hz24, rfl⟩ (cal1L (j := 0)))) xa_nil)) ⟨(Ω.length + 1), pp9, s17.2.1, ((z24.1.natAbs : Nat) : Int), z25, rfl, (stt_getL (j := 1) rfl), hz25, rfl⟩ cal0) ?_
      show XS (tSeq _ _) _ _ [some (va T (SF.mk x0)), some (va T a4), some (vr pp6), some (vr pp9), some (vr pp14), some (va T a18), some (va T z21.1), some (va T z22), some (va T z25), none, none] (stt Ω [] [lstA T pp6 (z24.2 : List Int), machA T pp9 s17.2.1, machA T pp14 s17.2.2])
      obtain ⟨z26, hz26, hm⟩ := bnd_some hm
      obtain ⟨z27, hz27, hm⟩ := bnd_some hm
      obtain ⟨z28, hz28, hm⟩ := bnd_some hm
      obtain ⟨y29, hy29, hm⟩ := bnd_some hm
      refine xs_set (A := va T y29) (xe_eq (xe_add (xe_callND (Ds := []) (xa_cons (xe_var (i := 7) rfl) xa_nil) (xa_cons xe_bl xa_nil) (fun _ => .nil) ⟨z22, true, z26, rfl, hz26, rfl⟩ cal0) (xe_call (xa_cons (xe_var (i := 2) rfl) (xa_cons (xe_lst (l := [(0 : Int), (0 : Int), (1 : Int), z27.1]) (xa_cons xe_int (xa_cons xe_int (xa_cons xe_int (xa_cons (xe_call (xa_cons (xe_var (i := 2) rfl) (xa_cons xe_int xa_nil)) ⟨(Ω.length + 0), pp6, z24.2, (300 : Int), z27, rfl, (stt_getL (j := 0) rfl), hz27, rfl⟩ (cal1L (j := 0))) xa_nil)))) (by show 4 ≤ sizeLine; decide)) xa_nil)) ⟨(Ω.length + 0), pp6, z27.2, ([(0 : Int), (0 : Int), (1 : Int), z27.1] : List Int), z28, rfl, (stt_getL (j := 0) rfl), hz28, rfl⟩ (cal1L (j := 0)))) (Option.some.inj hy29)) ?_
      show XS (tSeq _ _) _ _ [some (va T (SF.mk x0)), some (va T a4), some (vr pp6), some (vr pp9), some (vr pp14), some (va T a18), some (va T z21.1), some (va T z22), some (va T z25), some (va T y29), none] (stt Ω [] [lstA T pp6 (z28.2 : List Int), machA T pp9 s17.2.1, machA T pp14 s17.2.2])
      obtain ⟨z30, hz30, hm⟩ := bnd_some hm
      obtain ⟨z31, hz31, hm⟩ := bnd_some hm
      obtain ⟨z32, hz32, hm⟩ := bnd_some hm
      obtain ⟨z33, hz33, hm⟩ := bnd_some hm
      refine xs_ifN (xt_orF (xt_notF (xt_eq (xt_tB (T := T) (xe_call (xa_cons (xe_var (i := 3) rfl) (xa_cons (xe_var (i := 7) rfl) (xa_cons (xe_var (i := 9) rfl) (xa_cons xe_bl xa_nil)))) ⟨(Ω.length + 1), pp9, s17.2.1, z22, y29, true, z30, rfl, (stt_getL (j := 1) rfl), hz30, rfl⟩ (cal1L (j := 1)))) (chkP_some hz31))) (xt_notF (xt_eq (xt_tB (T := T) (xe_call (xa_cons (xe_var (i := 3) rfl) (xa_cons (xe_var (i := 7) rfl) (xa_cons (xe_var (i := 9) rfl) xa_nil))) ⟨(Ω.length + 1), pp9, z30.2, z22, y29, z32, rfl, (stt_getL (j := 1) rfl), hz32, rfl⟩ (cal1L (j := 1)))) (chkP_some hz33)))) ?_
      show XS (tSeq _ _) _ _ [some (va T (SF.mk x0)), some (va T a4), some (vr pp6), some (vr pp9), some (vr pp14), some (va T a18), some (va T z21.1), some (va T z22), some (va T z25), some (va T y29), none] (stt Ω [] [lstA T pp6 (z28.2 : List Int), machA T pp9 z32.2, machA T pp14 s17.2.2])
      obtain ⟨z34, hz34, hm⟩ := bnd_some hm
      obtain ⟨z35, hz35, hm⟩ := bnd_some hm
      obtain ⟨z36, hz36, hm⟩ := bnd_some hm
      obtain ⟨z37, hz37, hm⟩ := bnd_some hm
      refine xs_ifN (xt_notF (xt_eq (xt_tB (T := T) (xe_call (xa_cons (xe_var (i := 3) rfl) (xa_cons (xe_var (i := 8) rfl) (xa_cons (xe_add (xe_callD (Ds := [va T false]) (xa_cons (xe_var (i := 8) rfl) xa_nil) (fun _ => (.cons rfl .nil)) ⟨z25, false, z34, rfl, hz34, rfl⟩ cal0) (xe_call (xa_cons (xe_var (i := 2) rfl) (xa_cons xe_int xa_nil)) ⟨(Ω.length + 0), pp6, z28.2, (3 : Int), z35, rfl, (stt_getL (j := 0) rfl), hz35, rfl⟩ (cal1L (j := 0)))) (xa_cons xe_bl xa_nil)))) ⟨(Ω.length + 1), pp9, z32.2, z25, (z34 + z35.1), false, z36, rfl, (stt_getL (j := 1) rfl), hz36, rfl⟩ (cal1L (j := 1)))) (chkP_some hz37))) ?_
      show XS (tSeq _ _) _ _ [some (va T (SF.mk x0)), some (va T a4), some (vr pp6), some (vr pp9), some (vr pp14), some (va T a18), some (va T z21.1), some (va T z22), some (va T z25), some (va T y29), none] (stt Ω [] [lstA T pp6 (z35.2 : List Int), machA T pp9 z36.2, machA T pp14 s17.2.2])
      obtain ⟨z38, hz38, hm⟩ := bnd_some hm
      obtain ⟨z39, hz39, hm⟩ := bnd_some hm
      obtain ⟨z40, hz40, hm⟩ := bnd_some hm
      obtain ⟨z41, hz41, hm⟩ := bnd_some hm
      refine xs_ifN (xt_orF (xt_notF (xt_eq (xt_tB (T := T) (xe_call (xa_cons (xe_var (i := 3) rfl) (xa_cons (xe_var (i := 7) rfl) (xa_cons (xe_var (i := 8) rfl) xa_nil))) ⟨(Ω.length + 1), pp9, z36.2, z22, z25, z38, rfl, (stt_getL (j := 1) rfl), hz38, rfl⟩ (cal1L (j := 1)))) (chkP_some hz39))) (xt_notF (xt_eq (xt_tB (T := T) (xe_call (xa_cons (xe_var (i := 3) rfl) (xa_cons (xe_var (i := 7) rfl) xa_nil)) ⟨(Ω.length + 1), pp9, z38.2, z22, z40, rfl, (stt_getL (j := 1) rfl), hz40, rfl⟩ (cal1L (j := 1)))) (chkP_some hz41)))) ?_
      show XS (tSeq _ _) _ _ [some (va T (SF.mk x0)), some (va T a4), some (vr pp6), some (vr pp9), some (vr pp14), some (va T a18), some (va T z21.1), some (va T z22), some (va T z25), some (va T y29), none] (stt Ω [] [lstA T pp6 (z35.2 : List Int), machA T pp9 z40.2, machA T pp14 s17.2.2])
      obtain ⟨z42, hz42, hm⟩ := bnd_some hm
      obtain ⟨z43, hz43, hm⟩ := bnd_some hm
      refine xs_ifN (xt_notF (xt_eq (xt_tB (T := T) (xe_call (xa_cons (xe_var (i := 3) rfl) (xa_cons (xe_var (i := 7) rfl) (xa_cons (xe_var (i := 8) rfl) xa_nil))) ⟨kT, (Ω.length + 1), pp9, z40.2, z22, z25, z42, rfl, (stt_getU hkT), (stt_getL (j := 1) rfl), (ne_kL (by exact getlt hkT)).symm, hz42, rfl⟩ (cal1L (j := 1)))) (chkP_some hz43))) ?_
      show XS (tSeq _ _) _ _ [some (va T (SF.mk x0)), some (va T a4), some (vr pp6), some (vr pp9), some (vr pp14), some (va T a18), some (va T z21.1), some (va T z22), some (va T z25), some (va T y29), none] (stt Ω [] [lstA T pp6 (z35.2 : List Int), machA T pp9 z42.2, machA T pp14 s17.2.2])
      obtain ⟨z44, hz44, hm⟩ := bnd_some hm
      obtain ⟨z45, hz45, hm⟩ := bnd_some hm
      refine xs_set (A := va T (LF.mk z45.1)) (xe_callND (Ds := [va T (1 : Int), va T ("big" : Str)]) (xa_cons (xe_var (i := 4) rfl) (xa_cons (xe_call (xa_cons (xe_var (i := 4) rfl) (xa_cons (xe_var (i := 6) rfl) xa_nil)) ⟨(Ω.length + 2), pp14, s17.2.2, z21.1, z44, rfl, (stt_getL (j := 2) rfl), hz44, rfl⟩ cal0) (xa_cons (xe_var (i := 9) rfl) xa_nil))) (xa_cons xe_bl xa_nil) (fun _ => (.cons rfl (.cons rfl .nil))) ⟨(Ω.length + 2), pp14, s17.2.2, z44, y29, ("big" : Str), true, z45, rfl, (stt_getL (j := 2) rfl), hz45, rfl⟩ (cal1L (j := 2))) ?_
      show XS (tIfS _ _ _) _ _ [some (va T (SF.mk x0)), some (va T a4), some (vr pp6), some (vr pp9), some (vr pp14), some (va T a18), some (va T z21.1), some (va T z22), some (va T z25), some (va T y29), some (va T (LF.mk z45.1))] (stt Ω [] [lstA T pp6 (z35.2 : List Int), machA T pp9 z42.2, machA T pp14 z45.2])
      obtain ⟨z46, hz46, hm⟩ := bnd_some hm
      obtain ⟨z47, hz47, hm⟩ := bnd_some hm
      obtain ⟨z48, hz48, hm⟩ := bnd_some hm
      obtain ⟨z49, hz49, hm⟩ := bnd_some hm
      obtain ⟨z50, hz50, hm⟩ := bnd_some hm
      refine xs_ifF1 (xt_orF (xt_test (T := T) (xe_neK (chkP_some hz47) (by decide) (xe_var (i := 10) rfl) (xe_callND (Ds := [va T (1 : Int), va T ("big" : Str)]) (xa_cons (xe_var (i := 3) rfl) (xa_cons (xe_var (i := 7) rfl) (xa_cons (xe_var (i := 9) rfl) xa_nil))) (xa_cons xe_bl xa_nil) (fun _ => (.cons rfl (.cons rfl .nil))) ⟨(Ω.length + 1), pp9, z42.2, z22, y29, ("big" : Str), true, z46, rfl, (stt_getL (j := 1) rfl), hz46, rfl⟩ (cal1L (j := 1))) isD_va isD_va)) (xt_test (T := T) (xe_eq (xe_neI (xe_call (xa_cons (xe_callND (Ds := [va T ("big" : Str)]) (xa_cons (xe_var (i := 4) rfl) (xa_cons (xe_var (i := 10) rfl) xa_nil)) (xa_cons xe_bl xa_nil) (fun _ => (.cons rfl .nil)) ⟨(Ω.length + 2), pp14, z45.2, z45.1, ("big" : Str), true, z48, rfl, (stt_getL (j := 2) rfl), hz48, rfl⟩ (cal1L (j := 2))) xa_nil) ⟨z48.1, z49, rfl, hz49, rfl⟩ cal0) (xe_var (i := 6) rfl)) (neK_ (chkP_some hz50))))) ?_
      obtain rfl := Option.some.inj hm
      exact fun σ H n => hD.nx _ rfl σ H ((((((n.forget 6).forget 7).forget 8).forget 9).forget 10).forget 5)
    · subst es
      obtain ⟨s2, hs2, hm⟩ := bnd_some hm
      cases hs2
      obtain rfl := Option.some.inj hm
      exact fun σ H n => hD.nx _ rfl σ H (NX.cutL [] [lstA T pp6 (s52.1 : List Int), machA T pp9 s52.2.1, machA T pp14 s52.2.2] ((((n.forget 2).forget 3).forget 4).forget 1))
    · subst es
      cases hm
  · subst es
    obtain ⟨s2, hs2, hm⟩ := bnd_some hm
    cases hs2
    show XS (tRet _) _ _ [some (va T (SF.mk x0)), none, none, none, none, none, none, none, none, none, none] (stt Ω [] [])
    obtain rfl := Option.some.inj hm
    refine xs_ret xe_bl hrt.all
  · subst es
    cases hm
end
end P

set_option Elab.async false
set_option linter.all false
set_option maxRecDepth 100000
set_option exponentiation.threshold 4000
namespace P
open PySem L2 VL
/-- a source: three numbers -/
def Src (s : List Int) : Prop := ∃ a b c : Int, s = [a, b, c]
theorem cdiv_log {i j : Int} (h : 0 < j) (h2 : j.natAbs.log2 < 9000) : CDivW i j := ⟨h, h2⟩
theorem cdiv_small {i j : Int} (h : 0 < j) (h2 : j < 2 ^ 64) : CDivW i j := ⟨h, by
  have : j.natAbs < 2 ^ 64 := by omega
  have h0 : j.natAbs ≠ 0 := by omega
  have := (Nat.log2_lt h0 (k := 64)).mpr this
  omega⟩
theorem mul_l {a b : Int} (h1 : -(2 ^ 64) < a) (h2 : a < 2 ^ 64) : IntMulOk a b := .of_left (intBits_le_64 h1 h2)
theorem mul_r {a b : Int} (h1 : -(2 ^ 64) < b) (h2 : b < 2 ^ 64) : IntMulOk a b := .of_right (intBits_le_64 h1 h2)
theorem next_log {s : List Int} {m : Int} (hs : Src s) (h : 0 < m) (h2 : m.natAbs.log2 < 9000) : ∃ r s', M__law_next s m = some (r, s') ∧ Src s' ∧ 0 ≤ r ∧ r < m := by
  obtain ⟨a, b, c, rfl⟩ := hs
  unfold M__law_next
  rw [show atI [a, b, c] (0 : Int) = some a from rfl]
  simp only [Option.bind_some]
  by_cases ha : (0 : Int) < a
  · rw [if_pos (decide_eq_true ha), chkP_eq h, chkP_eq (cdiv_log h h2)]
    exact ⟨_, _, rfl, ⟨_, _, _, rfl⟩, Int.emod_nonneg _ (by omega), Int.emod_lt_of_pos _ h⟩
  · rw [if_neg (by simpa using ha)]
    rw [show atI [a, b, c] (2 : Int) = some c from rfl]
    simp only [Option.bind_some]
    rw [show ixN [a, b, c].length (2 : Int) = some 2 from rfl]
    simp only [Option.bind_some]
    rw [show [a, b, c].set 2 (c + 1) = [a, b, c + 1] from rfl, show atI [a, b, c + 1] (1 : Int) = some b from rfl, show atI [a, b, c + 1] (2 : Int) = some (c + 1) from rfl]
    simp only [Option.bind_some]
    rw [chkP_eq (mul_l (by decide) (by decide)), chkP_eq (by decide : (0 : Int) < 2147483647)]
    simp only [Option.bind_some]
    generalize hy : ((b + 104729 * (c + 1)) + 7919) % (2147483647 : Int) = y
    have hy1 : 0 ≤ y ∧ y < 2147483647 := by omega
    generalize hz : (y * 48271) % (2147483647 : Int) = z
    have hz1 : 0 ≤ z ∧ z < 2147483647 := by omega
    generalize hu : (z * ((z / 1009) + 69621)) % (2147483647 : Int) = u
    have hu1 : 0 ≤ u ∧ u < 2147483647 := by rw [← hu]; exact ⟨Int.emod_nonneg _ (by decide), Int.emod_lt_of_pos _ (by decide)⟩
    rw [chkP_eq (mul_r (by decide) (by decide)), chkP_eq (cdiv_small (by decide) (by decide)), chkP_eq (mul_l (by omega) (by omega)), chkP_eq (cdiv_small (by decide) (by decide)), chkP_eq (mul_l (by omega) (by omega)),
      chkP_eq (by decide : (0 : Int) < 2147483399), chkP_eq (cdiv_small (by decide) (by decide)), chkP_eq h]
    exact ⟨_, _, rfl, ⟨_, _, _, rfl⟩, Int.emod_nonneg _ (by omega), Int.emod_lt_of_pos _ h⟩
theorem next_ok {s : List Int} {m : Int} (hs : Src s) (h : 0 < m) (h2 : m < 2 ^ 64) : ∃ r s', M__law_next s m = some (r, s') ∧ Src s' ∧ 0 ≤ r ∧ r < m := next_log hs h (cdiv_small (i := 0) h h2).2
theorem one_ok {s l : List Int} (hs : Src s) (h : l ≠ []) (h2 : l.length < 100) : ∃ r s', M__law_one s l = some (r, s') ∧ Src s' ∧ r ∈ l := by
  have hp : 0 < l.length := List.length_pos_iff.mpr h
  obtain ⟨r, s', e, hs', r0, r1⟩ := next_ok hs (m := (l.length : Int)) (by omega) (by omega)
  obtain ⟨k, rfl⟩ := Int.eq_ofNat_of_zero_le r0
  have lt : k < l.length := by omega
  refine ⟨l[k], s', ?_, hs', List.getElem_mem lt⟩
  unfold M__law_one
  rw [e]
  show (atI l (k : Int)).bind _ = _
  rw [atI_nat (List.getElem?_eq_getElem lt)]
  rfl
theorem src_ok (x : Int) : ∃ s, M__law_source_of x = some s ∧ Src s := by
  have key : ∀ z : Int, ∃ s, ((chkP (CPow (10 : Int) (18 : Int))).bind fun z4 => (chkP (IntMulOk z (if (decide (((10 : Int) ^ ((18 : Int)).toNat) ≤ z)) = true then (1 : Int) else 0))).bind fun z5 => (chkP (0 < (2147483647 : Int))).bind fun z6 => some ([(z * (if (decide (((10 : Int) ^ ((18 : Int)).toNat) ≤ z)) = true then (1 : Int) else 0)), (z % (2147483647 : Int)), (0 : Int)] : List Int)) = some s ∧ Src s := fun z => by
    rw [chkP_eq (by unfold CPow; decide), chkP_eq (show IntMulOk z _ from by split <;> exact mul_r (by decide) (by decide)), chkP_eq (by decide : (0 : Int) < 2147483647)]
    exact ⟨_, rfl, _, _, _, rfl⟩
  unfold M__law_source_of
  by_cases h : (0 : Int) ≤ x
  · rw [if_pos (decide_eq_true h)]
    exact key x
  · rw [if_neg (by simpa using h), chkP_eq (mul_l (by decide) (by decide))]
    exact key _
theorem next_s {s : List Int} {m : Int} (hs : Src s) (h : 0 < m) (h2 : m < 2 ^ 64) : Sat (M__law_next s m) (fun r => Src r.2 ∧ 0 ≤ r.1 ∧ r.1 < m) := by
  obtain ⟨r, s', e, h1, h2, h3⟩ := next_ok hs h h2
  exact ⟨_, e, h1, h2, h3⟩
theorem one_s {s l : List Int} (hs : Src s) (h : l ≠ []) (h2 : l.length < 100) : Sat (M__law_one s l) (fun r => Src r.2 ∧ r.1 ∈ l) := by
  obtain ⟨r, s', e, h1, h2⟩ := one_ok hs h h2
  exact ⟨_, e, h1, h2⟩
theorem src_s (x : Int) : Sat (M__law_source_of x) Src := src_ok x
theorem mach_s {s : List Int} (hs : Src s) : Sat (M__law_machine s) (fun r => ∃ (W : Nat) (c : Int), r.1 = MS.fresh (W : Int) c ∧ 8 ≤ W ∧ W ≤ 30 ∧ Src r.2) := by
  unfold M__law_machine
  refine sat_bind (next_s hs (by decide) (by decide)) fun r1 ⟨h1, a1, b1⟩ => ?_
  refine sat_let ?_
  refine sat_bind (next_s h1 (by decide) (by decide)) fun r2 ⟨h2, a2, b2⟩ => ?_
  refine sat_bind (next_s h2 (by decide) (by decide)) fun r3 ⟨h3, a3, b3⟩ => ?_
  refine sat_bind (one_s h3 (List.cons_ne_nil _ _) (by show 3 < 100; decide)) fun r4 ⟨h4, m4⟩ => ?_
  refine sat_bind (one_s h4 (List.cons_ne_nil _ _) (by show 7 < 100; decide)) fun r5 ⟨h5, m5⟩ => ?_
  simp only [List.mem_cons, List.not_mem_nil, or_false] at m4 m5
  refine sat_chk (by omega) ?_
  obtain ⟨W, e⟩ := Int.eq_ofNat_of_zero_le (a := r5.1) (by omega)
  refine sat_some ⟨W, r4.1, by rw [← e], by omega, by omega, h5⟩
theorem power_ok {B : Int} (hB0 : 0 < B) (hB : B ≤ 1073741824) {i : Int} (h0 : 0 ≤ i) (h : i < 2 ^ 62) : M__law_power B i = some (B ^ i.toNat) := by
  have e : ∀ n : Nat, (rng 0 n).foldl (fun (s : Int) (_ : Int) => s * B) 1 = B ^ n := fun n => by
    induction n with
    | zero => rw [Int.pow_zero]; rfl
    | succ n ih =>
      have e : rng 0 (n + 1) = rng 0 n ++ [(0 : Int) + (n : Int)] := by
        unfold rng
        rw [List.range_succ, List.map_append]
        rfl
      rw [e, List.foldl_append, ih, Int.pow_succ]
      rfl
  unfold M__law_power
  rw [chkP_eq (by omega), Option.bind_some, forM_fold (fun (s : Int) (_ : Int) => s * B) (fun _ => True) (fun x _ s _ => ⟨by rw [chkP_eq (mul_r (by omega) (by omega))]; rfl, trivial⟩) trivial, e]
  rfl
theorem pow_sat {B : Int} (hB0 : 0 < B) (hB : B ≤ 1073741824) {i : Int} (h0 : 0 ≤ i) (h : i < 2 ^ 62) : Sat (M__law_power B i) (fun r => r = B ^ i.toNat) := ⟨_, power_ok hB0 hB h0 h, rfl⟩
theorem powB_le {B : Int} (h0 : 1 ≤ B) (hB : B ≤ 1073741824) (k : Nat) : 1 ≤ B ^ k ∧ B ^ k ≤ 2 ^ (30 * k) := by
  induction k with
  | zero => rw [Int.pow_zero, Nat.mul_zero, Int.pow_zero]; exact ⟨Int.le_refl _, Int.le_refl _⟩
  | succ k ih =>
    rw [Int.pow_succ, show 30 * (k + 1) = 30 * k + 30 from by omega, Int.pow_add]
    have h1 : B ^ k * B ≤ 2 ^ (30 * k) * B := Int.mul_le_mul_of_nonneg_right ih.2 (by omega)
    have h2 : (2 : Int) ^ (30 * k) * B ≤ 2 ^ (30 * k) * 2 ^ 30 := Int.mul_le_mul_of_nonneg_left (by omega) (Int.le_of_lt (ppos _))
    have h3 : 1 * B ≤ B ^ k * B := Int.mul_le_mul_of_nonneg_right ih.1 (by omega)
    omega
theorem powB_mono {B : Int} (h0 : 1 ≤ B) {i j : Nat} (h : i ≤ j) : B ^ i ≤ B ^ j := by
  obtain ⟨d, rfl⟩ := Nat.le.dest h
  rw [Int.pow_add]
  have p : 0 < B ^ i := Int.pow_pos (by omega)
  have q : 0 < B ^ d := Int.pow_pos (by omega)
  have := Int.mul_le_mul_of_nonneg_left (a := 1) (b := B ^ d) (c := B ^ i) (by omega) (by omega)
  omega
theorem drawn_g {s : List Int} {B : Int} {M : Int} (hs : Src s) (hB : 4 ≤ B) (hB2 : B ≤ 1073741824) (hM0 : 0 ≤ M) (hM : M ≤ 100) : Sat (M__law_drawn s B M) (fun r => Src r.2 ∧ ((r.1.natAbs : Nat) : Int) ≤ 2 * B ^ M.toNat) := by
  obtain ⟨m, rfl⟩ := Int.eq_ofNat_of_zero_le hM0
  unfold M__law_drawn
  refine sat_bind (next_s hs (by omega) (by omega)) fun r1 ⟨h1, a1, b1⟩ => ?_
  refine sat_chk (by omega) ?_
  refine sat_for (fun i st => (0 ≤ st.1 ∧ st.1 < B ^ i) ∧ Src st.2) (fun i x st hx ⟨⟨f0, f1⟩, hs2⟩ => ?_) ⟨⟨Int.le_refl _, by rw [Int.pow_zero]; exact Int.zero_lt_one⟩, h1⟩ fun st hst => sat_nx ?_
  · refine sat_bind (next_s hs2 (by omega) (by omega)) fun r2 ⟨h2, a2, b2⟩ => ?_
    refine sat_chk (mul_small' (by omega)) ?_
    refine sat_chk (cdiv_s (by decide) (by decide)) ?_
    refine sat_bind (one_s h2 (List.cons_ne_nil _ _) (by show 7 < 100; decide)) fun r3 ⟨h3, m3⟩ => ?_
    refine sat_let ?_
    simp only [List.mem_cons, List.not_mem_nil, or_false] at m3
    have e1 : (st.1 + 1) * B ≤ B ^ i * B := Int.mul_le_mul_of_nonneg_right (by omega) (by omega)
    rw [Int.add_mul, Int.one_mul] at e1
    have e0 : 0 ≤ st.1 * B := Int.mul_nonneg f0 (by omega)
    refine sat_end ⟨⟨?_, ?_⟩, h3⟩
    · show 0 ≤ st.1 * B + r3.1
      omega
    · show st.1 * B + r3.1 < B ^ (i + 1)
      rw [Int.pow_succ]
      omega
  · obtain ⟨⟨f0, f1⟩, hs2⟩ := hst
    rw [rng_len] at f1
    refine sat_bind (next_s hs2 (by omega) (by omega)) fun r2 ⟨h2, a2, b2⟩ => ?_
    refine sat_bind (pow_sat (by omega) hB2 a2 (by omega)) fun p hp => ?_
    refine sat_bind (next_s h2 (by omega) (by omega)) fun r3 ⟨h3, a3, b3⟩ => ?_
    have u1 := powB_mono (B := B) (by omega) (i := r1.1.toNat) (j := m) (by omega)
    have u2 := powB_mono (B := B) (by omega) (i := r2.1.toNat) (j := m) (by omega)
    have u3 := powB_le (B := B) (by omega) hB2 r2.1.toNat
    have u4 := powB_le (B := B) (by omega) hB2 m
    refine sat_chk (mul_small' (by split <;> decide)) ?_
    refine sat_let ?_
    refine sat_bind (one_s h3 (List.cons_ne_nil _ _) (by show 5 < 100; decide)) fun r4 ⟨h4, m4⟩ => ?_
    refine sat_some ⟨h4, ?_⟩
    simp only [List.mem_cons, List.not_mem_nil, or_false] at m4
    have key : 0 ≤ st.1 + p * (if decide (r3.1 = 0) = true then 1 else 0) ∧ st.1 + p * (if decide (r3.1 = 0) = true then 1 else 0) < 2 * B ^ m := by
      split
      · rw [Int.mul_one]; omega
      · rw [Int.mul_zero]; omega
    generalize st.1 + p * (if decide (r3.1 = 0) = true then 1 else 0) = v at *
    show ((r4.1.natAbs : Nat) : Int) ≤ 2 * B ^ ((m : Int)).toNat
    rw [Int.toNat_natCast]
    omega
theorem drawn_w {s : List Int} {W : Nat} {M : Int} (hs : Src s) (h8 : 8 ≤ W) (h : W ≤ 30) (hM0 : 0 ≤ M) (hM : M ≤ 100) : Sat (M__law_drawn s (2 ^ W) M) (fun r => Src r.2 ∧ r.1.natAbs < 2 ^ (W * M.toNat + 2)) :=
  sat_imp (drawn_g hs (by have : (2 : Int) ^ 8 ≤ 2 ^ W := ipow_le (b := 2) (by decide) h8; omega) (ipow_le (b := 2) (j := 30) (by decide) h) hM0 hM) fun r ⟨h1, h2⟩ => ⟨h1, by
    have e : ((2 : Int) ^ W) ^ M.toNat = 2 ^ (W * M.toNat) := Int.pow_mul.symm
    rw [e] at h2
    have := Nat.two_pow_pos (W * M.toNat)
    have pq := p2 (W * M.toNat)
    rw [Nat.pow_add]
    omega⟩
theorem cell_ok (ns : List Int) (i : Int) (h : ns.length ≤ 63) : ∃ z, M__law_cell_at ns i = some z := by
  have hc := cut_len ns (some i) (some (i + 1))
  unfold M__law_cell_at
  rw [chkP_eq (size_le (n := (cut ns (some i) (some (i + 1))).length + ([0] : List Int).length) (m := 64) (by show _ + 1 ≤ 64; omega) (by decide)), Option.bind_some]
  have lt : 0 < (cut ns (some i) (some (i + 1)) ++ [(0 : Int)]).length := by rw [List.length_append]; show 0 < _ + 1; omega
  exact ⟨_, bnd_of (atI_nat (j := 0) (List.getElem?_eq_getElem lt)) rfl⟩
/-! ### the program's functions -/
theorem top_ok {W : Nat} (h : W ≤ 30) : M_top_digit (W : Int) = some ((2 ^ W - 1 : Nat) : Int) := by
  unfold M_top_digit
  refine bnd_of (chkP_eq (shl_ok (k := 1) (by decide) (by omega) (by omega))) ?_
  rw [Int.toNat_natCast, Int.one_mul, p2, Int.ofNat_sub (Nat.two_pow_pos W)]
  rfl
theorem size_ok {W : Nat} (h8 : 8 ≤ W) (h : W ≤ 30) (n : Int) : M_size_of (W : Int) n = some ((sz W n.natAbs : Nat) : Int) := by
  unfold M_size_of
  refine bnd_of (chkP_eq (cdiv_s (by omega) (by omega))) ?_
  rw [intBits_abs]
  unfold sz
  congr 1
  rw [show ((bl n.natAbs : Nat) : Int) + (W : Int) - 1 = ((bl n.natAbs + W - 1 : Nat) : Int) from by omega]
  exact (Int.natCast_ediv _ _).symm
theorem kW_le {W k : Nat} (h : W ≤ 30) (hk : k ≤ 4194304) : k * W ≤ 125829120 := Nat.le_trans (Nat.mul_le_mul hk h) (by decide)
theorem low_ok {W k : Nat} (h : W ≤ 30) (n : Int) (hk : k ≤ 4194304) : M_low_part (W : Int) n (k : Int) = some (n % 2 ^ (k * W)) := by
  have hm := kW_le h hk
  unfold M_low_part
  refine bnd_of (chkP_eq (mul_small' (by omega))) ?_
  rw [← Int.natCast_mul]
  refine bnd_of (chkP_eq (shl_ok (k := 1) (by decide) (by omega) (by omega))) ?_
  rw [Int.toNat_natCast, Int.one_mul, p2, ← Int.natCast_one, ← Int.ofNat_sub (Nat.two_pow_pos _), and_low, p2]
theorem row_loop {W : Nat} (h : W ≤ 30) : ∀ (xs : List Int) (n : Int) (row : List Int), row.length + xs.length < 16777216 →
    forM' (ρ := Unit) (fun (a15 : Int) (s14 : Int × (List Int)) => (chkP (s14.2.length < sizeLine)).bind fun z16 => (chkP (0 ≤ (W : Int))).bind fun z17 => (some (s14.1 / 2 ^ ((W : Int)).toNat)).bind fun y18 => some (Stp.nx (y18, (s14.2 ++ [(Builtin.bitAnd s14.1 ((2 ^ W - 1 : Nat) : Int))])))) xs (n, row) = some (.nx (n / 2 ^ (xs.length * W), row ++ rw_ W n xs.length))
  | [], n, row, _ => by
    show some (Stp.nx (n, row)) = some (Stp.nx (n / 2 ^ (0 * W), row ++ []))
    rw [Nat.zero_mul, Int.pow_zero, Int.ediv_one, List.append_nil]
  | x :: r, n, row, hl => by
    rw [List.length_cons] at hl
    rw [forM_cons (s' := (n / 2 ^ W, row ++ [n % 2 ^ W])) (by
      refine bnd_of (chkP_eq (size_lt (m := 16777215) (by show row.length ≤ _; omega) (by decide))) ?_
      refine bnd_of (chkP_eq (by omega)) ?_
      refine bnd_of rfl ?_
      rw [Int.toNat_natCast, and_low]), row_loop h r _ _ (by rw [List.length_append]; show row.length + 1 + r.length < _; omega)]
    rw [ediv_pow, List.length_cons, show W + r.length * W = (r.length + 1) * W from by rw [Nat.succ_mul]; omega, List.append_assoc]
    rfl
theorem row_ok {W : Nat} (h8 : 8 ≤ W) (h : W ≤ 30) : ∀ (f k : Nat) (n : Int), k ≤ 32 * 2 ^ f → k ≤ 4194304 → M_row_of (f + 1) (W : Int) n (k : Int) = some (rw_ W n k) := by
  intro f
  induction f with
  | zero =>
    intro k n hk hk2
    rw [M_row_of_succ, if_neg (by rw [decide_eq_true_iff]; omega)]
    refine bnd_of (top_ok h) ?_
    refine bnd_of rfl ?_
    refine bnd_of (chkP_eq (by omega)) ?_
    rw [Int.toNat_natCast]
    refine bnd_of (row_loop h (rng 0 k) n [] (by rw [rng_len]; show 0 + k < _; omega)) ?_
    rw [rng_len]
    rfl
  | succ f ih =>
    intro k n hk hk2
    rw [M_row_of_succ]
    by_cases q : 32 < k
    · rw [if_pos (decide_eq_true (by omega))]
      refine bnd_of (chkP_eq (cdiv_s (by decide) (by decide))) ?_
      refine bnd_of rfl ?_
      rw [show (k : Int) / 2 = ((k / 2 : Nat) : Int) from rfl]
      have hp : 32 * 2 ^ (f + 1) = 2 * (32 * 2 ^ f) := by rw [Nat.pow_succ]; omega
      have hm := kW_le (k := k / 2) h (by omega)
      refine bnd_of (low_ok h n (by omega)) ?_
      refine bnd_of (ih (k / 2) _ (by omega) (by omega)) ?_
      refine bnd_of (chkP_eq (mul_small' (by omega))) ?_
      rw [← Int.natCast_mul, Int.toNat_natCast, show (k : Int) - ((k / 2 : Nat) : Int) = ((k - k / 2 : Nat) : Int) from by omega]
      refine bnd_of (chkP_eq (by omega)) ?_
      refine bnd_of (ih (k - k / 2) _ (by omega) (by omega)) ?_
      refine bnd_of (chkP_eq (size_le (m := 4194304) (by rw [rw_len, rw_len]; omega) (by decide))) ?_
      rw [rw_mod, ← rw_app, show k / 2 + (k - k / 2) = k from by omega]
    · rw [if_neg (by rw [decide_eq_true_iff]; omega)]
      refine bnd_of (top_ok h) ?_
      refine bnd_of rfl ?_
      refine bnd_of (chkP_eq (by omega)) ?_
      rw [Int.toNat_natCast]
      refine bnd_of (row_loop h (rng 0 k) n [] (by rw [rng_len]; show 0 + k < _; omega)) ?_
      rw [rng_len]
      rfl
/-- the number as the program keeps it -/
abbrev bg (W : Nat) (n : Int) : Bg := ⟨(W : Int), dg W n.natAbs, n⟩
theorem bigof_ok {W : Nat} {S : MS} (hS : S.w = (W : Int)) (h8 : 8 ≤ W) (h : W ≤ 30) {n : Int} (hn : sz W n.natAbs ≤ 4194304) : M_big_of S n = some (bg W n) := by
  unfold M_big_of
  rw [hS]
  refine bnd_of (size_ok h8 h n) ?_
  refine bnd_of (row_ok h8 h 19 _ _ (Nat.le_trans hn (by decide)) hn) ?_
  rw [rw_dg (by omega)]
theorem big_ok {W : Nat} {S : MS} (hS : S.w = (W : Int)) (h8 : 8 ≤ W) (h : W ≤ 30) {n : Int} (hn : sz W n.natAbs ≤ 4194304) : M_big S n = some (bg W n) := by
  unfold M_big
  refine bnd_of (show M_check_machine S = some () from bnd_of (chkP_eq rfl) rfl) ?_
  refine bnd_of (show M_is_integer n = some true from rfl) ?_
  refine bnd_of (chkP_eq rfl) ?_
  exact bnd_of (bigof_ok hS h8 h hn) rfl
def ord (a b : Int) : Int := if a < b then -1 else if a = b then 0 else 1
theorem cut_take {α : Type} (l : List α) {k : Nat} (hk : k ≤ l.length) : cut l none (some (k : Int)) = l.take k := by
  have h1 : HT.sIx l.length 0 none = 0 := rfl
  have h2 : HT.sIx l.length l.length (some (k : Int)) = k := by rw [HT.sIx_nat, Nat.min_eq_left hk]
  unfold cut
  rw [h1, h2, List.drop_zero, Nat.sub_zero]
theorem cut_drop {α : Type} (l : List α) {k : Nat} (hk : k ≤ l.length) : cut l (some (k : Int)) none = l.drop k := by
  have h1 : HT.sIx l.length 0 (some (k : Int)) = k := by rw [HT.sIx_nat, Nat.min_eq_left hk]
  have h2 : HT.sIx l.length l.length none = l.length := rfl
  unfold cut
  rw [h1, h2]
  exact List.take_of_length_le (by rw [List.length_drop]; omega)
theorem lv_foldr (B : Int) : ∀ l : List Int, l.foldr (fun d s => s * B + d) 0 = lv B l
  | [] => rfl
  | d :: r => by
    rw [List.foldr_cons, lv_foldr B r, Int.mul_comm]
    show B * lv B r + d = d + B * lv B r
    omega
theorem num_loop {W : Nat} : ∀ (xs : List Int) (m : Nat) (s : Int), (∀ x ∈ xs, 0 ≤ x ∧ x < (2 : Int) ^ W) → 0 ≤ s → s < 2 ^ (W * m) → W * (m + xs.length) + W ≤ 134217728 →
    forM' (ρ := Unit) (fun (a9 : Int) (s8 : Int) => (chkP (CShl s8 (W : Int))).bind fun z10 => (some ((s8 * 2 ^ ((W : Int)).toNat) + a9)).bind fun y11 => some (Stp.nx y11)) xs s = some (.nx (xs.foldl (fun s d => s * 2 ^ W + d) s))
  | [], m, s, _, _, _, _ => rfl
  | x :: r, m, s, hd, s0, s1, hl => by
    have hx := hd x List.mem_cons_self
    rw [List.length_cons] at hl
    have e1 : (s + 1) * 2 ^ W ≤ 2 ^ (W * m) * 2 ^ W := Int.mul_le_mul_of_nonneg_right (by omega) (Int.le_of_lt (ppos W))
    rw [Int.add_mul, Int.one_mul, ← Int.pow_add] at e1
    have e0 : 0 ≤ s * 2 ^ W := Int.mul_nonneg s0 (Int.le_of_lt (ppos W))
    have el : W * (m + (r.length + 1)) = W * m + W * r.length + W := by rw [Nat.mul_add, Nat.mul_add, Nat.mul_one]; omega
    rw [forM_cons (s' := s * 2 ^ W + x) (by
      refine bnd_of (chkP_eq (shl_ok (nat_of s0 s1) (by omega) (by omega))) ?_
      refine bnd_of rfl ?_
      rw [Int.toNat_natCast]), num_loop r (m + 1) _ (fun y hy => hd y (List.mem_cons_of_mem _ hy)) (by omega) (by rw [Nat.mul_succ]; omega) (by rw [show m + 1 + r.length = m + (r.length + 1) from by omega]; exact hl)]
    rfl
theorem num_base {W : Nat} {row : List Int} (h : W ≤ 30) (hd : ∀ x ∈ row, 0 ≤ x ∧ x < (2 : Int) ^ W) (hl : row.length ≤ 32) :
    ((forM' (ρ := Unit) (fun (a9 : Int) (s8 : Int) => (chkP (CShl s8 (W : Int))).bind fun z10 => (some ((s8 * 2 ^ ((W : Int)).toNat) + a9)).bind fun y11 => some (Stp.nx y11)) ((row).reverse) (0 : Int)).bind fun z12 => (nxt z12).bind fun s13 => some s13) = some (lv (2 ^ W) row) := by
  have := Nat.mul_le_mul h hl
  refine bnd_of (num_loop row.reverse 0 0 (fun x hx => hd x (List.mem_reverse.mp hx)) (Int.le_refl _) (by rw [Nat.mul_zero, Int.pow_zero]; exact Int.zero_lt_one) (by rw [List.length_reverse, Nat.zero_add]; omega)) ?_
  rw [List.foldl_reverse, lv_foldr]
  rfl
theorem num_ok {W : Nat} (h8 : 8 ≤ W) (h : W ≤ 30) : ∀ (f : Nat) (row : List Int), (∀ x ∈ row, 0 ≤ x ∧ x < (2 : Int) ^ W) → row.length ≤ 32 * 2 ^ f → row.length ≤ 2097152 → M_number_of (f + 1) (W : Int) row = some (lv (2 ^ W) row) := by
  intro f
  induction f with
  | zero =>
    intro row hd hl _
    rw [M_number_of_succ, Option.bind_some, if_neg (by rw [decide_eq_true_iff]; omega)]
    exact num_base h hd (by omega)
  | succ f ih =>
    intro row hd hl hl2
    rw [M_number_of_succ, Option.bind_some]
    by_cases q : 32 < row.length
    · rw [if_pos (decide_eq_true (by omega))]
      refine bnd_of (chkP_eq (cdiv_s (by decide) (by decide))) ?_
      refine bnd_of rfl ?_
      rw [show ((row.length : Nat) : Int) / 2 = ((row.length / 2 : Nat) : Int) from rfl, cut_take row (by omega), cut_drop row (by omega)]
      have hp : 32 * 2 ^ (f + 1) = 2 * (32 * 2 ^ f) := by rw [Nat.pow_succ]; omega
      have d1 : ∀ x ∈ row.take (row.length / 2), 0 ≤ x ∧ x < (2 : Int) ^ W := fun x hx => hd x (List.mem_of_mem_take hx)
      have d2 : ∀ x ∈ row.drop (row.length / 2), 0 ≤ x ∧ x < (2 : Int) ^ W := fun x hx => hd x (List.mem_of_mem_drop hx)
      refine bnd_of (ih _ d1 (by rw [List.length_take]; omega) (by rw [List.length_take]; omega)) ?_
      refine bnd_of (ih _ d2 (by rw [List.length_drop]; omega) (by rw [List.length_drop]; omega)) ?_
      have kb : row.length / 2 * W ≤ 31457280 := Nat.le_trans (Nat.mul_le_mul (show row.length / 2 ≤ 1048576 by omega) h) (by decide)
      have kb2 : W * (row.drop (row.length / 2)).length ≤ 31457310 := Nat.le_trans (Nat.mul_le_mul h (show (row.drop (row.length / 2)).length ≤ 1048577 by rw [List.length_drop]; omega)) (by decide)
      have bd := lv_bound (ppos W) d2
      rw [← Int.pow_mul] at bd
      refine bnd_of (chkP_eq (mul_small' (by omega))) ?_
      rw [← Int.natCast_mul]
      refine bnd_of (chkP_eq (shl_ok (nat_of bd.1 bd.2) (by omega) (by omega))) ?_
      rw [Int.toNat_natCast, lv_split (row.length / 2) row (by omega), ← Int.pow_mul, Nat.mul_comm W, Int.mul_comm (2 ^ (row.length / 2 * W))]
    · rw [if_neg (by rw [decide_eq_true_iff]; omega)]
      exact num_base h hd (by omega)
theorem fit_ok {W : Nat} {S : MS} (hS : S.w = (W : Int)) (a : Int) (x : Str) : M_check_fit S (bg W a) x = some () := by
  unfold M_check_fit M_check_big
  exact bnd_of (a := ()) (bnd_of (a := ()) (chkP_eq rfl) rfl) (bnd_of (a := ()) (chkP_eq hS.symm) rfl)
theorem one_big {W : Nat} {S : MS} (hS : S.w = (W : Int)) (a : Int) : M_check_one S (bg W a) = some () := by
  unfold M_check_one M_check_machine
  exact bnd_of (a := ()) (bnd_of (a := ()) (chkP_eq rfl) rfl) (bnd_of (fit_ok hS a _) rfl)
theorem two_ok {W : Nat} {S : MS} (hS : S.w = (W : Int)) (a b : Int) : M_check_two S (bg W a) (bg W b) = some () := by
  unfold M_check_two
  exact bnd_of (one_big hS a) (bnd_of (fit_ok hS b _) rfl)
/-- both have at most one digit -/
def cpt (W : Nat) (x y : Int) : Bool := decide (sz W x.natAbs ≤ 1) && decide (sz W y.natAbs ≤ 1)
theorem compact_ok {W : Nat} {S : MS} (hS : S.w = (W : Int)) (hw : W ≠ 0) (x y : Int) : M_are_compact S x y = some (cpt W x y) := by
  unfold M_are_compact cpt
  rw [hS, intBits_abs, intBits_abs]
  have e : ∀ n : Int, decide (((bl n.natAbs : Nat) : Int) ≤ (W : Int)) = decide (sz W n.natAbs ≤ 1) := fun n => decide_eq_decide.mpr (by rw [sz_one hw]; omega)
  rw [e, e]
/-- what comparing two rows of one size counts -/
def lookN (W a b : Nat) : Int := ((sz W a : Nat) : Int) - max (((sz W (a ^^^ b) : Nat) : Int) - 1) 0
theorem ldiff_ok {W : Nat} {S : MS} (hS : S.w = (W : Int)) (h8 : 8 ≤ W) (h : W ≤ 30) (a b : Nat) : M_last_difference S (a : Int) (b : Int) = some (((sz W (a ^^^ b) : Nat) : Int) - 1, S.step "looked" (lookN W a b)) := by
  unfold M_last_difference
  rw [hS]
  refine bnd_of (size_ok h8 h _) ?_
  refine bnd_of (size_ok h8 h _) ?_
  refine bnd_of rfl ?_
  refine bnd_of (chkP_eq (by decide +kernel)) ?_
  rw [bxor_nat, Int.natAbs_natCast, Int.natAbs_natCast]
  rfl
def addS (S : MS) (m n : Int) : MS := (S.enter "add" m n).step "sum" (max m n)
def takS (W : Nat) (S : MS) (a b : Nat) : MS := if sz W a = sz W b then ((S.enter "take" (sz W a : Nat) (sz W b : Nat)).step "looked" (lookN W a b)).step "sum" (sz W (a ^^^ b) : Nat) else (S.enter "take" (sz W a : Nat) (sz W b : Nat)).step "sum" (max ((sz W a : Nat) : Int) (sz W b : Nat))
/-- what a sum (t = 1), a difference (t = -1) counts -/
def joinS (W : Nat) (S : MS) (x y t : Int) : MS :=
  if cpt W x y = true then S.step "short" 1 else
  if decide (decide (x < 0) = decide (y < 0)) = decide (t = 1) then addS S (sz W x.natAbs : Nat) (sz W y.natAbs : Nat) else
  if x < 0 then takS W S y.natAbs x.natAbs else takS W S x.natAbs y.natAbs
theorem added_ok (S : MS) (a m b n : Int) : M_added S a m b n = some (a + b, addS S m n) := by
  unfold M_added
  exact bnd_of (chkP_eq (by decide +kernel)) rfl
theorem taken_ok {W : Nat} {S : MS} (hS : S.w = (W : Int)) (h8 : 8 ≤ W) (h : W ≤ 30) (a b : Nat) : M_taken S (a : Int) (b : Int) = some ((a : Int) - b, takS W S a b) := by
  unfold M_taken takS
  rw [hS]
  refine bnd_of (size_ok h8 h _) ?_
  refine bnd_of (size_ok h8 h _) ?_
  rw [Int.natAbs_natCast, Int.natAbs_natCast]
  by_cases e : sz W a = sz W b
  · rw [if_pos (decide_eq_true (by rw [e])), if_pos e]
    refine bnd_of (bnd_of (ldiff_ok (S := S.enter "take" (sz W a : Nat) (sz W b : Nat)) hS h8 h a b) (bnd_of (chkP_eq (by decide +kernel)) rfl)) ?_
    rw [show ((sz W (a ^^^ b) : Nat) : Int) - 1 + 1 = ((sz W (a ^^^ b) : Nat) : Int) from by omega]
  · rw [if_neg (by rw [decide_eq_true_iff]; omega), if_neg e]
    exact bnd_of (bnd_of (chkP_eq (by decide +kernel)) rfl) rfl
theorem joined_ok {W : Nat} {S : MS} (hS : S.w = (W : Int)) (h8 : 8 ≤ W) (h : W ≤ 30) {x y t : Int} (ht : t = 1 ∨ t = -1) : M_joined S x y t = some (x + t * y, joinS W S x y t) := by
  unfold M_joined joinS
  refine bnd_of (compact_ok hS (by omega) x y) ?_
  by_cases q : cpt W x y = true
  · rw [if_pos q, if_pos q]
    refine bnd_of (chkP_eq (by decide +kernel)) ?_
    exact bnd_of (chkP_eq (mul_small (by rcases ht with e | e <;> subst e <;> decide))) rfl
  · rw [if_neg q, if_neg q]
    by_cases s : decide (decide (x < 0) = decide (y < 0)) = decide (t = 1)
    · rw [if_pos (decide_eq_true s), if_pos s, hS]
      refine bnd_of (size_ok h8 h _) ?_
      refine bnd_of (size_ok h8 h _) ?_
      refine bnd_of (added_ok _ _ _ _ _) ?_
      congr 2
      by_cases x0 : x < 0
      · rw [if_pos (decide_eq_true x0)]
        by_cases y0 : y < 0
        · rw [decide_eq_true x0, decide_eq_true y0] at s
          rcases ht with e | e
          · subst e; omega
          · subst e; exact absurd s (by decide)
        · rw [decide_eq_true x0, decide_eq_false y0] at s
          rcases ht with e | e
          · subst e; exact absurd s (by decide)
          · subst e; omega
      · rw [if_neg (by simpa using x0)]
        by_cases y0 : y < 0
        · rw [decide_eq_false x0, decide_eq_true y0] at s
          rcases ht with e | e
          · subst e; exact absurd s (by decide)
          · subst e; omega
        · rw [decide_eq_false x0, decide_eq_false y0] at s
          rcases ht with e | e
          · subst e; omega
          · subst e; exact absurd s (by decide)
    · rw [if_neg (by simpa using s), if_neg s]
      have key : (x < 0 → ((y.natAbs : Nat) : Int) - ((x.natAbs : Nat) : Int) = x + t * y) ∧ (¬ x < 0 → ((x.natAbs : Nat) : Int) - ((y.natAbs : Nat) : Int) = x + t * y) := by
        by_cases x0 : x < 0 <;> by_cases y0 : y < 0 <;> rcases ht with e | e <;> subst e <;> first | exact ⟨fun _ => by omega, fun _ => by omega⟩ | exact absurd (by simp [x0, y0]) s
      by_cases x0 : x < 0
      · rw [if_pos (decide_eq_true x0), if_pos x0]
        refine bnd_of (taken_ok hS h8 h _ _) ?_
        rw [key.1 x0]
      · rw [if_neg (by simpa using x0), if_neg x0]
        refine bnd_of (taken_ok hS h8 h _ _) ?_
        rw [key.2 x0]
theorem joinS_w {W : Nat} {S : MS} {x y t : Int} : (joinS W S x y t).w = S.w := by
  have h1 : ∀ (S : MS) (w : Str) (n : Int), (S.step w n).w = S.w := fun _ _ _ => rfl
  have h2 : ∀ (S : MS) (w : Str) (m n : Int), (S.enter w m n).w = S.w := fun _ _ _ _ => rfl
  unfold joinS addS takS
  (repeat' split) <;> rfl
theorem eq_self (W : Nat) (n : Int) : M_Big_eq (bg W n) (bg W n) = some true := by
  unfold M_Big_eq
  rw [decide_eq_true rfl, decide_eq_true rfl]
  rfl
theorem cshift_ok {W : Nat} {S : MS} (hS : S.w = (W : Int)) (a : Int) {c : Int} (hc : 0 ≤ c) : M_check_shift S (bg W a) c = some () := by
  unfold M_check_shift
  refine bnd_of (one_big hS a) ?_
  refine bnd_of (show M_is_integer c = some true from rfl) ?_
  refine bnd_of (chkP_eq rfl) ?_
  exact bnd_of (chkP_eq (decide_eq_false (by omega))) rfl
/-- what a shift to the left counts -/
def leftS (W : Nat) (S : MS) (x c : Int) : MS := if x = 0 then S else if sz W x.natAbs = 1 ∧ c < (W : Int) then S.step "short" 1 else (S.enter "left" (sz W x.natAbs : Nat) c).step "shifted" (sz W x.natAbs : Nat)
theorem leftS_w {W : Nat} {S : MS} {x c : Int} : (leftS W S x c).w = S.w := by
  unfold leftS
  (repeat' split) <;> rfl
theorem sleft_ok {W : Nat} {S : MS} (hS : S.w = (W : Int)) (h8 : 8 ≤ W) (h : W ≤ 30) {x : Int} {c : Nat} (hx : x ≠ 0 → bl x.natAbs + c ≤ 134217728) : M_shifted_left S x (c : Int) = some (x * 2 ^ c, leftS W S x c) := by
  unfold M_shifted_left leftS
  by_cases e : x = 0
  · rw [if_pos (decide_eq_true e), if_pos e, e, Int.zero_mul]
  · rw [if_neg (by simpa using e), if_neg e, hS]
    refine bnd_of (size_ok h8 h x) ?_
    refine bnd_of (a := if sz W x.natAbs = 1 ∧ (c : Int) < (W : Int) then S.step "short" 1 else (S.enter "left" (sz W x.natAbs : Nat) c).step "shifted" (sz W x.natAbs : Nat)) ?_ ?_
    · by_cases q : sz W x.natAbs = 1 ∧ (c : Int) < (W : Int)
      · rw [if_pos (by rw [decide_eq_true (by rw [q.1]; rfl), decide_eq_true q.2]; rfl), if_pos q]
        exact bnd_of (chkP_eq (by decide +kernel)) rfl
      · rw [if_neg (by rw [Bool.and_eq_true, decide_eq_true_iff, decide_eq_true_iff]; omega), if_neg q]
        exact bnd_of (chkP_eq (by decide +kernel)) rfl
    · refine bnd_of (chkP_eq (shl_ok (k := bl x.natAbs) (bl_lt _) (by omega) (by have := hx e; omega))) ?_
      rw [Int.toNat_natCast]
theorem left_ok {W : Nat} {S : MS} (hS : S.w = (W : Int)) (h8 : 8 ≤ W) (h : W ≤ 30) {x : Int} {c : Nat} (hc : x ≠ 0 → c ≤ 100000) (hx : bl x.natAbs ≤ 30000000) : M_shift_left S (bg W x) (c : Int) = some (bg W (x * 2 ^ c), leftS W S x c) := by
  unfold M_shift_left
  refine bnd_of (cshift_ok hS x (by omega)) ?_
  refine bnd_of (chkP_eq ?_) ?_
  · by_cases e : x = 0
    · rw [decide_eq_true (show (bg W x).v = 0 from e)]; rfl
    · have := hc e
      rw [decide_eq_false (show ¬ (100000 : Int) < (c : Int) from by omega)]
      exact Bool.and_false _
  · refine bnd_of (sleft_ok (x := x) hS h8 h fun e => by have := hc e; omega) ?_
    refine bnd_of (bigof_ok (leftS_w.trans hS) h8 h ?_) rfl
    rw [sz_le (by omega), ← bl_le]
    by_cases e : x = 0
    · rw [e, Int.zero_mul]; exact Nat.zero_le _
    · have hc2 := hc e
      rw [Int.natAbs_mul, Int.natAbs_pow]
      have : bl (x.natAbs * 2 ^ c) ≤ bl x.natAbs + c := by
        rw [bl_le, Nat.pow_add]
        exact Nat.mul_lt_mul_of_pos_right (bl_lt _) (Nat.two_pow_pos c)
      exact Nat.le_trans this (by omega)
/-- what the steps of a shift to the right count -/
def crsS (W : Nat) (S : MS) (neg : Bool) (z c : Int) : MS :=
  let f := if neg = true ∧ c = c / (W : Int) * (W : Int) then c / (W : Int) - 1 else c / (W : Int)
  if z ≤ f then S else (if neg = true then S.step "looked" f else S).step "shifted" (z - 1 - f)
def rightS (W : Nat) (S : MS) (x c : Int) : MS :=
  if sz W x.natAbs = 0 ∨ (1 < sz W x.natAbs ∧ x < 0 ∧ c = 0) then S else
  if sz W x.natAbs = 1 then S.step "short" 1 else crsS W (S.enter "right" (sz W x.natAbs : Nat) c) (decide (x < 0)) (sz W x.natAbs : Nat) c
theorem crsS_w {W : Nat} {S : MS} {g : Bool} {z c : Int} : (crsS W S g z c).w = S.w := by
  unfold crsS
  dsimp only
  (repeat' split) <;> rfl
theorem rightS_w {W : Nat} {S : MS} {x c : Int} : (rightS W S x c).w = S.w := by
  unfold rightS
  split
  · rfl
  · split
    · rfl
    · rw [crsS_w]; rfl
theorem crs_ok {W : Nat} {S : MS} (hS : S.w = (W : Int)) (h8 : 8 ≤ W) (h : W ≤ 30) (g : Bool) (z c : Int) : M_count_right_steps S g z c = some ((), crsS W S g z c) := by
  unfold M_count_right_steps crsS
  rw [hS]
  refine bnd_of (chkP_eq (cdiv_s (by omega) (by omega))) ?_
  refine bnd_of rfl ?_
  refine bnd_of (a := decide (g = true ∧ c = c / (W : Int) * (W : Int))) ?_ ?_
  · cases g with
    | true =>
      rw [if_pos rfl]
      refine bnd_of (chkP_eq (mul_small' (by omega))) ?_
      congr 1
      exact decide_eq_decide.mpr (by simp)
    | false =>
      rw [if_neg Bool.false_ne_true, decide_eq_false (fun z => absurd z.1 Bool.false_ne_true)]
  · refine bnd_of (a := if g = true ∧ c = c / (W : Int) * (W : Int) then c / (W : Int) - 1 else c / (W : Int)) ?_ ?_
    · by_cases q : g = true ∧ c = c / (W : Int) * (W : Int)
      · rw [if_pos (decide_eq_true q), if_pos q]; rfl
      · rw [if_neg (by simpa using q), if_neg q]
    · dsimp only
      generalize (if g = true ∧ c = c / (W : Int) * (W : Int) then c / (W : Int) - 1 else c / (W : Int)) = f
      by_cases q : z ≤ f
      · rw [if_pos (decide_eq_true q), if_pos q]
      · rw [if_neg (by simpa using q), if_neg q]
        refine bnd_of (a := if g = true then S.step "looked" f else S) ?_ (bnd_of (chkP_eq (by decide +kernel)) rfl)
        cases g with
        | true => rw [if_pos rfl, if_pos rfl]; exact bnd_of (chkP_eq (by decide +kernel)) rfl
        | false => rw [if_neg Bool.false_ne_true, if_neg Bool.false_ne_true]
/-- behind all bits nothing changes -/
theorem shr_min (x : Int) (c : Nat) : x / 2 ^ (min c (bl x.natAbs)) = x / 2 ^ c := by
  by_cases h : c ≤ bl x.natAbs
  · rw [Nat.min_eq_left h]
  · rw [Nat.min_eq_right (by omega)]
    have key : ∀ k, bl x.natAbs ≤ k → x / 2 ^ k = if x < 0 then -1 else 0 := fun k hk => by
      have hb : x.natAbs < 2 ^ k := bl_le.mp hk
      have hp := ppos k
      have hb2 : -(2 ^ k) < x ∧ x < 2 ^ k := int_of hb
      by_cases x0 : x < 0
      · rw [if_pos x0]
        have h1 : x / 2 ^ k < 0 := Int.ediv_neg_of_neg_of_pos x0 hp
        have h2 : -1 ≤ x / 2 ^ k := by
          rw [Int.le_ediv_iff_mul_le hp]
          omega
        omega
      · rw [if_neg x0]
        exact Int.ediv_eq_zero_of_lt (by omega) hb2.2
    rw [key _ (Nat.le_refl _), key _ (by omega)]
theorem sright_ok {W : Nat} {S : MS} (hS : S.w = (W : Int)) (h8 : 8 ≤ W) (h : W ≤ 30) (x : Int) (c : Nat) : M_shifted_right S x (c : Int) = some (x / 2 ^ c, rightS W S x c) := by
  unfold M_shifted_right rightS
  rw [hS]
  refine bnd_of (size_ok h8 h x) ?_
  by_cases q : sz W x.natAbs = 0 ∨ (1 < sz W x.natAbs ∧ x < 0 ∧ (c : Int) = 0)
  · rw [if_pos (by
      rw [Bool.or_eq_true, Bool.and_eq_true, Bool.and_eq_true, decide_eq_true_iff, decide_eq_true_iff, decide_eq_true_iff, decide_eq_true_iff]
      omega), if_pos q]
    congr 2
    rcases q with q | q
    · have := (sz_zero (by omega)).mp q
      have : x = 0 := by omega
      rw [this, Int.zero_ediv]
    · have : c = 0 := by omega
      rw [this, Int.pow_zero, Int.ediv_one]
  · rw [if_neg (by
      rw [Bool.or_eq_true, Bool.and_eq_true, Bool.and_eq_true, decide_eq_true_iff, decide_eq_true_iff, decide_eq_true_iff, decide_eq_true_iff]
      omega), if_neg q]
    refine bnd_of (a := if sz W x.natAbs = 1 then S.step "short" 1 else crsS W (S.enter "right" (sz W x.natAbs : Nat) c) (decide (x < 0)) (sz W x.natAbs : Nat) c) ?_ ?_
    · by_cases e : sz W x.natAbs = 1
      · rw [if_pos (decide_eq_true (by rw [e]; rfl)), if_pos e]
        exact bnd_of (chkP_eq (by decide +kernel)) rfl
      · rw [if_neg (by rw [decide_eq_true_iff]; omega), if_neg e]
        exact bnd_of (crs_ok (S := S.enter "right" (sz W x.natAbs : Nat) c) hS h8 h _ _ _) rfl
    · rw [intBits_abs, show min (c : Int) ((bl x.natAbs : Nat) : Int) = ((min c (bl x.natAbs) : Nat) : Int) from by omega]
      refine bnd_of (chkP_eq (by omega)) ?_
      rw [Int.toNat_natCast, shr_min]
theorem shr_abs (x : Int) (c : Nat) : (x / 2 ^ c).natAbs ≤ x.natAbs := by
  have hp := ppos c
  by_cases x0 : x < 0
  · have h1 : x / 2 ^ c < 0 := Int.ediv_neg_of_neg_of_pos x0 hp
    have h2 : x ≤ x / 2 ^ c := by
      rw [Int.le_ediv_iff_mul_le hp]
      have := Int.mul_le_mul_of_nonpos_left (a := x) (b := 2 ^ c) (c := 1) (by omega) (by omega)
      omega
    omega
  · have h1 : 0 ≤ x / 2 ^ c := Int.ediv_nonneg (by omega) (by omega)
    have h2 : x / 2 ^ c ≤ x := Int.ediv_le_self _ (by omega)
    omega
theorem right_ok {W : Nat} {S : MS} (hS : S.w = (W : Int)) (h8 : 8 ≤ W) (h : W ≤ 30) {x : Int} (c : Nat) (hx : sz W x.natAbs ≤ 4194304) : M_shift_right S (bg W x) (c : Int) = some (bg W (x / 2 ^ c), rightS W S x c) := by
  unfold M_shift_right
  refine bnd_of (cshift_ok hS x (by omega)) ?_
  refine bnd_of (sright_ok hS h8 h x c) ?_
  refine bnd_of (bigof_ok (rightS_w.trans hS) h8 h ?_) rfl
  rw [sz_le (by omega)] at hx ⊢
  exact Nat.lt_of_le_of_lt (shr_abs x c) hx
theorem nab_rng {x : Int} {k : Nat} (h : x.natAbs < 2 ^ k) : -(2 ^ k) ≤ x ∧ x < 2 ^ k := by
  have := int_of h
  omega
theorem rng_sz {W k : Nat} (h8 : 8 ≤ W) {x : Int} (hk : k ≤ 33554424) (h : -(2 ^ k) ≤ x ∧ x < 2 ^ k) : sz W x.natAbs ≤ 4194304 := by
  rw [sz_le (by omega)]
  have hp := p2 k
  have : x.natAbs < 2 ^ (k + 1) := by rw [Nat.pow_succ]; omega
  exact Nat.lt_of_lt_of_le this (Nat.pow_le_pow_right (by decide) (by omega))
def ccS (S : MS) (n : Int) : MS := (S.enter "complement" n 0).step "complemented" n
theorem cc_ok (S : MS) (n : Int) : M_count_complement S n = some ((), ccS S n) := by
  unfold M_count_complement
  exact bnd_of (chkP_eq (by decide +kernel)) rfl
/-- whether the shorter row is that of a number below 0 -/
def sbel (W : Nat) (x y : Int) : Bool := if sz W x.natAbs < sz W y.natAbs then decide (x < 0) else decide (y < 0)
def comb1 (W : Nat) (S : MS) (word : Str) (x y : Int) : MS := S.enter word (sz W x.natAbs : Nat) (sz W y.natAbs : Nat)
def comb2 (W : Nat) (S : MS) (word : Str) (x y : Int) : MS := if x < 0 then ccS (comb1 W S word x y) (sz W x.natAbs : Nat) else comb1 W S word x y
def comb3 (W : Nat) (S : MS) (word : Str) (x y : Int) : MS := if y < 0 then ccS (comb2 W S word x y) (sz W y.natAbs : Nat) else comb2 W S word x y
def combN (W : Nat) (word : Str) (x y : Int) : Int := if word = "xor" ∧ sbel W x y = true then max ((sz W x.natAbs : Nat) : Int) (sz W y.natAbs : Nat) else min ((sz W x.natAbs : Nat) : Int) (sz W y.natAbs : Nat)
def combM (W : Nat) (word : Str) (x y : Int) : Int := if word = "or" ∧ sbel W x y = true then min ((sz W x.natAbs : Nat) : Int) (sz W y.natAbs : Nat) else max ((sz W x.natAbs : Nat) : Int) (sz W y.natAbs : Nat)
def combS (W : Nat) (S : MS) (word : Str) (x y r : Int) : MS :=
  if cpt W x y = true then S.step "short" 1 else
  if r < 0 then ccS ((comb3 W S word x y).step "combined" (combN W word x y)) (combM W word x y + 1) else (comb3 W S word x y).step "combined" (combN W word x y)
theorem combS_w {W : Nat} {S : MS} {word : Str} {x y r : Int} : (combS W S word x y r).w = S.w := by
  unfold combS ccS comb3 ccS comb2 ccS comb1
  (repeat' split) <;> rfl
theorem comb_ok {W : Nat} {S : MS} (hS : S.w = (W : Int)) (h8 : 8 ≤ W) (h : W ≤ 30) (word : Str) (x y r : Int) : M_count_combining S word x y r = some ((), combS W S word x y r) := by
  unfold M_count_combining combS
  refine bnd_of (compact_ok hS (by omega) x y) ?_
  by_cases q : cpt W x y = true
  · rw [if_pos q, if_pos q]
    exact bnd_of (chkP_eq (by decide +kernel)) rfl
  · rw [if_neg q, if_neg q, hS]
    refine bnd_of (size_ok h8 h x) ?_
    refine bnd_of (size_ok h8 h y) ?_
    refine bnd_of (a := comb2 W S word x y) ?_ ?_
    · unfold comb2
      by_cases e : x < 0
      · rw [if_pos (decide_eq_true e), if_pos e]; exact bnd_of (cc_ok _ _) rfl
      · rw [if_neg (by simpa using e), if_neg e]; rfl
    refine bnd_of (a := comb3 W S word x y) ?_ ?_
    · unfold comb3
      by_cases e : y < 0
      · rw [if_pos (decide_eq_true e), if_pos e]; exact bnd_of (cc_ok _ _) rfl
      · rw [if_neg (by simpa using e), if_neg e]
    refine bnd_of (a := sbel W x y) ?_ ?_
    · unfold sbel
      by_cases e : sz W x.natAbs < sz W y.natAbs
      · rw [if_pos (decide_eq_true (by omega)), if_pos e]
      · rw [if_neg (by rw [decide_eq_true_iff]; omega), if_neg e]
    refine bnd_of (chkP_eq (by decide +kernel)) ?_
    have eN : (if (decide (word = ("xor" : Str)) && sbel W x y) = true then max ((sz W x.natAbs : Nat) : Int) (sz W y.natAbs : Nat) else min ((sz W x.natAbs : Nat) : Int) (sz W y.natAbs : Nat)) = combN W word x y := by
      unfold combN
      by_cases e : word = "xor" ∧ sbel W x y = true
      · rw [if_pos e, if_pos (by rw [decide_eq_true e.1, e.2]; rfl)]
      · rw [if_neg e, if_neg (by rw [Bool.and_eq_true, decide_eq_true_iff]; exact e)]
    have eM : (if (decide (word = ("or" : Str)) && sbel W x y) = true then min ((sz W x.natAbs : Nat) : Int) (sz W y.natAbs : Nat) else max ((sz W x.natAbs : Nat) : Int) (sz W y.natAbs : Nat)) = combM W word x y := by
      unfold combM
      by_cases e : word = "or" ∧ sbel W x y = true
      · rw [if_pos e, if_pos (by rw [decide_eq_true e.1, e.2]; rfl)]
      · rw [if_neg e, if_neg (by rw [Bool.and_eq_true, decide_eq_true_iff]; exact e)]
    rw [eN, eM]
    by_cases e : r < 0
    · rw [if_pos (decide_eq_true e), if_pos e]
      refine bnd_of rfl ?_
      exact bnd_of (cc_ok _ _) rfl
    · rw [if_neg (by simpa using e), if_neg e]
theorem and_ok {W : Nat} {S : MS} (hS : S.w = (W : Int)) (h8 : 8 ≤ W) (h : W ≤ 30) {x y : Int} {k : Nat} (hk : k ≤ 33554424) (hx : -(2 ^ k) ≤ x ∧ x < 2 ^ k) (hy : -(2 ^ k) ≤ y ∧ y < 2 ^ k) : M_bit_and S (bg W x) (bg W y) = some (bg W (band x y), combS W S "and" x y (band x y)) := by
  unfold M_bit_and
  refine bnd_of (two_ok hS x y) ?_
  refine bnd_of (comb_ok hS h8 h _ x y _) ?_
  exact bnd_of (bigof_ok (combS_w.trans hS) h8 h (rng_sz h8 hk (band_rng hx hy))) rfl
theorem or_ok {W : Nat} {S : MS} (hS : S.w = (W : Int)) (h8 : 8 ≤ W) (h : W ≤ 30) {x y : Int} {k : Nat} (hk : k ≤ 33554424) (hx : -(2 ^ k) ≤ x ∧ x < 2 ^ k) (hy : -(2 ^ k) ≤ y ∧ y < 2 ^ k) : M_bit_or S (bg W x) (bg W y) = some (bg W (Builtin.bitOr x y), combS W S "or" x y (Builtin.bitOr x y)) := by
  unfold M_bit_or
  refine bnd_of (two_ok hS x y) ?_
  refine bnd_of (comb_ok hS h8 h _ x y _) ?_
  exact bnd_of (bigof_ok (combS_w.trans hS) h8 h (rng_sz h8 hk (bor_rng hx hy))) rfl
def notS (W : Nat) (S : MS) (x : Int) : MS := if cpt W x x = true then S.step "short" 1 else joinS W S x 1 1
theorem notS_w {W : Nat} {S : MS} {x : Int} : (notS W S x).w = S.w := by
  unfold notS
  split
  · rfl
  · exact joinS_w
theorem not_ok {W : Nat} {S : MS} (hS : S.w = (W : Int)) (h8 : 8 ≤ W) (h : W ≤ 30) {x : Int} {k : Nat} (hk : k ≤ 33554424) (hx : -(2 ^ k) ≤ x ∧ x < 2 ^ k) : M_bit_not S (bg W x) = some (bg W (Builtin.bitNot x), notS W S x) := by
  have sb := rng_sz h8 hk (bnot_rng hx)
  unfold M_bit_not notS
  refine bnd_of (one_big hS x) ?_
  refine bnd_of (compact_ok hS (by omega) x x) ?_
  by_cases q : cpt W x x = true
  · rw [if_pos q, if_pos q]
    refine bnd_of (chkP_eq (by decide +kernel)) ?_
    exact bnd_of (bigof_ok (S := S.step "short" 1) hS h8 h sb) rfl
  · rw [if_neg q, if_neg q]
    refine bnd_of (joined_ok hS h8 h (.inl rfl)) ?_
    rw [show -(x + 1 * 1) = Builtin.bitNot x from by rw [bnot_eq]; omega]
    exact bnd_of (bigof_ok (joinS_w.trans hS) h8 h sb) rfl
theorem plain_ok (W : Nat) (n : Int) : M_plain (bg W n) = some n := by
  unfold M_plain M_check_big
  exact bnd_of (a := ()) (bnd_of (a := ()) (chkP_eq rfl) rfl) rfl
theorem blen_ok (W : Nat) (n : Int) : M_bit_length (bg W n) = some ((bl n.natAbs : Nat) : Int) := by
  unfold M_bit_length M_check_big
  refine bnd_of (a := ()) (bnd_of (a := ()) (chkP_eq rfl) rfl) ?_
  show some ((Builtin.Int.intBits n : Nat) : Int) = _
  rw [intBits_abs]
theorem tally_len (S : MS) : S.tally.length = 10 := by unfold MS.tally; rw [List.length_map]; rfl
theorem tally_loop (l : List (Str × Int)) : lcM (fun (a3 : (Str × Int)) (s2 : Unit) => if (decide ((0 : Int) < a3.2)) = true then some (some (a3.1, a3.2), ()) else some (none, ())) l () = some (posL l, ()) := by
  unfold posL
  refine lcM_filter (p := fun (p : Str × Int) => decide (0 < p.2)) fun x _ => ?_
  by_cases q : 0 < x.2
  · rw [if_pos (decide_eq_true q), if_pos (decide_eq_true q)]
  · rw [if_neg (by simpa using q), if_neg (by simpa using q)]
theorem counted_ok {S : MS} {l : List (Str × Int)} {wl : List (T3 Str Int Int)} (h : Cnt S l) (hl : l.length ≤ 100) (hw : S.wk = wl) (hk : WkOk wl) : M__law_counted S (DF.mk l) wl = some (true, S.reset) := by
  subst hw
  unfold M__law_counted
  refine bnd_of (chkP_eq (size_le (m := 10) (by rw [tally_len]; omega) (by decide))) ?_
  refine bnd_of (tally_loop _) ?_
  refine bnd_of (chkP_eq (posL_nd (tally_keys S))) ?_
  refine bnd_of rfl ?_
  refine bnd_of (chkP_eq (size_le (m := 100) hl (by decide))) ?_
  refine bnd_of (tally_loop _) ?_
  refine bnd_of (chkP_eq (posL_nd h.1)) ?_
  refine bnd_of rfl ?_
  refine bnd_of (chkP_eq (cnt_same h)) ?_
  refine bnd_of (a := true) ?_ (bnd_of (chkP_eq rfl) rfl)
  rw [if_pos rfl]
  refine bnd_of (chkP_eq ⟨wkok_dat hk, wkok_dat hk⟩) ?_
  rw [eqD_iff.mpr rfl]
theorem lcM_cons1 {β γ S : Type} {b : β → S → Option (Option γ × S)} {x : β} {xs : List β} {s s1 s2 : S} {f : γ} {ys : List γ} (e1 : b x s = some (some f, s1)) (e2 : lcM b xs s1 = some (ys, s2)) : lcM b (x :: xs) s = some (f :: ys, s2) := by
  show (b x s).bind _ = _
  rw [e1]
  show (lcM b xs s1).bind _ = _
  rw [e2]
  rfl
/-- what is counted and entered, step by step -/
inductive Ev where
  | en (w : Str) (m n : Int)
  | st (w : Str) (k : Int)
def Ev.onM : MS → Ev → MS
  | S, .en w m n => S.enter w m n
  | S, .st w k => S.step w k
def runM (l : List Ev) (S : MS) : MS := l.foldl Ev.onM S
theorem runM_cons (e : Ev) (l : List Ev) (S : MS) : runM (e :: l) S = runM l (Ev.onM S e) := rfl
theorem runM_app (l m : List Ev) (S : MS) : runM (l ++ m) S = runM m (runM l S) := List.foldl_append
theorem runM_w : ∀ (l : List Ev) (S : MS), (runM l S).w = S.w
  | [], _ => rfl
  | .en _ _ _ :: l, S => (runM_w l _).trans rfl
  | .st _ _ :: l, S => (runM_w l _).trans rfl
theorem runM_c : ∀ (l : List Ev) (S : MS), (runM l S).c = S.c
  | [], _ => rfl
  | .en _ _ _ :: l, S => (runM_c l _).trans rfl
  | .st _ _ :: l, S => (runM_c l _).trans rfl
def Ev.onW : List (T3 Str Int Int) → Ev → List (T3 Str Int Int)
  | wk, .en w m n => wk ++ [T3.mk w m n]
  | wk, .st _ _ => wk
def runW (l : List Ev) (wk : List (T3 Str Int Int)) : List (T3 Str Int Int) := l.foldl Ev.onW wk
theorem runW_app (l m : List Ev) (s : List (T3 Str Int Int)) : runW (l ++ m) s = runW m (runW l s) := List.foldl_append
theorem runW_cons (e : Ev) (l : List Ev) (s : List (T3 Str Int Int)) : runW (e :: l) s = runW l (Ev.onW s e) := rfl
def evN : List Ev → Nat
  | [] => 0
  | .en _ _ _ :: l => evN l + 1
  | .st _ _ :: l => evN l
theorem evN_app : ∀ l m : List Ev, evN (l ++ m) = evN l + evN m
  | [], m => by show evN m = 0 + evN m; omega
  | .en _ _ _ :: l, m => by show evN (l ++ m) + 1 = evN l + 1 + evN m; rw [evN_app l m]; omega
  | .st _ _ :: l, m => by show evN (l ++ m) = evN l + evN m; rw [evN_app l m]
theorem runW_len : ∀ (l : List Ev) (wk : List (T3 Str Int Int)), (runW l wk).length = wk.length + evN l
  | [], wk => rfl
  | .en _ _ _ :: l, wk => by rw [runW_cons, runW_len l]; show (wk ++ [_]).length + evN l = _; rw [List.length_append]; show wk.length + 1 + evN l = wk.length + (evN l + 1); omega
  | .st _ _ :: l, wk => by rw [runW_cons, runW_len l]; rfl
def tot (w : Str) : List Ev → Int
  | [] => 0
  | .en _ _ _ :: l => tot w l
  | .st v k :: l => (if v = w then k else 0) + tot w l
theorem run_cnt (w : Str) : ∀ (l : List Ev) (S : MS), (runM l S).cnt w = S.cnt w + tot w l
  | [], S => (Int.add_zero _).symm
  | .en a m n :: l, S => by rw [runM_cons, run_cnt w l]; rfl
  | .st v k :: l, S => by
    rw [runM_cons, run_cnt w l]
    show (if w = v then S.cnt w + k else S.cnt w) + tot w l = S.cnt w + ((if v = w then k else 0) + tot w l)
    by_cases q : w = v
    · rw [if_pos q, if_pos q.symm]; omega
    · rw [if_neg q, if_neg fun z => q z.symm]; omega
theorem run_wk : ∀ (l : List Ev) (S : MS) (wk : List (T3 Str Int Int)), S.wk = wk.take 1000 → (runM l S).wk = (runW l wk).take 1000
  | [], _, _, h => h
  | .st _ _ :: l, S, wk, h => run_wk l _ _ h
  | .en w m n :: l, S, wk, h => by
    refine run_wk l _ _ ?_
    show (if S.wk.length < 1000 then S.wk ++ [T3.mk w m n] else S.wk) = (wk ++ [T3.mk w m n]).take 1000
    rw [h, List.length_take]
    by_cases q : wk.length < 1000
    · rw [if_pos (by omega), List.take_of_length_le (by omega), List.take_of_length_le (by rw [List.length_append]; show wk.length + 1 ≤ 1000; omega)]
    · rw [if_neg (by omega), List.take_append_of_le_length (by omega)]
theorem tot_app (w : Str) : ∀ l m : List Ev, tot w (l ++ m) = tot w l + tot w m
  | [], m => by show tot w m = 0 + tot w m; omega
  | .en _ _ _ :: l, m => tot_app w l m
  | .st v k :: l, m => by show (if v = w then k else 0) + tot w (l ++ m) = _; rw [tot_app w l m]; show _ = (if v = w then k else 0) + tot w l + tot w m; omega
theorem runW_pre : ∀ (l : List Ev) (a wk : List (T3 Str Int Int)), runW l (a ++ wk) = a ++ runW l wk
  | [], _, _ => rfl
  | .st _ _ :: l, a, wk => runW_pre l a wk
  | .en w m n :: l, a, wk => by
    show runW l ((a ++ wk) ++ [T3.mk w m n]) = a ++ runW l (wk ++ [T3.mk w m n])
    rw [List.append_assoc]
    exact runW_pre l _ _
theorem runW_self (l : List Ev) (wk : List (T3 Str Int Int)) : runW l wk = wk ++ runW l [] := by
  have := runW_pre l wk []
  rwa [List.append_nil] at this
def WEv (e : Ev) : Prop := match e with | .st w _ => w ∈ mwords | .en w _ _ => (PyData.str w).canLay0 = true
def WOk (l : List Ev) : Prop := ∀ e ∈ l, WEv e
theorem wok_nil : WOk [] := fun e h => (by cases h)
theorem wok_app {l m : List Ev} (h1 : WOk l) (h2 : WOk m) : WOk (l ++ m) := fun e h => (List.mem_append.mp h).elim (h1 e) (h2 e)
theorem wok_cons {e : Ev} {l : List Ev} (he : WEv e) (h : WOk l) : WOk (e :: l) := fun x hx => by
  rcases List.mem_cons.mp hx with q | q
  · rw [q]; exact he
  · exact h x q
theorem wrun_lay : ∀ {l : List Ev} {S : MS}, WOk l → WkOk S.wk → WkOk (runM l S).wk
  | [], _, _, h => h
  | .st _ _ :: l, S, he, h => wrun_lay (l := l) (fun e q => he e (List.mem_cons_of_mem _ q)) h
  | .en w m n :: l, S, he, h => wrun_lay (l := l) (fun e q => he e (List.mem_cons_of_mem _ q)) (wkok_enter h (he (.en w m n) List.mem_cons_self))
/-- what a call does to a machine, as a list of events with so many routines at most -/
def ActB (W k : Nat) (f : MS → MS) : Prop := ∃ l, WOk l ∧ evN l ≤ k ∧ ∀ S : MS, S.w = (W : Int) → f S = runM l S
section
variable {W j k : Nat} {f g : MS → MS}
theorem ActB.mono (h : ActB W j f) (hk : j ≤ k) : ActB W k f := by
  obtain ⟨l, h1, h2, h3⟩ := h
  exact ⟨l, h1, Nat.le_trans h2 hk, h3⟩
theorem ab_id : ActB W 0 (fun S => S) := ⟨[], wok_nil, Nat.le_refl _, fun S _ => rfl⟩
theorem ab_comp (hf : ActB W j f) (hg : ActB W k g) : ActB W (j + k) (fun S => g (f S)) := by
  obtain ⟨l, h1, hj, h2⟩ := hf
  obtain ⟨m, h3, hk, h4⟩ := hg
  refine ⟨l ++ m, wok_app h1 h3, by rw [evN_app]; omega, fun S hS => ?_⟩
  rw [runM_app, ← h2 S hS]
  exact h4 _ (by rw [h2 S hS]; exact (runM_w _ _).trans hS)
theorem ab_step (hf : ActB W k f) (w : Str) (i : Int) (hw : w ∈ mwords := by decide +kernel) : ActB W k (fun S => (f S).step w i) := by
  have := ab_comp hf (g := fun S => S.step w i) (k := 0) ⟨[.st w i], wok_cons hw wok_nil, Nat.le_refl _, fun S _ => rfl⟩
  exact this
theorem ab_enter (hf : ActB W k f) (w : Str) (m n : Int) (hw : (PyData.str w).canLay0 = true := by decide +kernel) : ActB W (k + 1) (fun S => (f S).enter w m n) := ab_comp hf (g := fun S => S.enter w m n) ⟨[.en w m n], wok_cons hw wok_nil, Nat.le_refl _, fun S _ => rfl⟩
theorem ab_ite {p : Prop} [Decidable p] (hf : p → ActB W k f) (hg : ¬ p → ActB W k g) : ActB W k (fun S => if p then f S else g S) := by
  by_cases q : p
  · simpa [q] using hf q
  · simpa [q] using hg q
end
/-! what single calls do -/
section
variable {W : Nat}
theorem ab_left (x c : Int) : ActB W 1 (fun S => leftS W S x c) := by
  unfold leftS
  refine ab_ite (fun _ => ab_id.mono (by decide)) fun _ => ?_
  exact ab_ite (fun _ => (ab_step ab_id "short" 1).mono (by decide)) fun _ => ab_step (ab_enter ab_id "left" _ _) "shifted" _
theorem ab_right (x c : Int) : ActB W 1 (fun S => rightS W S x c) := by
  unfold rightS
  refine ab_ite (fun _ => ab_id.mono (by decide)) fun _ => ?_
  refine ab_ite (fun _ => (ab_step ab_id "short" 1).mono (by decide)) fun _ => ?_
  have cr : ∀ (g : Bool) (z c : Int), ActB W 0 (fun S => crsS W S g z c) := fun g z c => by
    unfold crsS
    dsimp only
    refine ab_ite (fun _ => ab_id) fun _ => ?_
    exact ab_step (ab_ite (fun _ => ab_step ab_id "looked" _) fun _ => ab_id) "shifted" _
  exact ab_comp (ab_enter ab_id "right" _ _) (cr _ _ _)
theorem ab_join (x y t : Int) : ActB W 1 (fun S => joinS W S x y t) := by
  unfold joinS
  refine ab_ite (fun _ => (ab_step ab_id "short" 1).mono (by decide)) fun _ => ?_
  refine ab_ite (fun _ => by unfold addS; exact ab_step (ab_enter ab_id "add" _ _) "sum" _) fun _ => ?_
  have tk : ∀ a b : Nat, ActB W 1 (fun S => takS W S a b) := fun a b => by
    unfold takS
    exact ab_ite (fun _ => ab_step (ab_step (ab_enter ab_id "take" _ _) "looked" _) "sum" _) fun _ => ab_step (ab_enter ab_id "take" _ _) "sum" _
  exact ab_ite (fun _ => tk _ _) fun _ => tk _ _
theorem ab_not (x : Int) : ActB W 1 (fun S => notS W S x) := by
  unfold notS
  exact ab_ite (fun _ => (ab_step ab_id "short" 1).mono (by decide)) fun _ => ab_join x 1 1
theorem ab_comb (word : Str) (hw : (PyData.str word).canLay0 = true) (x y r : Int) : ActB W 4 (fun S => combS W S word x y r) := by
  have c1 : ActB W 1 (fun S => comb1 W S word x y) := by unfold comb1; exact ab_enter ab_id word _ _ hw
  have c2 : ActB W 2 (fun S => comb2 W S word x y) := by
    unfold comb2 ccS
    exact ab_ite (fun _ => ab_step (ab_enter c1 "complement" _ _) "complemented" _) fun _ => c1.mono (by decide)
  have c3 : ActB W 3 (fun S => comb3 W S word x y) := by
    unfold comb3 ccS
    exact ab_ite (fun _ => ab_step (ab_enter c2 "complement" _ _) "complemented" _) fun _ => c2.mono (by decide)
  unfold combS
  refine ab_ite (fun _ => (ab_step ab_id "short" 1).mono (by decide)) fun _ => ?_
  refine ab_ite (fun _ => ?_) fun _ => (ab_step c3 "combined" _).mono (by decide)
  unfold ccS
  exact ab_step (ab_enter (ab_step c3 "combined" _) "complement" _ _) "complemented" _
end
/-- bytes -/
def By (l : List Int) : Prop := ∀ x ∈ l, 0 ≤ x ∧ x < 256
theorem pow256 (n : Nat) : (256 : Nat) ^ n = 2 ^ (8 * n) := by rw [show (256 : Nat) = 2 ^ 8 from rfl, ← Nat.pow_mul]
def vl (u n : Nat) (ng : Bool) : Int := if ng = true then (u : Int) - ((256 ^ n : Nat) : Int) else (u : Int)
def rdS (S : MS) (n : Nat) (kept : Int) (ng : Bool) : MS :=
  if ng = true then (((S.enter "from bytes" (n : Int) 0).step "looked" (min ((n : Int) - kept + 1) (n : Int))).step "complemented" (min (kept + 1) (n : Int))).step "shifted" (min (kept + 1) (n : Int))
  else ((S.enter "from bytes" (n : Int) 0).step "looked" (min ((n : Int) - kept + 1) (n : Int))).step "shifted" kept
theorem e256 : (2 : Int) ^ 8 = 256 := by decide
theorem c256 (n : Nat) : ((256 ^ n : Nat) : Int) = (256 : Int) ^ n := by rw [Int.natCast_pow]; rfl
theorem top_div {m : List Int} {d : Int} (hb : By (m ++ [d])) : lv 256 (m ++ [d]) / 256 ^ m.length = d := by
  have b := lv_bound (B := 256) (by decide) (r := m) fun x hx => hb x (List.mem_append_left _ hx)
  have pp : (0 : Int) < 256 ^ m.length := Int.pow_pos (by decide)
  rw [lv_snoc, Int.add_mul_ediv_right _ _ (by omega), Int.ediv_eq_zero_of_lt b.1 b.2, Int.zero_add]
theorem btw (a : Int) (h : 0 ≤ a ∧ a < 256) : M_is_between a (0 : Int) (255 : Int) = some true := by
  unfold M_is_between M_is_integer
  have e1 : decide ((0 : Int) ≤ a) = true := decide_eq_true h.1
  have e2 : decide (a ≤ (255 : Int)) = true := decide_eq_true (by omega)
  simp [e1, e2, h.1]
  try omega
theorem fb_ok {W : Nat} {S : MS} (hS : S.w = (W : Int)) (h8 : 8 ≤ W) (h30 : W ≤ 30) {m : List Int} {d : Int} {x1 : List Int} {o : Str} {sg : Bool} {u v : Nat} (ho : o = ("little" : Str) ∧ x1 = m ++ [d] ∨ o = ("big" : Str) ∧ x1 = (m ++ [d]).reverse)
    (hb : By (m ++ [d])) (hn : m.length + 1 ≤ 10000) (hu : lv 256 (m ++ [d]) = (u : Int)) (huv : u + v + 1 = 256 ^ (m.length + 1)) :
    M_from_bytes S x1 o sg = some (bg W (vl u (m.length + 1) (sg && decide (127 < d))), rdS S (m.length + 1) (if (sg && decide (127 < d)) = true then (sz 8 v : Int) else (sz 8 u : Int)) (sg && decide (127 < d))) := by
  have lx : x1.length = m.length + 1 := by rcases ho with ⟨_, e⟩ | ⟨_, e⟩ <;> rw [e] <;> simp
  have bx : ∀ x ∈ x1, 0 ≤ x ∧ x < 256 := fun x hx => by
    rcases ho with ⟨_, e⟩ | ⟨_, e⟩
    · rw [e] at hx; exact hb x hx
    · rw [e] at hx; exact hb x (List.mem_reverse.mp hx)
  have ord : (if (decide (o = ("little" : Str))) = true then x1 else x1.reverse) = m ++ [d] := by
    rcases ho with ⟨e1, e⟩ | ⟨e1, e⟩
    · rw [e1, e, if_pos (decide_eq_true rfl)]
    · rw [e1, e, if_neg (by decide +kernel), List.reverse_reverse]
  have so : M_check_order o = some () := by
    unfold M_check_order
    refine bnd_of (chkP_eq rfl) (bnd_of (chkP_eq ?_) rfl)
    rcases ho with ⟨e1, _⟩ | ⟨e1, _⟩ <;> rw [e1] <;> decide +kernel
  have nl : ((m.length + 1 : Nat) : Int) = (m.length : Int) + 1 := rfl
  have num : M_number_of 20 (8 : Int) (m ++ [d]) = some (u : Int) := by
    have := num_ok (W := 8) (by decide) (by decide) 19 (m ++ [d]) (fun x hx => by rw [e256]; exact hb x hx) (by rw [List.length_append, List.length_singleton]; omega) (by rw [List.length_append, List.length_singleton]; omega)
    rw [e256, hu] at this
    exact this
  have td := top_div hb
  rw [hu] at td
  have pn : (256 : Nat) ^ (m.length + 1) ≤ 2 ^ 80000 := by rw [pow256]; exact Nat.pow_le_pow_right (by decide) (by omega)
  unfold M_from_bytes
  refine bnd_of (show M_check_machine S = some () from bnd_of (a := ()) (chkP_eq rfl) rfl) ?_
  refine bnd_of (chkP_eq rfl) (bnd_of (chkP_eq (decide_eq_false (by omega))) ?_)
  refine bnd_of (chkP_eq (size_le (m := 10000) (by omega) (by decide))) ?_
  refine bnd_of (lcM_mapU (f := fun _ => true) fun x hx => by rw [btw x (bx x hx)]; rfl) ?_
  refine bnd_of (chkP_eq (by rw [List.all_map]; exact List.all_eq_true.mpr fun _ _ => rfl)) ?_
  refine bnd_of so (bnd_of (show M_check_signed sg = some () from bnd_of (a := ()) (chkP_eq rfl) rfl) ?_)
  rw [Option.bind_some, lx, if_neg (by rw [decide_eq_true_iff]; omega), ord]
  refine bnd_of num ?_
  have e8 : ((((m.length + 1 : Nat) : Int) - (1 : Int)) * (8 : Int)).toNat = 8 * m.length := by omega
  have e9 : ((((m.length + 1 : Nat) : Int)) * (8 : Int)).toNat = 8 * (m.length + 1) := by omega
  rw [e8, e9]
  have p8 : ∀ k : Nat, (2 : Int) ^ (8 * k) = 256 ^ k := fun k => by rw [Int.pow_mul, e256]
  rw [p8, p8]
  refine bnd_of (a := (sg && decide (127 < d))) ?_ ?_
  · cases sg
    · rfl
    · rw [if_pos rfl]
      refine bnd_of (chkP_eq (mul_small' (by decide))) (bnd_of (chkP_eq (by omega)) ?_)
      rw [td, Bool.true_and]
      rfl
  · generalize hng : (sg && decide (127 < d)) = ng
    refine bnd_of (a := vl u (m.length + 1) ng) ?_ ?_
    · unfold vl
      cases ng
      · rfl
      · rw [if_pos rfl, if_pos rfl]
        refine bnd_of (chkP_eq (mul_small' (by decide))) (bnd_of (chkP_eq (shl_ok (k := 1) (by decide) (by omega) (by omega))) ?_)
        rw [Int.one_mul, c256]
        rfl
    · have val : vl u (m.length + 1) ng = if ng = true then -((v : Int) + 1) else (u : Int) := by
        unfold vl
        cases ng
        · rfl
        · rw [if_pos rfl, if_pos rfl]
          have : ((256 ^ (m.length + 1) : Nat) : Int) = (u : Int) + v + 1 := by rw [← huv]; push_cast; rfl
          omega
      have cr : M_count_reading (S.enter ("from bytes" : Str) ((m.length + 1 : Nat) : Int) (0 : Int)) (vl u (m.length + 1) ng) ((m.length + 1 : Nat) : Int) = some ((), rdS S (m.length + 1) (if ng = true then (sz 8 v : Int) else (sz 8 u : Int)) ng) := by
        unfold M_count_reading M_magnitude_of rdS
        rw [val]
        cases ng
        · simp only [Bool.false_eq_true, if_false]
          rw [if_neg (by rw [decide_eq_true_iff]; omega), Option.bind_some]
          refine bnd_of (size_ok (W := 8) (by decide) (by decide) _) ?_
          refine bnd_of (chkP_eq (by decide +kernel)) ?_
          rw [if_neg (by rw [decide_eq_true_iff]; omega), Option.bind_some, Int.natAbs_natCast]
          exact bnd_of (chkP_eq (by decide +kernel)) rfl
        · simp only [if_true]
          rw [if_pos (decide_eq_true (by omega)), Option.bind_some]
          refine bnd_of (size_ok (W := 8) (by decide) (by decide) _) ?_
          refine bnd_of (chkP_eq (by decide +kernel)) ?_
          rw [if_pos (decide_eq_true (by omega)), show (-(-((v : Int) + 1)) - 1).natAbs = v from by omega, Option.bind_some]
          exact bnd_of (bnd_of (chkP_eq (by decide +kernel)) rfl) (bnd_of (chkP_eq (by decide +kernel)) rfl)
      refine bnd_of cr ?_
      have hw : (rdS S (m.length + 1) (if ng = true then (sz 8 v : Int) else (sz 8 u : Int)) ng).w = (W : Int) := by
        unfold rdS
        split <;> exact hS
      refine bnd_of (bigof_ok hw h8 h30 ((sz_le (by omega)).mpr ?_)) rfl
      have : (vl u (m.length + 1) ng).natAbs ≤ 256 ^ (m.length + 1) := by rw [val]; split <;> omega
      refine Nat.lt_of_le_of_lt (Nat.le_trans this pn) (Nat.pow_lt_pow_right (by decide) (by omega))
/-- what an integer's bytes hold -/
def mag (v : Int) : Nat := (if v < 0 then -v - 1 else v).toNat
theorem mag_cast (v : Int) : ((mag v : Nat) : Int) = if v < 0 then -v - 1 else v := by
  unfold mag
  split <;> rw [Int.toNat_of_nonneg (by omega)]
theorem mag_ok (v : Int) : M_magnitude_of v = some ((mag v : Nat) : Int) := by
  unfold M_magnitude_of
  rw [mag_cast]
  by_cases h : v < 0
  · rw [if_pos (decide_eq_true h), if_pos h]
  · rw [if_neg (by simpa using h), if_neg h]
def b1 (b : Bool) : Nat := if b = true then 1 else 0
def lst (v : Int) (sg : Bool) : Nat := if v = 0 then 0 else (bl (mag v) + b1 sg + 7) / 8
theorem lst_ok (v : Int) (sg : Bool) : M_least_length v sg = some ((lst v sg : Nat) : Int) := by
  unfold M_least_length lst
  by_cases h : v = 0
  · rw [if_pos (decide_eq_true h), if_pos h]; rfl
  · rw [if_neg (by simpa using h), if_neg h]
    refine bnd_of (mag_ok v) ?_
    rw [Option.bind_some, intBits_nat]
    refine bnd_of (chkP_eq (cdiv_s (by decide) (by decide))) ?_
    congr 1
    cases sg
    · simp only [b1, Bool.false_eq_true, if_false]; omega
    · simp only [b1, if_true]; omega
theorem fit_s {v : Int} {n : Nat} (h : lst v true ≤ n) (hn : 1 ≤ n) : mag v < 2 ^ (8 * n - 1) := by
  unfold lst at h
  by_cases z : v = 0
  · subst z; exact Nat.two_pow_pos _
  · rw [if_neg z] at h
    refine bl_le.mp ?_
    simp only [b1, if_true] at h
    omega
theorem fit_u {v : Int} {n : Nat} (h : lst v false ≤ n) : mag v < 2 ^ (8 * n) := by
  unfold lst at h
  by_cases z : v = 0
  · subst z; exact Nat.two_pow_pos _
  · rw [if_neg z] at h
    refine bl_le.mp ?_
    simp only [b1, Bool.false_eq_true, if_false] at h
    omega
theorem lst_of {v : Int} {n : Nat} (hn : 1 ≤ n) (h : mag v < 2 ^ (8 * n - 1)) : lst v true ≤ n := by
  unfold lst
  split
  · omega
  · have := bl_le.mpr h
    simp only [b1, if_true]
    omega
theorem fit_0 {v : Int} {sg : Bool} (hf : sg = true ∨ 0 ≤ v) (h : lst v sg ≤ 0) : v = 0 := by
  unfold lst at h
  by_cases z : v = 0
  · exact z
  · rw [if_neg z] at h
    cases sg
    · have hv : 0 ≤ v := hf.resolve_left (by decide)
      have : bl (mag v) ≤ 0 := by simp only [b1, Bool.false_eq_true, if_false] at h; omega
      have := bl_le.mp this
      have c := mag_cast v
      rw [if_neg (by omega)] at c
      omega
    · simp only [b1, if_true] at h; omega
theorem btwn {a lo hi : Int} (h1 : lo ≤ a) (h2 : a ≤ hi) : M_is_between a lo hi = some true := by
  simp [M_is_between, M_is_integer, h1, h2]
theorem signed_ok (sg : Bool) : M_check_signed sg = some () := bnd_of (a := ()) (chkP_eq rfl) rfl
def IsO (o : Str) : Prop := o = ("little" : Str) ∨ o = ("big" : Str)
theorem orde_ok {o : Str} (h : IsO o) : M_check_order o = some () := by
  unfold M_check_order
  refine bnd_of (chkP_eq rfl) (bnd_of (chkP_eq ?_) rfl)
  rcases h with e | e <;> rw [e] <;> decide +kernel
def od (o : Str) (l : List Int) : List Int := if (decide (o = ("little" : Str))) = true then l else l.reverse
theorem od_len (o : Str) (l : List Int) : (od o l).length = l.length := by unfold od; split <;> simp
theorem od_l (l : List Int) : od "little" l = l := if_pos (decide_eq_true rfl)
theorem od_b (l : List Int) : od "big" l = l.reverse := if_neg (by decide +kernel)
def tbS (W : Nat) (S : MS) (v : Int) (n : Nat) : MS :=
  (if v < 0 then (S.enter ("to bytes" : Str) (sz W v.natAbs : Nat) (n : Int)).step ("complemented" : Str) (sz W v.natAbs : Nat) else S.enter ("to bytes" : Str) (sz W v.natAbs : Nat) (n : Int)).step ("shifted" : Str) (sz 8 (mag v) : Nat)
theorem tbS_w {W : Nat} {S : MS} {v : Int} {n : Nat} : (tbS W S v n).w = S.w := by
  unfold tbS
  split <;> rfl
section
variable {W : Nat} {S : MS}
theorem tb_ok (hS : S.w = (W : Int)) (h8 : 8 ≤ W) (h30 : W ≤ 30) {v : Int} {n : Nat} {sg : Bool} {o : Str} (hf : sg = true ∨ 0 ≤ v) (hl : lst v sg ≤ n) (hn : n ≤ 10000) (ho : IsO o) : M_to_bytes S (bg W v) (n : Int) o sg = some (od o (rw_ 8 v n), tbS W S v n) := by
  have len : (((bg W v).row.length : Nat) : Int) = ((sz W v.natAbs : Nat) : Int) := by show (((dg W v.natAbs).length : Nat) : Int) = _; rw [dg_size (by omega)]
  unfold M_to_bytes
  rw [len]
  refine bnd_of (one_big hS v) (bnd_of (btwn (by omega) (by omega)) (bnd_of (chkP_eq rfl) (bnd_of (orde_ok ho) (bnd_of (signed_ok sg) ?_))))
  refine bnd_of (chkP_eq ?_) (bnd_of (lst_ok v sg) (bnd_of (chkP_eq (decide_eq_false (by omega))) ?_))
  · rcases hf with e | e
    · rw [e]; simp
    · rw [show decide ((bg W v).v < (0 : Int)) = false from decide_eq_false (by show ¬ v < 0; omega)]; rfl
  refine bnd_of (a := if v < 0 then (S.enter ("to bytes" : Str) (sz W v.natAbs : Nat) (n : Int)).step ("complemented" : Str) (sz W v.natAbs : Nat) else S.enter ("to bytes" : Str) (sz W v.natAbs : Nat) (n : Int)) ?_ ?_
  · by_cases h : v < 0
    · rw [if_pos (decide_eq_true h), if_pos h]
      exact bnd_of (chkP_eq (by decide +kernel)) rfl
    · rw [if_neg (by show ¬ decide (v < 0) = true; simpa using h), if_neg h]
  refine bnd_of (mag_ok v) (bnd_of (size_ok (W := 8) (by decide) (by decide) _) (bnd_of (chkP_eq (by decide +kernel)) ?_))
  rw [Int.natAbs_natCast]
  exact bnd_of (row_ok (W := 8) (by decide) (by decide) 19 n v (by omega) (by omega)) rfl
end
theorem e8 : (2 : Int) ^ 8 = 256 := by decide
theorem rw_by (v : Int) (n : Nat) : By (rw_ 8 v n) := fun x hx => by have := rw_mem x hx; rwa [e8] at this
theorem pow8 (n : Nat) : (2 : Int) ^ (n * 8) = ((256 ^ n : Nat) : Int) := by rw [p2, pow256, Nat.mul_comm]
theorem half256 {n : Nat} (hn : 1 ≤ n) : 256 ^ n = 2 * 2 ^ (8 * n - 1) ∧ 128 * 256 ^ (n - 1) = 2 ^ (8 * n - 1) := by
  obtain ⟨k, rfl⟩ : ∃ k, n = k + 1 := ⟨n - 1, by omega⟩
  have e : 8 * (k + 1) - 1 = 8 * k + 7 := by omega
  rw [pow256, pow256, e, show 8 * (k + 1) = (8 * k + 7) + 1 from by omega, Nat.pow_succ, Nat.add_sub_cancel, Nat.pow_add 2 (8 * k) 7]
  constructor <;> omega
/-- the bytes of a number that has room: their value, and the last one tells its sign -/
theorem rt_val {v : Int} {n : Nat} {sg : Bool} (hf : sg = true ∨ 0 ≤ v) (hl : lst v sg ≤ n) (hn : 1 ≤ n) : ∃ (m : List Int) (d : Int) (u w : Nat), rw_ 8 v n = m ++ [d] ∧ m.length + 1 = n ∧ lv 256 (m ++ [d]) = (u : Int) ∧ u + w + 1 = 256 ^ n ∧ (sg && decide (127 < d)) = decide (v < 0) ∧ vl u n (decide (v < 0)) = v ∧ (if decide (v < 0) = true then (sz 8 w : Int) else (sz 8 u : Int)) = (sz 8 (mag v) : Int) := by
  have ll := rw_len 8 n v
  rcases List.eq_nil_or_concat (rw_ 8 v n) with e | ⟨m, d, e⟩
  · rw [e] at ll; exact absurd ll (by show ¬ 0 = n; omega)
  rw [List.concat_eq_append] at e
  have lm : m.length + 1 = n := by rw [e, List.length_append, List.length_singleton] at ll; exact ll
  have hv := rw_lv 8 n v
  rw [e, e8, pow8] at hv
  obtain ⟨H1, H2⟩ := half256 hn
  have Q0 : 0 < 256 ^ n := Nat.pow_pos (by decide)
  have mc := mag_cast v
  have hm : mag v < 256 ^ n := by
    cases sg
    · rw [pow256]; exact fit_u hl
    · have := fit_s hl hn; omega
  have hs : sg = true → mag v < 2 ^ (8 * n - 1) := fun q => by subst q; exact fit_s hl hn
  have bm := rw_by v n
  rw [e] at bm
  have td := top_div bm
  rw [hv, show m.length = n - 1 from by omega, show (256 : Int) ^ (n - 1) = ((256 ^ (n - 1) : Nat) : Int) from by rw [Int.natCast_pow]; rfl] at td
  have q1 : 0 < 256 ^ (n - 1) := Nat.pow_pos (by decide)
  generalize hQ : 256 ^ n = Q at *
  generalize 2 ^ (8 * n - 1) = R at *
  generalize 256 ^ (n - 1) = P at *
  by_cases neg : v < 0
  · have st : sg = true := hf.resolve_right (by omega)
    rw [if_pos neg] at mc
    have em : v % (Q : Int) = v + (Q : Int) := by
      rw [← Int.add_emod_right, Int.emod_eq_of_lt (by omega) (by omega)]
    have hR := hs st
    rw [em] at hv td
    refine ⟨m, d, (v + Q).toNat, mag v, e, lm, by rw [hv]; omega, by omega, ?_, ?_, ?_⟩
    · rw [st, decide_eq_true neg, Bool.true_and]
      refine decide_eq_true ?_
      have : (128 : Int) ≤ (v + Q) / (P : Int) := (Int.le_ediv_iff_mul_le (by omega)).mpr (by omega)
      omega
    · rw [decide_eq_true neg]
      show (((v + Q).toNat : Nat) : Int) - ((256 ^ n : Nat) : Int) = v
      rw [hQ]
      omega
    · rw [decide_eq_true neg, if_pos rfl]
  · rw [if_neg neg] at mc
    have em : v % (Q : Int) = v := Int.emod_eq_of_lt (by omega) (by omega)
    rw [em] at hv td
    have ev : v = ((mag v : Nat) : Int) := mc.symm
    refine ⟨m, d, mag v, Q - 1 - mag v, e, lm, by rw [hv]; exact ev, by omega, ?_, ?_, ?_⟩
    · rw [decide_eq_false neg]
      cases sg
      · rfl
      · have hR := hs rfl
        rw [Bool.true_and]
        refine decide_eq_false ?_
        have : v / (P : Int) < 128 := Int.ediv_lt_of_lt_mul (by omega) (by omega)
        omega
    · rw [decide_eq_false neg]
      exact ev.symm
    · rw [decide_eq_false neg]; rfl
def rbS (S : MS) (v : Int) (n : Nat) : MS := if n = 0 then S else rdS S n (sz 8 (mag v) : Int) (decide (v < 0))
theorem rdS_w {S : MS} {n : Nat} {k : Int} {g : Bool} : (rdS S n k g).w = S.w := by unfold rdS; split <;> rfl
theorem rbS_w {S : MS} {v : Int} {n : Nat} : (rbS S v n).w = S.w := by
  unfold rbS
  split
  · rfl
  · exact rdS_w
theorem sz8_small {W : Nat} (h8 : 8 ≤ W) {v : Int} {k : Nat} (h : v.natAbs < 2 ^ k) (hk : k ≤ 33554424) : sz W v.natAbs ≤ 4194304 := (sz_le (by omega)).mpr (Nat.lt_of_lt_of_le h (Nat.pow_le_pow_right (by decide) (by omega)))
section
variable {W : Nat} {S : MS}
theorem fb2_ok (hS : S.w = (W : Int)) (h8 : 8 ≤ W) (h30 : W ≤ 30) {v : Int} {n : Nat} {sg : Bool} {o : Str} (hf : sg = true ∨ 0 ≤ v) (hl : lst v sg ≤ n) (hn : n ≤ 10000) (ho : IsO o) : M_from_bytes S (od o (rw_ 8 v n)) o sg = some (bg W v, rbS S v n) := by
  by_cases z : n = 0
  · subst z
    have hv := fit_0 hf hl
    subst hv
    have e : od o (rw_ 8 0 0) = [] := by unfold od; split <;> rfl
    rw [e]
    unfold M_from_bytes
    refine bnd_of (show M_check_machine S = some () from bnd_of (a := ()) (chkP_eq rfl) rfl) ?_
    refine bnd_of (chkP_eq rfl) (bnd_of (chkP_eq (by decide)) (bnd_of (chkP_eq (Nat.zero_le _)) ?_))
    refine bnd_of (a := ([], ())) rfl (bnd_of (chkP_eq rfl) ?_)
    refine bnd_of (orde_ok ho) (bnd_of (signed_ok sg) ?_)
    rw [Option.bind_some, if_pos (show decide ((([] : List Int).length : Int) = (0 : Int)) = true from rfl)]
    exact bnd_of (bigof_ok hS h8 h30 (sz8_small h8 (k := 1) (by decide) (by decide))) rfl
  · obtain ⟨m, d, u, w, e, lm, hu, huw, sgn, val, cnt⟩ := rt_val hf hl (by omega)
    have bm := rw_by v n
    rw [e] at bm ⊢
    have ho2 : o = ("little" : Str) ∧ od o (m ++ [d]) = m ++ [d] ∨ o = ("big" : Str) ∧ od o (m ++ [d]) = (m ++ [d]).reverse := by
      rcases ho with q | q
      · rw [q]; exact .inl ⟨rfl, od_l _⟩
      · rw [q]; exact .inr ⟨rfl, od_b _⟩
    subst lm
    rw [fb_ok hS h8 h30 (sg := sg) ho2 bm hn hu huw, sgn, val, cnt]
    unfold rbS
    rw [if_neg z]
theorem od_swap {o p : Str} (ho : o = "little" ∧ p = "big" ∨ o = "big" ∧ p = "little") (l : List Int) : od p l = (od o l).reverse := by
  rcases ho with ⟨e, f⟩ | ⟨e, f⟩
  · rw [e, f, od_l, od_b]
  · rw [e, f, od_l, od_b, List.reverse_reverse]
theorem back_ok (hS : S.w = (W : Int)) (h8 : 8 ≤ W) (h30 : W ≤ 30) {v : Int} {n : Nat} {sg : Bool} (hf : sg = true ∨ 0 ≤ v) (hl : lst v sg ≤ n) (hn : n ≤ 10000) : Sat (M__law_back_right S (bg W v) (n : Int) sg) (fun r => r.1 = true ∧ r.2.w = (W : Int)) := by
  unfold M__law_back_right
  refine sat_forA (fun S : MS => S.w = (W : Int)) (fun o ho s hs => ?_) hS fun s hs => sat_nx (sat_some ⟨rfl, hs⟩)
  have io : IsO o := by
    rcases List.mem_cons.mp ho with q | q
    · exact .inl q
    · exact .inr (List.mem_singleton.mp q)
  obtain ⟨p, hp, ip⟩ : ∃ p : Str, (atI ([("big" : Str), ("little" : Str)] : List Str) (if (decide (o = ("big" : Str))) = true then (1 : Int) else 0)) = some p ∧ (o = "little" ∧ p = "big" ∨ o = "big" ∧ p = "little") := by
    rcases io with q | q
    · exact ⟨"big", by rw [q, if_neg (by decide +kernel)]; rfl, .inl ⟨q, rfl⟩⟩
    · exact ⟨"little", by rw [q, if_pos (by decide +kernel)]; rfl, .inr ⟨q, rfl⟩⟩
  refine sat_eq (tb_ok hs h8 h30 hf hl hn io) ?_
  have w1 : (tbS W s v n).w = (W : Int) := tbS_w.trans hs
  refine sat_eq (fb2_ok w1 h8 h30 hf hl hn io) ?_
  have w2 : (rbS (tbS W s v n) v n).w = (W : Int) := rbS_w.trans w1
  refine sat_eq (eq_self W v) (sat_chk rfl (sat_chk (by show (((od o (rw_ 8 v n)).length : Nat) : Int) = (n : Int); rw [od_len, rw_len]) ?_))
  refine sat_eq hp (sat_eq (tb_ok w2 h8 h30 hf hl hn (ip.elim (fun q => .inr q.2) fun q => .inl q.2)) ?_)
  refine sat_chk ⟨congrArg LF.mk (od_swap ip _), fun _ _ => trivial⟩ ?_
  exact sat_end (tbS_w.trans w2)
theorem not_mag (v : Int) : mag (-v - 1) = mag v := by
  have a := mag_cast v
  have b := mag_cast (-v - 1)
  split at a <;> split at b <;> omega
theorem rw_not : ∀ (n : Nat) (v : Int), rw_ 8 (-v - 1) n = (rw_ 8 v n).map fun x => (255 : Int) - x
  | 0, _ => rfl
  | n + 1, v => by
    show ((-v - 1) % 2 ^ 8) :: rw_ 8 ((-v - 1) / 2 ^ 8) n = ((255 : Int) - v % 2 ^ 8) :: (rw_ 8 (v / 2 ^ 8) n).map fun x => (255 : Int) - x
    rw [← rw_not n (v / 2 ^ 8), e8, show (-v - 1) % 256 = 255 - v % 256 from by omega, show (-v - 1) / 256 = -(v / 256) - 1 from by omega]
theorem rw_get : ∀ (n : Nat) (v : Int), rw_ 8 v n = (List.range n).map fun k => v / 2 ^ (8 * k) % 2 ^ 8
  | 0, _ => rfl
  | n + 1, v => by
    rw [List.range_succ_eq_map, List.map_cons, List.map_map]
    show (v % 2 ^ 8) :: rw_ 8 (v / 2 ^ 8) n = _
    rw [rw_get n (v / 2 ^ 8), Nat.mul_zero, Int.pow_zero, Int.ediv_one]
    congr 1
    refine List.map_congr_left fun k _ => ?_
    show v / 2 ^ 8 / 2 ^ (8 * k) % 2 ^ 8 = v / 2 ^ (8 * (k + 1)) % 2 ^ 8
    rw [ediv_pow, show 8 * (k + 1) = 8 + 8 * k from by omega]
theorem lc_map {β γ : Type} {b : β → MS → Option (Option γ × MS)} {f : β → γ} (hb : ∀ x s, s.w = (W : Int) → ∃ s', b x s = some (some (f x), s') ∧ s'.w = (W : Int)) : ∀ (xs : List β) (s : MS), s.w = (W : Int) → ∃ s', lcM b xs s = some (xs.map f, s') ∧ s'.w = (W : Int)
  | [], s, hs => ⟨s, rfl, hs⟩
  | x :: r, s, hs => by
    obtain ⟨s1, e1, h1⟩ := hb x s hs
    obtain ⟨s2, e2, h2⟩ := lc_map hb r s1 h1
    exact ⟨s2, lcM_cons1 e1 e2, h2⟩
theorem lcM_map {α β γ S : Type} {b : β → S → Option (Option γ × S)} {g : α → β} : ∀ (l : List α) (s : S), lcM b (l.map g) s = lcM (fun a => b (g a)) l s
  | [], _ => rfl
  | x :: r, s => by
    show (b (g x) s).bind _ = (b (g x) s).bind _
    congr 1
    funext p
    obtain ⟨o, s'⟩ := p
    show (lcM b (r.map g) s').bind _ = (lcM _ r s').bind _
    rw [lcM_map r]
theorem rng_map (n : Nat) : rng 0 n = (List.range n).map fun k => ((k : Nat) : Int) := by
  unfold rng
  exact List.map_congr_left fun k _ => Int.zero_add _
theorem sign_ok (W : Nat) (v : Int) : M_Big_sign (bg W v) = some (sgn v) := rfl
theorem sgn_neg (v : Int) : decide (sgn v < (0 : Int)) = decide (v < 0) := by
  unfold sgn
  by_cases h : v < 0
  · rw [if_pos h, decide_eq_true h]; rfl
  · rw [if_neg h, decide_eq_false h]
    split <;> rfl
theorem rw_const : ∀ (n : Nat), rw_ 8 0 n = List.replicate n 0 ∧ rw_ 8 (-1) n = List.replicate n 255
  | 0 => ⟨rfl, rfl⟩
  | n + 1 => by
    obtain ⟨a, b⟩ := rw_const n
    constructor
    · show ((0 : Int) % 2 ^ 8) :: rw_ 8 (0 / 2 ^ 8) n = _
      rw [show (0 : Int) / 2 ^ 8 = 0 from by decide, a]; rfl
    · show ((-1 : Int) % 2 ^ 8) :: rw_ 8 (-1 / 2 ^ 8) n = _
      rw [show (-1 : Int) / 2 ^ 8 = -1 from by decide, b]; rfl
theorem far_ok {v : Int} {n : Nat} (hl : lst v true ≤ n) (hn : 1 ≤ n) : v / 2 ^ (n * 8) = if v < 0 then -1 else 0 := by
  have h := fit_s hl hn
  have mc := mag_cast v
  have e := (half256 hn).1
  rw [pow8]
  generalize 256 ^ n = Q at *
  generalize 2 ^ (8 * n - 1) = R at *
  by_cases neg : v < 0
  · rw [if_pos neg] at mc ⊢
    have := Int.ediv_emod_unique (a := v) (b := (Q : Int)) (r := v + Q) (q := -1) (by omega)
    exact (this.mpr ⟨by omega, by omega, by omega⟩).1
  · rw [if_neg neg] at mc ⊢
    exact Int.ediv_eq_zero_of_lt (by omega) (by omega)
theorem each_ok (hS : S.w = (W : Int)) (h8 : 8 ≤ W) (h30 : W ≤ 30) {v : Int} {n : Nat} (hl : lst v true ≤ n) (hn : n ≤ 9000) {K : Nat} (hK : 32 ≤ K ∧ K ≤ 1000) (hv : v.natAbs < 2 ^ K) : Sat (M__law_each_right S (bg W v) (n : Int)) (fun r => r.1 = true ∧ r.2.w = (W : Int)) := by
  have nr : -(2 ^ K) ≤ v ∧ v < 2 ^ K := nab_rng hv
  unfold M__law_each_right
  by_cases z : n = 0
  · subst z
    have e := fit_0 (.inl rfl) hl
    subst e
    rw [if_pos (show decide (((0 : Nat) : Int) = 0) = true from rfl)]
    refine sat_eq (sign_ok W 0) (sat_chk rfl (sat_some ⟨rfl, hS⟩))
  rw [if_neg (by rw [decide_eq_true_iff]; omega)]
  refine sat_eq (tb_ok hS h8 h30 (.inl rfl) hl (by omega) (.inl rfl)) ?_
  have w1 : (tbS W S v n).w = (W : Int) := tbS_w.trans hS
  refine sat_eq (big_ok w1 h8 h30 (sz8_small h8 (k := 8) (by decide) (by decide))) (sat_let ?_)
  rw [od_l]
  refine sat_chk (by omega) (sat_chk (size_le (m := 9000) (by rw [rng_len]; omega) (by decide)) ?_)
  have lc : ∀ s : MS, s.w = (W : Int) → ∃ s', lcM (fun (a9 : Int) (s8 : MS) => (chkP (IntMulOk (8 : Int) a9)).bind fun z10 => (M_shift_right s8 (bg W v) ((8 : Int) * a9)).bind fun z11 => (M_bit_and z11.2 z11.1 (bg W 255)).bind fun z12 => (M_plain z12.1).bind fun z13 => some (some z13, z12.2)) (rng 0 n) s = some (rw_ 8 v n, s') ∧ s'.w = (W : Int) := fun s hs => by
    rw [rng_map, rw_get]
    have := lc_map (W := W) (b := fun (a9 : Nat) (s8 : MS) => (chkP (IntMulOk (8 : Int) (a9 : Int))).bind fun z10 => (M_shift_right s8 (bg W v) ((8 : Int) * (a9 : Int))).bind fun z11 => (M_bit_and z11.2 z11.1 (bg W 255)).bind fun z12 => (M_plain z12.1).bind fun z13 => some (some z13, z12.2)) (f := fun k : Nat => v / 2 ^ (8 * k) % 2 ^ 8) (fun k s hs => by
      refine ⟨combS W (rightS W s v ((8 * k : Nat) : Int)) "and" (v / 2 ^ (8 * k)) 255 (v / 2 ^ (8 * k) % 2 ^ 8), ?_, combS_w.trans (rightS_w.trans hs)⟩
      refine bnd_of (chkP_eq (mul_small (by decide))) ?_
      refine bnd_of (right_ok hs h8 h30 (x := v) (8 * k) (sz8_small h8 hv (by omega))) ?_
      have sa := shr_abs v (8 * k)
      refine bnd_of (and_ok (rightS_w.trans hs) h8 h30 (k := K) (by omega) (nab_rng (Nat.lt_of_le_of_lt sa hv)) (nab_rng (nab_small (by decide) (by omega)))) ?_
      rw [show band (v / 2 ^ (8 * k)) 255 = v / 2 ^ (8 * k) % 2 ^ 8 from band_low _ 8]
      exact bnd_of (plain_ok W _) rfl) (List.range n) s hs
    obtain ⟨s', e, h'⟩ := this
    exact ⟨s', (lcM_map _ _).trans e, h'⟩
  obtain ⟨s14, e14, w14⟩ := lc _ w1
  refine sat_eq e14 ?_
  have nn : Builtin.bitNot v = -v - 1 := bnot_eq v
  refine sat_eq (not_ok w14 h8 h30 (k := K) (by omega) nr) ?_
  have w16 : (notS W s14 v).w = (W : Int) := notS_w.trans w14
  rw [nn]
  have hl2 : lst (-v - 1) true ≤ n := lst_of (by omega) (by rw [not_mag]; exact fit_s hl (by omega))
  refine sat_eq (tb_ok w16 h8 h30 (.inl rfl) hl2 (by omega) (.inl rfl)) ?_
  rw [od_l]
  have w17 : (tbS W (notS W s14 v) (-v - 1) n).w = (W : Int) := tbS_w.trans w16
  refine sat_chk ⟨rfl, fun _ _ => trivial⟩ (sat_chk (size_le (m := 9000) (by rw [rw_len]; omega) (by decide)) ?_)
  refine sat_eq (lcM_mapU (f := fun x => (255 : Int) - x) fun x _ => rfl) ?_
  refine sat_chk ⟨congrArg LF.mk (rw_not n v), fun _ _ => trivial⟩ ?_
  refine sat_eq (tb_ok w17 h8 h30 (n := n + 3) (.inl rfl) (Nat.le_trans hl (by omega)) (by omega) (.inl rfl)) (sat_eq (sign_ok W v) ?_)
  rw [od_l, sgn_neg]
  have w25 : (tbS W (tbS W (notS W s14 v) (-v - 1) n) v (n + 3)).w = (W : Int) := tbS_w.trans w17
  refine sat_chk (mul_small (by decide)) (sat_chk ⟨by decide, by show 3 ≤ sizeLine; decide⟩ ?_)
  have el : rw_ 8 v (n + 3) = rw_ 8 v n ++ (List.replicate ((3 : Int)).toNat ([((255 : Int) * (if (decide (v < (0 : Int))) = true then (1 : Int) else 0))] : List Int)).flatten := by
    rw [rw_app, far_ok hl (by omega)]
    congr 1
    by_cases q : v < 0
    · rw [if_pos q, if_pos (decide_eq_true q), (rw_const 3).2]; rfl
    · rw [if_neg q, if_neg (by simpa using q), (rw_const 3).1]; rfl
  refine sat_chk (size_le (m := 9003) (by rw [rw_len]; show n + 3 ≤ 9003; omega) (by decide)) (sat_chk ⟨fun _ _ => trivial, fun _ _ => trivial⟩ ?_)
  rw [← el]
  refine sat_chk (by rw [eqD_iff.mpr rfl]) (sat_some ⟨rfl, w25⟩)
end
def due (n : Nat) (k : Int) (ng : Bool) : List (Str × Int) :=
  [(("looked" : Str), ((n : Int) - k) + (if (decide ((0 : Int) < k)) = true then (1 : Int) else 0)), (("shifted" : Str), min (n : Int) (k + (if ng = true then (1 : Int) else 0))), (("complemented" : Str), (min (n : Int) (k + (if ng = true then (1 : Int) else 0))) * (if ng = true then (1 : Int) else 0))]
theorem nd3 : [("looked" : Str), ("shifted" : Str), ("complemented" : Str)].Nodup := by decide +kernel
theorem mw3 : ("looked" : Str) ∈ mwords ∧ ("shifted" : Str) ∈ mwords ∧ ("complemented" : Str) ∈ mwords := by decide +kernel
theorem ni1 : ("shifted" : Str) ∉ [("looked" : Str)] ∧ ("complemented" : Str) ∉ [("looked" : Str)] ∧ ("shifted" : Str) ∉ [("looked" : Str), ("complemented" : Str)] := by decide +kernel
theorem rd_counts {W c : Int} {n : Nat} {k : Int} {ng : Bool} (k0 : 0 ≤ k) (kn : k ≤ n) (n1 : 1 ≤ n) : Cnt (rdS (MS.fresh W c) n k ng) (due n k ng) ∧ (rdS (MS.fresh W c) n k ng).wk = [T3.mk ("from bytes" : Str) (n : Int) (0 : Int)] := by
  have e1 : ((n : Int) - k) + (if (decide ((0 : Int) < k)) = true then (1 : Int) else 0) = min ((n : Int) - k + 1) (n : Int) := by
    by_cases z : 0 < k
    · rw [if_pos (decide_eq_true z)]; omega
    · rw [if_neg (by rw [decide_eq_true_iff]; exact z)]; omega
  unfold due rdS
  rw [e1]
  generalize min ((n : Int) - k + 1) (n : Int) = a
  cases ng
  · refine ⟨?_, rfl⟩
    have h1 : Cnt (((MS.fresh W c).enter "from bytes" (n : Int) 0).step "looked" a) [(("looked" : Str), a)] := cnt_add (l := []) (cnt_enter (cnt_fresh W c)) (by decide +kernel) rfl (by simp)
    have h2 := cnt_add (n := k) (w := "shifted") h1 mw3.2.1 rfl ni1.1
    refine cnt_same_as h2 rfl nd3 (fun x hx => ?_) fun w hw => ?_
    · simp only [List.mem_cons, List.not_mem_nil, or_false] at hx
      rcases hx with h | h | h <;> rw [h]
      · exact mw3.1
      · exact mw3.2.1
      · exact mw3.2.2
    · have em : min (n : Int) (k + (if false = true then (1 : Int) else 0)) = k := by simp; omega
      rw [em]
      simp only [Bool.false_eq_true, if_false, Int.mul_zero, List.lookup_cons, List.cons_append, List.nil_append, List.lookup_nil]
      constructor
      · intro x hx hp
        cases q1 : (w == ("looked" : Str))
        · cases q2 : (w == ("shifted" : Str))
          · cases q3 : (w == ("complemented" : Str))
            · rw [q1, q2, q3] at hx; cases hx
            · rw [q1, q2, q3] at hx; cases hx; exact absurd hp (by decide)
          · rw [q1, q2] at hx; exact hx
        · rw [q1] at hx; exact hx
      · intro x hx hp
        cases q1 : (w == ("looked" : Str))
        · cases q2 : (w == ("shifted" : Str))
          · rw [q1, q2] at hx; cases hx
          · rw [q1, q2] at hx; exact hx
        · rw [q1] at hx; exact hx
  · refine ⟨?_, rfl⟩
    have em : min (n : Int) (k + (if true = true then (1 : Int) else 0)) = min (k + 1) (n : Int) := by rw [if_pos rfl]; omega
    rw [em, if_pos rfl, if_pos rfl, Int.mul_one]
    generalize min (k + 1) (n : Int) = b
    have h1 : Cnt (((MS.fresh W c).enter "from bytes" (n : Int) 0).step "looked" a) [(("looked" : Str), a)] := cnt_add (l := []) (cnt_enter (cnt_fresh W c)) (by decide +kernel) rfl (by simp)
    have h2 := cnt_add (n := b) (w := "complemented") h1 mw3.2.2 rfl ni1.2.1
    have h3 := cnt_add (n := b) (w := "shifted") h2 mw3.2.1 rfl ni1.2.2
    refine cnt_same_as h3 rfl nd3 (fun x hx => ?_) fun w hw => ?_
    · simp only [List.mem_cons, List.not_mem_nil, or_false] at hx
      rcases hx with h | h | h <;> rw [h]
      · exact mw3.1
      · exact mw3.2.1
      · exact mw3.2.2
    · have sw : List.lookup w [(("looked" : Str), a), (("shifted" : Str), b), (("complemented" : Str), b)] = List.lookup w ([(("looked" : Str), a)] ++ [(("complemented" : Str), b)] ++ [(("shifted" : Str), b)]) := by
        simp only [List.lookup_cons, List.cons_append, List.nil_append, List.lookup_nil]
        cases q1 : (w == ("looked" : Str)) <;> cases q2 : (w == ("shifted" : Str)) <;> cases q3 : (w == ("complemented" : Str)) <;> rfl
      rw [sw]
      exact ⟨fun _ h _ => h, fun _ h _ => h⟩
section
variable {W : Nat} {S : MS}
theorem blen_ok2 {W : Nat} {v : Int} {sg : Bool} (hf : sg = true ∨ 0 ≤ v) : M_byte_length (bg W v) sg = some ((lst v sg : Nat) : Int) := by
  unfold M_byte_length
  refine bnd_of (show M_check_big (bg W v) "x" = some () from bnd_of (a := ()) (chkP_eq rfl) rfl) (bnd_of (signed_ok sg) (bnd_of (chkP_eq ?_) (bnd_of (lst_ok v sg) rfl)))
  rcases hf with e | e
  · rw [e]; simp
  · rw [show decide ((bg W v).v < (0 : Int)) = false from decide_eq_false (by show ¬ v < 0; omega)]; rfl
theorem lst_le {v : Int} {sg : Bool} {k : Nat} (h : v.natAbs < 2 ^ k) : lst v sg ≤ k / 8 + 2 := by
  have mc := mag_cast v
  have hm : mag v < 2 ^ k := by split at mc <;> omega
  have := bl_le.mpr hm
  unfold lst
  split
  · omega
  · have : b1 sg ≤ 1 := by unfold b1; split <;> decide
    omega
theorem bjoin_ok (hS : S.w = (W : Int)) (h8 : 8 ≤ W) (h30 : W ≤ 30) {v y : Int} {K : Nat} (hK : 32 ≤ K ∧ K ≤ 1000) (hv : v.natAbs < 2 ^ K) (hy0 : 0 ≤ y) (hy : y.natAbs < 2 ^ K) : Sat (M__law_joined_right S (bg W v) (bg W y)) (fun r => r.1 = true ∧ r.2.w = (W : Int)) := by
  have la := lst_le (sg := false) hy
  have lb := lst_le (sg := true) hv
  unfold M__law_joined_right
  refine sat_eq (blen_ok2 (.inr hy0)) ?_
  generalize ha : lst y false = a at la
  refine sat_eq (tb_ok hS h8 h30 (.inr hy0) (by omega : lst y false ≤ a) (by omega) (.inl rfl)) (sat_eq (blen_ok2 (.inl rfl)) ?_)
  have w1 : (tbS W S y a).w = (W : Int) := tbS_w.trans hS
  obtain ⟨b, hb, lvb, hb1⟩ : ∃ b : Nat, max (1 : Int) ((lst v true : Nat) : Int) = (b : Int) ∧ lst v true ≤ b ∧ 1 ≤ b ∧ b ≤ 200 := ⟨max 1 (lst v true), by omega, by omega, by omega, by omega⟩
  rw [hb]
  refine sat_eq (tb_ok w1 h8 h30 (.inl rfl) lvb (by omega) (.inl rfl)) ?_
  rw [od_l, od_l]
  have w2 : (tbS W (tbS W S y a) v b).w = (W : Int) := tbS_w.trans w1
  refine sat_chk (mul_small (by decide)) ?_
  have e1 : ((8 : Int) * ((rw_ 8 y a).length : Int)) = ((8 * a : Nat) : Int) := by rw [rw_len]; push_cast; rfl
  rw [e1]
  refine sat_eq (left_ok w2 h8 h30 (x := v) (c := 8 * a) (fun _ => by omega) (Nat.le_trans (bl_le.mpr hv) (by omega))) ?_
  have w3 : (leftS W (tbS W (tbS W S y a) v b) v ((8 * a : Nat) : Int)).w = (W : Int) := leftS_w.trans w2
  have hyl : y < 2 ^ (8 * a) := by
    have := fit_u (v := y) (n := a) (by omega)
    have mc := mag_cast y
    rw [if_neg (by omega)] at mc
    rw [p2]
    omega
  have za : (v * 2 ^ (8 * a)).natAbs < 2 ^ 4000 := by
    have := nab_mul (a := v) (b := (2 : Int) ^ (8 * a)) (j := K) (k := 8 * a + 1) hv (by rw [p2, Int.natAbs_natCast]; exact Nat.pow_lt_pow_right (by decide) (by omega))
    exact nab_mono this (by omega)
  refine sat_eq (or_ok w3 h8 h30 (k := 4000) (by decide) (nab_rng za) (nab_rng (nab_mono hy (by omega)))) ?_
  have orE : Builtin.bitOr (v * 2 ^ (8 * a)) y = v * 2 ^ (8 * a) + y := by
    rw [bor_eq, show band (v * 2 ^ (8 * a)) y = band y (v * 2 ^ (8 * a)) from PyProof.Rows.bitAnd_comm _ _, band_lh hy0 hyl]
    omega
  rw [orE]
  generalize hz : v * 2 ^ (8 * a) + y = z
  have w4 : (combS W (leftS W (tbS W (tbS W S y a) v b) v ((8 * a : Nat) : Int)) "or" (v * 2 ^ (8 * a)) y z).w = (W : Int) := combS_w.trans w3
  refine sat_chk (size_le (m := 10000) (by rw [rw_len, rw_len]; omega) (by decide)) ?_
  have P0 := ppos (8 * a)
  have zm : z % 2 ^ (a * 8) = y := by
    rw [Nat.mul_comm, ← hz, Int.add_comm, Int.add_mul_emod_self_right, Int.emod_eq_of_lt hy0 hyl]
  have zd : z / 2 ^ (a * 8) = v := by
    rw [Nat.mul_comm, ← hz, Int.add_comm, Int.add_mul_ediv_right _ _ (by omega), Int.ediv_eq_zero_of_lt hy0 hyl, Int.zero_add]
  have el : rw_ 8 y a ++ rw_ 8 v b = rw_ 8 z (a + b) := by
    rw [rw_app, zd, ← rw_mod 8 a z, zm]
  have lz : lst z true ≤ a + b := by
    refine lst_of (by omega) ?_
    have fs := fit_s lvb hb1.1
    have ep : 2 ^ (8 * (a + b) - 1) = 2 ^ (8 * b - 1) * 2 ^ (8 * a) := by rw [← Nat.pow_add]; congr 1; omega
    have mv := mag_cast v
    have mz := mag_cast z
    rw [ep]
    have pp8 : (2 : Int) ^ (8 * a) = ((2 ^ (8 * a) : Nat) : Int) := p2 _
    rw [pp8] at hz hyl
    generalize 2 ^ (8 * a) = Q at *
    generalize 2 ^ (8 * b - 1) = R at *
    have hQ : 0 < Q := by omega
    by_cases nv : v < 0
    · rw [if_pos nv] at mv
      have h1 : v * (Q : Int) ≤ (-1) * (Q : Int) := Int.mul_le_mul_of_nonneg_right (by omega) (by omega)
      have nz : z < 0 := by omega
      rw [if_pos nz] at mz
      have h2 : ((mag v : Nat) : Int) + 1 ≤ (R : Int) := by omega
      have h3 : (((mag v : Nat) : Int) + 1) * (Q : Int) ≤ (R : Int) * (Q : Int) := Int.mul_le_mul_of_nonneg_right h2 (by omega)
      have h4 : (((mag v : Nat) : Int) + 1) * (Q : Int) = -(v * (Q : Int)) := by rw [mv, show (-v - 1 + 1 : Int) = -v from by omega, Int.neg_mul]
      have h5 : ((R * Q : Nat) : Int) = (R : Int) * (Q : Int) := by push_cast; rfl
      omega
    · rw [if_neg nv] at mv
      have h0 : 0 ≤ v * (Q : Int) := Int.mul_nonneg (by omega) (by omega)
      rw [if_neg (by omega)] at mz
      have h3 : (((mag v : Nat) : Int) + 1) * (Q : Int) ≤ (R : Int) * (Q : Int) := Int.mul_le_mul_of_nonneg_right (by omega) (by omega)
      rw [Int.add_mul, Int.one_mul, mv] at h3
      have h5 : ((R * Q : Nat) : Int) = (R : Int) * (Q : Int) := by push_cast; rfl
      omega
  rw [el]
  have fb := fb2_ok (o := "little") w4 h8 h30 (.inl rfl) lz (by omega) (.inl rfl)
  rw [od_l] at fb
  refine sat_eq fb (sat_eq (eq_self W z) (sat_chk rfl (sat_some ⟨rfl, rbS_w.trans w4⟩)))
/-! counts -/
theorem tb_cnt {c : Int} {v : Int} {n : Nat} : Cnt (tbS W (MS.fresh (W : Int) c) v n) [(("shifted" : Str), ((sz 8 (mag v) : Nat) : Int)), (("complemented" : Str), (((sz W v.natAbs : Nat) : Int) * (if (decide (v < (0 : Int))) = true then (1 : Int) else 0)))] ∧ (tbS W (MS.fresh (W : Int) c) v n).wk = [T3.mk ("to bytes" : Str) ((sz W v.natAbs : Nat) : Int) (n : Int)] := by
  have nd2 : [("shifted" : Str), ("complemented" : Str)].Nodup := by decide +kernel
  have mw2 : ("shifted" : Str) ∈ mwords ∧ ("complemented" : Str) ∈ mwords := by decide +kernel
  have ne2 : ("shifted" : Str) ∉ [("complemented" : Str)] := by decide +kernel
  have sub : ∀ (a b : Int) (x : Str × Int), x ∈ [(("shifted" : Str), a), (("complemented" : Str), b)] → x.1 ∈ mwords := fun a b x hx => by
    simp only [List.mem_cons, List.not_mem_nil, or_false] at hx
    rcases hx with h | h <;> rw [h]
    · exact mw2.1
    · exact mw2.2
  unfold tbS
  generalize ((sz 8 (mag v) : Nat) : Int) = s
  generalize ((sz W v.natAbs : Nat) : Int) = m
  by_cases q : v < 0
  · rw [if_pos q, if_pos (decide_eq_true q), Int.mul_one]
    refine ⟨?_, rfl⟩
    have h1 : Cnt (((MS.fresh (W : Int) c).enter "to bytes" m (n : Int)).step "complemented" m) [(("complemented" : Str), m)] := cnt_add (l := []) (cnt_enter (cnt_fresh (W : Int) c)) mw2.2 rfl (by simp)
    have h2 := cnt_add (n := s) (w := "shifted") h1 mw2.1 rfl ne2
    refine cnt_same_as h2 rfl nd2 (sub _ _) fun w hw => ?_
    have sw : List.lookup w [(("shifted" : Str), s), (("complemented" : Str), m)] = List.lookup w ([(("complemented" : Str), m)] ++ [(("shifted" : Str), s)]) := by
      simp only [List.lookup_cons, List.cons_append, List.nil_append, List.lookup_nil]
      by_cases e1 : w = "shifted"
      · rw [e1, show (("shifted" : Str) == ("shifted" : Str)) = true from beq_self_eq_true _, show (("shifted" : Str) == ("complemented" : Str)) = false from by decide +kernel]
      · rw [show (w == ("shifted" : Str)) = false from beq_false_of_ne e1]
    rw [sw]
    exact ⟨fun _ h _ => h, fun _ h _ => h⟩
  · rw [if_neg q, if_neg (by simpa using q), Int.mul_zero]
    refine ⟨?_, rfl⟩
    have h1 : Cnt (((MS.fresh (W : Int) c).enter "to bytes" m (n : Int)).step "shifted" s) [(("shifted" : Str), s)] := cnt_add (l := []) (cnt_enter (cnt_fresh (W : Int) c)) mw2.1 rfl (by simp)
    refine cnt_same_as h1 rfl nd2 (sub _ _) fun w hw => ?_
    simp only [List.lookup_cons, List.lookup_nil]
    constructor
    · intro x hx hp
      cases q1 : (w == ("shifted" : Str))
      · rw [q1] at hx
        cases q2 : (w == ("complemented" : Str))
        · rw [q2] at hx; cases hx
        · rw [q2] at hx; cases hx; exact absurd hp (by decide)
      · rw [q1] at hx; exact hx
    · intro x hx hp
      cases q1 : (w == ("shifted" : Str))
      · rw [q1] at hx; cases hx
      · rw [q1] at hx; exact hx
end
section
variable {W : Nat} {S : MS}
theorem ab_tb (v : Int) (n : Nat) : ActB W 1 (fun S => tbS W S v n) := by
  unfold tbS
  exact ab_step (ab_ite (fun _ => ab_step (ab_enter ab_id "to bytes" _ _) "complemented" _) fun _ => ab_enter ab_id "to bytes" _ _) "shifted" _
theorem ab_rb (v : Int) (n : Nat) : ActB W 1 (fun S => rbS S v n) := by
  unfold rbS rdS
  refine ab_ite (fun _ => ab_id.mono (by decide)) fun _ => ?_
  exact ab_ite (fun _ => ab_step (ab_step (ab_step (ab_enter ab_id "from bytes" _ _) "looked" _) "complemented" _) "shifted" _) fun _ => ab_step (ab_step (ab_enter ab_id "from bytes" _ _) "looked" _) "shifted" _
/-- one of the calls -/
def OpOk (W : Nat) (m : Nat → MS → Option MS) (f : Nat → MS → MS) (j : Nat) : Prop := ActB W 4 (f j) ∧ ∀ S : MS, S.w = (W : Int) → m j S = some (f j S)
/-- the first walk -/
theorem loop1_ok {c : Int} {m : Nat → MS → Option MS} {f : Nat → MS → MS} : ∀ (js : List Nat) (st : (List (T3 Str Int Int)) × MS × (List (LF Int))), (∀ j ∈ js, OpOk W m f j) → st.2.1.w = (W : Int) → st.2.1.c = c → st.2.2.length + js.length ≤ 1000 → st.1.length + 4 * js.length ≤ 10000 →
    ∃ S', forM' (ρ := Unit) (fun (a18 : Nat) (s17 : (List (T3 Str Int Int)) × MS × (List (LF Int))) => (m a18 s17.2.1.reset).bind fun z26 => (chkP (z26.tally.length ≤ sizeLine)).bind fun z28 => (lcM (fun (a30 : (Str × Int)) (s29 : Unit) => some (some a30.2, ())) z26.tally ()).bind fun z31 => (chkP (s17.2.2.length < sizeLine)).bind fun z33 => (chkP (s17.1.length + z26.wk.length ≤ sizeLine)).bind fun z34 => (some (s17.1 ++ z26.wk)).bind fun y35 => some (Stp.nx (y35, z26, (s17.2.2 ++ [(LF.mk z31.1)])))) js st
      = some (.nx (st.1 ++ js.flatMap (fun j => (f j (MS.fresh (W : Int) c)).wk), S', st.2.2 ++ js.map fun j => LF.mk ((f j (MS.fresh (W : Int) c)).tally.map (·.2)))) ∧ S'.w = (W : Int) ∧ S'.c = c
  | [], (e, S, r), _, h1, h2, _, _ => ⟨S, by rw [List.flatMap_nil, List.map_nil, List.append_nil, List.append_nil]; rfl, h1, h2⟩
  | j :: js, (e, S, r), ho, h1, h2, l1, l2 => by
    obtain ⟨⟨l, k1, k2, k3⟩, hm⟩ := ho j List.mem_cons_self
    have hr : S.reset = MS.fresh (W : Int) c := by show MS.fresh S.w S.c = _; rw [h1, h2]
    have fe := k3 (MS.fresh (W : Int) c) rfl
    have fw : (f j (MS.fresh (W : Int) c)).w = (W : Int) := by rw [fe]; exact runM_w _ _
    have fc : (f j (MS.fresh (W : Int) c)).c = c := by rw [fe]; exact runM_c _ _
    have wl : (f j (MS.fresh (W : Int) c)).wk.length ≤ 4 := by
      rw [fe, run_wk l (MS.fresh (W : Int) c) [] rfl, List.length_take, runW_len]
      show min 1000 (0 + evN l) ≤ 4
      omega
    rw [List.length_cons] at l1 l2
    obtain ⟨S', q, w1, w2⟩ := loop1_ok (c := c) (m := m) (f := f) js (e ++ (f j (MS.fresh (W : Int) c)).wk, f j (MS.fresh (W : Int) c), r ++ [LF.mk ((f j (MS.fresh (W : Int) c)).tally.map (·.2))]) (fun i hi => ho i (List.mem_cons_of_mem _ hi)) fw fc (by simp only [List.length_append, List.length_singleton] at *; omega) (by simp only [List.length_append] at *; omega)
    refine ⟨S', ?_, w1, w2⟩
    rw [forM_cons (s' := (e ++ (f j (MS.fresh (W : Int) c)).wk, f j (MS.fresh (W : Int) c), r ++ [LF.mk ((f j (MS.fresh (W : Int) c)).tally.map (·.2))])) (by
      dsimp only
      rw [hr]
      refine bnd_of (hm _ rfl) (bnd_of (chkP_eq (size_le (m := 10) (by rw [tally_len]; omega) (by decide))) (bnd_of (lcM_mapU (f := fun x : Str × Int => x.2) fun x _ => rfl) ?_))
      refine bnd_of (chkP_eq (size_lt (m := 1000) (by dsimp only at l1; omega) (by decide))) (bnd_of (chkP_eq (size_le (m := 10000) (by dsimp only at l2; omega) (by decide))) rfl)), q]
    rw [List.flatMap_cons, List.map_cons, List.append_assoc, List.append_assoc]
    rfl
/-- the second walk -/
theorem loop2_ok {m : Nat → MS → Option MS} {f : Nat → MS → MS} : ∀ (js : List Nat) (S : MS), (∀ j ∈ js, OpOk W m f j) → S.w = (W : Int) →
    forM' (ρ := Unit) (fun (a39 : Nat) (s38 : MS) => (m a39 s38).bind fun z47 => some (Stp.nx z47)) js S = some (.nx (js.foldl (fun S j => f j S) S))
  | [], S, _, _ => rfl
  | j :: js, S, ho, h1 => by
    obtain ⟨⟨l, k1, k2, k3⟩, hm⟩ := ho j List.mem_cons_self
    have fw : (f j S).w = (W : Int) := by rw [k3 S h1]; exact (runM_w _ _).trans h1
    rw [forM_cons (s' := f j S) (bnd_of (hm S h1) rfl), loop2_ok js (f j S) (fun i hi => ho i (List.mem_cons_of_mem _ hi)) fw]
    rfl
/-- the events of all -/
theorem run_all {m : Nat → MS → Option MS} {f : Nat → MS → MS} {c : Int} : ∀ (js : List Nat), (∀ j ∈ js, OpOk W m f j) → ∃ l, WOk l ∧ evN l ≤ 4 * js.length ∧ (∀ S : MS, S.w = (W : Int) → js.foldl (fun S j => f j S) S = runM l S) ∧
    (∀ w, tot w l = (js.map fun j => (f j (MS.fresh (W : Int) c)).cnt w).sum) ∧ runW l [] = js.flatMap (fun j => (f j (MS.fresh (W : Int) c)).wk)
  | [], _ => ⟨[], wok_nil, Nat.le_refl _, fun _ _ => rfl, fun _ => rfl, rfl⟩
  | j :: js, ho => by
    obtain ⟨⟨l, k1, k2, k3⟩, hm⟩ := ho j List.mem_cons_self
    obtain ⟨t, t1, t2, t3, t4, t5⟩ := run_all (c := c) js fun i hi => ho i (List.mem_cons_of_mem _ hi)
    have fe := k3 (MS.fresh (W : Int) c) rfl
    refine ⟨l ++ t, wok_app k1 t1, by rw [evN_app, List.length_cons]; omega, fun S hS => ?_, fun w => ?_, ?_⟩
    · rw [runM_app, ← k3 S hS]
      exact t3 _ (by show (f j S).w = _; rw [k3 S hS]; exact (runM_w _ _).trans hS)
    · rw [tot_app, t4, List.map_cons, List.sum_cons, fe, run_cnt]
      show _ = (0 + tot w l) + _
      omega
    · rw [runW_app, runW_self, t5, List.flatMap_cons, fe, run_wk l (MS.fresh (W : Int) c) [] rfl, List.take_of_length_le]
      rw [runW_len]
      show 0 + evN l ≤ 1000
      omega
theorem tally_at (S : MS) (k : Nat) : (S.tally.map (·.2))[k]? = (mwords[k]?).map S.cnt := by
  unfold MS.tally
  rw [List.map_map, List.getElem?_map]
  rfl
theorem atI_nat {l : List Int} {k : Nat} (h : k < l.length) : atI l (k : Int) = l[k]? := by
  have e : ixN l.length (k : Int) = some k := by
    unfold ixN
    simp
    omega
  show (ixN l.length (k : Int)).bind (fun j => l[j]?) = _
  rw [e]
  rfl
/-- sums of columns -/
theorem cols_ok {c : Int} {f : Nat → MS → MS} (js : List Nat) (hj : js.length ≤ 1000) : lcM (fun (a55 : Int) (s54 : Unit) => (chkP ((js.map fun j => LF.mk ((f j (MS.fresh (W : Int) c)).tally.map (·.2))).length ≤ sizeLine)).bind fun z56 => (lcM (fun (a58 : (LF Int)) (s57 : Unit) => (atI a58.l a55).bind fun z59 => some (some z59, ())) (js.map fun j => LF.mk ((f j (MS.fresh (W : Int) c)).tally.map (·.2))) ()).bind fun z60 => some (some z60.1.sum, ())) (rng 0 10) () = some (mwords.map fun w => (js.map fun j => (f j (MS.fresh (W : Int) c)).cnt w).sum, ()) := by
  have key : ∀ x ∈ rng 0 10, (fun (a55 : Int) (s54 : Unit) => (chkP ((js.map fun j => LF.mk ((f j (MS.fresh (W : Int) c)).tally.map (·.2))).length ≤ sizeLine)).bind fun z56 => (lcM (fun (a58 : (LF Int)) (s57 : Unit) => (atI a58.l a55).bind fun z59 => some (some z59, ())) (js.map fun j => LF.mk ((f j (MS.fresh (W : Int) c)).tally.map (·.2))) ()).bind fun z60 => some (some z60.1.sum, ())) x () = some (some ((fun x : Int => (js.map fun j => (f j (MS.fresh (W : Int) c)).cnt (mwords.getD x.toNat "")).sum) x), ()) := fun x hx => by
    obtain ⟨i, hi⟩ := List.mem_iff_getElem?.mp hx
    obtain ⟨i1, i2⟩ := rng_get hi
    rw [Int.zero_add] at i2
    subst i2
    refine bnd_of (chkP_eq (size_le (m := 1000) (by rw [List.length_map]; exact hj) (by decide))) ?_
    have hw : mwords[i]? = some (mwords.getD i "") := by
      have : i < mwords.length := i1
      rw [List.getD_eq_getElem?_getD, List.getElem?_eq_getElem this]
      rfl
    refine bnd_of (a := ((js.map fun j => (f j (MS.fresh (W : Int) c)).cnt (mwords.getD i "")), ())) ?_ rfl
    rw [lcM_map]
    refine lcM_mapU fun j _ => ?_
    have tl : i < ((f j (MS.fresh (W : Int) c)).tally.map (·.2)).length := by rw [List.length_map, tally_len]; exact i1
    rw [show (LF.mk ((f j (MS.fresh (W : Int) c)).tally.map (·.2))).l = (f j (MS.fresh (W : Int) c)).tally.map (·.2) from rfl, atI_nat tl, tally_at, hw]
    rfl
  rw [lcM_mapU key]
  rfl
end
section
variable {W : Nat} {S : MS}
/-- calls one behind the other -/
theorem sums_ok (hS : S.w = (W : Int)) (h8 : 8 ≤ W) (h30 : W ≤ 30) {v y : Int} {K : Nat} (hK : 32 ≤ K ∧ K ≤ 1000) (hv : v.natAbs < 2 ^ K) (hy : y.natAbs < 2 ^ K) : Sat (M__law_sums_right S (bg W v) (bg W y)) (fun r => r.1 = true ∧ r.2.w = (W : Int)) := by
  have lv := lst_le (sg := true) hv
  unfold M__law_sums_right
  refine sat_eq (blen_ok2 (.inl rfl)) (sat_let ?_)
  generalize hn : lst v true = n at lv
  refine sat_eq (tb_ok hS h8 h30 (.inl rfl) (by omega : lst v true ≤ n) (by omega) (.inr rfl)) ?_
  have w1 : (tbS W S v n).w = (W : Int) := tbS_w.trans hS
  obtain ⟨f, hf⟩ : ∃ f : Nat → MS → MS, f = fun j S => if j = 0 then tbS W S v n else if j = 1 then rbS S v n else if j = 2 then leftS W S v ((9 : Nat) : Int) else if j = 3 then rightS W S v ((9 : Nat) : Int) else if j = 4 then combS W S "and" v y (band v y) else if j = 5 then combS W S "or" v v (Builtin.bitOr v v) else notS W S y := ⟨_, rfl⟩
  obtain ⟨m, hm⟩ : ∃ m : Nat → MS → Option MS, m = fun a s => (if decide (a = 0) = true then (M_to_bytes s (bg W v) (n : Int) ("big" : Str) true).bind fun z19 => some z19.2 else if decide (a = 1) = true then (M_from_bytes s (od "big" (rw_ 8 v n)) ("big" : Str) true).bind fun z20 => some z20.2 else if decide (a = 2) = true then (M_shift_left s (bg W v) (9 : Int)).bind fun z21 => some z21.2 else if decide (a = 3) = true then (M_shift_right s (bg W v) (9 : Int)).bind fun z22 => some z22.2 else if decide (a = 4) = true then (M_bit_and s (bg W v) (bg W y)).bind fun z23 => some z23.2 else if decide (a = 5) = true then (M_bit_or s (bg W v) (bg W v)).bind fun z24 => some z24.2 else if decide (a = 6) = true then (M_bit_not s (bg W y)).bind fun z25 => some z25.2 else none) := ⟨_, rfl⟩
  have bv : bl v.natAbs ≤ 30000000 := Nat.le_trans (bl_le.mpr hv) (by omega)
  have ops : ∀ j ∈ ([6, 0, 1, 2, 3, 4, 5, 0, 1, 2, 3, 4, 5] : List Nat), OpOk W m f j := fun j hj => by
    have hj2 : j = 0 ∨ j = 1 ∨ j = 2 ∨ j = 3 ∨ j = 4 ∨ j = 5 ∨ j = 6 := by
      simp only [List.mem_cons, List.not_mem_nil, or_false] at hj
      omega
    rw [hm, hf]
    rcases hj2 with e | e | e | e | e | e | e <;> subst e
    · exact ⟨(ab_tb v n).mono (by decide), fun S hS => bnd_of (tb_ok hS h8 h30 (.inl rfl) (by omega : lst v true ≤ n) (by omega) (.inr rfl)) rfl⟩
    · exact ⟨(ab_rb v n).mono (by decide), fun S hS => bnd_of (fb2_ok hS h8 h30 (.inl rfl) (by omega : lst v true ≤ n) (by omega) (.inr rfl)) rfl⟩
    · exact ⟨(ab_left v _).mono (by decide), fun S hS => bnd_of (left_ok hS h8 h30 (c := 9) (fun _ => by decide) bv) rfl⟩
    · exact ⟨(ab_right v _).mono (by decide), fun S hS => bnd_of (right_ok hS h8 h30 9 (sz8_small h8 hv (by omega))) rfl⟩
    · exact ⟨ab_comb "and" (by decide +kernel) v y _, fun S hS => bnd_of (and_ok hS h8 h30 (k := K) (by omega) (nab_rng hv) (nab_rng hy)) rfl⟩
    · exact ⟨ab_comb "or" (by decide +kernel) v v _, fun S hS => bnd_of (or_ok hS h8 h30 (k := K) (by omega) (nab_rng hv) (nab_rng hv)) rfl⟩
    · exact ⟨(ab_not y).mono (by decide), fun S hS => bnd_of (not_ok hS h8 h30 (k := K) (by omega) (nab_rng hy)) rfl⟩
  generalize hjs : ([6, 0, 1, 2, 3, 4, 5, 0, 1, 2, 3, 4, 5] : List Nat) = js at ops ⊢
  have ljs : js.length = 13 := by rw [← hjs]; rfl
  obtain ⟨S1, q1, u1, u2⟩ := loop1_ok (c := (tbS W S v n).c) js (([] : List (T3 Str Int Int)), tbS W S v n, ([] : List (LF Int))) ops w1 rfl (by rw [ljs]; show 0 + 13 ≤ 1000; decide) (by rw [ljs]; show 0 + 4 * 13 ≤ 10000; decide)
  rw [hm] at q1
  refine sat_eq q1 (sat_nx ?_)
  have rS : S1.reset = MS.fresh (W : Int) (tbS W S v n).c := by show MS.fresh S1.w S1.c = _; rw [u1, u2]
  have q2 := loop2_ok js (MS.fresh (W : Int) (tbS W S v n).c) ops rfl
  rw [hm] at q2
  dsimp only
  rw [rS]
  refine sat_eq q2 (sat_nx ?_)
  obtain ⟨l, k1, k2, k3, k4, k5⟩ := run_all (c := (tbS W S v n).c) js ops
  generalize (tbS W S v n).c = c at *
  rw [k3 _ rfl, List.nil_append, List.nil_append]
  have a0 : atI (js.map fun j => LF.mk ((f j (MS.fresh (W : Int) c)).tally.map (·.2))) (0 : Int) = some (LF.mk ((f 6 (MS.fresh (W : Int) c)).tally.map (·.2))) := by rw [← hjs]; rfl
  refine sat_eq a0 ?_
  have l10 : ((f 6 (MS.fresh (W : Int) c)).tally.map (·.2)).length = 10 := by rw [List.length_map, tally_len]
  rw [l10]
  refine sat_chk (by decide) (sat_chk (by rw [rng_len]; show 10 ≤ sizeLine; decide) ?_)
  refine sat_eq (cols_ok js (by rw [ljs]; decide)) ?_
  refine sat_chk (size_le (m := 10) (by rw [tally_len]; omega) (by decide)) ?_
  refine sat_eq (lcM_mapU (f := fun x : Str × Int => x.2) fun x _ => rfl) ?_
  have et : (runM l (MS.fresh (W : Int) c)).tally.map (fun x => x.2) = mwords.map fun w => (js.map fun j => (f j (MS.fresh (W : Int) c)).cnt w).sum := by
    unfold MS.tally
    rw [List.map_map]
    refine List.map_congr_left fun w _ => ?_
    show (runM l (MS.fresh (W : Int) c)).cnt w = _
    rw [run_cnt, k4]
    show 0 + _ = _
    omega
  have ew : (runM l (MS.fresh (W : Int) c)).wk = js.flatMap (fun j => (f j (MS.fresh (W : Int) c)).wk) := by
    rw [run_wk l (MS.fresh (W : Int) c) [] rfl, ← k5, List.take_of_length_le]
    rw [runW_len]
    show 0 + evN l ≤ 1000
    omega
  have wk := wrun_lay (S := MS.fresh (W : Int) c) k1 wkok_nil
  rw [et, ← ew]
  refine sat_chk ⟨fun _ _ => trivial, fun _ _ => trivial⟩ ?_
  refine sat_eq (a := true) ?_ (sat_chk rfl (sat_some ⟨rfl, by show (runM l (MS.fresh (W : Int) c)).w = _; exact runM_w _ _⟩))
  rw [eqD_iff.mpr rfl, if_pos rfl]
  refine bnd_of (chkP_eq ⟨wkok_dat wk, wkok_dat wk⟩) ?_
  rw [eqD_iff.mpr rfl]
theorem counts_ok (hS : S.w = (W : Int)) (h8 : 8 ≤ W) (h30 : W ≤ 30) {v : Int} {K : Nat} (hK : 32 ≤ K ∧ K ≤ 1000) (hv : v.natAbs < 2 ^ K) : Sat (M__law_counts_right S (bg W v)) (fun r => r.1 = true ∧ r.2.w = (W : Int)) := by
  have ll := lst_le (sg := true) hv
  unfold M__law_counts_right
  refine sat_eq (show M_Big_digits (bg W v) = some (dg W v.natAbs) from rfl) (sat_eq (sign_ok W v) ?_)
  rw [sgn_neg, dg_size (by omega)]
  refine sat_let (sat_let (sat_eq (blen_ok2 (.inl rfl)) ?_))
  generalize hn : lst v true = n at ll
  have pick : Sat (if (decide ((if (decide (v < (0 : Int))) = true then (1 : Int) else 0) = (1 : Int))) = true then (M_bit_not S (bg W v)).bind fun z6 => some (z6.1, z6.2) else some (bg W v, S)) (fun r => r.1 = bg W (if v < 0 then -v - 1 else v) ∧ r.2.w = (W : Int)) := by
    by_cases q : v < 0
    · rw [if_pos (show decide ((if (decide (v < (0 : Int))) = true then (1 : Int) else 0) = (1 : Int)) = true from by rw [decide_eq_true q]; rfl), if_pos q]
      refine sat_eq (not_ok hS h8 h30 (k := K) (by omega) (nab_rng hv)) (sat_some ⟨?_, notS_w.trans hS⟩)
      show bg W (Builtin.bitNot v) = _
      rw [bnot_eq]
    · rw [if_neg (show ¬ decide ((if (decide (v < (0 : Int))) = true then (1 : Int) else 0) = (1 : Int)) = true from by rw [decide_eq_false q]; decide), if_neg q]
      exact sat_some ⟨rfl, hS⟩
  refine sat_bind pick fun r ⟨e1, w1⟩ => ?_
  rw [e1]
  refine sat_eq (blen_ok W _) ?_
  rw [← mag_cast v, Int.natAbs_natCast]
  obtain ⟨F, hF⟩ : ∃ F, F = MS.fresh (W : Int) r.2.c := ⟨_, rfl⟩
  have rF : r.2.reset = F := by rw [hF, ← w1]; rfl
  have Fw : F.w = (W : Int) := by rw [hF]; rfl
  rw [rF]
  refine sat_eq (tb_ok Fw h8 h30 (.inl rfl) (by omega : lst v true ≤ n) (by omega) (.inr rfl)) ?_
  have kp : (((bl (mag v) : Nat) : Int) + (7 : Int)) / (8 : Int) = ((sz 8 (mag v) : Nat) : Int) := by unfold sz; omega
  rw [kp]
  refine sat_chk (cdiv_s (by decide) (by decide)) (sat_chk (mul_small' (by split <;> decide)) (sat_chk (by show [("shifted" : Str), ("complemented" : Str)].Nodup; decide +kernel) ?_))
  obtain ⟨c1, c2⟩ := tb_cnt (W := W) (c := r.2.c) (v := v) (n := n)
  rw [← hF] at c1 c2
  refine sat_eq (counted_ok c1 (by show 2 ≤ 100; decide) c2 wkok_one) (sat_chk rfl ?_)
  have R1 : (tbS W F v n).reset = F := by
    show MS.fresh (tbS W F v n).w (tbS W F v n).c = F
    rw [tbS_w, Fw, show (tbS W F v n).c = F.c from by unfold tbS; split <;> rfl, hF]
    rfl
  rw [R1]
  by_cases z : n = 0
  · subst z
    rw [if_pos (show decide (((0 : Nat) : Int) = 0) = true from rfl)]
    have e0 : od "big" (rw_ 8 v 0) = [] := by rw [od_b]; rfl
    rw [e0]
    refine sat_chk ⟨fun _ _ => trivial, fun _ _ => trivial⟩ (sat_chk (by rw [eqD_iff.mpr rfl]) (sat_some ⟨rfl, Fw⟩))
  rw [if_neg (by rw [decide_eq_true_iff]; omega)]
  have fb := fb2_ok (o := "big") (sg := true) Fw h8 h30 (.inl rfl) (by omega : lst v true ≤ n) (by omega) (.inr rfl)
  refine sat_eq fb ?_
  refine sat_eq (eq_self W v) ?_
  refine sat_chk (p := (!true) = false) rfl ?_
  refine sat_chk (cdiv_s (by decide) (by decide)) ?_
  refine sat_let (sat_let (sat_let ?_))
  refine sat_chk (mul_small' (by split <;> decide)) ?_
  refine sat_chk (by show [("looked" : Str), ("shifted" : Str), ("complemented" : Str)].Nodup; decide +kernel) ?_
  refine sat_let ?_
  have kn : ((sz 8 (mag v) : Nat) : Int) ≤ (n : Int) := by
    have := (sz_le (W := 8) (a := mag v) (k := n) (by decide)).mpr (Nat.lt_of_lt_of_le (fit_s (v := v) (by omega : lst v true ≤ n) (by omega)) (Nat.pow_le_pow_right (by decide) (by omega)))
    omega
  obtain ⟨d1, d2⟩ := rd_counts (W := (W : Int)) (c := r.2.c) (n := n) (k := ((sz 8 (mag v) : Nat) : Int)) (ng := decide (v < 0)) (by omega) kn (by omega)
  rw [← hF] at d1 d2
  have er : rbS F v n = rdS F n ((sz 8 (mag v) : Nat) : Int) (decide (v < 0)) := by unfold rbS; rw [if_neg z]
  rw [er]
  refine sat_eq (counted_ok d1 (by show 3 ≤ 100; decide) d2 wkok_one) (sat_chk rfl (sat_some ⟨rfl, ?_⟩))
  show (rdS F n _ _).w = _
  exact rdS_w.trans Fw
end
theorem law_right (ns : List Int) (h : ns.length ≤ 63) : M_law ns = some true := by
  refine sat_get ?_
  unfold M_law
  obtain ⟨z1, e1⟩ := cell_ok ns 0 h
  refine sat_eq e1 ?_
  have hc := cut_len ns (some (1 : Int)) (some 4)
  refine sat_chk (size_le (m := 64) (by show 1 + _ ≤ 64; omega) (by decide)) ?_
  refine sat_forA (fun _ => True) (fun x _ st _ => ?_) trivial fun s _ => sat_nx (sat_some rfl)
  refine sat_bind (src_s x) fun s0 g0 => ?_
  refine sat_bind (mach_s g0) fun r1 ⟨W, c, em, a1, b1, g1⟩ => ?_
  refine sat_bind (one_s g1 (List.cons_ne_nil _ _) (by show 3 < 100; decide)) fun r2 ⟨g2, m2⟩ => ?_
  obtain ⟨V, eV, v8, v30⟩ : ∃ V : Nat, r2.1 = (V : Int) ∧ 8 ≤ V ∧ V ≤ 30 := by
    simp only [List.mem_cons, List.not_mem_nil, or_false] at m2
    rcases m2 with q | q | q
    · exact ⟨8, q, by decide, by decide⟩
    · exact ⟨13, q, by decide, by decide⟩
    · exact ⟨30, q, by decide, by decide⟩
  rw [eV, em]
  refine sat_chk (by omega) (sat_let (sat_chk (by decide) ?_))
  refine sat_forA (fun s : (List Int) × MS × MS => Src s.1 ∧ s.2.1.w = (W : Int) ∧ s.2.2.w = (V : Int)) (fun i _ s ⟨hs, hw, hx⟩ => ?_) ⟨g2, rfl, rfl⟩ fun s _ => sat_nx (sat_end trivial)
  rw [hw]
  dsimp only
  refine sat_chk (shl_ok (k := 1) (by decide) (by omega) (by omega)) ?_
  rw [Int.toNat_natCast, Int.one_mul]
  refine sat_bind (one_s hs (List.cons_ne_nil _ _) (by show 2 < 100; decide)) fun r3 ⟨g3, m3⟩ => ?_
  have m3' : 0 ≤ r3.1 ∧ r3.1 ≤ 10 := by
    simp only [List.mem_cons, List.not_mem_nil, or_false] at m3
    rcases m3 with q | q <;> omega
  refine sat_bind (drawn_w g3 a1 b1 m3'.1 (by omega)) fun r4 ⟨g4, l4⟩ => ?_
  have l4' : r4.1.natAbs < 2 ^ 302 := nab_mono l4 (by have : W * r3.1.toNat ≤ 30 * 10 := Nat.mul_le_mul b1 (by omega); omega)
  obtain ⟨K, hK⟩ : ∃ K : Nat, 32 ≤ K ∧ K ≤ 1000 ∧ 302 ≤ K := ⟨400, by decide⟩
  have vK : r4.1.natAbs < 2 ^ K := nab_mono l4' hK.2.2
  have lv := lst_le (v := r4.1) (sg := true) l4'
  clear l4 l4'
  generalize r4.1 = v at *
  refine sat_eq (big_ok hw a1 b1 (sz8_small a1 vK (by omega))) ?_
  refine sat_chk (shl_ok (k := 1) (by decide) (by omega) (by omega)) ?_
  refine sat_bind (drawn_w g4 a1 b1 (by decide : (0 : Int) ≤ 5) (by decide)) fun r5 ⟨g5, l5⟩ => ?_
  have l5' : r5.1.natAbs < 2 ^ 152 := nab_mono l5 (by have : W * (5 : Int).toNat ≤ 30 * 5 := Nat.mul_le_mul b1 (by decide); omega)
  obtain ⟨y, hy⟩ : ∃ y : Int, y = ((r5.1.natAbs : Nat) : Int) := ⟨_, rfl⟩
  rw [← hy]
  have y0 : 0 ≤ y := by omega
  have ya : y.natAbs = r5.1.natAbs := by omega
  have yK : y.natAbs < 2 ^ K := by rw [ya]; exact nab_mono l5' (by omega)
  clear l5 l5'
  refine sat_eq (big_ok hw a1 b1 (sz8_small a1 yK (by omega))) ?_
  refine sat_eq (blen_ok2 (.inl rfl)) ?_
  refine sat_bind (next_s g5 (by omega) (by omega)) fun r6 ⟨g6, n6, l6⟩ => ?_
  refine sat_bind (one_s g6 (List.cons_ne_nil _ _) (by show 4 < 100; decide)) fun r7 ⟨g7, m7⟩ => sat_let ?_
  obtain ⟨n, en, n1, n2⟩ : ∃ n : Nat, ((lst v true : Nat) : Int) + r7.1 = (n : Int) ∧ lst v true ≤ n ∧ n ≤ 1000 := by
    have : 0 ≤ r7.1 ∧ r7.1 < 300 := by
      simp only [List.mem_cons, List.not_mem_nil, or_false] at m7
      rcases m7 with q | q | q | q <;> omega
    exact ⟨(((lst v true : Nat) : Int) + r7.1).toNat, by omega, by omega, by omega⟩
  rw [en]
  refine sat_bind (back_ok hw a1 b1 (.inl rfl) n1 (by omega)) fun t ⟨e, w⟩ => sat_chk e ?_
  refine sat_bind (each_ok w a1 b1 n1 (by omega) ⟨hK.1, hK.2.1⟩ vK) fun t ⟨e, w⟩ => sat_chk e ?_
  refine sat_eq (blen_ok2 (.inr y0)) ?_
  refine sat_bind (next_s g7 (by omega) (by omega)) fun r8 ⟨g8, n8, l8⟩ => ?_
  have ly := lst_le (sg := false) yK
  obtain ⟨k, ek, k1, k2⟩ : ∃ k : Nat, ((lst y false : Nat) : Int) + r8.1 = (k : Int) ∧ lst y false ≤ k ∧ k ≤ 1000 := ⟨(((lst y false : Nat) : Int) + r8.1).toNat, by omega, by omega, by omega⟩
  rw [ek]
  refine sat_bind (back_ok w a1 b1 (.inr y0) k1 (by omega)) fun t ⟨e, w⟩ => sat_chk e ?_
  refine sat_bind (bjoin_ok w a1 b1 ⟨hK.1, hK.2.1⟩ vK y0 yK) fun t ⟨e, w⟩ => sat_chk e ?_
  refine sat_bind (counts_ok w a1 b1 ⟨hK.1, hK.2.1⟩ vK) fun t ⟨e, w⟩ => sat_chk e ?_
  refine sat_bind (sums_ok w a1 b1 ⟨hK.1, hK.2.1⟩ vK yK) fun t ⟨e, w⟩ => sat_chk e ?_
  refine sat_eq (big_ok hx v8 v30 (sz8_small v8 vK (by omega))) ?_
  refine sat_eq (tb_ok hx v8 v30 (.inl rfl) n1 (by omega) (.inr rfl)) ?_
  refine sat_eq (tb_ok w a1 b1 (.inl rfl) n1 (by omega) (.inr rfl)) ?_
  refine sat_chk ⟨rfl, fun _ _ => trivial⟩ ?_
  have wx : (tbS V s.2.2 v n).w = (V : Int) := tbS_w.trans hx
  have fb := fb2_ok (o := "big") (sg := true) wx v8 v30 (.inl rfl) n1 (by omega) (.inr rfl)
  refine sat_eq fb ?_
  refine sat_eq (plain_ok V v) ?_
  refine sat_chk (p := v = v) rfl ?_
  exact sat_end ⟨g8, tbS_w.trans w, rbS_w.trans wx⟩
end P

set_option Elab.async false
set_option linter.all false
set_option maxRecDepth 100000
set_option maxHeartbeats 0
namespace P
open PySem L2 VL

theorem Fun.ofD {K : PySem.W.Frag} {x qual : Str} {st : Stmt} {f : Addr} {fd : FuncData} (F : FunD K x qual (defArgs st) (defBody st) (defScope st) [] [] f fd) : Fun K x qual st f fd := by
  obtain ⟨oc, od, dV, kV, doc, pm, an, cdv, ct, osl, rfl, lk, hcd, hD, hK⟩ := F.ex
  rcases hD with ⟨_, rfl⟩ | ⟨e, _⟩
  · exact ⟨⟨oc, od, kV, doc, pm, an, cdv, ct, osl, rfl, lk, hcd⟩, F.kp⟩
  · exact absurd rfl e
theorem iclsB_ok {K : PySem.W.Frag} {C : Addr} (cl : Cls K C) (h : iclsB K C = true) : ICls K C := by
  obtain ⟨h1, h⟩ := He.ba h
  obtain ⟨h2, h⟩ := He.ba h
  obtain ⟨h3, h⟩ := He.ba h
  obtain ⟨h4, h5⟩ := He.ba h
  exact ⟨cl, He.eqO_ok h1, He.eqO_ok h2, of_decide_eq_true h3, of_decide_eq_true h4, of_decide_eq_true h5⟩
theorem codeIs_of {K : PySem.W.Frag} {p : He.Defn} : CodeIs K (He.fAd K p) (He.codeOf K p) := fun oc od x qual ar body sc dV kV doc pm an cdv ct osl lk hc => by
  obtain ⟨c, rfl⟩ := He.codeIn_ref hc
  rw [He.codeOf_eq lk rfl]
theorem hu_of {l : List (Addr × Str)} (nd : (l.map (·.1)).Nodup) {A : Addr} {q : Str} (hm : (A, q) ∈ l) : ∀ p ∈ l, p.1 = A → p.2 = q := by
  induction l with
  | nil => cases hm
  | cons a r ih =>
    obtain ⟨h1, h2⟩ := List.nodup_cons.mp (show (a.1 :: r.map (·.1)).Nodup from nd)
    intro p hp e
    rcases List.mem_cons.mp hm with m | m
    · rcases List.mem_cons.mp hp with z | z
      · rw [z, ← m]
      · exact absurd (List.mem_map.mpr ⟨p, z, by rw [e, ← m]⟩) h1
    · rcases List.mem_cons.mp hp with z | z
      · exact absurd (List.mem_map.mpr ⟨_, m, by rw [← e, z]⟩) h1
      · exact ih h2 m p z e
theorem gInt {K : PySem.W.Frag} {h : Heap} {mg : Str → Option Value} {x : Str} {i : Int} (X : K.In h) (G : h.Ns mainGlobals mg) (c : (He.Fa.int x i).ok K = true) : ∃ u, mg x = some u ∧ RelV (.int i) u := by
  obtain ⟨t, e⟩ := He.int_ok X G c
  exact ⟨_, e, t, rfl⟩
theorem gRef {K : PySem.W.Frag} {h : Heap} {mg : Str → Option Value} {x : Str} (X : K.In h) (G : h.Ns mainGlobals mg) (c : (He.Fa.glo x).ok K = true) : ∃ u, mg x = some u ∧ RelV (.ref (He.ga K x)) u := ⟨_, He.glo_ok X G c, rfl⟩
theorem facts {P : Program} {w : World} {K : PySem.W.Frag} {h : Heap} {mg : Str → Option Value} {f : Addr} (X : K.In h) (G : h.Ns mainGlobals mg) (hfa : mg ("law" : Str) = some (.ref f)) (c : He.SaysX fa fn [] tfs exB w h K) :
    ∃ (T : TC) (fd : FuncData), T.K = K ∧ (∀ H : Hp, (∀ p ∈ tfs.map (He.cT K), H p.2 = some (.tbl #[])) → ∀ p ∈ tbs T, H p.1 = some (.tbl #[])) ∧ (∀ (s : Shared) (v : Value), BindsTo s fd ⟨[v], []⟩ [("_law_script", v)]) ∧ ∀ base : Heap, K.In base → base.Ns mainGlobals mg → (∀ p ∈ tfs.map (He.cT K), LamX.TabB base mg p.1 p.2) → FnOk P w K mg base CX0 27 f fd ["_law_script"] (mkSp (Pre_law T)) := by
  have cd : He.SaysD fa fn K := c.t.d
  obtain ⟨cmore, exT⟩ := He.ba c.more
  obtain ⟨ex1, exr⟩ := He.ba cmore
  obtain ⟨ex2, exs⟩ := He.ba exr
  obtain ⟨ex3, ex4⟩ := He.ba exs
  let T : TC := ⟨K, fun i => match i with | 0 => He.ga K "Machine" | 1 => He.ga K "Big" | 100 => (He.cT K ("_law_sums_right", none)).2 | 150 => (He.cT K ("_law_sums_right", none)).1 | _ => He.ga K "Big"⟩
  refine ⟨T, ?_⟩
  obtain ⟨fd_law, G_law⟩ := cd.def_ 54 (d := d_law) rfl
  cases hfa.symm.trans (He.glo_ok X G (cd.fact 101 (f := .glo "law") rfl))
  have ndT : ((tbs T).map (·.1)).Nodup := of_decide_eq_true exT
  refine ⟨fd_law, rfl, (fun H hT p hp => by
    have hp : p ∈ [((He.cT K ("_law_sums_right", none)).2, qual__law_sums_right)] := hp
    simp only [List.mem_cons, List.not_mem_nil, or_false] at hp
    rw [hp]
    exact hT (He.cT K ("_law_sums_right", none)) (List.mem_map.mpr ⟨_, by simp [tfs], rfl⟩)), fun s v => (FunD.bindsA (ps := ["_law_script"]) G_law fun _ _ _ _ _ _ us hl => match us, hl with | [_], _ => rfl) s [v] rfl, fun base _ _ hTB => ?_⟩
  have clM : Cls K (He.ga K "Machine") := He.cls_ok (cd.fact 0 (f := .cls "Machine") rfl)
  have mc : MCls T.K (T.C 0) := ⟨clM, (He.noat_ok (cd.fact 1 (f := .noat "Machine" "width") rfl)), (He.noat_ok (cd.fact 2 (f := .noat "Machine" "cutoff") rfl)), (He.noat_ok (cd.fact 3 (f := .noat "Machine" "counts") rfl)), (He.noat_ok (cd.fact 4 (f := .noat "Machine" "entered") rfl))⟩
  have icm : ICls T.K (T.C 0) := iclsB_ok clM ex2
  have clB : Cls K (He.ga K "Big") := He.cls_ok (cd.fact 5 (f := .cls "Big") rfl)
  have bc : BCls T.K (T.C 1) := ⟨clB, (He.noat_ok (cd.fact 6 (f := .noat "Big" "width") rfl)), (He.noat_ok (cd.fact 7 (f := .noat "Big" "side") rfl)), (He.noat_ok (cd.fact 8 (f := .noat "Big" "row") rfl)), (He.noat_ok (cd.fact 9 (f := .noat "Big" "value") rfl))⟩
  have icb : ICls T.K (T.C 1) := iclsB_ok clB ex3
  have hW : ∀ H, SqT T.K H (He.ga K "WORDS") (mwords.map V.str) := fun H => He.tupB_ok ex1 H
  obtain ⟨fd_is_integer, F_is_integer⟩ := cd.def_ 0 (d := d_is_integer) rfl
  have F_is_integer := Fun.ofD (st := s_is_integer) F_is_integer
  have c_is_integer : Cal P w K mg base 1 "is_integer" ["value"] (mkSp (Pre_is_integer T)) := ⟨⟨_, _, ok_is_integer (T := T) F_is_integer (He.free_ok X G (cd.fact 10 (f := .free "isinstance") rfl)) (He.free_ok X G (cd.fact 11 (f := .free "int") rfl)) (He.free_ok X G (cd.fact 12 (f := .free "bool") rfl)), He.glo_ok X G (cd.fact 13 (f := .glo "is_integer") rfl), F_is_integer.kp, (F_is_integer.binds (ps := ["value"]) fun _ _ _ _ _ _ us hl => match us, hl with | [_], _ => rfl)⟩⟩
  obtain ⟨fd_is_between, F_is_between⟩ := cd.def_ 1 (d := d_is_between) rfl
  have F_is_between := Fun.ofD (st := s_is_between) F_is_between
  have c_is_between : Cal P w K mg base 2 "is_between" ["value", "low", "high"] (mkSp (Pre_is_between T)) := ⟨⟨_, _, ok_is_between (T := T) F_is_between c_is_integer, He.glo_ok X G (cd.fact 14 (f := .glo "is_between") rfl), F_is_between.kp, (F_is_between.binds (ps := ["value", "low", "high"]) fun _ _ _ _ _ _ us hl => match us, hl with | [_, _, _], _ => rfl)⟩⟩
  obtain ⟨fd_Mach_step, F_Mach_step⟩ := cd.def_ 55 (d := d_Mach_step) rfl
  have F_Mach_step := Fun.ofD (st := s_Mach_step) F_Mach_step
  have c_Mach_step : CalM P w K mg base 1 (T.C 0) "step" ["self", "word", "many"] (mkSp (Pre_Mach_step T)) := ⟨⟨_, _, ok_Mach_step (T := T) F_Mach_step mc , He.meth_ok (cd.fact 15 (f := .meth "Machine" "step") rfl), (F_Mach_step.binds (ps := ["self", "word", "many"]) fun _ _ _ _ _ _ us hl => match us, hl with | [_, _, _], _ => rfl)⟩, clM⟩
  obtain ⟨fd_Mach_enter, F_Mach_enter⟩ := cd.def_ 56 (d := d_Mach_enter) rfl
  have F_Mach_enter := Fun.ofD (st := s_Mach_enter) F_Mach_enter
  have c_Mach_enter : CalM P w K mg base 1 (T.C 0) "enter" ["self", "word", "m", "n"] (mkSp (Pre_Mach_enter T)) := ⟨⟨_, _, ok_Mach_enter (T := T) F_Mach_enter mc (He.free_ok X G (cd.fact 16 (f := .free "len") rfl)) (gInt X G (cd.fact 17 (f := .int "LONGEST_WALK" 1000) rfl)), He.meth_ok (cd.fact 18 (f := .meth "Machine" "enter") rfl), (F_Mach_enter.binds (ps := ["self", "word", "m", "n"]) fun _ _ _ _ _ _ us hl => match us, hl with | [_, _, _, _], _ => rfl)⟩, clM⟩
  obtain ⟨fd_Mach_reset, F_Mach_reset⟩ := cd.def_ 57 (d := d_Mach_reset) rfl
  have F_Mach_reset := Fun.ofD (st := s_Mach_reset) F_Mach_reset
  have c_Mach_reset : CalM P w K mg base 1 (T.C 0) "reset" ["self"] (mkSp (Pre_Mach_reset T)) := ⟨⟨_, _, ok_Mach_reset (T := T) F_Mach_reset mc (gRef X G (cd.fact 19 (f := .glo "WORDS") rfl)) hW, He.meth_ok (cd.fact 20 (f := .meth "Machine" "reset") rfl), (F_Mach_reset.binds (ps := ["self"]) fun _ _ _ _ _ _ us hl => match us, hl with | [_], _ => rfl)⟩, clM⟩
  obtain ⟨fd_Mach_tally, F_Mach_tally⟩ := cd.def_ 58 (d := d_Mach_tally) rfl
  have F_Mach_tally := Fun.ofD (st := s_Mach_tally) F_Mach_tally
  have c_Mach_tally : CalM P w K mg base 1 (T.C 0) "tally" ["self"] (mkSp (Pre_Mach_tally T)) := ⟨⟨_, _, ok_Mach_tally (T := T) F_Mach_tally mc (gRef X G (cd.fact 19 (f := .glo "WORDS") rfl)) hW, He.meth_ok (cd.fact 21 (f := .meth "Machine" "tally") rfl), (F_Mach_tally.binds (ps := ["self"]) fun _ _ _ _ _ _ us hl => match us, hl with | [_], _ => rfl)⟩, clM⟩
  obtain ⟨fd_Mach_walk, F_Mach_walk⟩ := cd.def_ 59 (d := d_Mach_walk) rfl
  have F_Mach_walk := Fun.ofD (st := s_Mach_walk) F_Mach_walk
  have c_Mach_walk : CalM P w K mg base 1 (T.C 0) "walk" ["self"] (mkSp (Pre_Mach_walk T)) := ⟨⟨_, _, ok_Mach_walk (T := T) F_Mach_walk mc (He.free_ok X G (cd.fact 22 (f := .free "list") rfl)), He.meth_ok (cd.fact 23 (f := .meth "Machine" "walk") rfl), (F_Mach_walk.binds (ps := ["self"]) fun _ _ _ _ _ _ us hl => match us, hl with | [_], _ => rfl)⟩, clM⟩
  obtain ⟨fd_Mach_parts, F_Mach_parts⟩ := cd.def_ 60 (d := d_Mach_parts) rfl
  have F_Mach_parts := Fun.ofD (st := s_Mach_parts) F_Mach_parts
  have c_Mach_parts : CalM P w K mg base 1 (T.C 0) "parts" ["self"] (mkSp (Pre_Mach_parts T)) := ⟨⟨_, _, ok_Mach_parts (T := T) F_Mach_parts mc , He.meth_ok (cd.fact 24 (f := .meth "Machine" "parts") rfl), (F_Mach_parts.binds (ps := ["self"]) fun _ _ _ _ _ _ us hl => match us, hl with | [_], _ => rfl)⟩, clM⟩
  obtain ⟨fd_Mach_init, F_Mach_init⟩ := cd.def_ 61 (d := d_Mach_init) rfl
  have c_Machine2 : CalC P w K mg base 3 "Machine" (T.C 0) ["self", "bits", "cutoff"] [] (mkSp (Pre_Machine T)) := by
    obtain ⟨ds, hv, hb⟩ := FunD.binds1 (ps := ["self", "bits", "cutoff"]) F_Mach_init 3 2 (fun e => nomatch e) rfl fun _ _ _ _ _ _ _ us its hl hi => match us, its, hl, hi with | [_, _, _], [_, _], _, _ => ⟨_, rfl, rfl⟩
    exact ⟨⟨_, _, ds, ok_Mach_init (T := T) F_Mach_init mc (gRef X G (cd.fact 19 (f := .glo "WORDS") rfl)) hW c_is_between, He.glo_ok X G (cd.fact 25 (f := .glo "Machine") rfl), He.mkr_ok (cd.fact 26 (f := .mkr "Machine") rfl), hv, hb⟩⟩
  obtain ⟨fd_Big_eq, F_Big_eq⟩ := cd.def_ 63 (d := d_Big_eq) rfl
  have F_Big_eq := Fun.ofD (st := s_Big_eq) F_Big_eq
  have ceq : CalEq P w K mg base 1 (T.C 1) (mkSp (Pre_Big_eq T)) := ⟨⟨_, _, ok_Big_eq (T := T) F_Big_eq (He.free_ok X G (cd.fact 10 (f := .free "isinstance") rfl)) icb (gRef X G (cd.fact 27 (f := .glo "Big") rfl)) bc, ex4, He.meth_ok (cd.fact 28 (f := .meth "Big" "__eq__") rfl), (F_Big_eq.binds (ps := ["self", "other"]) fun _ _ _ _ _ _ us hl => match us, hl with | [_, _], _ => rfl)⟩⟩
  obtain ⟨fd_Big_digits, F_Big_digits⟩ := cd.def_ 64 (d := d_Big_digits) rfl
  have F_Big_digits := Fun.ofD (st := s_Big_digits) F_Big_digits
  have c_Big_digits : CalM P w K mg base 1 (T.C 1) "digits" ["self"] (mkSp (Pre_Big_digits T)) := ⟨⟨_, _, ok_Big_digits (T := T) F_Big_digits bc (He.free_ok X G (cd.fact 22 (f := .free "list") rfl)), He.meth_ok (cd.fact 29 (f := .meth "Big" "digits") rfl), (F_Big_digits.binds (ps := ["self"]) fun _ _ _ _ _ _ us hl => match us, hl with | [_], _ => rfl)⟩, clB⟩
  obtain ⟨fd_Big_sign, F_Big_sign⟩ := cd.def_ 65 (d := d_Big_sign) rfl
  have F_Big_sign := Fun.ofD (st := s_Big_sign) F_Big_sign
  have c_Big_sign : CalM P w K mg base 1 (T.C 1) "sign" ["self"] (mkSp (Pre_Big_sign T)) := ⟨⟨_, _, ok_Big_sign (T := T) F_Big_sign bc, He.meth_ok (cd.fact 30 (f := .meth "Big" "sign") rfl), (F_Big_sign.binds (ps := ["self"]) fun _ _ _ _ _ _ us hl => match us, hl with | [_], _ => rfl)⟩, clB⟩
  obtain ⟨fd_Big_bits, F_Big_bits⟩ := cd.def_ 66 (d := d_Big_bits) rfl
  have F_Big_bits := Fun.ofD (st := s_Big_bits) F_Big_bits
  have c_Big_bits : CalM P w K mg base 1 (T.C 1) "bits" ["self"] (mkSp (Pre_Big_bits T)) := ⟨⟨_, _, ok_Big_bits (T := T) F_Big_bits bc, He.meth_ok (cd.fact 31 (f := .meth "Big" "bits") rfl), (F_Big_bits.binds (ps := ["self"]) fun _ _ _ _ _ _ us hl => match us, hl with | [_], _ => rfl)⟩, clB⟩
  obtain ⟨fd_order_of, F_order_of⟩ := cd.def_ 2 (d := d_order_of) rfl
  have F_order_of := Fun.ofD (st := s_order_of) F_order_of
  have c_order_of : Cal P w K mg base 1 "order_of" ["a", "b"] (mkSp (Pre_order_of T)) := ⟨⟨_, _, ok_order_of (T := T) F_order_of , He.glo_ok X G (cd.fact 32 (f := .glo "order_of") rfl), F_order_of.kp, (F_order_of.binds (ps := ["a", "b"]) fun _ _ _ _ _ _ us hl => match us, hl with | [_, _], _ => rfl)⟩⟩
  obtain ⟨fd_Big_init, F_Big_init⟩ := cd.def_ 62 (d := d_Big_init) rfl
  have F_Big_init := Fun.ofD (st := s_Big_init) F_Big_init
  have c_Big : CalC P w K mg base 2 "Big" (T.C 1) ["self", "width", "value", "row"] [] (mkSp (Pre_Big T)) := ⟨⟨_, _, [], ok_Big_init (T := T) F_Big_init bc (He.free_ok X G (cd.fact 33 (f := .free "tuple") rfl)) c_order_of, He.glo_ok X G (cd.fact 27 (f := .glo "Big") rfl), He.mkr_ok (cd.fact 34 (f := .mkr "Big") rfl), .nil, (F_Big_init.binds (ps := ["self", "width", "value", "row"]) fun _ _ _ _ _ _ us hl => match us, hl with | [_, _, _, _], _ => rfl)⟩⟩
  obtain ⟨fd_check_machine, F_check_machine⟩ := cd.def_ 3 (d := d_check_machine) rfl
  have F_check_machine := Fun.ofD (st := s_check_machine) F_check_machine
  have c_check_machine : Cal P w K mg base 1 "check_machine" ["machine"] (mkSp (Pre_check_machine T)) := ⟨⟨_, _, ok_check_machine (T := T) F_check_machine (He.free_ok X G (cd.fact 10 (f := .free "isinstance") rfl)) icm (gRef X G (cd.fact 25 (f := .glo "Machine") rfl)), He.glo_ok X G (cd.fact 35 (f := .glo "check_machine") rfl), F_check_machine.kp, (F_check_machine.binds (ps := ["machine"]) fun _ _ _ _ _ _ us hl => match us, hl with | [_], _ => rfl)⟩⟩
  obtain ⟨fd_top_digit, F_top_digit⟩ := cd.def_ 4 (d := d_top_digit) rfl
  have F_top_digit := Fun.ofD (st := s_top_digit) F_top_digit
  have c_top_digit : Cal P w K mg base 1 "top_digit" ["width"] (mkSp (Pre_top_digit T)) := ⟨⟨_, _, ok_top_digit (T := T) F_top_digit , He.glo_ok X G (cd.fact 36 (f := .glo "top_digit") rfl), F_top_digit.kp, (F_top_digit.binds (ps := ["width"]) fun _ _ _ _ _ _ us hl => match us, hl with | [_], _ => rfl)⟩⟩
  obtain ⟨fd_size_of, F_size_of⟩ := cd.def_ 5 (d := d_size_of) rfl
  have F_size_of := Fun.ofD (st := s_size_of) F_size_of
  have c_size_of : Cal P w K mg base 2 "size_of" ["width", "n"] (mkSp (Pre_size_of T)) := ⟨⟨_, _, ok_size_of (T := T) F_size_of , He.glo_ok X G (cd.fact 37 (f := .glo "size_of") rfl), F_size_of.kp, (F_size_of.binds (ps := ["width", "n"]) fun _ _ _ _ _ _ us hl => match us, hl with | [_, _], _ => rfl)⟩⟩
  obtain ⟨fd_number_of, F_number_of⟩ := cd.def_ 6 (d := d_number_of) rfl
  have F_number_of := Fun.ofD (st := s_number_of) F_number_of
  have r_number_of : ∀ n : Nat, FnOk P w K mg base CX0 (1 + n) (He.ga K "number_of") fd_number_of ["width", "row"] (mkSp (Pre_number_of n T)) := by
    intro n
    induction n with
    | zero => exact ok0_number_of (T := T) F_number_of
    | succ n ih =>
      have i_number_of := ih
      have c_number_of : Cal P w K mg base (1 + n) "number_of" ["width", "row"] (mkSp (Pre_number_of n T)) := ⟨⟨_, _, i_number_of, He.glo_ok X G (cd.fact 38 (f := .glo "number_of") rfl), F_number_of.kp, (F_number_of.binds (ps := ["width", "row"]) fun _ _ _ _ _ _ us hl => match us, hl with | [_, _], _ => rfl)⟩⟩
      exact ok_number_of (T := T) n F_number_of (He.free_ok X G (cd.fact 16 (f := .free "len") rfl)) (gInt X G (cd.fact 39 (f := .int "LONGEST_LOOP" 32) rfl)) c_number_of (He.free_ok X G (cd.fact 40 (f := .free "reversed") rfl))
  have c_number_of : Cal P w K mg base 21 "number_of" ["width", "row"] (mkSp (Pre_number_of 20 T)) := ⟨⟨_, _, (r_number_of 20), He.glo_ok X G (cd.fact 38 (f := .glo "number_of") rfl), F_number_of.kp, (F_number_of.binds (ps := ["width", "row"]) fun _ _ _ _ _ _ us hl => match us, hl with | [_, _], _ => rfl)⟩⟩
  obtain ⟨fd_low_part, F_low_part⟩ := cd.def_ 7 (d := d_low_part) rfl
  have F_low_part := Fun.ofD (st := s_low_part) F_low_part
  have c_low_part : Cal P w K mg base 1 "low_part" ["width", "n", "size"] (mkSp (Pre_low_part T)) := ⟨⟨_, _, ok_low_part (T := T) F_low_part , He.glo_ok X G (cd.fact 41 (f := .glo "low_part") rfl), F_low_part.kp, (F_low_part.binds (ps := ["width", "n", "size"]) fun _ _ _ _ _ _ us hl => match us, hl with | [_, _, _], _ => rfl)⟩⟩
  obtain ⟨fd_row_of, F_row_of⟩ := cd.def_ 8 (d := d_row_of) rfl
  have F_row_of := Fun.ofD (st := s_row_of) F_row_of
  have r_row_of : ∀ n : Nat, FnOk P w K mg base CX0 (1 + n) (He.ga K "row_of") fd_row_of ["width", "n", "size"] (mkSp (Pre_row_of n T)) := by
    intro n
    induction n with
    | zero => exact ok0_row_of (T := T) F_row_of
    | succ n ih =>
      have i_row_of := ih
      have c_row_of : Cal P w K mg base (1 + n) "row_of" ["width", "n", "size"] (mkSp (Pre_row_of n T)) := ⟨⟨_, _, i_row_of, He.glo_ok X G (cd.fact 42 (f := .glo "row_of") rfl), F_row_of.kp, (F_row_of.binds (ps := ["width", "n", "size"]) fun _ _ _ _ _ _ us hl => match us, hl with | [_, _, _], _ => rfl)⟩⟩
      exact ok_row_of (T := T) n F_row_of (gInt X G (cd.fact 39 (f := .int "LONGEST_LOOP" 32) rfl)) c_low_part c_row_of c_top_digit (He.free_ok X G (cd.fact 43 (f := .free "range") rfl))
  have c_row_of : Cal P w K mg base 21 "row_of" ["width", "n", "size"] (mkSp (Pre_row_of 20 T)) := ⟨⟨_, _, (r_row_of 20), He.glo_ok X G (cd.fact 42 (f := .glo "row_of") rfl), F_row_of.kp, (F_row_of.binds (ps := ["width", "n", "size"]) fun _ _ _ _ _ _ us hl => match us, hl with | [_, _, _], _ => rfl)⟩⟩
  obtain ⟨fd_last_difference, F_last_difference⟩ := cd.def_ 9 (d := d_last_difference) rfl
  have F_last_difference := Fun.ofD (st := s_last_difference) F_last_difference
  have c_last_difference : Cal P w K mg base 3 "last_difference" ["machine", "a", "b"] (mkSp (Pre_last_difference T)) := ⟨⟨_, _, ok_last_difference (T := T) F_last_difference mc c_size_of (He.free_ok X G (cd.fact 44 (f := .free "max") rfl)) c_Mach_step, He.glo_ok X G (cd.fact 45 (f := .glo "last_difference") rfl), F_last_difference.kp, (F_last_difference.binds (ps := ["machine", "a", "b"]) fun _ _ _ _ _ _ us hl => match us, hl with | [_, _, _], _ => rfl)⟩⟩
  obtain ⟨fd_check_big, F_check_big⟩ := cd.def_ 10 (d := d_check_big) rfl
  have F_check_big := Fun.ofD (st := s_check_big) F_check_big
  have c_check_big : Cal P w K mg base 1 "check_big" ["value", "name"] (mkSp (Pre_check_big T)) := ⟨⟨_, _, ok_check_big (T := T) F_check_big (He.free_ok X G (cd.fact 10 (f := .free "isinstance") rfl)) icb (gRef X G (cd.fact 27 (f := .glo "Big") rfl)), He.glo_ok X G (cd.fact 46 (f := .glo "check_big") rfl), F_check_big.kp, (F_check_big.binds (ps := ["value", "name"]) fun _ _ _ _ _ _ us hl => match us, hl with | [_, _], _ => rfl)⟩⟩
  obtain ⟨fd_check_fit, F_check_fit⟩ := cd.def_ 11 (d := d_check_fit) rfl
  have F_check_fit := Fun.ofD (st := s_check_fit) F_check_fit
  have c_check_fit : Cal P w K mg base 2 "check_fit" ["machine", "value", "name"] (mkSp (Pre_check_fit T)) := ⟨⟨_, _, ok_check_fit (T := T) F_check_fit c_check_big bc mc, He.glo_ok X G (cd.fact 47 (f := .glo "check_fit") rfl), F_check_fit.kp, (F_check_fit.binds (ps := ["machine", "value", "name"]) fun _ _ _ _ _ _ us hl => match us, hl with | [_, _, _], _ => rfl)⟩⟩
  obtain ⟨fd_check_one, F_check_one⟩ := cd.def_ 12 (d := d_check_one) rfl
  have F_check_one := Fun.ofD (st := s_check_one) F_check_one
  have c_check_one : Cal P w K mg base 3 "check_one" ["machine", "x"] (mkSp (Pre_check_one T)) := ⟨⟨_, _, ok_check_one (T := T) F_check_one c_check_machine c_check_fit, He.glo_ok X G (cd.fact 48 (f := .glo "check_one") rfl), F_check_one.kp, (F_check_one.binds (ps := ["machine", "x"]) fun _ _ _ _ _ _ us hl => match us, hl with | [_, _], _ => rfl)⟩⟩
  obtain ⟨fd_check_two, F_check_two⟩ := cd.def_ 13 (d := d_check_two) rfl
  have F_check_two := Fun.ofD (st := s_check_two) F_check_two
  have c_check_two : Cal P w K mg base 4 "check_two" ["machine", "x", "y"] (mkSp (Pre_check_two T)) := ⟨⟨_, _, ok_check_two (T := T) F_check_two c_check_one c_check_fit, He.glo_ok X G (cd.fact 49 (f := .glo "check_two") rfl), F_check_two.kp, (F_check_two.binds (ps := ["machine", "x", "y"]) fun _ _ _ _ _ _ us hl => match us, hl with | [_, _, _], _ => rfl)⟩⟩
  obtain ⟨fd_big_of, F_big_of⟩ := cd.def_ 14 (d := d_big_of) rfl
  have F_big_of := Fun.ofD (st := s_big_of) F_big_of
  have c_big_of : Cal P w K mg base 22 "big_of" ["machine", "value"] (mkSp (Pre_big_of T)) := ⟨⟨_, _, ok_big_of (T := T) F_big_of mc (He.free_ok X G (cd.fact 50 (f := .free "abs") rfl)) c_size_of c_row_of c_Big, He.glo_ok X G (cd.fact 51 (f := .glo "big_of") rfl), F_big_of.kp, (F_big_of.binds (ps := ["machine", "value"]) fun _ _ _ _ _ _ us hl => match us, hl with | [_, _], _ => rfl)⟩⟩
  obtain ⟨fd_are_compact, F_are_compact⟩ := cd.def_ 15 (d := d_are_compact) rfl
  have F_are_compact := Fun.ofD (st := s_are_compact) F_are_compact
  have c_are_compact : Cal P w K mg base 2 "are_compact" ["machine", "x", "y"] (mkSp (Pre_are_compact T)) := ⟨⟨_, _, ok_are_compact (T := T) F_are_compact mc, He.glo_ok X G (cd.fact 52 (f := .glo "are_compact") rfl), F_are_compact.kp, (F_are_compact.binds (ps := ["machine", "x", "y"]) fun _ _ _ _ _ _ us hl => match us, hl with | [_, _, _], _ => rfl)⟩⟩
  obtain ⟨fd_big, F_big⟩ := cd.def_ 16 (d := d_big) rfl
  have F_big := Fun.ofD (st := s_big) F_big
  have c_big : Cal P w K mg base 23 "big" ["machine", "n"] (mkSp (Pre_big T)) := ⟨⟨_, _, ok_big (T := T) F_big c_check_machine c_is_integer c_big_of, He.glo_ok X G (cd.fact 53 (f := .glo "big") rfl), F_big.kp, (F_big.binds (ps := ["machine", "n"]) fun _ _ _ _ _ _ us hl => match us, hl with | [_, _], _ => rfl)⟩⟩
  obtain ⟨fd_plain, F_plain⟩ := cd.def_ 17 (d := d_plain) rfl
  have F_plain := Fun.ofD (st := s_plain) F_plain
  have c_plain : Cal P w K mg base 2 "plain" ["x"] (mkSp (Pre_plain T)) := ⟨⟨_, _, ok_plain (T := T) F_plain c_check_big bc, He.glo_ok X G (cd.fact 54 (f := .glo "plain") rfl), F_plain.kp, (F_plain.binds (ps := ["x"]) fun _ _ _ _ _ _ us hl => match us, hl with | [_], _ => rfl)⟩⟩
  obtain ⟨fd_bit_length, F_bit_length⟩ := cd.def_ 18 (d := d_bit_length) rfl
  have F_bit_length := Fun.ofD (st := s_bit_length) F_bit_length
  have c_bit_length : Cal P w K mg base 2 "bit_length" ["x"] (mkSp (Pre_bit_length T)) := ⟨⟨_, _, ok_bit_length (T := T) F_bit_length c_check_big bc, He.glo_ok X G (cd.fact 55 (f := .glo "bit_length") rfl), F_bit_length.kp, (F_bit_length.binds (ps := ["x"]) fun _ _ _ _ _ _ us hl => match us, hl with | [_], _ => rfl)⟩⟩
  obtain ⟨fd_check_signed, F_check_signed⟩ := cd.def_ 19 (d := d_check_signed) rfl
  have F_check_signed := Fun.ofD (st := s_check_signed) F_check_signed
  have c_check_signed : Cal P w K mg base 1 "check_signed" ["signed"] (mkSp (Pre_check_signed T)) := ⟨⟨_, _, ok_check_signed (T := T) F_check_signed (He.free_ok X G (cd.fact 10 (f := .free "isinstance") rfl)) (He.free_ok X G (cd.fact 12 (f := .free "bool") rfl)), He.glo_ok X G (cd.fact 56 (f := .glo "check_signed") rfl), F_check_signed.kp, (F_check_signed.binds (ps := ["signed"]) fun _ _ _ _ _ _ us hl => match us, hl with | [_], _ => rfl)⟩⟩
  obtain ⟨fd_magnitude_of, F_magnitude_of⟩ := cd.def_ 20 (d := d_magnitude_of) rfl
  have F_magnitude_of := Fun.ofD (st := s_magnitude_of) F_magnitude_of
  have c_magnitude_of : Cal P w K mg base 1 "magnitude_of" ["value"] (mkSp (Pre_magnitude_of T)) := ⟨⟨_, _, ok_magnitude_of (T := T) F_magnitude_of , He.glo_ok X G (cd.fact 57 (f := .glo "magnitude_of") rfl), F_magnitude_of.kp, (F_magnitude_of.binds (ps := ["value"]) fun _ _ _ _ _ _ us hl => match us, hl with | [_], _ => rfl)⟩⟩
  obtain ⟨fd_least_length, F_least_length⟩ := cd.def_ 21 (d := d_least_length) rfl
  have F_least_length := Fun.ofD (st := s_least_length) F_least_length
  have c_least_length : Cal P w K mg base 2 "least_length" ["value", "signed"] (mkSp (Pre_least_length T)) := ⟨⟨_, _, ok_least_length (T := T) F_least_length c_magnitude_of (gInt X G (cd.fact 58 (f := .int "BYTE" 8) rfl)), He.glo_ok X G (cd.fact 59 (f := .glo "least_length") rfl), F_least_length.kp, (F_least_length.binds (ps := ["value", "signed"]) fun _ _ _ _ _ _ us hl => match us, hl with | [_, _], _ => rfl)⟩⟩
  obtain ⟨fd_byte_length, F_byte_length⟩ := cd.def_ 22 (d := d_byte_length) rfl
  have ckd_byte_length_1_signed : CalKD P w K mg base 3 "byte_length" ["x", "signed"] 1 ["signed"] [] [0, 1] (mkSp (Pre_byte_length T)) := by
    obtain ⟨mv, hb⟩ := FunD.kbinds0 (ps := ["x", "signed"]) F_byte_length 1 ["signed"] [] (fun us mv ws => prm [0, 1] (us ++ (mv ++ ws))) (fun e => nomatch e) (fun q h => nomatch h) (fun r1 r2 r3 => prm_rel _ (Vals.append r1 (Vals.append r2 r3))) (fun _ _ _ _ _ _ us mv ws hl hm hw => match us, mv, ws, hl, hm, hw with | [_], [], [_], _, _, _ => rfl)
    exact ⟨⟨_, _, _, ok_byte_length (T := T) F_byte_length c_check_big c_check_signed bc c_least_length, He.glo_ok X G (cd.fact 60 (f := .glo "byte_length") rfl), F_byte_length.kp, hb⟩⟩
  have cd_byte_length_1 : CalD P w K mg base 3 "byte_length" ["x", "signed"] [V.bl false] (mkSp (Pre_byte_length T)) := by
    obtain ⟨ds, hv, hb⟩ := FunD.binds0 (ps := ["x", "signed"]) F_byte_length 1 (fun e => nomatch e) rfl (fun _ _ _ _ _ _ us ks hl hk => match us, ks, hl, hk with | [_], [_], _, _ => ⟨_, _, _, _, _, _, rfl, rfl, rfl⟩)
    exact ⟨⟨_, _, ds, ok_byte_length (T := T) F_byte_length c_check_big c_check_signed bc c_least_length, He.glo_ok X G (cd.fact 60 (f := .glo "byte_length") rfl), F_byte_length.kp, hv, hb⟩⟩
  obtain ⟨fd_check_order, F_check_order⟩ := cd.def_ 23 (d := d_check_order) rfl
  have F_check_order := Fun.ofD (st := s_check_order) F_check_order
  have c_check_order : Cal P w K mg base 1 "check_order" ["order"] (mkSp (Pre_check_order T)) := ⟨⟨_, _, ok_check_order (T := T) F_check_order (He.free_ok X G (cd.fact 10 (f := .free "isinstance") rfl)) (He.free_ok X G (cd.fact 61 (f := .free "str") rfl)), He.glo_ok X G (cd.fact 62 (f := .glo "check_order") rfl), F_check_order.kp, (F_check_order.binds (ps := ["order"]) fun _ _ _ _ _ _ us hl => match us, hl with | [_], _ => rfl)⟩⟩
  obtain ⟨fd_to_bytes, F_to_bytes⟩ := cd.def_ 24 (d := d_to_bytes) rfl
  have ckd_to_bytes_3_signed : CalKD P w K mg base 22 "to_bytes" ["machine", "x", "length", "order", "signed"] 3 ["signed"] [V.int 1, V.str "big"] [0, 1, 2, 4, 5] (mkSp (Pre_to_bytes T)) := by
    obtain ⟨its, mv, hb⟩ := FunD.kbinds (ps := ["machine", "x", "length", "order", "signed"]) F_to_bytes 3 ["signed"] [] (fun us its mv ws => prm [0, 1, 2, 4, 5] (us ++ (its ++ (mv ++ ws)))) (fun e => nomatch e) (fun e => nomatch e) (fun q h => nomatch h) (fun r1 r2 r3 r4 => prm_rel _ (Vals.append r1 (Vals.append r2 (Vals.append r3 r4)))) (fun _ _ _ _ _ _ _ us its mv ws hl hi hm hw => match us, its, mv, ws, hl, hi, hm, hw with | [_, _, _], [_, _], [], [_], _, _, _, _ => ⟨_, rfl, rfl⟩)
    exact ⟨⟨_, _, _, ok_to_bytes (T := T) F_to_bytes c_check_one (gInt X G (cd.fact 63 (f := .int "LONGEST_ROW" 10000) rfl)) c_is_between c_check_order c_check_signed bc c_least_length mc (He.free_ok X G (cd.fact 16 (f := .free "len") rfl)) c_Mach_enter c_Mach_step (gInt X G (cd.fact 58 (f := .int "BYTE" 8) rfl)) c_magnitude_of c_size_of c_row_of (He.free_ok X G (cd.fact 22 (f := .free "list") rfl)) (He.free_ok X G (cd.fact 40 (f := .free "reversed") rfl)), He.glo_ok X G (cd.fact 64 (f := .glo "to_bytes") rfl), F_to_bytes.kp, hb⟩⟩
  have ckd_to_bytes_4_signed : CalKD P w K mg base 22 "to_bytes" ["machine", "x", "length", "order", "signed"] 4 ["signed"] [V.int 1, V.str "big"] [0, 1, 2, 3, 6] (mkSp (Pre_to_bytes T)) := by
    obtain ⟨its, mv, hb⟩ := FunD.kbinds (ps := ["machine", "x", "length", "order", "signed"]) F_to_bytes 4 ["signed"] [] (fun us its mv ws => prm [0, 1, 2, 3, 6] (us ++ (its ++ (mv ++ ws)))) (fun e => nomatch e) (fun e => nomatch e) (fun q h => nomatch h) (fun r1 r2 r3 r4 => prm_rel _ (Vals.append r1 (Vals.append r2 (Vals.append r3 r4)))) (fun _ _ _ _ _ _ _ us its mv ws hl hi hm hw => match us, its, mv, ws, hl, hi, hm, hw with | [_, _, _, _], [_, _], [], [_], _, _, _, _ => ⟨_, rfl, rfl⟩)
    exact ⟨⟨_, _, _, ok_to_bytes (T := T) F_to_bytes c_check_one (gInt X G (cd.fact 63 (f := .int "LONGEST_ROW" 10000) rfl)) c_is_between c_check_order c_check_signed bc c_least_length mc (He.free_ok X G (cd.fact 16 (f := .free "len") rfl)) c_Mach_enter c_Mach_step (gInt X G (cd.fact 58 (f := .int "BYTE" 8) rfl)) c_magnitude_of c_size_of c_row_of (He.free_ok X G (cd.fact 22 (f := .free "list") rfl)) (He.free_ok X G (cd.fact 40 (f := .free "reversed") rfl)), He.glo_ok X G (cd.fact 64 (f := .glo "to_bytes") rfl), F_to_bytes.kp, hb⟩⟩
  have cd_to_bytes_4 : CalD P w K mg base 22 "to_bytes" ["machine", "x", "length", "order", "signed"] [V.bl false] (mkSp (Pre_to_bytes T)) := by
    obtain ⟨ds, hv, hb⟩ := FunD.binds (ps := ["machine", "x", "length", "order", "signed"]) F_to_bytes 4 2 (fun e => nomatch e) rfl (fun _ _ _ _ _ _ _ us its ks hl hi hk => match us, its, ks, hl, hi, hk with | [_, _, _, _], [_, _], [_], _, _, _ => ⟨_, rfl, _, _, _, _, _, _, rfl, rfl, rfl⟩) (fun e => nomatch e)
    exact ⟨⟨_, _, ds, ok_to_bytes (T := T) F_to_bytes c_check_one (gInt X G (cd.fact 63 (f := .int "LONGEST_ROW" 10000) rfl)) c_is_between c_check_order c_check_signed bc c_least_length mc (He.free_ok X G (cd.fact 16 (f := .free "len") rfl)) c_Mach_enter c_Mach_step (gInt X G (cd.fact 58 (f := .int "BYTE" 8) rfl)) c_magnitude_of c_size_of c_row_of (He.free_ok X G (cd.fact 22 (f := .free "list") rfl)) (He.free_ok X G (cd.fact 40 (f := .free "reversed") rfl)), He.glo_ok X G (cd.fact 64 (f := .glo "to_bytes") rfl), F_to_bytes.kp, hv, hb⟩⟩
  obtain ⟨fd_count_reading, F_count_reading⟩ := cd.def_ 25 (d := d_count_reading) rfl
  have F_count_reading := Fun.ofD (st := s_count_reading) F_count_reading
  have c_count_reading : Cal P w K mg base 3 "count_reading" ["machine", "number", "size"] (mkSp (Pre_count_reading T)) := ⟨⟨_, _, ok_count_reading (T := T) F_count_reading (gInt X G (cd.fact 58 (f := .int "BYTE" 8) rfl)) c_magnitude_of c_size_of mc (He.free_ok X G (cd.fact 65 (f := .free "min") rfl)) c_Mach_step, He.glo_ok X G (cd.fact 66 (f := .glo "count_reading") rfl), F_count_reading.kp, (F_count_reading.binds (ps := ["machine", "number", "size"]) fun _ _ _ _ _ _ us hl => match us, hl with | [_, _, _], _ => rfl)⟩⟩
  obtain ⟨fd_from_bytes, F_from_bytes⟩ := cd.def_ 26 (d := d_from_bytes) rfl
  have ckd_from_bytes_2_signed : CalKD P w K mg base 23 "from_bytes" ["machine", "row", "order", "signed"] 2 ["signed"] [V.str "big"] [0, 1, 2, 3] (mkSp (Pre_from_bytes T)) := by
    obtain ⟨its, mv, hb⟩ := FunD.kbinds (ps := ["machine", "row", "order", "signed"]) F_from_bytes 2 ["signed"] [] (fun us its mv ws => prm [0, 1, 2, 3] (us ++ (its ++ (mv ++ ws)))) (fun e => nomatch e) (fun e => nomatch e) (fun q h => nomatch h) (fun r1 r2 r3 r4 => prm_rel _ (Vals.append r1 (Vals.append r2 (Vals.append r3 r4)))) (fun _ _ _ _ _ _ _ us its mv ws hl hi hm hw => match us, its, mv, ws, hl, hi, hm, hw with | [_, _], [_], [], [_], _, _, _, _ => ⟨_, rfl, rfl⟩)
    exact ⟨⟨_, _, _, ok_from_bytes (T := T) F_from_bytes c_check_machine (He.free_ok X G (cd.fact 10 (f := .free "isinstance") rfl)) (He.free_ok X G (cd.fact 22 (f := .free "list") rfl)) (He.free_ok X G (cd.fact 16 (f := .free "len") rfl)) (gInt X G (cd.fact 63 (f := .int "LONGEST_ROW" 10000) rfl)) (gInt X G (cd.fact 67 (f := .int "GREATEST_BYTE" 255) rfl)) c_is_between (He.free_ok X G (cd.fact 68 (f := .free "all") rfl)) c_check_order c_check_signed c_big_of (gInt X G (cd.fact 58 (f := .int "BYTE" 8) rfl)) (He.free_ok X G (cd.fact 40 (f := .free "reversed") rfl)) c_number_of (gInt X G (cd.fact 69 (f := .int "SIGN_BYTE" 128) rfl)) mc c_Mach_enter c_count_reading, He.glo_ok X G (cd.fact 70 (f := .glo "from_bytes") rfl), F_from_bytes.kp, hb⟩⟩
  have ckd_from_bytes_3_signed : CalKD P w K mg base 23 "from_bytes" ["machine", "row", "order", "signed"] 3 ["signed"] [V.str "big"] [0, 1, 2, 4] (mkSp (Pre_from_bytes T)) := by
    obtain ⟨its, mv, hb⟩ := FunD.kbinds (ps := ["machine", "row", "order", "signed"]) F_from_bytes 3 ["signed"] [] (fun us its mv ws => prm [0, 1, 2, 4] (us ++ (its ++ (mv ++ ws)))) (fun e => nomatch e) (fun e => nomatch e) (fun q h => nomatch h) (fun r1 r2 r3 r4 => prm_rel _ (Vals.append r1 (Vals.append r2 (Vals.append r3 r4)))) (fun _ _ _ _ _ _ _ us its mv ws hl hi hm hw => match us, its, mv, ws, hl, hi, hm, hw with | [_, _, _], [_], [], [_], _, _, _, _ => ⟨_, rfl, rfl⟩)
    exact ⟨⟨_, _, _, ok_from_bytes (T := T) F_from_bytes c_check_machine (He.free_ok X G (cd.fact 10 (f := .free "isinstance") rfl)) (He.free_ok X G (cd.fact 22 (f := .free "list") rfl)) (He.free_ok X G (cd.fact 16 (f := .free "len") rfl)) (gInt X G (cd.fact 63 (f := .int "LONGEST_ROW" 10000) rfl)) (gInt X G (cd.fact 67 (f := .int "GREATEST_BYTE" 255) rfl)) c_is_between (He.free_ok X G (cd.fact 68 (f := .free "all") rfl)) c_check_order c_check_signed c_big_of (gInt X G (cd.fact 58 (f := .int "BYTE" 8) rfl)) (He.free_ok X G (cd.fact 40 (f := .free "reversed") rfl)) c_number_of (gInt X G (cd.fact 69 (f := .int "SIGN_BYTE" 128) rfl)) mc c_Mach_enter c_count_reading, He.glo_ok X G (cd.fact 70 (f := .glo "from_bytes") rfl), F_from_bytes.kp, hb⟩⟩
  obtain ⟨fd_added, F_added⟩ := cd.def_ 27 (d := d_added) rfl
  have F_added := Fun.ofD (st := s_added) F_added
  have c_added : Cal P w K mg base 2 "added" ["machine", "a", "m", "b", "n"] (mkSp (Pre_added T)) := ⟨⟨_, _, ok_added (T := T) F_added mc c_Mach_enter (He.free_ok X G (cd.fact 44 (f := .free "max") rfl)) c_Mach_step, He.glo_ok X G (cd.fact 71 (f := .glo "added") rfl), F_added.kp, (F_added.binds (ps := ["machine", "a", "m", "b", "n"]) fun _ _ _ _ _ _ us hl => match us, hl with | [_, _, _, _, _], _ => rfl)⟩⟩
  obtain ⟨fd_taken, F_taken⟩ := cd.def_ 28 (d := d_taken) rfl
  have F_taken := Fun.ofD (st := s_taken) F_taken
  have c_taken : Cal P w K mg base 4 "taken" ["machine", "a", "b"] (mkSp (Pre_taken T)) := ⟨⟨_, _, ok_taken (T := T) F_taken mc c_size_of c_Mach_enter c_last_difference c_Mach_step (He.free_ok X G (cd.fact 44 (f := .free "max") rfl)), He.glo_ok X G (cd.fact 72 (f := .glo "taken") rfl), F_taken.kp, (F_taken.binds (ps := ["machine", "a", "b"]) fun _ _ _ _ _ _ us hl => match us, hl with | [_, _, _], _ => rfl)⟩⟩
  obtain ⟨fd_joined, F_joined⟩ := cd.def_ 29 (d := d_joined) rfl
  have F_joined := Fun.ofD (st := s_joined) F_joined
  have c_joined : Cal P w K mg base 5 "joined" ["machine", "x", "y", "turn"] (mkSp (Pre_joined T)) := ⟨⟨_, _, ok_joined (T := T) F_joined c_are_compact mc c_Mach_step (He.free_ok X G (cd.fact 50 (f := .free "abs") rfl)) c_size_of c_added c_taken, He.glo_ok X G (cd.fact 73 (f := .glo "joined") rfl), F_joined.kp, (F_joined.binds (ps := ["machine", "x", "y", "turn"]) fun _ _ _ _ _ _ us hl => match us, hl with | [_, _, _, _], _ => rfl)⟩⟩
  obtain ⟨fd_count_complement, F_count_complement⟩ := cd.def_ 30 (d := d_count_complement) rfl
  have F_count_complement := Fun.ofD (st := s_count_complement) F_count_complement
  have c_count_complement : Cal P w K mg base 2 "count_complement" ["machine", "size"] (mkSp (Pre_count_complement T)) := ⟨⟨_, _, ok_count_complement (T := T) F_count_complement mc c_Mach_enter c_Mach_step, He.glo_ok X G (cd.fact 74 (f := .glo "count_complement") rfl), F_count_complement.kp, (F_count_complement.binds (ps := ["machine", "size"]) fun _ _ _ _ _ _ us hl => match us, hl with | [_, _], _ => rfl)⟩⟩
  obtain ⟨fd_count_combining, F_count_combining⟩ := cd.def_ 31 (d := d_count_combining) rfl
  have F_count_combining := Fun.ofD (st := s_count_combining) F_count_combining
  have c_count_combining : Cal P w K mg base 3 "count_combining" ["machine", "word", "x", "y", "result"] (mkSp (Pre_count_combining T)) := ⟨⟨_, _, ok_count_combining (T := T) F_count_combining c_are_compact mc c_Mach_step c_size_of c_Mach_enter c_count_complement (He.free_ok X G (cd.fact 44 (f := .free "max") rfl)) (He.free_ok X G (cd.fact 65 (f := .free "min") rfl)), He.glo_ok X G (cd.fact 75 (f := .glo "count_combining") rfl), F_count_combining.kp, (F_count_combining.binds (ps := ["machine", "word", "x", "y", "result"]) fun _ _ _ _ _ _ us hl => match us, hl with | [_, _, _, _, _], _ => rfl)⟩⟩
  obtain ⟨fd_bit_and, F_bit_and⟩ := cd.def_ 32 (d := d_bit_and) rfl
  have F_bit_and := Fun.ofD (st := s_bit_and) F_bit_and
  have c_bit_and : Cal P w K mg base 23 "bit_and" ["machine", "x", "y"] (mkSp (Pre_bit_and T)) := ⟨⟨_, _, ok_bit_and (T := T) F_bit_and c_check_two bc c_count_combining c_big_of, He.glo_ok X G (cd.fact 76 (f := .glo "bit_and") rfl), F_bit_and.kp, (F_bit_and.binds (ps := ["machine", "x", "y"]) fun _ _ _ _ _ _ us hl => match us, hl with | [_, _, _], _ => rfl)⟩⟩
  obtain ⟨fd_bit_or, F_bit_or⟩ := cd.def_ 33 (d := d_bit_or) rfl
  have F_bit_or := Fun.ofD (st := s_bit_or) F_bit_or
  have c_bit_or : Cal P w K mg base 23 "bit_or" ["machine", "x", "y"] (mkSp (Pre_bit_or T)) := ⟨⟨_, _, ok_bit_or (T := T) F_bit_or c_check_two bc c_count_combining c_big_of, He.glo_ok X G (cd.fact 77 (f := .glo "bit_or") rfl), F_bit_or.kp, (F_bit_or.binds (ps := ["machine", "x", "y"]) fun _ _ _ _ _ _ us hl => match us, hl with | [_, _, _], _ => rfl)⟩⟩
  obtain ⟨fd_bit_not, F_bit_not⟩ := cd.def_ 34 (d := d_bit_not) rfl
  have F_bit_not := Fun.ofD (st := s_bit_not) F_bit_not
  have c_bit_not : Cal P w K mg base 23 "bit_not" ["machine", "x"] (mkSp (Pre_bit_not T)) := ⟨⟨_, _, ok_bit_not (T := T) F_bit_not c_check_one bc c_are_compact mc c_Mach_step c_big_of c_joined, He.glo_ok X G (cd.fact 78 (f := .glo "bit_not") rfl), F_bit_not.kp, (F_bit_not.binds (ps := ["machine", "x"]) fun _ _ _ _ _ _ us hl => match us, hl with | [_, _], _ => rfl)⟩⟩
  obtain ⟨fd_check_shift, F_check_shift⟩ := cd.def_ 35 (d := d_check_shift) rfl
  have F_check_shift := Fun.ofD (st := s_check_shift) F_check_shift
  have c_check_shift : Cal P w K mg base 4 "check_shift" ["machine", "x", "count"] (mkSp (Pre_check_shift T)) := ⟨⟨_, _, ok_check_shift (T := T) F_check_shift c_check_one c_is_integer, He.glo_ok X G (cd.fact 79 (f := .glo "check_shift") rfl), F_check_shift.kp, (F_check_shift.binds (ps := ["machine", "x", "count"]) fun _ _ _ _ _ _ us hl => match us, hl with | [_, _, _], _ => rfl)⟩⟩
  obtain ⟨fd_shifted_left, F_shifted_left⟩ := cd.def_ 36 (d := d_shifted_left) rfl
  have F_shifted_left := Fun.ofD (st := s_shifted_left) F_shifted_left
  have c_shifted_left : Cal P w K mg base 3 "shifted_left" ["machine", "x", "count"] (mkSp (Pre_shifted_left T)) := ⟨⟨_, _, ok_shifted_left (T := T) F_shifted_left mc c_size_of c_Mach_step c_Mach_enter, He.glo_ok X G (cd.fact 80 (f := .glo "shifted_left") rfl), F_shifted_left.kp, (F_shifted_left.binds (ps := ["machine", "x", "count"]) fun _ _ _ _ _ _ us hl => match us, hl with | [_, _, _], _ => rfl)⟩⟩
  obtain ⟨fd_shift_left, F_shift_left⟩ := cd.def_ 37 (d := d_shift_left) rfl
  have F_shift_left := Fun.ofD (st := s_shift_left) F_shift_left
  have c_shift_left : Cal P w K mg base 23 "shift_left" ["machine", "x", "count"] (mkSp (Pre_shift_left T)) := ⟨⟨_, _, ok_shift_left (T := T) F_shift_left c_check_shift bc (gInt X G (cd.fact 81 (f := .int "GREATEST_SHIFT" 100000) rfl)) c_shifted_left c_big_of, He.glo_ok X G (cd.fact 82 (f := .glo "shift_left") rfl), F_shift_left.kp, (F_shift_left.binds (ps := ["machine", "x", "count"]) fun _ _ _ _ _ _ us hl => match us, hl with | [_, _, _], _ => rfl)⟩⟩
  obtain ⟨fd_count_right_steps, F_count_right_steps⟩ := cd.def_ 38 (d := d_count_right_steps) rfl
  have F_count_right_steps := Fun.ofD (st := s_count_right_steps) F_count_right_steps
  have c_count_right_steps : Cal P w K mg base 2 "count_right_steps" ["machine", "below", "size", "count"] (mkSp (Pre_count_right_steps T)) := ⟨⟨_, _, ok_count_right_steps (T := T) F_count_right_steps mc c_Mach_step, He.glo_ok X G (cd.fact 83 (f := .glo "count_right_steps") rfl), F_count_right_steps.kp, (F_count_right_steps.binds (ps := ["machine", "below", "size", "count"]) fun _ _ _ _ _ _ us hl => match us, hl with | [_, _, _, _], _ => rfl)⟩⟩
  obtain ⟨fd_shifted_right, F_shifted_right⟩ := cd.def_ 39 (d := d_shifted_right) rfl
  have F_shifted_right := Fun.ofD (st := s_shifted_right) F_shifted_right
  have c_shifted_right : Cal P w K mg base 3 "shifted_right" ["machine", "x", "count"] (mkSp (Pre_shifted_right T)) := ⟨⟨_, _, ok_shifted_right (T := T) F_shifted_right mc c_size_of c_Mach_step c_Mach_enter c_count_right_steps (He.free_ok X G (cd.fact 65 (f := .free "min") rfl)), He.glo_ok X G (cd.fact 84 (f := .glo "shifted_right") rfl), F_shifted_right.kp, (F_shifted_right.binds (ps := ["machine", "x", "count"]) fun _ _ _ _ _ _ us hl => match us, hl with | [_, _, _], _ => rfl)⟩⟩
  obtain ⟨fd_shift_right, F_shift_right⟩ := cd.def_ 40 (d := d_shift_right) rfl
  have F_shift_right := Fun.ofD (st := s_shift_right) F_shift_right
  have c_shift_right : Cal P w K mg base 23 "shift_right" ["machine", "x", "count"] (mkSp (Pre_shift_right T)) := ⟨⟨_, _, ok_shift_right (T := T) F_shift_right c_check_shift bc c_shifted_right c_big_of, He.glo_ok X G (cd.fact 85 (f := .glo "shift_right") rfl), F_shift_right.kp, (F_shift_right.binds (ps := ["machine", "x", "count"]) fun _ _ _ _ _ _ us hl => match us, hl with | [_, _, _], _ => rfl)⟩⟩
  obtain ⟨fd__law_source_of, F__law_source_of⟩ := cd.def_ 41 (d := d__law_source_of) rfl
  have F__law_source_of := Fun.ofD (st := s__law_source_of) F__law_source_of
  have c__law_source_of : Cal P w K mg base 1 "_law_source_of" ["_law_cell"] (mkSp (Pre__law_source_of T)) := ⟨⟨_, _, ok__law_source_of (T := T) F__law_source_of (He.free_ok X G (cd.fact 11 (f := .free "int") rfl)), He.glo_ok X G (cd.fact 86 (f := .glo "_law_source_of") rfl), F__law_source_of.kp, (F__law_source_of.binds (ps := ["_law_cell"]) fun _ _ _ _ _ _ us hl => match us, hl with | [_], _ => rfl)⟩⟩
  obtain ⟨fd__law_next, F__law_next⟩ := cd.def_ 42 (d := d__law_next) rfl
  have F__law_next := Fun.ofD (st := s__law_next) F__law_next
  have c__law_next : Cal P w K mg base 1 "_law_next" ["_law_source", "_law_times"] (mkSp (Pre__law_next T)) := ⟨⟨_, _, ok__law_next (T := T) F__law_next (He.free_ok X G (cd.fact 11 (f := .free "int") rfl)), He.glo_ok X G (cd.fact 87 (f := .glo "_law_next") rfl), F__law_next.kp, (F__law_next.binds (ps := ["_law_source", "_law_times"]) fun _ _ _ _ _ _ us hl => match us, hl with | [_, _], _ => rfl)⟩⟩
  obtain ⟨fd__law_one, F__law_one⟩ := cd.def_ 43 (d := d__law_one) rfl
  have F__law_one := Fun.ofD (st := s__law_one) F__law_one
  have c__law_one : Cal P w K mg base 2 "_law_one" ["_law_source", "_law_some"] (mkSp (Pre__law_one T)) := ⟨⟨_, _, ok__law_one (T := T) F__law_one (He.free_ok X G (cd.fact 16 (f := .free "len") rfl)) c__law_next, He.glo_ok X G (cd.fact 88 (f := .glo "_law_one") rfl), F__law_one.kp, (F__law_one.binds (ps := ["_law_source", "_law_some"]) fun _ _ _ _ _ _ us hl => match us, hl with | [_, _], _ => rfl)⟩⟩
  obtain ⟨fd__law_cell_at, F__law_cell_at⟩ := cd.def_ 44 (d := d__law_cell_at) rfl
  have F__law_cell_at := Fun.ofD (st := s__law_cell_at) F__law_cell_at
  have c__law_cell_at : Cal P w K mg base 1 "_law_cell_at" ["_law_script", "_law_index"] (mkSp (Pre__law_cell_at T)) := ⟨⟨_, _, ok__law_cell_at (T := T) F__law_cell_at , He.glo_ok X G (cd.fact 89 (f := .glo "_law_cell_at") rfl), F__law_cell_at.kp, (F__law_cell_at.binds (ps := ["_law_script", "_law_index"]) fun _ _ _ _ _ _ us hl => match us, hl with | [_, _], _ => rfl)⟩⟩
  obtain ⟨fd__law_power, F__law_power⟩ := cd.def_ 45 (d := d__law_power) rfl
  have F__law_power := Fun.ofD (st := s__law_power) F__law_power
  have c__law_power : Cal P w K mg base 1 "_law_power" ["_law_base", "_law_times"] (mkSp (Pre__law_power T)) := ⟨⟨_, _, ok__law_power (T := T) F__law_power (He.free_ok X G (cd.fact 43 (f := .free "range") rfl)), He.glo_ok X G (cd.fact 90 (f := .glo "_law_power") rfl), F__law_power.kp, (F__law_power.binds (ps := ["_law_base", "_law_times"]) fun _ _ _ _ _ _ us hl => match us, hl with | [_, _], _ => rfl)⟩⟩
  obtain ⟨fd__law_machine, F__law_machine⟩ := cd.def_ 46 (d := d__law_machine) rfl
  have F__law_machine := Fun.ofD (st := s__law_machine) F__law_machine
  have c__law_machine : Cal P w K mg base 5 "_law_machine" ["_law_source"] (mkSp (Pre__law_machine T)) := ⟨⟨_, _, ok__law_machine (T := T) F__law_machine c__law_next c__law_one c_Machine2, He.glo_ok X G (cd.fact 91 (f := .glo "_law_machine") rfl), F__law_machine.kp, (F__law_machine.binds (ps := ["_law_source"]) fun _ _ _ _ _ _ us hl => match us, hl with | [_], _ => rfl)⟩⟩
  obtain ⟨fd__law_drawn, F__law_drawn⟩ := cd.def_ 47 (d := d__law_drawn) rfl
  have F__law_drawn := Fun.ofD (st := s__law_drawn) F__law_drawn
  have c__law_drawn : Cal P w K mg base 3 "_law_drawn" ["_law_source", "_law_base", "_law_most"] (mkSp (Pre__law_drawn T)) := ⟨⟨_, _, ok__law_drawn (T := T) F__law_drawn c__law_next (He.free_ok X G (cd.fact 43 (f := .free "range") rfl)) c__law_one c__law_power (He.free_ok X G (cd.fact 11 (f := .free "int") rfl)), He.glo_ok X G (cd.fact 92 (f := .glo "_law_drawn") rfl), F__law_drawn.kp, (F__law_drawn.binds (ps := ["_law_source", "_law_base", "_law_most"]) fun _ _ _ _ _ _ us hl => match us, hl with | [_, _, _], _ => rfl)⟩⟩
  obtain ⟨fd__law_counted, F__law_counted⟩ := cd.def_ 48 (d := d__law_counted) rfl
  have F__law_counted := Fun.ofD (st := s__law_counted) F__law_counted
  have c__law_counted : Cal P w K mg base 2 "_law_counted" ["_law_machine_here", "_law_got", "_law_entered"] (mkSp (Pre__law_counted T)) := ⟨⟨_, _, ok__law_counted (T := T) F__law_counted mc c_Mach_tally (He.free_ok X G (cd.fact 93 (f := .free "dict") rfl)) c_Mach_walk c_Mach_reset, He.glo_ok X G (cd.fact 94 (f := .glo "_law_counted") rfl), F__law_counted.kp, (F__law_counted.binds (ps := ["_law_machine_here", "_law_got", "_law_entered"]) fun _ _ _ _ _ _ us hl => match us, hl with | [_, _, _], _ => rfl)⟩⟩
  obtain ⟨fd__law_back_right, F__law_back_right⟩ := cd.def_ 49 (d := d__law_back_right) rfl
  have F__law_back_right := Fun.ofD (st := s__law_back_right) F__law_back_right
  have c__law_back_right : Cal P w K mg base 24 "_law_back_right" ["_law_here", "_law_x_here", "_law_size", "_law_is_signed"] (mkSp (Pre__law_back_right T)) := ⟨⟨_, _, ok__law_back_right (T := T) F__law_back_right ckd_to_bytes_4_signed ckd_from_bytes_3_signed ceq (He.free_ok X G (cd.fact 16 (f := .free "len") rfl)) (He.free_ok X G (cd.fact 11 (f := .free "int") rfl)), He.glo_ok X G (cd.fact 95 (f := .glo "_law_back_right") rfl), F__law_back_right.kp, (F__law_back_right.binds (ps := ["_law_here", "_law_x_here", "_law_size", "_law_is_signed"]) fun _ _ _ _ _ _ us hl => match us, hl with | [_, _, _, _], _ => rfl)⟩⟩
  obtain ⟨fd__law_each_right, F__law_each_right⟩ := cd.def_ 50 (d := d__law_each_right) rfl
  have F__law_each_right := Fun.ofD (st := s__law_each_right) F__law_each_right
  have c__law_each_right : Cal P w K mg base 24 "_law_each_right" ["_law_here", "_law_x_here", "_law_size"] (mkSp (Pre__law_each_right T)) := ⟨⟨_, _, ok__law_each_right (T := T) F__law_each_right c_Big_sign ckd_to_bytes_4_signed c_big (He.free_ok X G (cd.fact 43 (f := .free "range") rfl)) c_shift_right c_bit_and c_plain c_bit_not (He.free_ok X G (cd.fact 11 (f := .free "int") rfl)), He.glo_ok X G (cd.fact 96 (f := .glo "_law_each_right") rfl), F__law_each_right.kp, (F__law_each_right.binds (ps := ["_law_here", "_law_x_here", "_law_size"]) fun _ _ _ _ _ _ us hl => match us, hl with | [_, _, _], _ => rfl)⟩⟩
  obtain ⟨fd__law_joined_right, F__law_joined_right⟩ := cd.def_ 51 (d := d__law_joined_right) rfl
  have F__law_joined_right := Fun.ofD (st := s__law_joined_right) F__law_joined_right
  have c__law_joined_right : Cal P w K mg base 24 "_law_joined_right" ["_law_here", "_law_x_here", "_law_y_here"] (mkSp (Pre__law_joined_right T)) := ⟨⟨_, _, ok__law_joined_right (T := T) F__law_joined_right cd_byte_length_1 cd_to_bytes_4 ckd_byte_length_1_signed (He.free_ok X G (cd.fact 44 (f := .free "max") rfl)) ckd_to_bytes_4_signed (He.free_ok X G (cd.fact 16 (f := .free "len") rfl)) c_shift_left c_bit_or ckd_from_bytes_3_signed ceq, He.glo_ok X G (cd.fact 97 (f := .glo "_law_joined_right") rfl), F__law_joined_right.kp, (F__law_joined_right.binds (ps := ["_law_here", "_law_x_here", "_law_y_here"]) fun _ _ _ _ _ _ us hl => match us, hl with | [_, _, _], _ => rfl)⟩⟩
  obtain ⟨fd__law_counts_right, F__law_counts_right⟩ := cd.def_ 52 (d := d__law_counts_right) rfl
  have F__law_counts_right := Fun.ofD (st := s__law_counts_right) F__law_counts_right
  have c__law_counts_right : Cal P w K mg base 24 "_law_counts_right" ["_law_here", "_law_x_here"] (mkSp (Pre__law_counts_right T)) := ⟨⟨_, _, ok__law_counts_right (T := T) F__law_counts_right c_Big_digits (He.free_ok X G (cd.fact 16 (f := .free "len") rfl)) c_Big_sign (He.free_ok X G (cd.fact 11 (f := .free "int") rfl)) ckd_byte_length_1_signed c_bit_not c_bit_length mc c_Mach_reset ckd_to_bytes_3_signed c__law_counted ckd_from_bytes_2_signed ceq (He.free_ok X G (cd.fact 65 (f := .free "min") rfl)), He.glo_ok X G (cd.fact 98 (f := .glo "_law_counts_right") rfl), F__law_counts_right.kp, (F__law_counts_right.binds (ps := ["_law_here", "_law_x_here"]) fun _ _ _ _ _ _ us hl => match us, hl with | [_, _], _ => rfl)⟩⟩
  obtain ⟨fd__law_sums_right, F__law_sums_right⟩ := cd.def_ 53 (d := d__law_sums_right) rfl
  have F__law_sums_right := Fun.ofD (st := s__law_sums_right) F__law_sums_right
  have c__law_sums_right : Cal P w K mg base 26 "_law_sums_right" ["_law_here", "_law_x_here", "_law_y_here"] (mkSp (Pre__law_sums_right T)) := ⟨⟨_, _, ok__law_sums_right (T := T) F__law_sums_right ckd_byte_length_1_signed ckd_to_bytes_3_signed (hTB (He.cT K ("_law_sums_right", none)) (List.mem_map.mpr ⟨_, by simp [tfs], rfl⟩)) (hu_of ndT (mem__law_sums_right T)) (codeIs_of (K := K) (p := ("_law_sums_right", none))) ckd_from_bytes_2_signed c_shift_right c_shift_left c_bit_or c_bit_and c_bit_not mc c_Mach_reset c_Mach_tally c_Mach_walk (He.free_ok X G (cd.fact 16 (f := .free "len") rfl)) (He.free_ok X G (cd.fact 43 (f := .free "range") rfl)) (He.free_ok X G (cd.fact 99 (f := .free "sum") rfl)), He.glo_ok X G (cd.fact 100 (f := .glo "_law_sums_right") rfl), F__law_sums_right.kp, (F__law_sums_right.binds (ps := ["_law_here", "_law_x_here", "_law_y_here"]) fun _ _ _ _ _ _ us hl => match us, hl with | [_, _, _], _ => rfl)⟩⟩
  have F_law := Fun.ofD (st := s_law) G_law
  exact ok_law (T := T) F_law c__law_cell_at c__law_source_of c__law_machine c__law_one c_Machine2 (He.free_ok X G (cd.fact 43 (f := .free "range") rfl)) mc c_Mach_parts c__law_drawn c_big (He.free_ok X G (cd.fact 50 (f := .free "abs") rfl)) ckd_byte_length_1_signed c__law_next c__law_back_right c__law_each_right cd_byte_length_1 c__law_joined_right c__law_counts_right c__law_sums_right ckd_to_bytes_3_signed ckd_from_bytes_2_signed c_plain
end P

open PySem PySem.W PySem.Calls PyProof.Rows in
theorem PySem.Challenge.cw_thirtybits_k74_whole_bytes_there_and_bac_holds : PySem.Challenge.rw_thirtybits_k74_whole_bytes_there_and_bac.Holds := by
  w_on; o_law
  refine HandSHeadRun.head_any (r := OpenLaw.row PySem.Challenge.rw_thirtybits_k74_whole_bytes_there_and_bac) (q := view (OpenLaw.row PySem.Challenge.rw_thirtybits_k74_whole_bytes_there_and_bac).prog [79]) (H := P.hk) (ob := P.ob) (M := 12000) (loose := P.loose) (d := HandSHeadRun.topDef (OpenLaw.row PySem.Challenge.rw_thirtybits_k74_whole_bytes_there_and_bac).prog 79) (kwd := []) P.ob_eq
    (by kernel_rfl) (fun s => by kernel_rfl) P.run (by kernel_rfl) (by kernel_rfl) (by kernel_rfl) (by rfl) (by first | assumption | decide +kernel) (by decide +kernel) ⟨rfl, rfl, rfl, rfl, rfl, by decide +kernel⟩ ?hw ?hc
  case hw => w_witness2
  case hc =>
    refine LamX.walk_ofTsE (l := PySem.Challenge.rw_thirtybits_k74_whole_bytes_there_and_bac) (n := 63) (k := 27) (x := "_law_script") (CX := fun _ => L2.CX0) rfl (by decide) (by kernel_rfl) ⟨rfl, by decide, by decide⟩ ?F (fun _ _ _ _ _ z => z)
    intro w mg fa h Y G hmg0
    obtain ⟨K, KX, c⟩ := Y
    have hmg : mg ("law" : PySem.Str) = some (.ref fa) := by
      have e : (HandSHeadRun.topDef (OpenLaw.row PySem.Challenge.rw_thirtybits_k74_whole_bytes_there_and_bac).prog 79).name = ("law" : PySem.Str) := by kernel_rfl
      rw [← e]
      exact hmg0
    obtain ⟨T, fd, eT, hTH, hb, hF⟩ := P.facts (P := (PySem.Challenge.rw_thirtybits_k74_whole_bytes_there_and_bac).prog) (w := w) KX G hmg c
    refine ⟨K, KX, fd, P.tfs.map (He.cT K), VL.mkSp (P.Pre_law T), fun p hp => ?_, fun p hp => ?_, fun p hp => ?_, hb, fun H a ns hl _ hT hS => ?_, fun base b1 b2 b3 => hF base b1 b2 b3⟩
    · obtain ⟨d, hd, rfl⟩ := List.mem_map.mp hp
      exact c.empty d hd
    · obtain ⟨d, hd, rfl⟩ := List.mem_map.mp hp
      exact c.out d hd
    · obtain ⟨d, hd, rfl⟩ := List.mem_map.mp hp
      exact PySem.W.codeHd_of_K KX (c.hd d hd)
    · obtain ⟨F, f1, f2⟩ := VL.tab_start (hTH H hT) hS
      exact ⟨F, [VL.tabA (P.tbs T)], _, _, ⟨0, ns, true, rfl, rfl, P.law_right ns hl, rfl⟩, .cons ⟨a, ns.map L2.V.int, rfl, by rw [eT]; exact f1, VL.al_of_int⟩ .nil, f2, fun F' v H' Ω' _ _ r => r.1⟩
