import PyProof.Rows.All
import Wide.All
import OpenK.AllK
import Wide.FinOn
import KE.KStateDown
import HandS.Head0
import HandS.Head1
import HandS.Head2
import HandS.HeadEnd
import HandS.HeadHook1
import HandS.HeadHook2
import HandS.HeadHook3
import HandS.HeadHook4
import HandS.ForMost
import HandS.Wide
import HandS.Evl
import HandS.Rev
import HandS.Style
import HandS.IsInst
import HandS.Defaults
import HandS.DictComp
import HandS.WideBits
import KE.GoesEnum
import HandS.TupAny
import HandS.OwnEq
import PyProof.InstNe
import HandS.TryOnly
import HandS.DeepEq
import PyProof.NeKinds
import HandS.TupLe
import HandS.CallLocal
import HandS.Lambda
import HandS.Small
import HandS.Iter
import HandS.More
import KE.KDflt
import HandS.MakeKw
import HandS.MakeKwOnly
import PyProof.Rows.ChunkEnd
import HandS.RevRange
import PyProof.Rows.CountFlat
import HandS.Flow
import HandS.Conv
import HandS.Sort
import HandS.ForExc
import HandS.RaiseMore
import PyProof.ExcBaseAll.ArithmeticError
import HandS.ExcInit
import HandS.ExcField
import HandS.FStr
import KE.KExcInit
import HandS.TryMany
import KE.KExcIs
import HandS.Flt
import PyProof.FString3
import PyProof.StrOps2
import HandS.StrMore
import HandS.Codes
import HandS.Dict
import HandS.Steps
import KE.OsArith
import HandS.Text
import KE.KBits
import KE.BitLaws
import PySem.Challenge.RW_thirtybits_k21_sizes_beside_the_cutoff
set_option Elab.async false
set_option linter.all false
set_option maxRecDepth 100000
set_option maxHeartbeats 0
set_option Elab.async false
set_option linter.all false
set_option maxRecDepth 100000
set_option maxHeartbeats 0
namespace VL
open PySem
/-! what is looked at behind the start: the things at places that are told, not those found by walking -/
def obsL (as0 : List Addr) (fa : List He.Fa) (fn : List He.DefD) (tf : List He.Defn) (ex : PySem.W.Frag → Bool) (g : Addr → Option Obj) : He.AlX := ((He.obsD fa fn (He.frT g as0), []), ex (He.frT g as0) && He.tabsB g tf (He.frT g as0))
theorem tabL {g : Addr → Option Obj} {K : PySem.W.Frag} {p : He.Defn} (h : (PySem.W.codeHdIn K (He.cT K p).1 (He.cT K p).2 && (match g (He.cT K p).2 with
    | some o => He.emptyTab o
    | none => false)) = true) : PySem.W.codeHdIn K (He.cT K p).1 (He.cT K p).2 = true ∧ ∃ o, g (He.cT K p).2 = some o ∧ He.emptyTab o = true := by
  rw [Bool.and_eq_true] at h
  refine ⟨h.1, ?_⟩
  revert h
  generalize g (He.cT K p).2 = u
  cases u with
  | none => exact fun h => nomatch h.2
  | some o => exact fun h => ⟨o, rfl, h.2⟩
theorem saysL {as0 : List Addr} {fa : List He.Fa} {fn : List He.DefD} {tf : List He.Defn} {ex : PySem.W.Frag → Bool} {w : World} {h : Heap} (e : obsL as0 fa fn tf ex h.get? = He.valX fn [] w) : He.SaysX fa fn [] tf ex w h (He.frT h.get? as0) := by
  obtain ⟨e1, e2⟩ := Prod.mk.inj e
  rw [Bool.and_eq_true] at e2
  have ts := List.all_eq_true.mp e2.2
  refine { t := e1, more := e2.1, hd := fun p m => (tabL (ts p m)).1, out := fun p m => ?_, empty := fun p m => ?_ }
  · obtain ⟨_, o, q, z⟩ := tabL (ts p m)
    exact He.frT_none q z
  · obtain ⟨_, o, q, z⟩ := tabL (ts p m)
    rw [q, He.emptyTab_eq z]
def hookL (as0 : List Addr) (fa : List He.Fa) (fn : List He.DefD) (tf : List He.Defn) (ex : PySem.W.Frag → Bool) : PySem.W.Hook :=
  ⟨He.AlX, fun s => obsL as0 fa fn tf ex s.heap.get?, fun w => He.valX fn [] w, fun w h => ∃ K : PySem.W.Frag, K.In h ∧ He.SaysX fa fn [] tf ex w h K,
   fun _ _ e => ⟨_, He.frT_in, saysL e⟩, fun _ _ _ ⟨K, i, c⟩ k => ⟨K, i.keeps k, c.t, c.more, c.hd, c.out, fun p m => k _ _ (c.empty p m)⟩⟩
theorem obsL_eq {as0 : List Addr} {fa : List He.Fa} {fn : List He.DefD} {tf : List He.Defn} {ex : PySem.W.Frag → Bool} {g : Addr → Option Obj} {s : PySem.Shared} (h : ∀ a, g a = s.heap.get? a) : obsL as0 fa fn tf ex g = (hookL as0 fa fn tf ex).obs s := by
  show _ = obsL as0 fa fn tf ex s.heap.get?
  rw [show g = s.heap.get? from funext h]
def obsLT (as0 : List Addr) (fa : List He.Fa) (fn : List He.DefD) (ts : List He.Tab) (tf : List He.Defn) (ex : PySem.W.Frag → Bool) (g : Addr → Option Obj) : He.AlX := (He.obsT fa fn ts (He.frT g as0), ex (He.frT g as0) && He.tabsB g tf (He.frT g as0))
theorem saysLT {as0 : List Addr} {fa : List He.Fa} {fn : List He.DefD} {ts : List He.Tab} {tf : List He.Defn} {ex : PySem.W.Frag → Bool} {w : World} {h : Heap} (e : obsLT as0 fa fn ts tf ex h.get? = He.valX fn ts w) : He.SaysX fa fn ts tf ex w h (He.frT h.get? as0) := by
  obtain ⟨e1, e2⟩ := Prod.mk.inj e
  rw [Bool.and_eq_true] at e2
  have ts := List.all_eq_true.mp e2.2
  refine { t := e1, more := e2.1, hd := fun p m => (tabL (ts p m)).1, out := fun p m => ?_, empty := fun p m => ?_ }
  · obtain ⟨_, o, q, z⟩ := tabL (ts p m)
    exact He.frT_none q z
  · obtain ⟨_, o, q, z⟩ := tabL (ts p m)
    rw [q, He.emptyTab_eq z]
def hookLT (as0 : List Addr) (fa : List He.Fa) (fn : List He.DefD) (ts : List He.Tab) (tf : List He.Defn) (ex : PySem.W.Frag → Bool) : PySem.W.Hook :=
  ⟨He.AlX, fun s => obsLT as0 fa fn ts tf ex s.heap.get?, fun w => He.valX fn ts w, fun w h => ∃ K : PySem.W.Frag, K.In h ∧ He.SaysX fa fn ts tf ex w h K,
   fun _ _ e => ⟨_, He.frT_in, saysLT e⟩, fun _ _ _ ⟨K, i, c⟩ k => ⟨K, i.keeps k, c.t, c.more, c.hd, c.out, fun p m => k _ _ (c.empty p m)⟩⟩
/-- from, how many -/
def addrs (a : Nat) : Nat → List Addr
  | 0 => []
  | n + 1 => a :: addrs (a + 1) n
end VL

namespace VL
open PySem L2 PyProof.Rows
def mwords : List Str := ["short", "sum", "product", "quotient", "corrected", "restored", "shifted", "combined", "complemented", "looked"]
def ownB (K : PySem.W.Frag) (C f : Addr) : Bool := match K.lookup C with
  | some ⟨.type t, _, .cls cd, sl⟩ => (match cd.mro, sl.toList with
    | [.ref C', .type b], [_, _, _, _, some (.builtin n), _] => decide (t = "type") && (decide (C' = C) && (decide (b = "object") && (!cd.hasDel && (PySem.W.nsOkIn K cd.ns && (He.eqO (PySem.W.nsIn K cd.ns "__ne__") (some none) && (He.eqO (PySem.W.nsIn K cd.ns "__eq__") (some (some (.ref f))) &&
        (match K.lookup f with
          | some ⟨.type u, _, _, _⟩ => decide (u = "function")
          | _ => false)))))))
    | _, _ => false)
  | _ => false
abbrev aeBase : List Value := [.type "ArithmeticError", .type "Exception", .type "BaseException", .type "object"]
def excB (K : PySem.W.Frag) (C : Addr) : Bool := PySem.W.excIn K C aeBase "ArithmeticError.__new__" && (PySem.W.keepIn K (.ref C) && (decide (PySem.W.subIn K (.ref C) (.type "BaseException") = some true) && (decide (PySem.W.typeIn K (.ref C) = some (.type "type")) && decide (PySem.W.exmOne K (.ref C) (.ref C) = some true))))
def tupA (K : PySem.W.Frag) (a : Addr) : Option (List Value) := match K.lookup a with
  | some ⟨.type c, _, .seq its _, _⟩ => if (decide (c = "tuple") && decide (its.size ≤ sizeLine)) = true then some its.toList else none
  | _ => none
def pairB (K : PySem.W.Frag) (v : Value) (x : Int × List Int) : Bool := match v with
  | .ref a => match tupA K a with
    | some [u, .ref b] => He.relB (.int x.1) u && (match tupA K b with
      | some zs => He.relAll (x.2.map V.int) zs
      | none => false)
    | _ => false
  | _ => false
def pairsB (K : PySem.W.Frag) : List Value → List (Int × List Int) → Bool
  | [], [] => true
  | v :: vs, x :: xs => pairB K v x && pairsB K vs xs
  | _, _ => false
def fewB (K : PySem.W.Frag) (x : Str) (l : List (Int × List Int)) : Bool := match tupA K (He.ga K x) with
  | some vs => pairsB K vs l
  | none => false
def isVal (o : Option PySem.W.CFound) (v : Value) : Bool := match o with | some (.val a) => decide (a = v) | _ => false
def ixB (K : PySem.W.Frag) (C B0 fI : Addr) (f : Str) : Bool :=
  PySem.W.excInitIn K C aeBase "ArithmeticError.__new__" && (PySem.W.excOver K C aeBase && (PySem.W.hasDictIn K C && (decide (PySem.W.takerIn K C f = some none) && (decide (PySem.W.findIn K (.ref C) "__init__" = some (some (.ref fI))) &&
  (decide (PySem.W.typeIn K (.ref fI) = some (.type "function")) && (decide (PySem.W.findIn K (.ref C) "__setattr__" = some (some (.builtin "object.__setattr__"))) && (decide (PySem.W.subIn K (.ref C) (.type "BaseException") = some true) &&
  (decide (PySem.W.typeIn K (.ref C) = some (.type "type")) && (PySem.W.keepIn K (.ref C) && (xfB K C && (decide (PySem.W.findIn K (.ref C) f = some none) && (decide (PySem.W.specialIn K (.ref B0) "__getattribute__" = some (some (.builtin "type.__getattribute__"))) &&
  (PySem.W.readsIn K B0 (.type "type") && (isVal (PySem.W.findCls K (.ref B0) (.type "type") "__init__") (.builtin "ArithmeticError.__init__") && PySem.W.keepIn K (.ref B0)))))))))))))))
def isV (o : Option (Option Value)) (v : Value) : Bool := match o with | some (some a) => decide (a = v) | _ => false
def isN (o : Option (Option Value)) : Bool := match o with | some none => true | _ => false
def exIB (K : PySem.W.Frag) (D : Addr) : Bool :=
  (PySem.W.clsIn K D).isSome && (isV (PySem.W.findIn K (.ref D) "__getattribute__") (.builtin "BaseException.__getattribute__") && (isN (PySem.W.findIn K (.ref D) "__getattr__") && (decide (PySem.W.subIn K (.ref D) (.type "BaseException") = some true) &&
    (isV (PySem.W.findIn K (.ref D) "__class__") (.builtin "object.__class__") && (isV (PySem.W.specialIn K (.builtin "object.__class__") "__get__") (.builtin "getset_descriptor.__get__") && (decide (PySem.W.takesIn K (.builtin "object.__class__") = some true) && decide (PySem.W.mroIn K D (.type "object") = some true)))))))
def entB : List DictEntry → List (Int × Int) → Bool
  | [], [] => true
  | e :: r, p :: q => (match e.key with | .int a _ => decide (a = p.1) | _ => false) && ((match e.val with | .int a _ => decide (a = p.2) | _ => false) && (decide (e.hash = hashInt p.1) && entB r q))
  | _, _ => false
def idcB (K : PySem.W.Frag) (d : Addr) (kvs : List (Int × Int)) : Bool := (!(d == sysModules)) && match K.lookup d with
  | some ⟨.type c, none, .dict es _, sl⟩ => decide (c = "dict") && (sl.isEmpty && entB es.toList kvs)
  | _ => false
def intsB (K : PySem.W.Frag) (x : Str) (l : List Int) : Bool := match tupA K (He.ga K x) with
  | some vs => He.relAll (l.map V.int) vs
  | none => false
def sentB : List DictEntry → List (Str × Int) → Bool
  | [], [] => true
  | e :: r, p :: q => (match e.key with | .str a _ => decide (a = p.1) | _ => false) && ((match e.val with | .int a _ => decide (a = p.2) | _ => false) && sentB r q)
  | _, _ => false
def sdcB (K : PySem.W.Frag) (d : Addr) (kvs : List (Str × Int)) : Bool := match K.lookup d with
  | some ⟨.type c, none, .dict es _, sl⟩ => sentB es.toList kvs
  | _ => false
def keysB (es : Array DictEntry) : Bool := es.toList.all fun e => match e.key with | .str _ _ => true | _ => false
def spaceB (K : PySem.W.Frag) (a : Addr) (xs : List Str) : Bool := match K.lookup a with
  | some o => (match o.data with
    | .dict es _ => keysB es && xs.all fun x => (nsFind es x).isNone
    | _ => false)
  | none => false
def modB (K : PySem.W.Frag) : Bool := match PySem.W.nsIn K mainGlobals "__builtins__" with
  | some (some (.ref bm)) => (match K.lookup bm with
    | some o => (match o.cls, o.dict with
      | .type n, some d => decide (n = "module") && decide (d = builtinsNs)
      | _, _ => false)
    | none => false)
  | _ => false
def seerB (K : PySem.W.Frag) : Bool := spaceB K cStatics ["sys.audit-hooks", "sys.dict"] && (spaceB K sysModules ["_pylong"] && modB K)
end VL
namespace P
open PySem L2 VL
def topS (i : Nat) : Stmt := PySem.Challenge.pw_thirtybits_k21_sizes_beside_the_cutoff.main.body.getD i (.Pass ⟨0, 0, 0, 0⟩)
abbrev s_is_integer : Stmt := topS 6
abbrev s_is_between : Stmt := topS 7
abbrev s_Mach_step : Stmt := inClass (topS 11) 6
abbrev s_Mach_enter : Stmt := inClass (topS 11) 7
abbrev s_Mach_reset : Stmt := inClass (topS 11) 5
abbrev s_Mach_tally : Stmt := inClass (topS 11) 3
abbrev s_Mach_walk : Stmt := inClass (topS 11) 4
abbrev s_Mach_parts : Stmt := inClass (topS 11) 2
abbrev s_Mach_init : Stmt := inClass (topS 11) 0
abbrev s_Big_eq : Stmt := inClass (topS 20) 1
abbrev s_Big_digits : Stmt := inClass (topS 20) 3
abbrev s_Big_sign : Stmt := inClass (topS 20) 2
abbrev s_Big_bits : Stmt := inClass (topS 20) 4
abbrev s_order_of : Stmt := topS 27
abbrev s_Big_init : Stmt := inClass (topS 20) 0
abbrev s_check_machine : Stmt := topS 12
abbrev s_top_digit : Stmt := topS 15
abbrev s_size_of : Stmt := topS 16
abbrev s_low_part : Stmt := topS 18
abbrev s_row_of : Stmt := topS 17
abbrev s_check_big : Stmt := topS 21
abbrev s_check_fit : Stmt := topS 24
abbrev s_check_one : Stmt := topS 22
abbrev s_check_two : Stmt := topS 23
abbrev s_big_of : Stmt := topS 25
abbrev s_are_compact : Stmt := topS 26
abbrev s_big : Stmt := topS 28
abbrev s_plain : Stmt := topS 29
abbrev s_product_by_rows : Stmt := topS 31
abbrev s_square_of_row : Stmt := topS 32
abbrev s_added : Stmt := topS 34
abbrev s_joined_room : Stmt := topS 35
abbrev s_parts_of : Stmt := topS 46
abbrev s_room_above : Stmt := topS 47
abbrev s_whole_room : Stmt := topS 48
abbrev s_multiplied : Stmt := topS 41
abbrev s_lopsided_product : Stmt := topS 43
abbrev s_karatsuba_product : Stmt := topS 44
abbrev s_product_of : Stmt := topS 39
abbrev s_multiply : Stmt := topS 37
abbrev s_squared : Stmt := topS 42
abbrev s_karatsuba_square : Stmt := topS 45
abbrev s_square_of : Stmt := topS 40
abbrev s_square : Stmt := topS 38
abbrev s__law_purse : Stmt := topS 50
abbrev s__law_coin : Stmt := topS 51
abbrev s__law_pick : Stmt := topS 52
abbrev s__law_row : Stmt := topS 53
abbrev s__law_worth : Stmt := topS 54
abbrev s__law_digits : Stmt := topS 55
abbrev s__law_is : Stmt := topS 56
abbrev s__law_counted : Stmt := topS 57
abbrev s__law_size : Stmt := topS 58
abbrev s__law_note : Stmt := topS 59
abbrev s__law_count : Stmt := topS 60
abbrev s__law_into : Stmt := topS 61
abbrev s__law_sum : Stmt := topS 62
abbrev s__law_square : Stmt := topS 64
abbrev s__law_halves__o1 : Stmt := topS 66
abbrev s__law_product : Stmt := topS 63
abbrev s__law_slices : Stmt := topS 65
abbrev s__law_halves : Stmt := topS 66
abbrev s__law_world : Stmt := topS 67
abbrev s__law_due : Stmt := topS 68
abbrev s__law_due__o1 : Stmt := topS 68
abbrev s__law_right : Stmt := topS 69
abbrev s__law_shaped : Stmt := topS 70
abbrev s__law_right__o1 : Stmt := topS 69
abbrev s_law : Stmt := topS 71
def iclsB (K : PySem.W.Frag) (C : Addr) : Bool := He.eqO (PySem.W.findIn K (.ref C) "__class__") (some (some (.builtin "object.__class__"))) && (He.eqO (PySem.W.specialIn K (.builtin "object.__class__") "__get__") (some (some (.builtin "getset_descriptor.__get__"))) &&
  (decide (PySem.W.takesIn K (.builtin "object.__class__") = some true) && (decide (PySem.W.mroIn K C (.type "object") = some true) && decide (PySem.W.kitOne K (.ref C) (.ref C) = some true))))
def d_is_integer : He.DefD := ⟨("is_integer", none), "is_integer", "is_integer", defArgs s_is_integer, defBody s_is_integer, defScope s_is_integer, [], []⟩
def d_is_between : He.DefD := ⟨("is_between", none), "is_between", "is_between", defArgs s_is_between, defBody s_is_between, defScope s_is_between, [], []⟩
def d_order_of : He.DefD := ⟨("order_of", none), "order_of", "order_of", defArgs s_order_of, defBody s_order_of, defScope s_order_of, [], []⟩
def d_check_machine : He.DefD := ⟨("check_machine", none), "check_machine", "check_machine", defArgs s_check_machine, defBody s_check_machine, defScope s_check_machine, [], []⟩
def d_top_digit : He.DefD := ⟨("top_digit", none), "top_digit", "top_digit", defArgs s_top_digit, defBody s_top_digit, defScope s_top_digit, [], []⟩
def d_size_of : He.DefD := ⟨("size_of", none), "size_of", "size_of", defArgs s_size_of, defBody s_size_of, defScope s_size_of, [], []⟩
def d_low_part : He.DefD := ⟨("low_part", none), "low_part", "low_part", defArgs s_low_part, defBody s_low_part, defScope s_low_part, [], []⟩
def d_row_of : He.DefD := ⟨("row_of", none), "row_of", "row_of", defArgs s_row_of, defBody s_row_of, defScope s_row_of, [], []⟩
def d_check_big : He.DefD := ⟨("check_big", none), "check_big", "check_big", defArgs s_check_big, defBody s_check_big, defScope s_check_big, [], []⟩
def d_check_fit : He.DefD := ⟨("check_fit", none), "check_fit", "check_fit", defArgs s_check_fit, defBody s_check_fit, defScope s_check_fit, [], []⟩
def d_check_one : He.DefD := ⟨("check_one", none), "check_one", "check_one", defArgs s_check_one, defBody s_check_one, defScope s_check_one, [], []⟩
def d_check_two : He.DefD := ⟨("check_two", none), "check_two", "check_two", defArgs s_check_two, defBody s_check_two, defScope s_check_two, [], []⟩
def d_big_of : He.DefD := ⟨("big_of", none), "big_of", "big_of", defArgs s_big_of, defBody s_big_of, defScope s_big_of, [], []⟩
def d_are_compact : He.DefD := ⟨("are_compact", none), "are_compact", "are_compact", defArgs s_are_compact, defBody s_are_compact, defScope s_are_compact, [], []⟩
def d_big : He.DefD := ⟨("big", none), "big", "big", defArgs s_big, defBody s_big, defScope s_big, [], []⟩
def d_plain : He.DefD := ⟨("plain", none), "plain", "plain", defArgs s_plain, defBody s_plain, defScope s_plain, [], []⟩
def d_product_by_rows : He.DefD := ⟨("product_by_rows", none), "product_by_rows", "product_by_rows", defArgs s_product_by_rows, defBody s_product_by_rows, defScope s_product_by_rows, [], []⟩
def d_square_of_row : He.DefD := ⟨("square_of_row", none), "square_of_row", "square_of_row", defArgs s_square_of_row, defBody s_square_of_row, defScope s_square_of_row, [], []⟩
def d_added : He.DefD := ⟨("added", none), "added", "added", defArgs s_added, defBody s_added, defScope s_added, [], []⟩
def d_joined_room : He.DefD := ⟨("joined_room", none), "joined_room", "joined_room", defArgs s_joined_room, defBody s_joined_room, defScope s_joined_room, [], []⟩
def d_parts_of : He.DefD := ⟨("parts_of", none), "parts_of", "parts_of", defArgs s_parts_of, defBody s_parts_of, defScope s_parts_of, [], []⟩
def d_room_above : He.DefD := ⟨("room_above", none), "room_above", "room_above", defArgs s_room_above, defBody s_room_above, defScope s_room_above, [], []⟩
def d_whole_room : He.DefD := ⟨("whole_room", none), "whole_room", "whole_room", defArgs s_whole_room, defBody s_whole_room, defScope s_whole_room, [], []⟩
def d_multiplied : He.DefD := ⟨("multiplied", none), "multiplied", "multiplied", defArgs s_multiplied, defBody s_multiplied, defScope s_multiplied, [], []⟩
def d_lopsided_product : He.DefD := ⟨("lopsided_product", none), "lopsided_product", "lopsided_product", defArgs s_lopsided_product, defBody s_lopsided_product, defScope s_lopsided_product, [], []⟩
def d_karatsuba_product : He.DefD := ⟨("karatsuba_product", none), "karatsuba_product", "karatsuba_product", defArgs s_karatsuba_product, defBody s_karatsuba_product, defScope s_karatsuba_product, [], []⟩
def d_product_of : He.DefD := ⟨("product_of", none), "product_of", "product_of", defArgs s_product_of, defBody s_product_of, defScope s_product_of, [], []⟩
def d_multiply : He.DefD := ⟨("multiply", none), "multiply", "multiply", defArgs s_multiply, defBody s_multiply, defScope s_multiply, [], []⟩
def d_squared : He.DefD := ⟨("squared", none), "squared", "squared", defArgs s_squared, defBody s_squared, defScope s_squared, [], []⟩
def d_karatsuba_square : He.DefD := ⟨("karatsuba_square", none), "karatsuba_square", "karatsuba_square", defArgs s_karatsuba_square, defBody s_karatsuba_square, defScope s_karatsuba_square, [], []⟩
def d_square_of : He.DefD := ⟨("square_of", none), "square_of", "square_of", defArgs s_square_of, defBody s_square_of, defScope s_square_of, [], []⟩
def d_square : He.DefD := ⟨("square", none), "square", "square", defArgs s_square, defBody s_square, defScope s_square, [], []⟩
def d__law_purse : He.DefD := ⟨("_law_purse", none), "_law_purse", "_law_purse", defArgs s__law_purse, defBody s__law_purse, defScope s__law_purse, [], []⟩
def d__law_coin : He.DefD := ⟨("_law_coin", none), "_law_coin", "_law_coin", defArgs s__law_coin, defBody s__law_coin, defScope s__law_coin, [], []⟩
def d__law_pick : He.DefD := ⟨("_law_pick", none), "_law_pick", "_law_pick", defArgs s__law_pick, defBody s__law_pick, defScope s__law_pick, [], []⟩
def d__law_row : He.DefD := ⟨("_law_row", none), "_law_row", "_law_row", defArgs s__law_row, defBody s__law_row, defScope s__law_row, [], []⟩
def d__law_worth : He.DefD := ⟨("_law_worth", none), "_law_worth", "_law_worth", defArgs s__law_worth, defBody s__law_worth, defScope s__law_worth, [], []⟩
def d__law_digits : He.DefD := ⟨("_law_digits", none), "_law_digits", "_law_digits", defArgs s__law_digits, defBody s__law_digits, defScope s__law_digits, [], []⟩
def d__law_is : He.DefD := ⟨("_law_is", none), "_law_is", "_law_is", defArgs s__law_is, defBody s__law_is, defScope s__law_is, [], []⟩
def d__law_counted : He.DefD := ⟨("_law_counted", none), "_law_counted", "_law_counted", defArgs s__law_counted, defBody s__law_counted, defScope s__law_counted, [], []⟩
def d__law_size : He.DefD := ⟨("_law_size", none), "_law_size", "_law_size", defArgs s__law_size, defBody s__law_size, defScope s__law_size, [], []⟩
def d__law_note : He.DefD := ⟨("_law_note", none), "_law_note", "_law_note", defArgs s__law_note, defBody s__law_note, defScope s__law_note, [], []⟩
def d__law_count : He.DefD := ⟨("_law_count", none), "_law_count", "_law_count", defArgs s__law_count, defBody s__law_count, defScope s__law_count, [], []⟩
def d__law_into : He.DefD := ⟨("_law_into", none), "_law_into", "_law_into", defArgs s__law_into, defBody s__law_into, defScope s__law_into, [], []⟩
def d__law_sum : He.DefD := ⟨("_law_sum", none), "_law_sum", "_law_sum", defArgs s__law_sum, defBody s__law_sum, defScope s__law_sum, [], []⟩
def d__law_square : He.DefD := ⟨("_law_square", none), "_law_square", "_law_square", defArgs s__law_square, defBody s__law_square, defScope s__law_square, [], []⟩
def d__law_halves__o1 : He.DefD := ⟨("_law_halves", none), "_law_halves", "_law_halves", defArgs s__law_halves__o1, defBody s__law_halves__o1, defScope s__law_halves__o1, [], []⟩
def d__law_product : He.DefD := ⟨("_law_product", none), "_law_product", "_law_product", defArgs s__law_product, defBody s__law_product, defScope s__law_product, [], []⟩
def d__law_slices : He.DefD := ⟨("_law_slices", none), "_law_slices", "_law_slices", defArgs s__law_slices, defBody s__law_slices, defScope s__law_slices, [], []⟩
def d__law_halves : He.DefD := ⟨("_law_halves", none), "_law_halves", "_law_halves", defArgs s__law_halves, defBody s__law_halves, defScope s__law_halves, [], []⟩
def d__law_world : He.DefD := ⟨("_law_world", none), "_law_world", "_law_world", defArgs s__law_world, defBody s__law_world, defScope s__law_world, [], []⟩
def d__law_due : He.DefD := ⟨("_law_due", none), "_law_due", "_law_due", defArgs s__law_due, defBody s__law_due, defScope s__law_due, [], []⟩
def d__law_due__o1 : He.DefD := ⟨("_law_due", none), "_law_due", "_law_due", defArgs s__law_due__o1, defBody s__law_due__o1, defScope s__law_due__o1, [], []⟩
def d__law_right : He.DefD := ⟨("_law_right", none), "_law_right", "_law_right", defArgs s__law_right, defBody s__law_right, defScope s__law_right, [], []⟩
def d__law_shaped : He.DefD := ⟨("_law_shaped", none), "_law_shaped", "_law_shaped", defArgs s__law_shaped, defBody s__law_shaped, defScope s__law_shaped, [], []⟩
def d__law_right__o1 : He.DefD := ⟨("_law_right", none), "_law_right", "_law_right", defArgs s__law_right__o1, defBody s__law_right__o1, defScope s__law_right__o1, [], []⟩
def d_law : He.DefD := ⟨("law", none), "law", "law", defArgs s_law, defBody s_law, defScope s_law, [], []⟩
def d_Mach_step : He.DefD := ⟨("Machine", some "step"), "step", "Machine.step", defArgs s_Mach_step, defBody s_Mach_step, defScope s_Mach_step, [], []⟩
def d_Mach_enter : He.DefD := ⟨("Machine", some "enter"), "enter", "Machine.enter", defArgs s_Mach_enter, defBody s_Mach_enter, defScope s_Mach_enter, [], []⟩
def d_Mach_reset : He.DefD := ⟨("Machine", some "reset"), "reset", "Machine.reset", defArgs s_Mach_reset, defBody s_Mach_reset, defScope s_Mach_reset, [], []⟩
def d_Mach_tally : He.DefD := ⟨("Machine", some "tally"), "tally", "Machine.tally", defArgs s_Mach_tally, defBody s_Mach_tally, defScope s_Mach_tally, [], []⟩
def d_Mach_walk : He.DefD := ⟨("Machine", some "walk"), "walk", "Machine.walk", defArgs s_Mach_walk, defBody s_Mach_walk, defScope s_Mach_walk, [], []⟩
def d_Mach_parts : He.DefD := ⟨("Machine", some "parts"), "parts", "Machine.parts", defArgs s_Mach_parts, defBody s_Mach_parts, defScope s_Mach_parts, [], []⟩
def d_Mach_init : He.DefD := ⟨("Machine", some "__init__"), "__init__", "Machine.__init__", defArgs s_Mach_init, defBody s_Mach_init, defScope s_Mach_init, [.int 30, .int 70], []⟩
def d_Big_init : He.DefD := ⟨("Big", some "__init__"), "__init__", "Big.__init__", defArgs s_Big_init, defBody s_Big_init, defScope s_Big_init, [], []⟩
def d_Big_eq : He.DefD := ⟨("Big", some "__eq__"), "__eq__", "Big.__eq__", defArgs s_Big_eq, defBody s_Big_eq, defScope s_Big_eq, [], []⟩
def d_Big_digits : He.DefD := ⟨("Big", some "digits"), "digits", "Big.digits", defArgs s_Big_digits, defBody s_Big_digits, defScope s_Big_digits, [], []⟩
def d_Big_sign : He.DefD := ⟨("Big", some "sign"), "sign", "Big.sign", defArgs s_Big_sign, defBody s_Big_sign, defScope s_Big_sign, [], []⟩
def d_Big_bits : He.DefD := ⟨("Big", some "bits"), "bits", "Big.bits", defArgs s_Big_bits, defBody s_Big_bits, defScope s_Big_bits, [], []⟩
def fa0 : List He.Fa := [.cls "Machine", .noat "Machine" "width", .noat "Machine" "cutoff", .noat "Machine" "counts", .noat "Machine" "entered", .cls "Big", .noat "Big" "width", .noat "Big" "side", .noat "Big" "row", .noat "Big" "value", .free "isinstance", .free "int", .free "bool", .glo "is_integer", .glo "is_between", .meth "Machine" "step", .free "len", .int "LONGEST_WALK" 1000, .meth "Machine" "enter", .glo "WORDS", .meth "Machine" "reset", .meth "Machine" "tally", .free "list", .meth "Machine" "walk", .meth "Machine" "parts", .glo "Machine", .mkr "Machine", .glo "Big", .meth "Big" "__eq__", .meth "Big" "digits"]
def fa1 : List He.Fa := [.meth "Big" "sign", .meth "Big" "bits", .glo "order_of", .free "tuple", .mkr "Big", .glo "check_machine", .glo "top_digit", .glo "size_of", .glo "low_part", .glo "row_of", .int "LONGEST_LOOP" 32, .free "range", .glo "check_big", .glo "check_fit", .glo "check_one", .glo "check_two", .free "abs", .glo "big_of", .glo "are_compact", .glo "big", .glo "plain", .glo "product_by_rows", .glo "square_of_row", .free "max", .glo "added", .glo "joined_room", .glo "parts_of", .glo "room_above", .glo "whole_room", .glo "multiplied"]
def fa2 : List He.Fa := [.glo "lopsided_product", .glo "karatsuba_product", .free "min", .glo "product_of", .glo "multiply", .glo "squared", .glo "karatsuba_square", .glo "square_of", .glo "square", .glo "_law_purse", .glo "_law_coin", .glo "_law_pick", .glo "_law_row", .glo "_law_worth", .glo "_law_digits", .glo "_law_is", .free "dict", .glo "_law_counted", .glo "_law_size", .glo "_law_note", .glo "_law_count", .glo "_law_into", .glo "_law_sum", .glo "_law_square", .glo "_law_halves", .glo "_law_product", .glo "_law_slices", .glo "_law_world", .glo "_law_due", .glo "_law_right"]
def fa3 : List He.Fa := [.glo "_law_shaped", .glo "law"]
def fa : List He.Fa := fa0 ++ fa1 ++ fa2 ++ fa3
def fn : List He.DefD := [d_is_integer, d_is_between, d_order_of, d_check_machine, d_top_digit, d_size_of, d_low_part, d_row_of, d_check_big, d_check_fit, d_check_one, d_check_two, d_big_of, d_are_compact, d_big, d_plain, d_product_by_rows, d_square_of_row, d_added, d_joined_room, d_parts_of, d_room_above, d_whole_room, d_multiplied, d_lopsided_product, d_karatsuba_product, d_product_of, d_multiply, d_squared, d_karatsuba_square, d_square_of, d_square, d__law_purse, d__law_coin, d__law_pick, d__law_row, d__law_worth, d__law_digits, d__law_is, d__law_counted, d__law_size, d__law_note, d__law_count, d__law_into, d__law_sum, d__law_square, d__law_halves__o1, d__law_product, d__law_slices, d__law_halves, d__law_world, d__law_due, d__law_due__o1, d__law_right, d__law_shaped, d__law_right__o1, d_law, d_Mach_step, d_Mach_enter, d_Mach_reset, d_Mach_tally, d_Mach_walk, d_Mach_parts, d_Mach_init, d_Big_init, d_Big_eq, d_Big_digits, d_Big_sign, d_Big_bits]
def exB (K : PySem.W.Frag) : Bool := He.tupB K "WORDS" (mwords.map He.Dv.str) && (iclsB K (He.ga K "Machine") && (iclsB K (He.ga K "Big") && ownB K (He.ga K "Big") (He.ma K (He.ga K "Big") "__eq__"))) && seerB K
def loose0 : List Str := ["BitsError", "InvalidMachine", "InvalidBound", "shown", "is_integer", "is_between", "WORDS", "LONGEST_WALK", "Machine", "check_machine", "LONGEST_LOOP", "top_digit", "size_of", "row_of", "low_part", "Big", "check_big", "check_one", "check_two", "check_fit", "big_of", "are_compact", "order_of", "big", "plain", "product_by_rows", "square_of_row", "added", "joined_room", "multiply"]
def loose1 : List Str := ["square", "product_of", "square_of", "multiplied", "squared", "lopsided_product", "karatsuba_product", "karatsuba_square", "parts_of", "room_above", "whole_room", "_law_purse", "_law_coin", "_law_pick", "_law_row", "_law_worth", "_law_digits", "_law_is", "_law_counted", "_law_size", "_law_note", "_law_count", "_law_into", "_law_sum", "_law_product", "_law_square", "_law_slices", "_law_halves", "_law_world", "_law_due"]
def loose2 : List Str := ["_law_right", "_law_shaped"]
def loose : List Str := loose0 ++ loose1 ++ loose2
abbrev R : PySem.W.OpenRow := PySem.W.OpenLaw.row PySem.Challenge.rw_thirtybits_k21_sizes_beside_the_cutoff
abbrev hk : PySem.W.Hook := hookL (addrs 0 1200) fa fn [] exB
def ob (s : PySem.W.SharedT) : He.AlX := obsL (addrs 0 1200) fa fn [] exB (HandSHeadRun.getT s)
theorem ob_eq (s : PySem.W.SharedT) : ob s = hk.obs s.abs := obsL_eq (HandSHeadRun.getT_eq s)
theorem run (w : World) : HandSHeadRun.RunEq R (PySem.W.view R.prog [71]) hk ob 12000 loose w := by
  intro os
  kernel_rfl
end P
set_option maxHeartbeats 200000
set_option Elab.async false
set_option linter.all false
set_option maxRecDepth 100000
/-! What a body does, by values: Holds (the frozen part, the changing things, by place), Env (the slots), XG, XE, XT, XA, XS. -/
namespace VL
open PySem L2

/-! ### the frozen part and the changing things -/
structure VA where
  P : Hp → V → Prop
  mono : ∀ {F F' : Hp} {v : V}, Same F F' → P F v → P F' v
structure OA where
  P : Hp → Hp → Prop
  mono : ∀ {F F' t : Hp}, Same F F' → P F t → P F' t

def Holds (F : Hp) (Ω : List OA) (H : Hp) : Prop :=
  ∃ ts : Nat → Hp, (∀ (i : Nat) (o : OA), Ω[i]? = some o → o.P F (ts i)) ∧ Same F H ∧ (∀ i : Nat, i < Ω.length → Same (ts i) H) ∧
    (∀ (i : Nat) (b : Addr) (o : HO), i < Ω.length → ts i b = some o → F b = none) ∧
    ∀ (i j : Nat) (b : Addr) (o : HO), i < Ω.length → j < Ω.length → i ≠ j → ts i b = some o → ts j b = none

theorem getlt {α : Type} {l : List α} {i : Nat} {a : α} (h : l[i]? = some a) : i < l.length := (List.getElem?_eq_some_iff.mp h).1
theorem nn {F : Hp} {b : Addr} {o : HO} (h : F b = some o) (h' : F b = none) : False := by rw [h] at h'; cases h'
theorem same_upd {H : Hp} {p : Addr} {o : HO} (h : H p = none) : Same H (upd H p o) := fun b x e => by
  rw [upd_ne (ne_of_none e h)]; exact e

section
variable {F F' H H' : Hp} {Ω : List OA} {o o' : OA} {i j : Nat} {a p : Addr} {u u' : HO}
theorem Holds.same (h : Holds F Ω H) : Same F H := let ⟨_, _, q, _⟩ := h; q
theorem Holds.nil (h : Same F H) : Holds F [] H := ⟨fun _ _ => none, fun i o q => by simp at q, h, fun i q => absurd q (Nat.not_lt_zero _), fun i _ _ q => absurd q (Nat.not_lt_zero _), fun i _ _ _ q => absurd q (Nat.not_lt_zero _)⟩
/-- a new frozen object -/
theorem Holds.newF (h : Holds F Ω H) (n : H p = none) : Holds (upd F p u) Ω (upd H p u) ∧ Same F (upd F p u) := by
  obtain ⟨ts, h1, h2, h3, h4, h5⟩ := h
  have nF : F p = none := h2.free n
  have sF : Same F (upd F p u) := same_upd nF
  have nt : ∀ i, i < Ω.length → ts i p = none := fun i q => (h3 i q).free n
  refine ⟨⟨ts, fun i o q => o.mono sF (h1 i o q), fun b x e => ?_, fun i q => (h3 i q).trans (same_upd n), fun i b x q e => ?_, h5⟩, sF⟩
  · by_cases hb : b = p
    · subst hb; rw [upd_same] at e ⊢; exact e
    · rw [upd_ne hb] at e ⊢; exact h2 b x e
  · have hb : b ≠ p := fun z => by subst z; exact nn e (nt i q)
    rw [upd_ne hb]; exact h4 i b x q e
theorem app_at {α : Type} {l : List α} {a : α} : (l ++ [a])[l.length]? = some a := by simp
theorem app_lt {α : Type} {l : List α} {a b : α} {i : Nat} (h : l[i]? = some b) : (l ++ [a])[i]? = some b := by
  rw [List.getElem?_append_left (getlt h)]; exact h
/-- a new changing thing, behind the others -/
theorem Holds.newO {t : Hp} (h : Holds F Ω H) (n : ∀ b x, t b = some x → H b = none) (e : Same H H') (et : Same t H') (ok : o.P F t) : Holds F (Ω ++ [o]) H' := by
  obtain ⟨ts, h1, h2, h3, h4, h5⟩ := h
  have len : (Ω ++ [o]).length = Ω.length + 1 := by simp
  refine ⟨fun k => if k = Ω.length then t else ts k, fun i x q => ?_, h2.trans e, fun i q => ?_, fun i b x q r => ?_, fun i j b x qi qj ne r => ?_⟩
  · show x.P F (if i = Ω.length then t else ts i)
    by_cases hi : i = Ω.length
    · subst hi; rw [app_at] at q; cases q; rw [if_pos rfl]; exact ok
    · rw [if_neg hi]
      have lt : i < Ω.length := by have := getlt q; omega
      rw [List.getElem?_append_left lt] at q
      exact h1 i x q
  · show Same (if i = Ω.length then t else ts i) H'
    by_cases hi : i = Ω.length
    · rw [if_pos hi]; exact et
    · rw [if_neg hi]; exact (h3 i (by omega)).trans e
  · have r : (if i = Ω.length then t else ts i) b = some x := r
    by_cases hi : i = Ω.length
    · rw [if_pos hi] at r; exact h2.free (n b x r)
    · rw [if_neg hi] at r; exact h4 i b x (by omega) r
  · have r : (if i = Ω.length then t else ts i) b = some x := r
    show (if j = Ω.length then t else ts j) b = none
    by_cases hi : i = Ω.length
    · rw [if_pos hi] at r
      rw [if_neg (fun z => ne (hi.trans z.symm))]
      exact (h3 j (by omega)).free (n b x r)
    · rw [if_neg hi] at r
      by_cases hj : j = Ω.length
      · rw [if_pos hj]
        cases q : t b with
        | none => rfl
        | some y => exact (nn (h3 i (by omega) b x r) (n b y q)).elim
      · rw [if_neg hj]; exact h5 i j b x (by omega) (by omega) ne r
theorem sng_some {b : Addr} {x : HO} (e : upd (fun _ => none) p u b = some x) : b = p := by
  by_cases h : b = p
  · exact h
  · rw [upd_ne h] at e; cases e
theorem Holds.newL (h : Holds F Ω H) (n : H p = none) (ok : o.P F (upd (fun _ => none) p u)) : Holds F (Ω ++ [o]) (upd H p u) :=
  h.newO (t := upd (fun _ => none) p u) (fun b x e => by rw [sng_some e]; exact n) (same_upd n) (fun b x e => by
    have hb := sng_some e
    subst hb; rw [upd_same] at e ⊢; exact e) ok
/-- the thing at i: its part of the heap; it may be changed there -/
theorem Holds.get (h : Holds F Ω H) (q : Ω[i]? = some o) : ∃ t, o.P F t ∧ Same t H ∧ (∀ b x, t b = some x → F b = none) ∧
    ∀ (o' : OA) (a : Addr) (u u' : HO), t a = some u → o'.P F (upd t a u') → Holds F (Ω.set i o') (upd H a u') := by
  obtain ⟨ts, h1, h2, h3, h4, h5⟩ := h
  have lt := getlt q
  refine ⟨ts i, h1 i o q, h3 i lt, fun b x e => h4 i b x lt e, fun o' a u u' ha ok => ?_⟩
  have nF : F a = none := h4 i a u lt ha
  have tj : ∀ j, j < Ω.length → j ≠ i → ts j a = none := fun j lj ne => h5 i j a u lt lj (fun z => ne z.symm) ha
  refine ⟨fun k => if k = i then upd (ts i) a u' else ts k, fun k x r => ?_, fun b x e => ?_, fun k lk b x e => ?_, fun k b x lk e => ?_, fun k m b x lk lm ne e => ?_⟩
  · show x.P F (if k = i then _ else ts k)
    by_cases hk : k = i
    · subst hk
      rw [List.getElem?_set_self lt] at r; cases r; rw [if_pos rfl]; exact ok
    · rw [if_neg hk]
      rw [List.getElem?_set_ne (fun z => hk z.symm)] at r
      exact h1 k x r
  · rw [upd_ne (ne_of_none e nF)]; exact h2 b x e
  · rw [List.length_set] at lk
    have e : (if k = i then upd (ts i) a u' else ts k) b = some x := e
    by_cases hk : k = i
    · rw [if_pos hk] at e
      by_cases hb : b = a
      · subst hb; rw [upd_same] at e ⊢; exact e
      · rw [upd_ne hb] at e ⊢; exact h3 i lt b x e
    · rw [if_neg hk] at e
      rw [upd_ne (ne_of_none e (tj k lk hk))]; exact h3 k lk b x e
  · rw [List.length_set] at lk
    have e : (if k = i then upd (ts i) a u' else ts k) b = some x := e
    by_cases hk : k = i
    · rw [if_pos hk] at e
      by_cases hb : b = a
      · subst hb; exact nF
      · rw [upd_ne hb] at e; exact h4 i b x lt e
    · rw [if_neg hk] at e; exact h4 k b x lk e
  · rw [List.length_set] at lk lm
    have e : (if k = i then upd (ts i) a u' else ts k) b = some x := e
    show (if m = i then upd (ts i) a u' else ts m) b = none
    by_cases hk : k = i
    · rw [if_pos hk] at e
      have hm : m ≠ i := fun z => ne (hk.trans z.symm)
      rw [if_neg hm]
      by_cases hb : b = a
      · subst hb; exact tj m lm hm
      · rw [upd_ne hb] at e; exact h5 i m b x lt lm (fun z => hm z.symm) e
    · rw [if_neg hk] at e
      by_cases hm : m = i
      · rw [if_pos hm]
        have hb : b ≠ a := ne_of_none e (tj k lk hk)
        rw [upd_ne hb]; exact h5 k i b x lk lt hk e
      · rw [if_neg hm]; exact h5 k m b x lk lm ne e
/-- the last thing is left -/
theorem Holds.drop (h : Holds F (Ω ++ [o]) H) : Holds F Ω H := by
  obtain ⟨ts, h1, h2, h3, h4, h5⟩ := h
  have len : (Ω ++ [o]).length = Ω.length + 1 := by simp
  exact ⟨ts, fun i x q => h1 i x (app_lt q), h2, fun i q => h3 i (by omega), fun i b x q => h4 i b x (by omega), fun i j b x qi qj => h5 i j b x (by omega) (by omega)⟩
/-- two maps with nothing in common -/
def cup (F t : Hp) : Hp := fun b => match F b with | some o => some o | none => t b
theorem cup_l {F t : Hp} : Same F (cup F t) := fun b x e => by show (match F b with | some o => some o | none => t b) = _; rw [e]
theorem cup_r {F t : Hp} (d : ∀ b x, t b = some x → F b = none) : Same t (cup F t) := fun b x e => by show (match F b with | some o => some o | none => t b) = _; rw [d b x e]; exact e
theorem cup_or {F t : Hp} {b : Addr} {x : HO} (e : cup F t b = some x) : F b = some x ∨ t b = some x := by
  have e : (match F b with | some o => some o | none => t b) = some x := e
  cases h : F b with
  | none => rw [h] at e; exact .inr e
  | some y => rw [h] at e; exact .inl e
/-- the last thing becomes frozen -/
theorem Holds.freeze (h : Holds F (Ω ++ [o]) H) : ∃ F' t, Same F F' ∧ Same t F' ∧ o.P F t ∧ Holds F' Ω H := by
  obtain ⟨ts, h1, h2, h3, h4, h5⟩ := h
  have len : (Ω ++ [o]).length = Ω.length + 1 := by simp
  have d : ∀ b x, ts Ω.length b = some x → F b = none := fun b x e => h4 Ω.length b x (by omega) e
  refine ⟨cup F (ts Ω.length), ts Ω.length, cup_l, cup_r d, h1 _ _ app_at, ts, fun i x q => x.mono cup_l (h1 i x (app_lt q)), fun b x e => ?_, fun i q => h3 i (by omega), fun i b x q e => ?_, fun i j b x qi qj => h5 i j b x (by omega) (by omega)⟩
  · rcases cup_or e with e | e
    · exact h2 b x e
    · exact h3 Ω.length (by omega) b x e
  · cases z : cup F (ts Ω.length) b with
    | none => rfl
    | some y =>
      rcases cup_or z with z | z
      · exact (nn z (h4 i b x (by omega) e)).elim
      · exact (nn z (h5 i Ω.length b x (by omega) (by omega) (by omega) e)).elim
/-- the last thing is taken into the thing at i -/
theorem Holds.merge {o2 : OA} (h : Holds F (Ω ++ [o2]) H) (q : Ω[i]? = some o) : ∃ t t2, o.P F t ∧ o2.P F t2 ∧ Same t H ∧ Same t2 H ∧ (∀ b x, t b = some x → t2 b = none) ∧
    (∀ o' : OA, o'.P F (cup t t2) → Holds F (Ω.set i o') H) := by
  obtain ⟨ts, h1, h2, h3, h4, h5⟩ := h
  have len : (Ω ++ [o2]).length = Ω.length + 1 := by simp
  have lt := getlt q
  refine ⟨ts i, ts Ω.length, h1 i o (app_lt q), h1 _ _ app_at, h3 i (by omega), h3 _ (by omega), fun b x e => h5 i Ω.length b x (by omega) (by omega) (by omega) e, fun o' ok => ?_⟩
  refine ⟨fun k => if k = i then cup (ts i) (ts Ω.length) else ts k, fun k x r => ?_, h2, fun k lk b x e => ?_, fun k b x lk e => ?_, fun k m b x lk lm ne e => ?_⟩
  · show x.P F (if k = i then _ else ts k)
    by_cases hk : k = i
    · subst hk
      rw [List.getElem?_set_self lt] at r; cases r; rw [if_pos rfl]; exact ok
    · rw [if_neg hk]
      rw [List.getElem?_set_ne (fun z => hk z.symm)] at r
      exact h1 k x (app_lt r)
  · rw [List.length_set] at lk
    have e : (if k = i then cup (ts i) (ts Ω.length) else ts k) b = some x := e
    by_cases hk : k = i
    · rw [if_pos hk] at e
      rcases cup_or e with e | e
      · exact h3 i (by omega) b x e
      · exact h3 Ω.length (by omega) b x e
    · rw [if_neg hk] at e; exact h3 k (by omega) b x e
  · rw [List.length_set] at lk
    have e : (if k = i then cup (ts i) (ts Ω.length) else ts k) b = some x := e
    by_cases hk : k = i
    · rw [if_pos hk] at e
      rcases cup_or e with e | e
      · exact h4 i b x (by omega) e
      · exact h4 Ω.length b x (by omega) e
    · rw [if_neg hk] at e; exact h4 k b x (by omega) e
  · rw [List.length_set] at lk lm
    have e : (if k = i then cup (ts i) (ts Ω.length) else ts k) b = some x := e
    show (if m = i then cup (ts i) (ts Ω.length) else ts m) b = none
    by_cases hk : k = i
    · rw [if_pos hk] at e
      have hm : m ≠ i := fun z => ne (hk.trans z.symm)
      rw [if_neg hm]
      rcases cup_or e with e | e
      · exact h5 i m b x (by omega) (by omega) (by omega) e
      · exact h5 Ω.length m b x (by omega) (by omega) (by omega) e
    · rw [if_neg hk] at e
      by_cases hm : m = i
      · rw [if_pos hm]
        cases z : cup (ts i) (ts Ω.length) b with
        | none => rfl
        | some y =>
          rcases cup_or z with z | z
          · exact (nn z (h5 k i b x (by omega) (by omega) hk e)).elim
          · exact (nn z (h5 k Ω.length b x (by omega) (by omega) (by omega) e)).elim
      · rw [if_neg hm]; exact h5 k m b x (by omega) (by omega) ne e
end

/-! ### values by what they stand for -/
structure TC where
  K : PySem.W.Frag
  C : Nat → Addr
class Rp (α : Type) where
  rep : TC → Hp → V → α → Prop
  mono : ∀ {T : TC} {F F' : Hp} {v : V} {a : α}, Same F F' → rep T F v a → rep T F' v a
def va (T : TC) {α : Type} [Rp α] (a : α) : VA := ⟨fun F v => Rp.rep T F v a, Rp.mono⟩
def vr (p : Addr) : VA := ⟨fun _ v => v = .ref p, fun _ h => h⟩
def vx (v0 : V) : VA := ⟨fun _ v => v = v0, fun _ h => h⟩
instance : Rp Int := ⟨fun _ _ v n => v = .int n, fun _ h => h⟩
instance : Rp Bool := ⟨fun _ _ v n => v = .bl n, fun _ h => h⟩
instance : Rp Str := ⟨fun _ _ v n => v = .str n, fun _ h => h⟩
instance : Rp Unit := ⟨fun _ _ v _ => v = .non, fun _ h => h⟩
/-- a list that stays, a tuple of one kind, a pair, a triple -/
structure LF (α : Type) where
  l : List α
structure TF (α : Type) where
  l : List α
/-- the script -/
structure SF (α : Type) where
  l : List α
structure T3 (α β γ : Type) where
  a : α
  b : β
  c : γ
def Al {α : Type} [Rp α] (T : TC) (F : Hp) (vs : List V) (l : List α) : Prop := Paired (fun v a => Rp.rep T F v a) vs l
theorem Al.mono {α : Type} [Rp α] {T : TC} {F F' : Hp} (e : Same F F') : ∀ {vs : List V} {l : List α}, Al T F vs l → Al T F' vs l
  | _, _, .nil => .nil
  | _, _, .cons h t => .cons (Rp.mono e h) (Al.mono e t)
theorem Same.tup {K : PySem.W.Frag} {H H' : Hp} {a : Addr} {xs : List V} (e : Same H H') (h : SqT K H a xs) : SqT K H' a xs := by
  rcases h with (h | ⟨o, h⟩) | h
  · exact .inl (.inl (e _ _ h))
  · exact .inl (.inr ⟨o, e _ _ h⟩)
  · exact .inr h
instance {α : Type} [Rp α] : Rp (LF α) := ⟨fun T F v l => ∃ p vs, v = .ref p ∧ F p = some (.lst vs) ∧ Al T F vs l.l, fun e ⟨p, vs, h1, h2, h3⟩ => ⟨p, vs, h1, e _ _ h2, h3.mono e⟩⟩
instance {α : Type} [Rp α] : Rp (SF α) := ⟨fun T F v l => ∃ p vs, v = .ref p ∧ SqL T.K F p vs ∧ Al T F vs l.l, fun e ⟨p, vs, h1, h2, h3⟩ => ⟨p, vs, h1, e.seq h2, h3.mono e⟩⟩
instance {α : Type} [Rp α] : Rp (TF α) := ⟨fun T F v l => ∃ p vs, v = .ref p ∧ SqT T.K F p vs ∧ Al T F vs l.l, fun e ⟨p, vs, h1, h2, h3⟩ => ⟨p, vs, h1, Same.tup e h2, h3.mono e⟩⟩
instance {α β : Type} [Rp α] [Rp β] : Rp (α × β) := ⟨fun T F v l => ∃ p x y, v = .ref p ∧ SqT T.K F p [x, y] ∧ Rp.rep T F x l.1 ∧ Rp.rep T F y l.2, fun e ⟨p, x, y, h1, h2, h3, h4⟩ => ⟨p, x, y, h1, Same.tup e h2, Rp.mono e h3, Rp.mono e h4⟩⟩
instance {α β γ : Type} [Rp α] [Rp β] [Rp γ] : Rp (T3 α β γ) := ⟨fun T F v l => ∃ p x y z, v = .ref p ∧ SqT T.K F p [x, y, z] ∧ Rp.rep T F x l.a ∧ Rp.rep T F y l.b ∧ Rp.rep T F z l.c, fun e ⟨p, x, y, z, h1, h2, h3, h4, h5⟩ => ⟨p, x, y, z, h1, Same.tup e h2, Rp.mono e h3, Rp.mono e h4, Rp.mono e h5⟩⟩
theorem al_of_int {T : TC} {F : Hp} : ∀ {l : List Int}, Al T F (l.map V.int) l
  | [] => .nil
  | x :: r => .cons (show V.int x = V.int x from rfl) al_of_int
theorem al_len {α : Type} [Rp α] {T : TC} {F : Hp} : ∀ {vs : List V} {l : List α}, Al T F vs l → vs.length = l.length
  | _, _, .nil => rfl
  | _, _, .cons _ t => congrArg (· + 1) (al_len t)
theorem al_get {α : Type} [Rp α] {T : TC} {F : Hp} : ∀ {vs : List V} {l : List α} {i : Nat} {a : α}, Al T F vs l → l[i]? = some a → ∃ v, vs[i]? = some v ∧ Rp.rep T F v a
  | _, _, _, _, .nil, e => by simp at e
  | _, _, 0, _, .cons h _, e => by cases e; exact ⟨_, rfl, h⟩
  | _, _, i + 1, _, .cons _ t, e => al_get (i := i) t e
theorem al_set {α : Type} [Rp α] {T : TC} {F : Hp} {v : V} {a : α} (h : Rp.rep T F v a) : ∀ {vs : List V} {l : List α} (i : Nat), Al T F vs l → Al T F (vs.set i v) (l.set i a)
  | _, _, _, .nil => .nil
  | _, _, 0, .cons _ t => .cons h t
  | _, _, i + 1, .cons q t => .cons q (al_set h i t)
theorem al_app {α : Type} [Rp α] {T : TC} {F : Hp} : ∀ {vs ws : List V} {l m : List α}, Al T F vs l → Al T F ws m → Al T F (vs ++ ws) (l ++ m)
  | _, _, _, _, .nil, h => h
  | _, _, _, _, .cons q t, h => .cons q (al_app t h)
theorem al_take {α : Type} [Rp α] {T : TC} {F : Hp} : ∀ {vs : List V} {l : List α} (n : Nat), Al T F vs l → Al T F (vs.take n) (l.take n)
  | _, _, 0, _ => .nil
  | _, _, _ + 1, .nil => .nil
  | _, _, n + 1, .cons q t => .cons q (al_take n t)
theorem al_drop {α : Type} [Rp α] {T : TC} {F : Hp} : ∀ {vs : List V} {l : List α} (n : Nat), Al T F vs l → Al T F (vs.drop n) (l.drop n)
  | _, _, 0, h => h
  | _, _, _ + 1, .nil => .nil
  | _, _, n + 1, .cons _ t => al_drop n t
theorem al_rev {α : Type} [Rp α] {T : TC} {F : Hp} : ∀ {vs : List V} {l : List α}, Al T F vs l → Al T F vs.reverse l.reverse
  | _, _, .nil => .nil
  | _, _, .cons h t => by rw [List.reverse_cons, List.reverse_cons]; exact al_app (al_rev t) (.cons h .nil)

/-- a list that changes -/
def lstA (T : TC) {α : Type} [Rp α] (p : Addr) (l : List α) : OA := ⟨fun F t => ∃ vs, t p = some (.lst vs) ∧ Al T F vs l, fun e ⟨vs, h1, h2⟩ => ⟨vs, h1, h2.mono e⟩⟩

/-! ### slots -/
def Env (F : Hp) (σ : St) (Γ : List (Option VA)) : Prop := σ.length = Γ.length ∧ ∀ (i : Nat) (A : VA), Γ[i]? = some (some A) → ∃ v, σ[i]? = some (some v) ∧ A.P F v
theorem Env.mono {F F' : Hp} {σ : St} {Γ : List (Option VA)} (h : Env F σ Γ) (e : Same F F') : Env F' σ Γ := ⟨h.1, fun i A q => let ⟨v, h1, h2⟩ := h.2 i A q; ⟨v, h1, A.mono e h2⟩⟩
theorem Env.set {F : Hp} {σ : St} {Γ : List (Option VA)} {i : Nat} {v : V} {A : VA} (h : Env F σ Γ) (a : A.P F v) : Env F (σ.set i (some v)) (Γ.set i (some A)) := by
  refine ⟨by rw [List.length_set, List.length_set]; exact h.1, fun k B q => ?_⟩
  by_cases hk : i = k
  · subst hk
    have lt : i < Γ.length := by have := getlt q; rwa [List.length_set] at this
    rw [List.getElem?_set_self lt] at q
    cases q
    exact ⟨v, by rw [List.getElem?_set_self (by rw [h.1]; exact lt)], a⟩
  · rw [List.getElem?_set_ne hk] at q
    obtain ⟨w, h1, h2⟩ := h.2 k B q
    exact ⟨w, by rw [List.getElem?_set_ne hk]; exact h1, h2⟩
/-- what is known of slots is left -/
theorem Env.weak {F : Hp} {σ : St} {Γ Γ' : List (Option VA)} (h : Env F σ Γ) (hl : Γ'.length = Γ.length) (k : ∀ (i : Nat) A, Γ'[i]? = some (some A) → Γ[i]? = some (some A)) : Env F σ Γ' := ⟨h.1.trans hl.symm, fun i A q => h.2 i A (k i A q)⟩

/-! ### expressions -/
def XG (te : TE) (Γ : List (Option VA)) (Ω : List OA) (R : Hp → V → List OA → Prop) : Prop :=
  ∀ F σ H, Env F σ Γ → Holds F Ω H → ∀ Q : VK, (∀ F' v H' Ω', Same F F' → Holds F' Ω' H' → R F' v Ω' → Q v H') → te σ H Q
abbrev XE (te : TE) (Γ : List (Option VA)) (Ω : List OA) (A : VA) (Ω2 : List OA) : Prop := XG te Γ Ω fun F v Ω' => A.P F v ∧ Ω' = Ω2
def XT (t : TT) (Γ : List (Option VA)) (Ω : List OA) (b : Bool) (Ω2 : List OA) : Prop :=
  ∀ F σ H, Env F σ Γ → Holds F Ω H → ∀ Q : Bool → Hp → Prop, (∀ F' H', Same F F' → Holds F' Ω2 H' → Q b H') → t σ H Q
def AlA (F : Hp) (vs : List V) (As : List VA) : Prop := Paired (fun v (A : VA) => A.P F v) vs As
theorem AlA.mono {F F' : Hp} (e : Same F F') : ∀ {vs : List V} {As : List VA}, AlA F vs As → AlA F' vs As
  | _, _, .nil => .nil
  | _, _, .cons (b := A) h t => .cons (A.mono e h) (AlA.mono e t)
theorem AlA.len {F : Hp} : ∀ {vs : List V} {As : List VA}, AlA F vs As → vs.length = As.length
  | _, _, .nil => rfl
  | _, _, .cons _ t => congrArg (· + 1) (AlA.len t)
theorem AlA.app {F : Hp} : ∀ {vs ws : List V} {As Bs : List VA}, AlA F vs As → AlA F ws Bs → AlA F (vs ++ ws) (As ++ Bs)
  | _, _, _, _, .nil, h => h
  | _, _, _, _, .cons q t, h => .cons q (AlA.app t h)
def XA (t : TA) (Γ : List (Option VA)) (Ω : List OA) (As : List VA) (Ω2 : List OA) : Prop :=
  ∀ F σ H, Env F σ Γ → Holds F Ω H → ∀ Q : List V → Hp → Prop, (∀ F' vs H', Same F F' → Holds F' Ω2 H' → AlA F' vs As → Q vs H') → t σ H Q
/-- a one-place, two-place operation on values, a call on values -/
def RO (r : R2) (Ω : List OA) (A B C : VA) : Prop := ∀ F H x y, Holds F Ω H → A.P F x → B.P F y → ∀ Q : VK, (∀ F' v H', Same F F' → Holds F' Ω H' → C.P F' v → Q v H') → r x y H Q
def RU (r : V → Hp → VK → Prop) (Ω : List OA) (A C : VA) : Prop := ∀ F H x, Holds F Ω H → A.P F x → ∀ Q : VK, (∀ F' v H', Same F F' → Holds F' Ω H' → C.P F' v → Q v H') → r x H Q
def RC (r : List V → Hp → VK → Prop) (Ω : List OA) (As : List VA) (C : VA) : Prop := ∀ F H vs, Holds F Ω H → AlA F vs As → ∀ Q : VK, (∀ F' v H', Same F F' → Holds F' Ω H' → C.P F' v → Q v H') → r vs H Q

section
variable {T : TC} {Γ : List (Option VA)} {Ω Ω1 Ω2 : List OA} {A B C : VA} {ta tb te : TE} {t u : TT} {i j n m : Int} {b c : Bool}
theorem xe_var {i : Nat} (h : Γ[i]? = some (some A)) : XE (tVar i) Γ Ω A Ω := fun F σ H e hh Q q => by
  obtain ⟨v, h1, h2⟩ := e.2 i A h
  exact ⟨v, h1, q F v H Ω (Same.refl F) hh ⟨h2, rfl⟩⟩
theorem xe_c {v : V} (h : ∀ F, A.P F v) : XE (tC v) Γ Ω A Ω := fun F σ H e hh Q q => q F v H Ω (Same.refl F) hh ⟨h F, rfl⟩
theorem xe_int : XE (tC (.int n)) Γ Ω (va T n) Ω := xe_c fun _ => rfl
theorem xe_bl : XE (tC (.bl b)) Γ Ω (va T b) Ω := xe_c fun _ => rfl
theorem xe_str {s : Str} : XE (tC (.str s)) Γ Ω (va T s) Ω := xe_c fun _ => rfl
theorem xe_non : XE (tC .non) Γ Ω (va T ()) Ω := xe_c fun _ => rfl
theorem xe_op {r : R2} (ha : XE ta Γ Ω A Ω1) (hb : XE tb Γ Ω1 B Ω2) (hr : RO r Ω2 A B C) : XE (tOp r ta tb) Γ Ω C Ω2 := fun F σ H e hh Q q => by
  refine ha F σ H e hh _ fun F1 x H1 Ω' e1 hh1 ⟨a1, o1⟩ => ?_
  subst o1
  refine hb F1 σ H1 (e.mono e1) hh1 _ fun F2 y H2 Ω'' e2 hh2 ⟨a2, o2⟩ => ?_
  subst o2
  exact hr F2 H2 x y hh2 (A.mono e2 a1) a2 Q fun F3 v H3 e3 hh3 a3 => q F3 v H3 _ ((e1.trans e2).trans e3) hh3 ⟨a3, rfl⟩
theorem xe_un {r : V → Hp → VK → Prop} (ha : XE ta Γ Ω A Ω1) (hr : RU r Ω1 A C) : XE (tUn r ta) Γ Ω C Ω1 := fun F σ H e hh Q q => by
  refine ha F σ H e hh _ fun F1 x H1 Ω' e1 hh1 ⟨a1, o1⟩ => ?_
  subst o1
  exact hr F1 H1 x hh1 a1 Q fun F3 v H3 e3 hh3 a3 => q F3 v H3 _ (e1.trans e3) hh3 ⟨a3, rfl⟩
theorem xa_nil : XA tNil Γ Ω [] Ω := fun F σ H e hh Q q => q F [] H (Same.refl F) hh .nil
theorem xa_cons {tr : TA} {As : List VA} (ha : XE ta Γ Ω A Ω1) (hr : XA tr Γ Ω1 As Ω2) : XA (tCons ta tr) Γ Ω (A :: As) Ω2 := fun F σ H e hh Q q => by
  refine ha F σ H e hh _ fun F1 x H1 Ω' e1 hh1 ⟨a1, o1⟩ => ?_
  subst o1
  refine hr F1 σ H1 (e.mono e1) hh1 _ fun F2 xs H2 e2 hh2 a2 => ?_
  exact q F2 (x :: xs) H2 (e1.trans e2) hh2 (.cons (A.mono e2 a1) a2)
theorem xe_cb {r : List V → Hp → VK → Prop} {t : TA} {As : List VA} (ha : XA t Γ Ω As Ω1) (hr : RC r Ω1 As C) : XE (tCB r t) Γ Ω C Ω1 := fun F σ H e hh Q q => by
  refine ha F σ H e hh _ fun F1 xs H1 e1 hh1 a1 => ?_
  exact hr F1 H1 xs hh1 a1 Q fun F3 v H3 e3 hh3 a3 => q F3 v H3 _ (e1.trans e3) hh3 ⟨a3, rfl⟩
/-- the same with another word for it -/
theorem XG.imp {R R' : Hp → V → List OA → Prop} (h : XG te Γ Ω R) (k : ∀ F v Ω', R F v Ω' → R' F v Ω') : XG te Γ Ω R' := fun F σ H e hh Q q => h F σ H e hh Q fun F' v H' Ω' e' hh' r => q F' v H' Ω' e' hh' (k _ _ _ r)
theorem XE.to (h : XE te Γ Ω A Ω1) (k : ∀ F v, A.P F v → B.P F v) : XE te Γ Ω B Ω1 := h.imp fun F v Ω' ⟨a, o⟩ => ⟨k F v a, o⟩
theorem xe_eq {α : Type} [Rp α] {a a' : α} (h : XE te Γ Ω (va T a) Ω1) (e : a = a') : XE te Γ Ω (va T a') Ω1 := e ▸ h

/-! ints -/
theorem ro_I0 {g : Int → Int → V} (h : ∀ F, C.P F (g i j)) : RO (rI0 g) Ω (va T i) (va T j) C := fun F H x y hh a1 a2 Q q => ⟨i, j, a1, a2, q F _ H (Same.refl F) hh (h F)⟩
theorem ro_I {D : Int → Int → Prop} {g : Int → Int → V} (hd : D i j) (h : ∀ F, C.P F (g i j)) : RO (rI D g) Ω (va T i) (va T j) C := fun F H x y hh a1 a2 Q q => ⟨i, j, a1, a2, hd, q F _ H (Same.refl F) hh (h F)⟩
theorem ro_int {g : Int → Int → Int} : RO (rI0 fun i j => .int (g i j)) Ω (va T i) (va T j) (va T (g i j)) := ro_I0 fun _ => rfl
theorem ro_intD {D : Int → Int → Prop} {g : Int → Int → Int} (hd : D i j) : RO (rI D fun i j => .int (g i j)) Ω (va T i) (va T j) (va T (g i j)) := ro_I hd fun _ => rfl
theorem ro_bl {g : Int → Int → Bool} : RO (rI0 fun i j => .bl (g i j)) Ω (va T i) (va T j) (va T (g i j)) := ro_I0 fun _ => rfl
theorem ru_int {g : Int → Int} : RU (rU fun i => .int (g i)) Ω (va T i) (va T (g i)) := fun F H x hh a1 Q q => ⟨i, a1, q F _ H (Same.refl F) hh rfl⟩
theorem ro_eqI : RO rEq Ω (va T i) (va T j) (va T (decide (i = j))) := fun F H x y hh a1 a2 Q q => by
  have a1 : x = .int i := a1
  have a2 : y = .int j := a2
  subst a1 a2
  refine ⟨rfl, q F _ H (Same.refl F) hh ?_⟩
  show V.bl _ = V.bl _
  congr 1
  exact decide_eq_decide.mpr ⟨V.int.inj, fun h => by rw [h]⟩
theorem ro_neI : RO rNe Ω (va T i) (va T j) (va T (!decide (i = j))) := fun F H x y hh a1 a2 Q q => by
  have a1 : x = .int i := a1
  have a2 : y = .int j := a2
  subst a1 a2
  refine ⟨rfl, q F _ H (Same.refl F) hh ?_⟩
  show V.bl _ = V.bl _
  congr 2
  exact decide_eq_decide.mpr ⟨V.int.inj, fun h => by rw [h]⟩
theorem ro_eqB : RO rEq Ω (va T b) (va T c) (va T (decide (b = c))) := fun F H x y hh a1 a2 Q q => by
  have a1 : x = .bl b := a1
  have a2 : y = .bl c := a2
  subst a1 a2
  refine ⟨rfl, q F _ H (Same.refl F) hh ?_⟩
  show V.bl _ = V.bl _
  congr 1
  exact decide_eq_decide.mpr ⟨V.bl.inj, fun h => by rw [h]⟩
/-! tests -/
theorem xt_test (h : XE te Γ Ω (va T b) Ω1) : XT (tTest te) Γ Ω b Ω1 := fun F σ H e hh Q q => by
  refine h F σ H e hh _ fun F1 x H1 Ω' e1 hh1 ⟨a1, o1⟩ => ?_
  subst o1
  exact ⟨b, a1, q F1 H1 e1 hh1⟩
theorem xt_tB (h : XE te Γ Ω (va T b) Ω1) : XT (tB te) Γ Ω b Ω1 := xt_test (T := T) h
theorem xt_and (h1 : XT t Γ Ω b Ω1) (h2 : b = true → XT u Γ Ω1 c Ω2) (h3 : b = false → Ω1 = Ω2) : XT (tAnd t u) Γ Ω (b && c) Ω2 := fun F σ H e hh Q q => by
  refine h1 F σ H e hh _ fun F1 H1 e1 hh1 => ?_
  cases b with
  | true => rw [if_pos rfl]; exact h2 rfl F1 σ H1 (e.mono e1) hh1 Q fun F2 H2 e2 hh2 => q F2 H2 (e1.trans e2) hh2
  | false => rw [if_neg Bool.false_ne_true]; exact q F1 H1 e1 (h3 rfl ▸ hh1)
theorem xt_or (h1 : XT t Γ Ω b Ω1) (h2 : b = false → XT u Γ Ω1 c Ω2) (h3 : b = true → Ω1 = Ω2) : XT (tOr t u) Γ Ω (b || c) Ω2 := fun F σ H e hh Q q => by
  refine h1 F σ H e hh _ fun F1 H1 e1 hh1 => ?_
  cases b with
  | false => rw [if_neg Bool.false_ne_true]; exact h2 rfl F1 σ H1 (e.mono e1) hh1 Q fun F2 H2 e2 hh2 => q F2 H2 (e1.trans e2) hh2
  | true => rw [if_pos rfl]; exact q F1 H1 e1 (h3 rfl ▸ hh1)
theorem xt_not (h1 : XT t Γ Ω b Ω1) : XT (tNot t) Γ Ω (!b) Ω1 := fun F σ H e hh Q q => h1 F σ H e hh _ q
theorem xt_eq (h : XT t Γ Ω b Ω1) (e : b = c) : XT t Γ Ω c Ω1 := e ▸ h
theorem xe_if (h : XT t Γ Ω b Ω1) (h1 : b = true → XE ta Γ Ω1 A Ω2) (h2 : b = false → XE tb Γ Ω1 A Ω2) : XE (tIf t ta tb) Γ Ω A Ω2 := fun F σ H e hh Q q => by
  refine h F σ H e hh _ fun F1 H1 e1 hh1 => ?_
  cases b with
  | true => rw [if_pos rfl]; exact h1 rfl F1 σ H1 (e.mono e1) hh1 Q fun F2 v H2 Ω' e2 hh2 r => q F2 v H2 Ω' (e1.trans e2) hh2 r
  | false => rw [if_neg Bool.false_ne_true]; exact h2 rfl F1 σ H1 (e.mono e1) hh1 Q fun F2 v H2 Ω' e2 hh2 r => q F2 v H2 Ω' (e1.trans e2) hh2 r
theorem xe_andV (h1 : XE ta Γ Ω (va T b) Ω) (h2 : b = true → XE tb Γ Ω (va T c) Ω) : XE (tAndV ta tb) Γ Ω (va T (b && c)) Ω := fun F σ H e hh Q q => by
  refine h1 F σ H e hh _ fun F1 x H1 Ω' e1 hh1 ⟨a1, o1⟩ => ?_
  subst o1
  refine ⟨b, a1, ?_⟩
  cases b with
  | true => rw [if_pos rfl]; exact h2 rfl F1 σ H1 (e.mono e1) hh1 Q fun F2 v H2 Ω'' e2 hh2 r => q F2 v H2 Ω'' (e1.trans e2) hh2 r
  | false => rw [if_neg Bool.false_ne_true]; exact q F1 _ H1 _ e1 hh1 ⟨rfl, rfl⟩
theorem xe_notV (h1 : XE ta Γ Ω (va T b) Ω1) : XE (tNotV ta) Γ Ω (va T (!b)) Ω1 := fun F σ H e hh Q q => by
  refine h1 F σ H e hh _ fun F1 x H1 Ω' e1 hh1 ⟨a1, o1⟩ => ?_
  exact ⟨b, a1, q F1 _ H1 _ e1 hh1 ⟨rfl, o1⟩⟩
theorem xe_chain {r r' : R2} {D : VA} {tc : TE} (ha : XE ta Γ Ω A Ω) (hb : XE tb Γ Ω B Ω) (hr : RO r Ω A B (va T b)) (hc : b = true → XE tc Γ Ω D Ω) (hr' : b = true → RO r' Ω B D (va T c)) : XE (tChain r r' ta tb tc) Γ Ω (va T (b && c)) Ω := fun F σ H e hh Q q => by
  refine ha F σ H e hh _ fun F1 x H1 Ω' e1 hh1 ⟨a1, o1⟩ => ?_
  subst o1
  refine hb F1 σ H1 (e.mono e1) hh1 _ fun F2 y H2 Ω'' e2 hh2 ⟨a2, o2⟩ => ?_
  subst o2
  refine hr F2 H2 x y hh2 (A.mono e2 a1) a2 _ fun F3 v H3 e3 hh3 a3 => ⟨b, a3, ?_⟩
  cases b with
  | true =>
    rw [if_pos rfl]
    refine hc rfl F3 σ H3 (e.mono ((e1.trans e2).trans e3)) hh3 _ fun F4 z H4 Ω3 e4 hh4 ⟨a4, o4⟩ => ?_
    subst o4
    exact hr' rfl F4 H4 y z hh4 (B.mono (e3.trans e4) a2) a4 Q fun F5 w H5 e5 hh5 a5 => q F5 w H5 _ ((((e1.trans e2).trans e3).trans e4).trans e5) hh5 ⟨a5, rfl⟩
  | false => rw [if_neg Bool.false_ne_true]; exact q F3 _ H3 _ ((e1.trans e2).trans e3) hh3 ⟨rfl, rfl⟩
end
end VL

set_option Elab.async false
set_option linter.all false
set_option maxRecDepth 100000
/-! lists, fields, calls, statements -/
namespace VL
open PySem L2

/-! ### defs' promises -/
/-- a promise: of the arguments As in the state Ω, what comes of it -/
abbrev PreT := List VA → List OA → (Hp → V → List OA → Prop) → Prop
def mkSp (Pre : PreT) : Sp := fun vs H Q _ => ∃ F Ω As R, Pre As Ω R ∧ AlA F vs As ∧ Holds F Ω H ∧ ∀ F' v H' Ω', Same F F' → Holds F' Ω' H' → R F' v Ω' → Q v H'
/-- hands back a, leaves Ω2 -/
abbrev RV (A : VA) (Ω2 : List OA) : Hp → V → List OA → Prop := fun F v Ω' => A.P F v ∧ Ω' = Ω2
/-- hands back a new changing thing -/
abbrev RN (Ω2 : List OA) (o : Addr → OA) : Hp → V → List OA → Prop := fun F v Ω' => ∃ p, v = .ref p ∧ Ω' = Ω2 ++ [o p]

/-! ### the changing things by place: those of the caller at the places ks, then a def's own -/
def apk (Ω : List OA) : List (Nat × OA) → List OA
  | [] => Ω
  | p :: r => (apk Ω r).set p.1 p.2
def stt (Ω : List OA) (ks : List (Nat × OA)) (L : List OA) : List OA := apk Ω ks ++ L
theorem apk_len {Ω : List OA} : ∀ ks : List (Nat × OA), (apk Ω ks).length = Ω.length
  | [] => rfl
  | p :: r => by unfold apk; rw [List.length_set, apk_len r]
/-- the places differ and are there -/
structure Okk (Ω : List OA) (keys : List Nat) : Prop where
  nd : keys.Nodup
  lt : ∀ k ∈ keys, k < Ω.length
theorem apk_get {Ω : List OA} : ∀ {ks : List (Nat × OA)} {i : Nat} {k : Nat} {o : OA}, (ks.map (·.1)).Nodup → k < Ω.length → ks[i]? = some (k, o) → (apk Ω ks)[k]? = some o
  | [], _, _, _, _, _, h => by simp at h
  | p :: r, 0, k, o, _, lt, h => by
    cases h
    unfold apk
    rw [List.getElem?_set_self (by rw [apk_len]; exact lt)]
  | p :: r, i + 1, k, o, nd, lt, h => by
    have h : r[i]? = some (k, o) := h
    unfold apk
    obtain ⟨h1, h2⟩ := List.nodup_cons.mp (show (p.1 :: r.map (·.1)).Nodup from nd)
    have ne : p.1 ≠ k := fun e => h1 (List.mem_map.mpr ⟨(k, o), List.mem_of_getElem? h, e.symm⟩)
    rw [List.getElem?_set_ne ne]
    exact apk_get h2 lt h
theorem apk_set {Ω : List OA} : ∀ {ks : List (Nat × OA)} {i : Nat} {k : Nat} {o o' : OA}, (ks.map (·.1)).Nodup → ks[i]? = some (k, o) → (apk Ω ks).set k o' = apk Ω (ks.set i (k, o'))
  | [], _, _, _, _, _, h => by simp at h
  | p :: r, 0, k, o, o', _, h => by
    cases h
    show ((apk Ω r).set k o).set k o' = (apk Ω r).set k o'
    rw [List.set_set]
  | p :: r, i + 1, k, o, o', nd, h => by
    have h : r[i]? = some (k, o) := h
    obtain ⟨h1, h2⟩ := List.nodup_cons.mp (show (p.1 :: r.map (·.1)).Nodup from nd)
    have ne : p.1 ≠ k := fun e => h1 (List.mem_map.mpr ⟨(k, o), List.mem_of_getElem? h, e.symm⟩)
    show ((apk Ω r).set p.1 p.2).set k o' = (apk Ω (r.set i (k, o'))).set p.1 p.2
    rw [List.set_comm _ _ ne, apk_set h2 h]
theorem apk_self {Ω : List OA} : ∀ {ks : List (Nat × OA)}, (∀ p ∈ ks, Ω[p.1]? = some p.2) → apk Ω ks = Ω
  | [], _ => rfl
  | p :: r, h => by
    unfold apk
    rw [apk_self fun q hq => h q (List.mem_cons_of_mem _ hq)]
    apply List.ext_getElem?
    intro k
    have hp := h p List.mem_cons_self
    by_cases e : p.1 = k
    · subst e; rw [List.getElem?_set_self (getlt hp), hp]
    · rw [List.getElem?_set_ne e]
section
variable {Ω : List OA} {keys : List Nat} {ks : List (Nat × OA)} {L : List OA} {i j k : Nat} {o o' : OA}
theorem stt_get (ok : Okk Ω keys) (h : ks[i]? = some (k, o)) (hk : ks.map (·.1) = keys := by rfl) : (stt Ω ks L)[k]? = some o := by
  subst hk
  have hm : k ∈ ks.map (·.1) := List.mem_map.mpr ⟨(k, o), List.mem_of_getElem? h, rfl⟩
  have lt := ok.lt k hm
  unfold stt
  rw [List.getElem?_append_left (by rw [apk_len]; exact lt)]
  exact apk_get ok.nd lt h
theorem stt_set (ok : Okk Ω keys) (h : ks[i]? = some (k, o)) (hk : ks.map (·.1) = keys := by rfl) : (stt Ω ks L).set k o' = stt Ω (ks.set i (k, o')) L := by
  subst hk
  have hm : k ∈ ks.map (·.1) := List.mem_map.mpr ⟨(k, o), List.mem_of_getElem? h, rfl⟩
  have lt := ok.lt k hm
  unfold stt
  rw [List.set_append_left _ _ (by rw [apk_len]; exact lt), apk_set ok.nd h]
theorem stt_getL (h : L[j]? = some o) : (stt Ω ks L)[Ω.length + j]? = some o := by
  unfold stt
  rw [List.getElem?_append_right (by rw [apk_len]; omega), apk_len, Nat.add_sub_cancel_left]
  exact h
theorem stt_setL : (stt Ω ks L).set (Ω.length + j) o' = stt Ω ks (L.set j o') := by
  unfold stt
  rw [List.set_append_right _ _ (by rw [apk_len]; omega), apk_len, Nat.add_sub_cancel_left]
theorem stt_app : stt Ω ks L ++ [o] = stt Ω ks (L ++ [o]) := List.append_assoc _ _ _
theorem stt_self (h : ∀ p ∈ ks, Ω[p.1]? = some p.2) : stt Ω ks [] = Ω := by
  unfold stt
  rw [apk_self h, List.append_nil]
theorem stt_nil : stt Ω ks [] = apk Ω ks := List.append_nil _
theorem apk_out {Ω : List OA} : ∀ {ks : List (Nat × OA)}, k ∉ ks.map (·.1) → (apk Ω ks)[k]? = Ω[k]?
  | [], _ => rfl
  | p :: r, h => by
    unfold apk
    have h : k ∉ p.1 :: r.map (·.1) := h
    rw [List.getElem?_set_ne (fun e => h (by rw [e]; exact List.mem_cons_self))]
    exact apk_out fun m => h (List.mem_cons_of_mem _ m)
theorem stt_getU (h : Ω[k]? = some o) (hn : k ∉ ks.map (·.1) := by simp) : (stt Ω ks L)[k]? = some o := by
  unfold stt
  rw [List.getElem?_append_left (by rw [apk_len]; exact getlt h), apk_out hn]
  exact h
theorem cal0 : stt (stt Ω ks L) [] [] = stt Ω ks L := List.append_nil _
theorem stt_one {Ω : List OA} : stt Ω [(k, o)] [] = Ω.set k o := List.append_nil _
theorem cal1 (ok : Okk Ω keys) (h : ks[i]? = some (k, o)) (hk : ks.map (·.1) = keys := by rfl) : stt (stt Ω ks L) [(k, o')] [] = stt Ω (ks.set i (k, o')) L := stt_one.trans (stt_set ok h hk)
theorem cal1L : stt (stt Ω ks L) [(Ω.length + j, o')] [] = stt Ω ks (L.set j o') := stt_one.trans stt_setL
theorem stt_two {Ω : List OA} {m : Nat} {o2 : OA} : stt Ω [(k, o), (m, o2)] [] = stt (stt Ω [(m, o2)] []) [(k, o)] [] := by
  rw [stt_one, stt_one]
  exact List.append_nil _
theorem okk0 : Okk Ω [] := ⟨by simp, fun k h => by cases h⟩
theorem okk1 (h : Ω[k]? = some o) : Okk Ω [k] := ⟨by simp, fun m hm => by rw [List.mem_singleton.mp hm]; exact getlt h⟩
theorem okk2 (h : Ω[k]? = some o) (h2 : Ω[j]? = some o') (ne : k ≠ j) : Okk Ω [k, j] := ⟨by simp [ne], fun m hm => by
  rcases List.mem_cons.mp hm with e | e
  · rw [e]; exact getlt h
  · rw [List.mem_singleton.mp e]; exact getlt h2⟩
end
section
variable {T : TC} {Γ : List (Option VA)} {Ω Ω1 Ω2 : List OA} {A B C : VA} {As : List VA} {ta tb te : TE} {t u : TT} {i j n m : Int} {b c : Bool}
theorem xg_call {Pre : PreT} {E : XK} {t : TA} {R : Hp → V → List OA → Prop} (ha : XA t Γ Ω As Ω1) (hp : Pre As Ω1 R) : XG (tCall (mkSp Pre) [] E t) Γ Ω R := fun F σ H e hh Q q => by
  refine ha F σ H e hh _ fun F1 xs H1 e1 hh1 a1 => ?_
  refine ⟨F1, Ω1, As, R, hp, by rw [List.append_nil]; exact a1, hh1, fun F' v H' Ω' e' hh' r => q F' v H' Ω' (e1.trans e') hh' r⟩
/-! ### the state ahead of a statement -/
def NX (F0 : Hp) (Γ : List (Option VA)) (Ω : List OA) : St → Hp → Prop := fun σ H => ∃ F, Same F0 F ∧ Env F σ Γ ∧ Holds F Ω H
def RT (F0 : Hp) (R : Hp → V → List OA → Prop) : VK → Prop := fun Q => ∀ F v H Ω, Same F0 F → Holds F Ω H → R F v Ω → Q v H
def XS (t : TS) (D : Ends) (F0 : Hp) (Γ : List (Option VA)) (Ω : List OA) : Prop := ∀ σ H, NX F0 Γ Ω σ H → t D σ H
theorem RT.mono {F0 F1 : Hp} {R : Hp → V → List OA → Prop} {Q : VK} (k : RT F0 R Q) (e : Same F0 F1) : RT F1 R Q := fun F v H Ω f hh r => k F v H Ω (e.trans f) hh r
variable {D : Ends} {F0 : Hp} {t1 t2 ts : TS} {R : Hp → V → List OA → Prop}
theorem xs_set {k : Nat} (h : XE te Γ Ω A Ω1) (q : XS ts D F0 (Γ.set k (some A)) Ω1) : XS (tSeq (tAsg te (gName k)) ts) D F0 Γ Ω := fun σ H ⟨F, f0, e, hh⟩ =>
  h F σ H e hh _ fun F1 v H1 Ω' e1 hh1 ⟨a1, o1⟩ => q _ H1 ⟨F1, f0.trans e1, (e.mono e1).set a1, o1 ▸ hh1⟩
theorem xs_setN {k : Nat} {o : Addr → OA} (h : XG te Γ Ω (RN Ω1 o)) (q : ∀ p, XS ts D F0 (Γ.set k (some (vr p))) (Ω1 ++ [o p])) : XS (tSeq (tAsg te (gName k)) ts) D F0 Γ Ω := fun σ H ⟨F, f0, e, hh⟩ =>
  h F σ H e hh _ fun F1 v H1 Ω' e1 hh1 ⟨p, a1, o1⟩ => q p _ H1 ⟨F1, f0.trans e1, (e.mono e1).set (A := vr p) a1, o1 ▸ hh1⟩
theorem xs_drop (h : XE te Γ Ω A Ω1) (q : XS ts D F0 Γ Ω1) : XS (tSeq (tDrop te) ts) D F0 Γ Ω := fun σ H ⟨F, f0, e, hh⟩ =>
  h F σ H e hh _ fun F1 v H1 Ω' e1 hh1 ⟨_, o1⟩ => q σ H1 ⟨F1, f0.trans e1, e.mono e1, o1 ▸ hh1⟩
/-- the same as the block's last statement -/
theorem xs_set1 {k : Nat} (h : XE te Γ Ω A Ω1) (q : ∀ σ H, NX F0 (Γ.set k (some A)) Ω1 σ H → D.nx σ H) : XS (tAsg te (gName k)) D F0 Γ Ω := fun σ H ⟨F, f0, e, hh⟩ =>
  h F σ H e hh _ fun F1 v H1 Ω' e1 hh1 ⟨a1, o1⟩ => q _ H1 ⟨F1, f0.trans e1, (e.mono e1).set a1, o1 ▸ hh1⟩
theorem xs_drop1 (h : XE te Γ Ω A Ω1) (q : ∀ σ H, NX F0 Γ Ω1 σ H → D.nx σ H) : XS (tDrop te) D F0 Γ Ω := fun σ H ⟨F, f0, e, hh⟩ =>
  h F σ H e hh _ fun F1 v H1 Ω' e1 hh1 ⟨_, o1⟩ => q σ H1 ⟨F1, f0.trans e1, e.mono e1, o1 ▸ hh1⟩
theorem xs_ret (h : XG te Γ Ω R) (q : RT F0 R D.rt) : XS (tRet te) D F0 Γ Ω := fun σ H ⟨F, f0, e, hh⟩ =>
  h F σ H e hh _ fun F1 v H1 Ω' e1 hh1 r => q F1 v H1 Ω' (f0.trans e1) hh1 r
/-- what is made in a def and not told is left -/
theorem RT.drop {Q : VK} {A : VA} {o : OA} (k : RT F0 (RV A Ω) Q) : RT F0 (RV A (Ω ++ [o])) Q := fun F v H Ω' f hh ⟨a, e⟩ => by
  subst e
  exact k F v H Ω f hh.drop ⟨a, rfl⟩
theorem xs_ifT (h : XT t Γ Ω true Ω1) (q : XS t1 { D with nx := ts D } F0 Γ Ω1) : XS (tSeq (tIfS t t1 t2) ts) D F0 Γ Ω := fun σ H ⟨F, f0, e, hh⟩ =>
  h F σ H e hh _ fun F1 H1 e1 hh1 => by rw [if_pos rfl]; exact q σ H1 ⟨F1, f0.trans e1, e.mono e1, hh1⟩
theorem xs_ifF (h : XT t Γ Ω false Ω1) (q : XS t2 { D with nx := ts D } F0 Γ Ω1) : XS (tSeq (tIfS t t1 t2) ts) D F0 Γ Ω := fun σ H ⟨F, f0, e, hh⟩ =>
  h F σ H e hh _ fun F1 H1 e1 hh1 => by rw [if_neg Bool.false_ne_true]; exact q σ H1 ⟨F1, f0.trans e1, e.mono e1, hh1⟩
theorem xs_ifT1 (h : XT t Γ Ω true Ω1) (q : XS t1 D F0 Γ Ω1) : XS (tIfS t t1 t2) D F0 Γ Ω := fun σ H ⟨F, f0, e, hh⟩ =>
  h F σ H e hh _ fun F1 H1 e1 hh1 => by rw [if_pos rfl]; exact q σ H1 ⟨F1, f0.trans e1, e.mono e1, hh1⟩
theorem xs_ifF1 (h : XT t Γ Ω false Ω1) (q : XS t2 D F0 Γ Ω1) : XS (tIfS t t1 t2) D F0 Γ Ω := fun σ H ⟨F, f0, e, hh⟩ =>
  h F σ H e hh _ fun F1 H1 e1 hh1 => by rw [if_neg Bool.false_ne_true]; exact q σ H1 ⟨F1, f0.trans e1, e.mono e1, hh1⟩
/-- a statement, a word between, the rest -/
theorem xs_cut {Γ' : List (Option VA)} {Ω' : List OA} (h : XS t1 { D with nx := NX F0 Γ' Ω' } F0 Γ Ω) (k : XS ts D F0 Γ' Ω') : XS (Evl.tCut t1 ts) D F0 Γ Ω := fun σ H n => ⟨NX F0 Γ' Ω', h σ H n, fun σ' H' m => k σ' H' m⟩
/-- what is known is left -/
theorem NX.weak {Γ' : List (Option VA)} {σ : St} {H : Hp} (h : NX F0 Γ Ω σ H) (hl : Γ'.length = Γ.length) (k : ∀ (i : Nat) A, Γ'[i]? = some (some A) → Γ[i]? = some (some A)) : NX F0 Γ' Ω σ H :=
  let ⟨F, f0, e, hh⟩ := h
  ⟨F, f0, e.weak hl k, hh⟩
theorem NX.drop {o : OA} {σ : St} {H : Hp} (h : NX F0 Γ (Ω ++ [o]) σ H) : NX F0 Γ Ω σ H := let ⟨F, f0, e, hh⟩ := h; ⟨F, f0, e, hh.drop⟩
/-- what an expression makes anew becomes frozen -/
theorem xe_fz {α : Type} [Rp α] {l : List α} (h : XG te Γ Ω (RN Ω1 fun p => lstA T p l)) : XE te Γ Ω (va T (LF.mk l)) Ω1 := fun F σ H e hh Q q =>
  h F σ H e hh Q fun F1 v H1 Ω' e1 hh1 ⟨p, hv, o1⟩ => by
    subst o1
    obtain ⟨F', t, s1, s2, ⟨vs, ht, al⟩, hh'⟩ := hh1.freeze
    exact q F' v H1 _ (e1.trans s1) hh' ⟨⟨p, vs, hv, s2 _ _ ht, al.mono s1⟩, rfl⟩
theorem xs_seq (h : XS t1 { D with nx := ts D } F0 Γ Ω) : XS (tSeq t1 ts) D F0 Γ Ω := h
/-- a known way through a test -/
theorem xt_orF (h1 : XT t Γ Ω false Ω1) (h2 : XT u Γ Ω1 false Ω2) : XT (tOr t u) Γ Ω false Ω2 := xt_or (b := false) (c := false) h1 (fun _ => h2) (fun h => nomatch h)
theorem xt_notF (h1 : XT t Γ Ω true Ω1) : XT (tNot t) Γ Ω false Ω1 := xt_not h1
/-- what an expression's value must be to go on -/
def chk (b : Bool) : Option Unit := if b = true then some () else none
theorem xs_setO {k : Nat} {ks : List (Nat × OA)} {L : List OA} {o : Addr → OA} {Ω0 : List OA} (h : XG te Γ Ω0 (RN (stt Ω ks L) o)) (q : ∀ p, XS ts D F0 (Γ.set k (some (vr p))) (stt Ω ks (L ++ [o p]))) : XS (tSeq (tAsg te (gName k)) ts) D F0 Γ Ω0 :=
  xs_setN h fun p => by rw [stt_app]; exact q p
theorem xe_call {Pre : PreT} {E : XK} {t : TA} {Ω' : List OA} (ha : XA t Γ Ω As Ω1) (hp : Pre As Ω1 (RV A Ω')) (he : Ω' = Ω2) : XE (tCall (mkSp Pre) [] E t) Γ Ω A Ω2 := he ▸ xg_call ha hp
theorem xn_call {Pre : PreT} {E : XK} {t : TA} {Ω' : List OA} {o : Addr → OA} (ha : XA t Γ Ω As Ω1) (hp : Pre As Ω1 (RN Ω' o)) (he : Ω' = Ω2) : XG (tCall (mkSp Pre) [] E t) Γ Ω (RN Ω2 o) := he ▸ xg_call ha hp
theorem NX.forget {σ : L2.St} {H : Hp} (h : NX F0 Γ Ω σ H) (k : Nat) : NX F0 (Γ.set k none) Ω σ H := h.weak (by rw [List.length_set]) fun i A q => by
  by_cases e : k = i
  · subst e
    have lt : k < Γ.length := by have := getlt q; rwa [List.length_set] at this
    rw [List.getElem?_set_self lt] at q
    cases q
  · rwa [List.getElem?_set_ne e] at q
/-- nothing -/
def nilA : OA := ⟨fun _ _ => True, fun _ _ => trivial⟩
theorem Holds.freezeAt {F H : Hp} {Ω : List OA} {o : OA} {i : Nat} (h : Holds F Ω H) (q : Ω[i]? = some o) : ∃ F' t, Same F F' ∧ Same t F' ∧ o.P F t ∧ Holds F' (Ω.set i nilA) H := by
  obtain ⟨ts, h1, h2, h3, h4, h5⟩ := h
  have lt := getlt q
  have d : ∀ b x, ts i b = some x → F b = none := fun b x e => h4 i b x lt e
  refine ⟨cup F (ts i), ts i, cup_l, cup_r d, h1 _ _ q, fun k => if k = i then (fun _ => none) else ts k, fun k x r => ?_, fun b x e => ?_, fun k r b x e => ?_, fun k b x r e => ?_, fun k m b x r r2 ne e => ?_⟩
  · show x.P _ (if k = i then (fun _ => none) else ts k)
    by_cases hk : k = i
    · subst hk
      rw [List.getElem?_set_self lt] at r
      cases r
      exact trivial
    · rw [if_neg hk]
      rw [List.getElem?_set_ne (fun z => hk z.symm)] at r
      exact x.mono cup_l (h1 k x r)
  · rcases cup_or e with e | e
    · exact h2 b x e
    · exact h3 i lt b x e
  · rw [List.length_set] at r
    have e : (if k = i then (fun _ => none) else ts k) b = some x := e
    by_cases hk : k = i
    · rw [if_pos hk] at e; cases e
    · rw [if_neg hk] at e; exact h3 k r b x e
  · rw [List.length_set] at r
    have e : (if k = i then (fun _ => none) else ts k) b = some x := e
    by_cases hk : k = i
    · rw [if_pos hk] at e; cases e
    · rw [if_neg hk] at e
      cases z : cup F (ts i) b with
      | none => rfl
      | some y =>
        rcases cup_or z with z | z
        · exact (nn z (h4 k b x r e)).elim
        · exact (nn z (h5 k i b x r lt hk e)).elim
  · rw [List.length_set] at r r2
    have e : (if k = i then (fun _ => none) else ts k) b = some x := e
    show (if m = i then (fun _ => none) else ts m) b = none
    by_cases hm : m = i
    · rw [if_pos hm]
    · rw [if_neg hm]
      by_cases hk : k = i
      · rw [if_pos hk] at e; cases e
      · rw [if_neg hk] at e; exact h5 k m b x r r2 ne e
theorem NX.fzJ {α : Type} [Rp α] {l : List α} {p : Addr} {k j : Nat} {ks : List (Nat × OA)} {L : List OA} {σ : L2.St} {H : Hp} (h : NX F0 Γ (stt Ω ks L) σ H) (hk : Γ[k]? = some (some (vr p))) (hj : L[j]? = some (lstA T p l)) : NX F0 (Γ.set k (some (va T (LF.mk l)))) (stt Ω ks (L.set j nilA)) σ H := by
  obtain ⟨F, f0, e, hh⟩ := h
  obtain ⟨F', t, s1, s2, ⟨vs, ht, al⟩, hh'⟩ := hh.freezeAt (stt_getL hj)
  rw [stt_setL] at hh'
  obtain ⟨v, h1, h2⟩ := e.2 k _ hk
  have e2 := (e.mono s1).set (i := k) (v := v) (A := va T (LF.mk l)) ⟨p, vs, h2, s2 _ _ ht, al.mono s1⟩
  have es : σ.set k (some v) = σ := by
    apply List.ext_getElem?
    intro m
    by_cases hm : k = m
    · subst hm; rw [List.getElem?_set_self (getlt h1)]; exact h1.symm
    · rw [List.getElem?_set_ne hm]
  rw [es] at e2
  exact ⟨F', f0.trans s1, e2, hh'⟩
theorem xs_fzJ {α : Type} [Rp α] {l : List α} {p : Addr} {k j : Nat} {ks : List (Nat × OA)} {L : List OA} (hk : Γ[k]? = some (some (vr p))) (hj : L[j]? = some (lstA T p l)) (q : XS ts D F0 (Γ.set k (some (va T (LF.mk l)))) (stt Ω ks (L.set j nilA))) : XS ts D F0 Γ (stt Ω ks L) := fun σ H n => q σ H (n.fzJ hk hj)
/-- one of a def's own things stays, the others are left -/
theorem Holds.sel {F H : Hp} {Ω L : List OA} {o : OA} {j : Nat} (h : Holds F (Ω ++ L) H) (q : L[j]? = some o) : Holds F (Ω ++ [o]) H := by
  obtain ⟨ts, h1, h2, h3, h4, h5⟩ := h
  have lj := getlt q
  have len : (Ω ++ L).length = Ω.length + L.length := List.length_append
  have len1 : (Ω ++ [o]).length = Ω.length + 1 := by simp
  have ix : ∀ k, k < Ω.length + 1 → (if k = Ω.length then Ω.length + j else k) < (Ω ++ L).length := fun k hk => by
    split <;> omega
  have inj : ∀ k m, k < Ω.length + 1 → m < Ω.length + 1 → k ≠ m → (if k = Ω.length then Ω.length + j else k) ≠ (if m = Ω.length then Ω.length + j else m) := fun k m hk hm ne => by
    split <;> split <;> omega
  refine ⟨fun k => ts (if k = Ω.length then Ω.length + j else k), fun k x r => ?_, h2, fun k r => h3 _ (ix k (by omega)), fun k b x r e => h4 _ b x (ix k (by omega)) e, fun k m b x r r2 ne e => h5 _ _ b x (ix k (by omega)) (ix m (by omega)) (inj k m (by omega) (by omega) ne) e⟩
  by_cases hk : k = Ω.length
  · subst hk
    rw [app_at] at r
    cases r
    show o.P F (ts (if Ω.length = Ω.length then Ω.length + j else Ω.length))
    rw [if_pos rfl]
    refine h1 _ _ ?_
    rw [List.getElem?_append_right (by omega), Nat.add_sub_cancel_left]
    exact q
  · have lt : k < Ω.length := by have := getlt r; omega
    show x.P F (ts (if k = Ω.length then Ω.length + j else k))
    rw [if_neg hk]
    rw [List.getElem?_append_left lt] at r
    refine h1 _ _ ?_
    rw [List.getElem?_append_left lt]
    exact r
theorem Holds.all {F H : Hp} {Ω : List OA} {ks : List (Nat × OA)} {L : List OA} (h : Holds F (stt Ω ks L) H) : Holds F (stt Ω ks []) H := by
  obtain ⟨ts, h1, h2, h3, h4, h5⟩ := h
  have len : (stt Ω ks L).length = (apk Ω ks).length + L.length := List.length_append
  have e : stt Ω ks [] = apk Ω ks := stt_nil
  rw [e]
  exact ⟨ts, fun i o q => h1 i o (by unfold stt; rw [List.getElem?_append_left (getlt q)]; exact q), h2, fun i q => h3 i (by omega), fun i b x q => h4 i b x (by omega), fun i j b x qi qj => h5 i j b x (by omega) (by omega)⟩
theorem RT.all {Q : VK} {A : VA} {ks : List (Nat × OA)} {L : List OA} (k : RT F0 (RV A (stt Ω ks [])) Q) : RT F0 (RV A (stt Ω ks L)) Q := fun F v H Ω' f hh ⟨a, e⟩ => by
  subst e
  exact k F v H _ f hh.all ⟨a, rfl⟩
theorem RT.allN {Q : VK} {o : Addr → OA} {ks : List (Nat × OA)} {L : List OA} (k : RT F0 (RN (stt Ω ks []) o) Q) : RT F0 (RN (stt Ω ks L) o) Q := fun F v H Ω' f hh ⟨p, a, e⟩ => by
  subst e
  rw [stt_app] at hh
  refine k F v H _ f (Holds.sel (Ω := apk Ω ks) (o := o p) (j := L.length) hh app_at) ⟨p, a, ?_⟩
  rw [stt_nil]
/-! ### loops -/
inductive Stp (S ρ : Type) where
  | nx (s : S) | rt (r : ρ) | bk (s : S)
def whileM {S ρ : Type} (c : S → Option Bool) (b : S → Option (Stp S ρ)) : Nat → S → Option (Stp S ρ)
  | 0, _ => none
  | n + 1, s => (c s).bind fun v => if v = true then (b s).bind fun
      | .nx s' => whileM c b n s'
      | .rt r => some (.rt r)
      | .bk s' => some (.nx s')
    else some (.nx s)
def forM' {α S ρ : Type} (b : α → S → Option (Stp S ρ)) : List α → S → Option (Stp S ρ)
  | [], s => some (.nx s)
  | x :: r, s => (b x s).bind fun
      | .nx s' => forM' b r s'
      | .rt v => some (.rt v)
      | .bk s' => some (.nx s')
/-- what a loop hands on -/
def nxt {S ρ : Type} : Stp S ρ → Option S
  | .nx s => some s
  | _ => none
def aft {S ρ : Type} (st : Stp S ρ) (k : S → Option ρ) : Option ρ := match st with
  | .nx s => k s
  | .rt r => some r
  | .bk _ => none
/-- what a block's end must lead to: st by the block's own word -/
structure To {S ρ : Type} (D : Ends) (F0 : Hp) (st : Stp S ρ) (N B : S → St → Hp → Prop) (RR : ρ → Hp → V → List OA → Prop) : Prop where
  nx : ∀ s, st = .nx s → ∀ σ H, N s σ H → D.nx σ H
  ct : ∀ s, st = .nx s → ∀ σ H, N s σ H → D.ct σ H
  bk : ∀ s, st = .bk s → ∀ σ H, B s σ H → D.bk σ H
  rt : ∀ r, st = .rt r → RT F0 (RR r) D.rt
theorem bnd_some {α β : Type} {o : Option α} {f : α → Option β} {r : β} (h : o.bind f = some r) : ∃ a, o = some a ∧ f a = some r := by
  cases o with
  | none => cases h
  | some a => exact ⟨a, rfl, h⟩
theorem xs_while {S ρ : Type} {c : S → Option Bool} {bd : S → Option (Stp S ρ)} {fuel : Nat} {s0 : S} {st : Stp S ρ} {tc : TT} {tb : TS} (G : S → List (Option VA)) (O : S → List OA) (RR : ρ → Hp → V → List OA → Prop)
    (hm : whileM c bd fuel s0 = some st)
    (hc : ∀ s v, c s = some v → XT tc (G s) (O s) v (O s))
    (hb : ∀ s s', c s = some true → bd s = some s' → ∀ F1 D', Same F0 F1 → To D' F1 s' (fun s => NX F1 (G s) (O s)) (fun s => NX F1 (G s) (O s)) RR → XS tb D' F1 (G s) (O s))
    (hn : ∀ s, st = .nx s → ∀ σ H, NX F0 (G s) (O s) σ H → D.nx σ H) (hr : ∀ r, st = .rt r → RT F0 (RR r) D.rt) : XS (tWhile tc tb) D F0 (G s0) (O s0) := by
  intro σ H n0
  refine ⟨fun m σ H => ∃ s, whileM c bd m s = some st ∧ NX F0 (G s) (O s) σ H, ⟨fuel, s0, hm, n0⟩, ?_⟩
  rintro m σ H ⟨s, hs, F, f0, e, hh⟩
  cases m with
  | zero => cases hs
  | succ m =>
    obtain ⟨v, hv, hs⟩ := bnd_some hs
    refine hc s v hv F σ H e hh _ fun F1 H1 e1 hh1 => ?_
    cases v with
    | false =>
      rw [if_neg Bool.false_ne_true]
      rw [if_neg Bool.false_ne_true] at hs
      cases hs
      exact hn s rfl σ H1 ⟨F1, f0.trans e1, e.mono e1, hh1⟩
    | true =>
      rw [if_pos rfl] at hs ⊢
      obtain ⟨s', hs', hs⟩ := bnd_some hs
      have hN : ∀ σ' H', (∃ s2, s' = .nx s2 ∧ NX F0 (G s2) (O s2) σ' H') → ∃ m', m' < m + 1 ∧ ∃ s, whileM c bd m' s = some st ∧ NX F0 (G s) (O s) σ' H' := by
        rintro σ' H' ⟨s2, rfl, n2⟩
        exact ⟨m, Nat.lt_succ_self _, s2, hs, n2⟩
      refine ⟨fun σ' H' => ∃ s2, s' = .nx s2 ∧ NX F0 (G s2) (O s2) σ' H', hN, ?_⟩
      refine hb s s' hv hs' F0 { D with nx := fun σ' H' => ∃ s2, s' = .nx s2 ∧ NX F0 (G s2) (O s2) σ' H', ct := fun σ' H' => ∃ s2, s' = .nx s2 ∧ NX F0 (G s2) (O s2) σ' H', bk := D.nx } (Same.refl _) ⟨fun s2 z σ' H' n2 => ⟨s2, z, n2⟩, fun s2 z σ' H' n2 => ⟨s2, z, n2⟩, fun s2 z σ' H' n2 => ?_, fun r z => ?_⟩ σ H1 ⟨F1, f0.trans e1, e.mono e1, hh1⟩
      · subst z
        cases hs
        exact hn s2 rfl σ' H' n2
      · subst z
        cases hs
        exact hr r rfl
/-- what a for's target does with its item -/
def Tgt (g : TG) (A : VA) (f : List (Option VA) → List (Option VA)) (js : List Nat) : Prop := ∀ F σ Γ x H Ω, Env F σ Γ → Holds F Ω H → A.P F x → ∀ Q : L2.St → Hp → Prop,
  (∀ F' σ' H', Same F F' → Env F' σ' (f Γ) → Holds F' Ω H' → (∀ vs, (∀ j ∈ js, j ∈ vs) → wipe σ' vs = wipe σ vs) → Q σ' H') → g x σ H Q
theorem wipe_set {σ : L2.St} {j : Nat} {v : Option V} : ∀ {vs : List Nat}, j ∈ vs → wipe (σ.set j v) vs = wipe σ vs := by
  intro vs hj
  apply List.ext_getElem?
  intro k
  have len : (wipe (σ.set j v) vs).length = (wipe σ vs).length := by rw [wipe_length, wipe_length, List.length_set]
  by_cases hk : k ∈ vs
  · have : ∀ (τ : L2.St) (vs : List Nat), k ∈ vs → k < τ.length → (wipe τ vs)[k]? = some none := by
      intro τ vs
      induction vs with
      | nil => intro h; cases h
      | cons a r ih =>
        intro h lt
        unfold wipe
        by_cases ha : a = k
        · subst ha; rw [List.getElem?_set_self (by rw [wipe_length]; exact lt)]
        · rw [List.getElem?_set_ne ha]
          rcases List.mem_cons.mp h with z | z
          · exact absurd z.symm ha
          · exact ih z lt
    by_cases lt : k < σ.length
    · rw [this σ vs hk lt, this _ vs hk (by rw [List.length_set]; exact lt)]
    · rw [List.getElem?_eq_none (by rw [wipe_length, List.length_set]; omega), List.getElem?_eq_none (by rw [wipe_length]; omega)]
  · rw [wipe_out hk, wipe_out hk]
    have ne : j ≠ k := fun e => hk (e ▸ hj)
    rw [List.getElem?_set_ne ne]
theorem tgt_name {k : Nat} : Tgt (gName k) A (fun Γ => Γ.set k (some A)) [k] := fun F σ Γ x H Ω e hh a Q q => q F _ H (Same.refl F) (e.set a) hh fun vs h => wipe_set (h k List.mem_cons_self)
theorem tgt_pair {α β : Type} [Rp α] [Rp β] {x : α × β} {k l : Nat} : Tgt (gTup T.K 2 (gCons (gName k) (gCons (gName l) gNil))) (va T x) (fun Γ => (Γ.set k (some (va T x.1))).set l (some (va T x.2))) [k, l] := fun F σ Γ v H Ω e hh a Q q => by
  obtain ⟨p, y, z, rfl, ht, ry, rz⟩ := a
  refine ⟨p, [y, z], rfl, Same.tup hh.same ht, rfl, y, [z], rfl, z, [], rfl, rfl, ?_⟩
  exact q F _ H (Same.refl F) ((e.set (A := va T x.1) ry).set (A := va T x.2) rz) hh fun vs h => (wipe_set (h l (by simp))).trans (wipe_set (h k (by simp)))
theorem tgt_triple {α β γ : Type} [Rp α] [Rp β] [Rp γ] {x : T3 α β γ} {k l m : Nat} : Tgt (gTup T.K 3 (gCons (gName k) (gCons (gName l) (gCons (gName m) gNil)))) (va T x) (fun Γ => ((Γ.set k (some (va T x.a))).set l (some (va T x.b))).set m (some (va T x.c))) [k, l, m] := fun F σ Γ v H Ω e hh a Q q => by
  obtain ⟨p, y, z, w, rfl, ht, ry, rz, rw⟩ := a
  refine ⟨p, [y, z, w], rfl, Same.tup hh.same ht, rfl, y, [z, w], rfl, z, [w], rfl, w, [], rfl, rfl, ?_⟩
  exact q F _ H (Same.refl F) (((e.set (A := va T x.a) ry).set (A := va T x.b) rz).set (A := va T x.c) rw) hh fun vs h => (wipe_set (h m (by simp))).trans ((wipe_set (h l (by simp))).trans (wipe_set (h k (by simp))))
structure Wk {α : Type} (J : It) (Sx : Hp → Prop) (xs : List α) (A : α → VA) : Prop where
  mono : ∀ F F', Same F F' → Sx F → Sx F'
  go : ∀ (i : Nat) F Ω H, Sx F → Holds F Ω H → i < xs.length → J.go i H
  stop : ∀ F Ω H, Sx F → Holds F Ω H → J.stop xs.length H
  yld : ∀ (i : Nat) a F Ω H x H', Sx F → Holds F Ω H → xs[i]? = some a → J.yld i H x H' → ∃ F', Same F F' ∧ Holds F' Ω H' ∧ (A a).P F' x
def XI {α : Type} (wi : TI) (Γ : List (Option VA)) (Ω : List OA) (xs : List α) (A : α → VA) (Ω2 : List OA) : Prop :=
  ∀ F σ H, Env F σ Γ → Holds F Ω H → ∀ R : It → Hp → Prop, (∀ F' J H' Sx, Same F F' → Holds F' Ω2 H' → Wk J Sx xs A → Sx F' → R J H') → wi σ H R
theorem xs_for {α S ρ : Type} {bd : α → S → Option (Stp S ρ)} {s0 : S} {st : Stp S ρ} {wi : TI} {tb : TS} {g : TG} {xs : List α} {A : α → VA} {f : α → List (Option VA) → List (Option VA)} (G : S → List (Option VA)) (O : S → List OA) (RR : ρ → Hp → V → List OA → Prop)
    (hm : forM' bd xs s0 = some st) (hi : XI wi (G s0) Ω xs A (O s0)) {js : List Nat} (ht : ∀ a, Tgt g (A a) (f a) js)
    (hb : ∀ a s s', a ∈ xs → bd a s = some s' → ∀ F1 D', Same F0 F1 → To D' F1 s' (fun s => NX F1 (G s) (O s)) (fun s => NX F1 (G s) (O s)) RR → XS tb D' F1 (f a (G s)) (O s))
    (hn : ∀ s, st = .nx s → ∀ σ H, NX F0 (G s) (O s) σ H → D.nx σ H) (hr : ∀ r, st = .rt r → RT F0 (RR r) D.rt) : XS (tFor wi g tb) D F0 (G s0) Ω := by
  rintro σ H ⟨F, f0, e, hh⟩
  refine hi F σ H e hh _ fun F1 J H1 Sx e1 hh1 W sx => ?_
  refine ⟨fun i m σ H => m = xs.length - i ∧ i ≤ xs.length ∧ ∃ s F, forM' bd (xs.drop i) s = some st ∧ Same F0 F ∧ Sx F ∧ Env F σ (G s) ∧ Holds F (O s) H, ⟨xs.length, by simp, Nat.zero_le _, s0, F1, by rw [List.drop_zero]; exact hm, f0.trans e1, sx, e.mono e1, hh1⟩, ?_⟩
  rintro i m σ H ⟨rfl, hi, s, F, hs, f0, sx, e, hh⟩
  by_cases hlt : i < xs.length
  · refine .inr ⟨W.go i F (O s) H sx hh hlt, ?_⟩
    have hx : xs[i]? = some xs[i] := List.getElem?_eq_getElem hlt
    rw [List.drop_eq_getElem_cons hlt] at hs
    obtain ⟨s', h1, hs⟩ := bnd_some hs
    refine ⟨fun σ' H' => ∃ s2, s' = .nx s2 ∧ ∃ F, Same F0 F ∧ Sx F ∧ Env F σ' (G s2) ∧ Holds F (O s2) H', ?_, fun x H' y => ?_⟩
    · rintro σ' H' ⟨s2, rfl, F', f0', sx', e', hh'⟩
      exact ⟨xs.length - (i + 1), by omega, rfl, hlt, s2, F', hs, f0', sx', e', hh'⟩
    · obtain ⟨F2, e2, hh2, a2⟩ := W.yld i _ F (O s) H x H' sx hh hx y
      refine ht xs[i] F2 σ (G s) x H' (O s) (e.mono e2) hh2 a2 _ fun F3 σ3 H3 e3 en3 hh3 _ => ?_
      have sx3 := W.mono _ _ (e2.trans e3) sx
      have f3 : Same F0 F3 := f0.trans (e2.trans e3)
      have gN : ∀ (s2 : S) (σ' : L2.St) (H' : Hp), NX F3 (G s2) (O s2) σ' H' → ∃ F, Same F0 F ∧ Sx F ∧ Env F σ' (G s2) ∧ Holds F (O s2) H' := fun s2 σ' H' ⟨F4, f4, e4, hh4⟩ => ⟨F4, f3.trans f4, W.mono _ _ f4 sx3, e4, hh4⟩
      have gW : ∀ (s2 : S) (σ' : L2.St) (H' : Hp), NX F3 (G s2) (O s2) σ' H' → NX F0 (G s2) (O s2) σ' H' := fun s2 σ' H' ⟨F4, f4, e4, hh4⟩ => ⟨F4, f3.trans f4, e4, hh4⟩
      refine hb xs[i] s s' (List.getElem_mem hlt) h1 F3 { D with nx := fun σ' H' => ∃ s2, s' = .nx s2 ∧ ∃ F, Same F0 F ∧ Sx F ∧ Env F σ' (G s2) ∧ Holds F (O s2) H', ct := fun σ' H' => ∃ s2, s' = .nx s2 ∧ ∃ F, Same F0 F ∧ Sx F ∧ Env F σ' (G s2) ∧ Holds F (O s2) H', bk := D.nx } f3 ⟨fun s2 z σ' H' n2 => ⟨s2, z, gN s2 σ' H' n2⟩, fun s2 z σ' H' n2 => ⟨s2, z, gN s2 σ' H' n2⟩, fun s2 z σ' H' n2 => ?_, fun r z => ?_⟩ σ3 H3 ⟨F3, Same.refl _, en3, hh3⟩
      · subst z
        cases hs
        exact hn s2 rfl σ' H' (gW s2 σ' H' n2)
      · subst z
        cases hs
        exact (hr r rfl).mono f3
  · have ei : i = xs.length := by omega
    subst ei
    refine .inl ⟨W.stop F (O s) H sx hh, ?_⟩
    rw [List.drop_length] at hs
    cases hs
    exact hn s rfl σ H ⟨F, f0, e, hh⟩
theorem xs_whileS {S ρ : Type} {c : S → Option Bool} {bd : S → Option (Stp S ρ)} {fuel : Nat} {s0 : S} {st : Stp S ρ} {tc : TT} {tb : TS} (G : S → List (Option VA)) (O : S → List OA) (RR : ρ → Hp → V → List OA → Prop)
    (hm : whileM c bd fuel s0 = some st)
    (hc : ∀ s v, c s = some v → XT tc (G s) (O s) v (O s))
    (hb : ∀ s s', c s = some true → bd s = some s' → ∀ F1 D', Same F0 F1 → To D' F1 s' (fun s => NX F1 (G s) (O s)) (fun s => NX F1 (G s) (O s)) RR → XS tb D' F1 (G s) (O s))
    (hn : ∀ s, st = .nx s → XS ts D F0 (G s) (O s)) (hr : ∀ r, st = .rt r → RT F0 (RR r) D.rt) : XS (tSeq (tWhile tc tb) ts) D F0 (G s0) (O s0) :=
  xs_seq (xs_while G O RR hm hc hb (fun s e σ H n => hn s e σ H n) hr)
theorem xs_forS {α S ρ : Type} {bd : α → S → Option (Stp S ρ)} {s0 : S} {st : Stp S ρ} {wi : TI} {tb : TS} {g : TG} {xs : List α} {A : α → VA} {f : α → List (Option VA) → List (Option VA)} (G : S → List (Option VA)) (O : S → List OA) (RR : ρ → Hp → V → List OA → Prop)
    (hm : forM' bd xs s0 = some st) (hi : XI wi (G s0) Ω xs A (O s0)) {js : List Nat} (ht : ∀ a, Tgt g (A a) (f a) js)
    (hb : ∀ a s s', a ∈ xs → bd a s = some s' → ∀ F1 D', Same F0 F1 → To D' F1 s' (fun s => NX F1 (G s) (O s)) (fun s => NX F1 (G s) (O s)) RR → XS tb D' F1 (f a (G s)) (O s))
    (hn : ∀ s, st = .nx s → XS ts D F0 (G s) (O s)) (hr : ∀ r, st = .rt r → RT F0 (RR r) D.rt) : XS (tSeq (tFor wi g tb) ts) D F0 (G s0) Ω :=
  xs_seq (xs_for G O RR hm hi ht hb (fun s e σ H n => hn s e σ H n) hr)
end
end VL

set_option Elab.async false
set_option linter.all false
set_option maxRecDepth 100000
/-! lists, fields, the machine, the numbers, defs -/
namespace VL
open PySem L2

theorem alA_map {α : Type} [Rp α] {T : TC} {F : Hp} : ∀ {vs : List V} {l : List α}, AlA F vs (l.map (va T)) → Al T F vs l
  | _, [], h => by cases h; exact .nil
  | _, a :: r, h => by cases h with | cons h t => exact .cons h (alA_map t)
def cut {α : Type} (l : List α) (lo hi : Option Int) : List α := (l.drop (HT.sIx l.length 0 lo)).take (HT.sIx l.length l.length hi - HT.sIx l.length 0 lo)
theorem cut_len {α : Type} (l : List α) (lo hi : Option Int) : (cut l lo hi).length ≤ l.length := by
  unfold cut
  rw [List.length_take, List.length_drop]
  omega
theorem al_cut {α : Type} [Rp α] {T : TC} {F : Hp} {vs : List V} {l : List α} (lo hi : Option Int) (h : Al T F vs l) : Al T F (cutV vs lo hi) (cut l lo hi) := by
  unfold cut cutV
  rw [al_len h]
  exact al_take _ (al_drop _ h)
theorem al_at {α : Type} [Rp α] {T : TC} {F : Hp} {vs : List V} {l : List α} {i : Int} {a : α} (h : Al T F vs l) (e : atI l i = some a) : ∃ v, atI vs i = some v ∧ Rp.rep T F v a := by
  unfold atI at e ⊢
  rw [al_len h]
  cases hx : ixN l.length i with
  | none => rw [hx] at e; cases e
  | some k =>
    rw [hx] at e
    exact al_get h e

section
variable {T : TC} {Γ : List (Option VA)} {Ω Ω1 Ω2 Ω3 : List OA} {A B C : VA} {As : List VA} {ta tb te : TE} {t u : TT} {i j n m : Int} {b c : Bool} {α : Type} [Rp α] {l l2 : List α} {F0 : Hp} {D : Ends} {ts : TS}

/-! ### what a list holds, whoever holds it -/
def IsL (T : TC) (Ω : List OA) (A : VA) (l : List α) : Prop := ∀ F H v, Holds F Ω H → A.P F v → ∃ p vs, v = .ref p ∧ SqL T.K H p vs ∧ Al T F vs l
def IsLs (T : TC) (Ω : List OA) (A : VA) (l : List α) : Prop := ∀ F H v, Holds F Ω H → A.P F v → ∃ p vs, v = .ref p ∧ H p = some (.lst vs) ∧ Al T F vs l
def IsT (T : TC) (Ω : List OA) (A : VA) (l : List α) : Prop := ∀ F H v, Holds F Ω H → A.P F v → ∃ p vs, v = .ref p ∧ SqT T.K H p vs ∧ Al T F vs l
theorem isLs_LF : IsLs T Ω (va T (LF.mk l)) l := fun F H v hh ⟨p, vs, h1, h2, h3⟩ => ⟨p, vs, h1, hh.same _ _ h2, h3⟩
theorem isL_LF : IsL T Ω (va T (LF.mk l)) l := fun F H v hh ⟨p, vs, h1, h2, h3⟩ => ⟨p, vs, h1, SqL.of (hh.same _ _ h2), h3⟩
theorem isL_SF : IsL T Ω (va T (SF.mk l)) l := fun F H v hh ⟨p, vs, h1, h2, h3⟩ => ⟨p, vs, h1, hh.same.seq h2, h3⟩
theorem isT_TF : IsT T Ω (va T (TF.mk l)) l := fun F H v hh ⟨p, vs, h1, h2, h3⟩ => ⟨p, vs, h1, Same.tup hh.same h2, h3⟩
theorem isLs_M {k : Nat} {p : Addr} (h : Ω[k]? = some (lstA T p l)) : IsLs T Ω (vr p) l := fun F H v hh e => by
  obtain ⟨t, ⟨vs, h1, h2⟩, st, _⟩ := hh.get h
  exact ⟨p, vs, e, st _ _ h1, h2⟩
theorem isL_M {k : Nat} {p : Addr} (h : Ω[k]? = some (lstA T p l)) : IsL T Ω (vr p) l := fun F H v hh e => by
  obtain ⟨t, ⟨vs, h1, h2⟩, st, _⟩ := hh.get h
  exact ⟨p, vs, e, SqL.of (st _ _ h1), h2⟩

def rLen (K : PySem.W.Frag) : List V → Hp → VK → Prop := fun xs H Q => ∃ p ys, xs = [.ref p] ∧ (SqL K H p ys ∨ SqT K H p ys) ∧ Q (.int ys.length) H
theorem cr_len {X : Cx} : CallR X (.builtin "len") (rLen X.K) := call_len_seq
theorem alA1 {F : Hp} {vs : List V} (h : AlA F vs [A]) : ∃ v, vs = [v] ∧ A.P F v := by
  cases h with
  | cons h t => cases t; exact ⟨_, rfl, h⟩
theorem alA2 {F : Hp} {vs : List V} (h : AlA F vs [A, B]) : ∃ v w, vs = [v, w] ∧ A.P F v ∧ B.P F w := by
  cases h with
  | cons h t => cases t with | cons h2 t => cases t; exact ⟨_, _, rfl, h, h2⟩
theorem rc_lenL (h : IsL T Ω A l) : RC (rLen T.K) Ω [A] (va T (l.length : Int)) := fun F H vs hh a Q q => by
  obtain ⟨v, rfl, a1⟩ := alA1 a
  obtain ⟨p, ws, e, hs, al⟩ := h F H v hh a1
  refine ⟨p, ws, by rw [e], .inl hs, q F _ H (Same.refl F) hh ?_⟩
  show V.int _ = V.int _
  rw [al_len al]
theorem xe_lenL (ha : XE te Γ Ω A Ω1) (h : IsL T Ω1 A l) : XE (tCB (rLen T.K) (tCons te tNil)) Γ Ω (va T (l.length : Int)) Ω1 := xe_cb (xa_cons ha xa_nil) (rc_lenL h)
theorem ro_ixL {a : α} (h : IsL T Ω A l) (e : atI l i = some a) : RO (rIx T.K) Ω A (va T i) (va T a) := fun F H x y hh a1 a2 Q q => by
  obtain ⟨p, ws, rfl, hs, al⟩ := h F H x hh a1
  obtain ⟨v, hv, rv⟩ := al_at al e
  exact .inl ⟨p, ws, i, v, rfl, a2, hs, hv, q F v H (Same.refl F) hh rv⟩
/-! new lists -/
theorem xe_lst {ta : TA} (h : XA ta Γ Ω (l.map (va T)) Ω1) (hz : l.length ≤ sizeLine) : XE (tLst ta) Γ Ω (va T (LF.mk l)) Ω1 := fun F σ H e hh Q q => by
  refine h F σ H e hh _ fun F1 xs H1 e1 hh1 a1 => ?_
  have al := alA_map a1
  refine ⟨by rw [al_len al]; exact hz, fun p hp => ?_⟩
  obtain ⟨hh2, e2⟩ := hh1.newF (u := .lst xs) hp
  exact q _ _ _ _ (e1.trans e2) hh2 ⟨⟨p, xs, rfl, upd_same, al.mono e2⟩, rfl⟩
theorem xn_lst {ta : TA} (h : XA ta Γ Ω (l.map (va T)) Ω1) (hz : l.length ≤ sizeLine) : XG (tLst ta) Γ Ω (RN Ω1 fun p => lstA T p l) := fun F σ H e hh Q q => by
  refine h F σ H e hh _ fun F1 xs H1 e1 hh1 a1 => ?_
  have al := alA_map a1
  refine ⟨by rw [al_len al]; exact hz, fun p hp => ?_⟩
  exact q F1 _ _ _ e1 (hh1.newL (o := lstA T p l) hp ⟨xs, upd_same, al⟩) ⟨p, rfl, rfl⟩
theorem xe_tup2 {β : Type} [Rp β] {a : α} {x : β} {ta : TA} (h : XA ta Γ Ω [va T a, va T x] Ω1) : XE (tTup ta) Γ Ω (va T (a, x)) Ω1 := fun F σ H e hh Q q => by
  refine h F σ H e hh _ fun F1 xs H1 e1 hh1 a1 => ?_
  obtain ⟨v, w, rfl, h1, h2⟩ := alA2 a1
  refine ⟨by show 2 ≤ sizeLine; decide, fun p hp => ?_⟩
  obtain ⟨hh2, e2⟩ := hh1.newF (u := .tup [v, w]) hp
  exact q _ _ _ _ (e1.trans e2) hh2 ⟨⟨p, v, w, rfl, SqT.of upd_same, Rp.mono e2 h1, Rp.mono e2 h2⟩, rfl⟩
theorem xe_tup3 {β γ : Type} [Rp β] [Rp γ] {a : α} {x : β} {y : γ} {ta : TA} (h : XA ta Γ Ω [va T a, va T x, va T y] Ω1) : XE (tTup ta) Γ Ω (va T (T3.mk a x y)) Ω1 := fun F σ H e hh Q q => by
  refine h F σ H e hh _ fun F1 xs H1 e1 hh1 a1 => ?_
  cases a1 with
  | cons h1 a1 =>
    obtain ⟨v, w, rfl, h2, h3⟩ := alA2 a1
    refine ⟨by show 3 ≤ sizeLine; decide, fun p hp => ?_⟩
    obtain ⟨hh2, e2⟩ := hh1.newF (u := .tup [_, v, w]) hp
    exact q _ _ _ _ (e1.trans e2) hh2 ⟨⟨p, _, v, w, rfl, SqT.of upd_same, Rp.mono e2 h1, Rp.mono e2 h2, Rp.mono e2 h3⟩, rfl⟩
theorem xe_tupF {ta : TA} (h : XA ta Γ Ω (l.map (va T)) Ω1) (hz : l.length ≤ sizeLine) : XE (tTup ta) Γ Ω (va T (TF.mk l)) Ω1 := fun F σ H e hh Q q => by
  refine h F σ H e hh _ fun F1 xs H1 e1 hh1 a1 => ?_
  have al := alA_map a1
  refine ⟨by rw [al_len al]; exact hz, fun p hp => ?_⟩
  obtain ⟨hh2, e2⟩ := hh1.newF (u := .tup xs) hp
  exact q _ _ _ _ (e1.trans e2) hh2 ⟨⟨p, xs, rfl, SqT.of upd_same, al.mono e2⟩, rfl⟩
/-- xs + ys -/
theorem ro_cat (h : IsLs T Ω A l) (h2 : IsLs T Ω B l2) (hz : l.length + l2.length ≤ sizeLine) : RO rCat Ω A B (va T (LF.mk (l ++ l2))) := fun F H x y hh a1 a2 Q q => by
  obtain ⟨p, vs, rfl, hp, al⟩ := h F H x hh a1
  obtain ⟨p2, vs2, rfl, hp2, al2⟩ := h2 F H y hh a2
  refine ⟨p, p2, vs, vs2, rfl, rfl, hp, hp2, by rw [al_len al, al_len al2]; exact hz, fun d hd => ?_⟩
  obtain ⟨hh2, e2⟩ := hh.newF (u := .lst (vs ++ vs2)) hd
  exact q _ _ _ e2 hh2 ⟨d, _, rfl, upd_same, (al_app al al2).mono e2⟩
theorem al_repF {vs : List V} {F : Hp} (h : Al T F vs l) : ∀ n : Nat, Al T F (List.replicate n vs).flatten (List.replicate n l).flatten
  | 0 => .nil
  | n + 1 => by rw [List.replicate_succ, List.flatten_cons, List.replicate_succ, List.flatten_cons]; exact al_app h (al_repF h n)
theorem ro_rep (h : IsLs T Ω A l) (h1 : -(2 ^ 63) ≤ i) (h2 : i < 2 ^ 63) (hz : l.length * i.toNat ≤ sizeLine) : RO rRep Ω A (va T i) (va T (LF.mk (List.replicate i.toNat l).flatten)) := fun F H x y hh a1 a2 Q q => by
  obtain ⟨p, vs, rfl, hp, al⟩ := h F H x hh a1
  refine ⟨p, i, vs, rfl, a2, hp, h1, h2, by rw [al_len al]; exact hz, fun d hd => ?_⟩
  obtain ⟨hh2, e2⟩ := hh.newF (u := .lst (List.replicate i.toNat vs).flatten) hd
  exact q _ _ _ e2 hh2 ⟨d, _, rfl, upd_same, (al_repF al _).mono e2⟩
/-- list(xs) -/
def rList (K : PySem.W.Frag) : List V → Hp → VK → Prop := fun xs H Q => ∃ p ys, xs = [.ref p] ∧ (SqL K H p ys ∨ SqT K H p ys) ∧ ∀ l, H l = none → Q (.ref l) (upd H l (.lst ys))
theorem cr_list {X : Cx} : CallR X (.type "list") (rList X.K) := call_list_of
theorem xe_listT (ha : XE te Γ Ω A Ω1) (h : IsT T Ω1 A l) : XE (tCB (rList T.K) (tCons te tNil)) Γ Ω (va T (LF.mk l)) Ω1 := xe_cb (xa_cons ha xa_nil) fun F H vs hh a Q q => by
  obtain ⟨v, rfl, a1⟩ := alA1 a
  obtain ⟨p, ws, e, hs, al⟩ := h F H v hh a1
  refine ⟨p, ws, by rw [e], .inr hs, fun d hd => ?_⟩
  obtain ⟨hh2, e2⟩ := hh.newF (u := .lst ws) hd
  exact q _ _ _ e2 hh2 ⟨d, _, rfl, upd_same, al.mono e2⟩
/-- tuple(xs): of a list, a new one; of a tuple, itself -/
def rTuple (K : PySem.W.Frag) : List V → Hp → VK → Prop := fun xs H Q => ∃ p ys, xs = [.ref p] ∧ ((SqL K H p ys ∧ ∀ l, H l = none → Q (.ref l) (upd H l (.tup ys))) ∨ (SqT K H p ys ∧ Q (.ref p) H))
theorem cr_tuple {X : Cx} : CallR X (.type "tuple") (rTuple X.K) := call_tuple_of
theorem xe_tupleL (ha : XE te Γ Ω A Ω1) (h : IsL T Ω1 A l) : XE (tCB (rTuple T.K) (tCons te tNil)) Γ Ω (va T (TF.mk l)) Ω1 := xe_cb (xa_cons ha xa_nil) fun F H vs hh a Q q => by
  obtain ⟨v, rfl, a1⟩ := alA1 a
  obtain ⟨p, ws, e, hs, al⟩ := h F H v hh a1
  refine ⟨p, ws, by rw [e], .inl ⟨hs, fun d hd => ?_⟩⟩
  obtain ⟨hh2, e2⟩ := hh.newF (u := .tup ws) hd
  exact q _ _ _ e2 hh2 ⟨d, _, rfl, SqT.of upd_same, al.mono e2⟩
theorem xe_tupleT (ha : XE te Γ Ω (va T (TF.mk l)) Ω1) : XE (tCB (rTuple T.K) (tCons te tNil)) Γ Ω (va T (TF.mk l)) Ω1 := xe_cb (xa_cons ha xa_nil) fun F H vs hh a Q q => by
  obtain ⟨v, rfl, a1⟩ := alA1 a
  obtain ⟨p, ws, e, hs, al⟩ := id a1
  exact ⟨p, ws, by rw [e], .inr ⟨Same.tup hh.same hs, q F _ H (Same.refl F) hh (e ▸ a1)⟩⟩
/-! slices -/
def XO (to : TO) (Γ : List (Option VA)) (Ω : List OA) (o : Option Int) : Prop := ∀ F σ H, Env F σ Γ → Holds F Ω H → ∀ Q : Option Int → Hp → Prop, (∀ F' H', Same F F' → Holds F' Ω H' → Q o H') → to σ H Q
theorem xo_none : XO tNoPart Γ Ω none := fun F σ H e hh Q q => q F H (Same.refl F) hh
theorem xo_some (h : XE te Γ Ω (va T i) Ω) : XO (tPart te) Γ Ω (some i) := fun F σ H e hh Q q => by
  refine h F σ H e hh _ fun F1 x H1 Ω' e1 hh1 ⟨a1, o1⟩ => ?_
  subst o1
  exact ⟨i, a1, q F1 H1 e1 hh1⟩
theorem xe_sliceL {tl th : TO} {lo hi : Option Int} (ha : XE te Γ Ω A Ω1) (hl : XO tl Γ Ω1 lo) (hu : XO th Γ Ω1 hi) (h : IsL T Ω1 A l) : XE (tSl (rSlL T.K) te tl th) Γ Ω (va T (LF.mk (cut l lo hi))) Ω1 := fun F σ H e hh Q q => by
  refine ha F σ H e hh _ fun F1 x H1 Ω' e1 hh1 ⟨a1, o1⟩ => ?_
  subst o1
  refine hl F1 σ H1 (e.mono e1) hh1 _ fun F2 H2 e2 hh2 => ?_
  refine hu F2 σ H2 ((e.mono e1).mono e2) hh2 _ fun F3 H3 e3 hh3 => ?_
  obtain ⟨p, ws, rfl, hs, al⟩ := h F3 H3 x hh3 (A.mono (e2.trans e3) a1)
  refine ⟨p, ws, rfl, hs, fun d hd => ?_⟩
  obtain ⟨hh4, e4⟩ := hh3.newF (u := .lst (cutV ws lo hi)) hd
  exact q _ _ _ _ (((e1.trans e2).trans e3).trans e4) hh4 ⟨⟨d, _, rfl, upd_same, (al_cut lo hi al).mono e4⟩, rfl⟩
theorem xe_revL (ha : XE te Γ Ω A Ω1) (h : IsL T Ω1 A l) : XE (tRevL T.K te) Γ Ω (va T (LF.mk l.reverse)) Ω1 := fun F σ H e hh Q q => by
  refine ha F σ H e hh _ fun F1 x H1 Ω' e1 hh1 ⟨a1, o1⟩ => ?_
  subst o1
  obtain ⟨p, ws, rfl, hs, al⟩ := h F1 H1 x hh1 a1
  refine ⟨p, ws, rfl, hs, fun d hd => ?_⟩
  obtain ⟨hh4, e4⟩ := hh1.newF (u := .lst ws.reverse) hd
  exact q _ _ _ _ (e1.trans e4) hh4 ⟨⟨d, _, rfl, upd_same, (al_rev al).mono e4⟩, rfl⟩
/-! lists that change -/
theorem xe_app {k : Nat} {p : Addr} {a : α} (h0 : Ω[k]? = some (lstA T p l2)) (hk : Ω1[k]? = some (lstA T p l)) (ha : XE ta Γ Ω (vr p) Ω) (hb : XE tb Γ Ω (va T a) Ω1) (hz : l.length < sizeLine) :
    XE (tBM T.K "list" rAppend ta (tCons tb tNil)) Γ Ω (va T ()) (Ω1.set k (lstA T p (l ++ [a]))) := fun F σ H e hh Q q => by
  refine ha F σ H e hh _ fun F1 x H1 Ω' e1 hh1 ⟨a1, o1⟩ => ?_
  subst o1
  obtain ⟨p0, vs0, e0, h00, _⟩ := isLs_M h0 F1 H1 x hh1 a1
  have a1 : x = .ref p := a1
  subst a1
  cases e0
  refine ⟨.inl ⟨rfl, _, SqL.of h00⟩, ?_⟩
  refine hb F1 σ H1 (e.mono e1) hh1 _ fun F2 y H2 Ω'' e2 hh2 ⟨a2, o2⟩ => ?_
  subst o2
  obtain ⟨t, ⟨vs, h1, al⟩, st, _, wr⟩ := hh2.get hk
  refine ⟨p, vs, y, rfl, rfl, st _ _ h1, by rw [al_len al]; exact hz, ?_⟩
  exact q F2 _ _ _ (e1.trans e2) (wr (lstA T p (l ++ [a])) p _ _ h1 ⟨_, upd_same, al_app al (.cons a2 .nil)⟩) ⟨rfl, rfl⟩
/-- xs[i] = e, xs a name's own list -/
theorem xs_setL {k : Nat} {p : Addr} {a : α} {to ti : TE} {jn : Nat} (hv : XE te Γ Ω (va T a) Ω1) (ho : XE to Γ Ω1 (vr p) Ω1) (hi : XE ti Γ Ω1 (va T i) Ω1) (hk : Ω1[k]? = some (lstA T p l)) (hj : ixN l.length i = some jn) (q : XS ts D F0 Γ (Ω1.set k (lstA T p (l.set jn a)))) :
    XS (tSeq (tAsg te (gSub to ti rSetL)) ts) D F0 Γ Ω := fun σ H ⟨F, f0, e, hh⟩ => by
  refine hv F σ H e hh _ fun F1 v H1 Ω' e1 hh1 ⟨a1, o1⟩ => ?_
  subst o1
  refine ho F1 σ H1 (e.mono e1) hh1 _ fun F2 o H2 Ω' e2 hh2 ⟨a2, o2⟩ => ?_
  subst o2
  refine hi F2 σ H2 ((e.mono e1).mono e2) hh2 _ fun F3 x H3 Ω' e3 hh3 ⟨a3, o3⟩ => ?_
  subst o3
  obtain ⟨t, ⟨vs, h1, al⟩, st, _, wr⟩ := hh3.get hk
  refine ⟨p, vs, i, jn, a2, a3, st _ _ h1, by rw [al_len al]; exact hj, ?_⟩
  exact q σ _ ⟨F3, f0.trans ((e1.trans e2).trans e3), ((e.mono e1).mono e2).mono e3, wr (lstA T p (l.set jn a)) p _ _ h1 ⟨_, upd_same, al_set (Rp.mono (e2.trans e3) a1) jn al⟩⟩
/-! walks -/
theorem wk_list {p : Addr} {vs : List V} : Wk (Itl T.K p) (fun F => SqL T.K F p vs ∧ Al T F vs l) l (fun a => va T a) where
  mono := fun F F' e ⟨h1, h2⟩ => ⟨e.seq h1, h2.mono e⟩
  go := fun i F Ω H ⟨h1, h2⟩ hh hi => ⟨vs, vs[i]'(by rw [al_len h2]; exact hi), hh.same.seq h1, List.getElem?_eq_getElem _⟩
  stop := fun F Ω H ⟨h1, h2⟩ hh => ⟨vs, hh.same.seq h1, by rw [al_len h2]; exact Nat.le_refl _⟩
  yld := fun i a F Ω H x H' ⟨h1, h2⟩ hh hx y => by
    obtain ⟨e, y⟩ := y
    subst e
    obtain ⟨v, hv, rv⟩ := al_get h2 hx
    have ev := y vs (hh.same.seq h1)
    rw [hv] at ev
    cases ev
    exact ⟨F, Same.refl F, hh, rv⟩
theorem wk_tup {p : Addr} {vs : List V} : Wk (Itt T.K p) (fun F => SqT T.K F p vs ∧ Al T F vs l) l (fun a => va T a) where
  mono := fun F F' e ⟨h1, h2⟩ => ⟨Same.tup e h1, h2.mono e⟩
  go := fun i F Ω H ⟨h1, h2⟩ hh hi => ⟨vs, vs[i]'(by rw [al_len h2]; exact hi), Same.tup hh.same h1, List.getElem?_eq_getElem _⟩
  stop := fun F Ω H ⟨h1, h2⟩ hh => ⟨vs, Same.tup hh.same h1, by rw [al_len h2]; exact Nat.le_refl _⟩
  yld := fun i a F Ω H x H' ⟨h1, h2⟩ hh hx y => by
    obtain ⟨e, y⟩ := y
    subst e
    obtain ⟨v, hv, rv⟩ := al_get h2 hx
    have ev := y vs (Same.tup hh.same h1)
    rw [hv] at ev
    cases ev
    exact ⟨F, Same.refl F, hh, rv⟩
theorem wk_range {n : Nat} {lo : Int} : Wk (Itr lo n) (fun _ => True) ((List.range n).map fun (k : Nat) => lo + (k : Int)) (fun a => va T a) where
  mono := fun _ _ _ _ => trivial
  go := fun i F Ω H _ _ hi => by
    have hi : i < n := by simpa using hi
    exact hi
  stop := fun F Ω H _ _ => by show n ≤ _; simp
  yld := fun i a F Ω H x H' _ hh hx y => by
    obtain ⟨e, y⟩ := y
    subst e y
    refine ⟨F, Same.refl F, hh, ?_⟩
    show V.int _ = V.int a
    rw [List.getElem?_map] at hx
    cases hr : (List.range n)[i]? with
    | none => rw [hr] at hx; cases hx
    | some k =>
      rw [hr] at hx
      have hk : i = k := by
        obtain ⟨h1, h2⟩ := List.getElem?_eq_some_iff.mp hr
        rw [List.getElem_range] at h2
        exact h2
      subst hk
      cases hx
      rfl
theorem xi_list (ha : XE te Γ Ω A Ω1) (h : ∀ F v, A.P F v → ∃ p vs, v = .ref p ∧ SqL T.K F p vs ∧ Al T F vs l) : XI (iList T.K te) Γ Ω l (fun a => va T a) Ω1 := fun F σ H e hh R r => by
  refine ha F σ H e hh _ fun F1 x H1 Ω' e1 hh1 ⟨a1, o1⟩ => ?_
  subst o1
  obtain ⟨p, vs, rfl, h1, al⟩ := h F1 x a1
  exact ⟨p, rfl, ⟨vs, hh1.same.seq h1⟩, r F1 _ H1 _ e1 hh1 wk_list ⟨h1, al⟩⟩
theorem xi_LF (ha : XE te Γ Ω (va T (LF.mk l)) Ω1) : XI (iList T.K te) Γ Ω l (fun a => va T a) Ω1 := xi_list ha fun F v ⟨p, vs, h1, h2, h3⟩ => ⟨p, vs, h1, SqL.of h2, h3⟩
theorem xi_TF (ha : XE te Γ Ω (va T (TF.mk l)) Ω1) : XI (iTup T.K te) Γ Ω l (fun a => va T a) Ω1 := fun F σ H e hh R r => by
  refine ha F σ H e hh _ fun F1 x H1 Ω' e1 hh1 ⟨a1, o1⟩ => ?_
  subst o1
  obtain ⟨p, vs, rfl, h1, al⟩ := id a1
  exact ⟨p, rfl, ⟨vs, Same.tup hh1.same h1⟩, r F1 _ H1 _ e1 hh1 wk_tup ⟨h1, al⟩⟩
/-- the ints from lo on, so many -/
def rng (lo : Int) (n : Nat) : List Int := (List.range n).map fun (k : Nat) => lo + (k : Int)
theorem xi_range1 {ta : TA} (ha : XA ta Γ Ω [va T i] Ω1) (h1 : -(2 ^ 62) ≤ i) (h2 : i < 2 ^ 62) : XI (iRng1 ta) Γ Ω (rng 0 i.toNat) (fun a => va T a) Ω1 := fun F σ H e hh R r => by
  refine ha F σ H e hh _ fun F1 vs H1 e1 hh1 a1 => ?_
  obtain ⟨v, rfl, b1⟩ := alA1 a1
  have b1 : v = .int i := b1
  subst b1
  exact ⟨i, rfl, h1, h2, r F1 _ H1 _ e1 hh1 wk_range trivial⟩
/-! ### a list comprehension -/
/-- b x s: whether the item is taken, its value, the state behind -/
def lcM {β γ S : Type} (b : β → S → Option (Option γ × S)) : List β → S → Option (List γ × S)
  | [], s => some ([], s)
  | x :: r, s => (b x s).bind fun (o, s') => (lcM b r s').bind fun (ys, s'') => some ((match o with | some y => y :: ys | none => ys), s'')
/-- what is known behind the wiping of the slots vs -/
def wip (Γ : List (Option VA)) : List Nat → List (Option VA)
  | [] => Γ
  | i :: r => (wip Γ r).set i none
theorem env_none {F : Hp} {σ : L2.St} {k : Nat} (h : Env F σ Γ) : Env F (σ.set k none) (Γ.set k none) := by
  refine ⟨by rw [List.length_set, List.length_set]; exact h.1, fun i A q => ?_⟩
  by_cases hk : k = i
  · subst hk
    have lt : k < Γ.length := by have := getlt q; rwa [List.length_set] at this
    rw [List.getElem?_set_self lt] at q
    cases q
  · rw [List.getElem?_set_ne hk] at q
    obtain ⟨w, h1, h2⟩ := h.2 i A q
    exact ⟨w, by rw [List.getElem?_set_ne hk]; exact h1, h2⟩
theorem wip_env {F : Hp} {σ : L2.St} (h : Env F σ Γ) : ∀ vs : List Nat, Env F (wipe σ vs) (wip Γ vs)
  | [] => h
  | i :: r => env_none (wip_env h r)
theorem wipe_wipe {σ : L2.St} (vs : List Nat) : wipe (wipe σ vs) vs = wipe σ vs := by
  have : ∀ (r : List Nat) (τ : L2.St), (∀ i ∈ r, i ∈ vs) → wipe (wipe τ r) vs = wipe τ vs := by
    intro r
    induction r with
    | nil => intro τ _; rfl
    | cons a r ih =>
      intro τ h
      show wipe ((wipe τ r).set a none) vs = _
      rw [wipe_set (h a List.mem_cons_self)]
      exact ih τ fun i hi => h i (List.mem_cons_of_mem _ hi)
  exact this vs σ fun _ h => h
theorem set_last {β : Type} {l : List β} {a b : β} : (l ++ [a]).set l.length b = l ++ [b] := by
  rw [List.set_append_right _ _ (Nat.le_refl _)]; simp
theorem xn_lc {β γ S : Type} [Rp γ] {b : β → S → Option (Option γ × S)} {xs : List β} {s0 s1 : S} {ys : List γ} {wi : TI} {g : TG} {tt : TT} {vs : List Nat} {A : β → VA} {f : β → List (Option VA) → List (Option VA)} {js : List Nat} (O : S → List OA)
    (hm : lcM b xs s0 = some (ys, s1)) (hi : XI wi Γ Ω xs A (O s0)) (ht : ∀ a, Tgt g (A a) (f a) js) (hj : ∀ j ∈ js, j ∈ vs) (hz : xs.length ≤ sizeLine)
    (hb : ∀ a s o s', a ∈ xs → b a s = some (o, s') → ∀ X : OA, (o = none → XT tt (f a (wip Γ vs)) (O s ++ [X]) false (O s' ++ [X])) ∧
      (∀ y, o = some y → XT tt (f a (wip Γ vs)) (O s ++ [X]) true (O s ++ [X]) ∧ XE te (f a (wip Γ vs)) (O s ++ [X]) (va T y) (O s' ++ [X]))) :
    XG (tLc wi g tt te vs) Γ Ω (RN (O s1) fun p => lstA T p ys) := by
  intro F σ H e hh Q q
  refine hi F σ H e hh _ fun F1 J H1 Sx e1 hh1 W sx => fun d hd => ?_
  refine ⟨fun i m H => m = xs.length - i ∧ i ≤ xs.length ∧ ∃ s F acc r, lcM b (xs.drop i) s = some (r, s1) ∧ acc ++ r = ys ∧ acc.length ≤ i ∧ Same F1 F ∧ Sx F ∧ Holds F (O s ++ [lstA T d acc]) H,
    ⟨xs.length, by simp, Nat.zero_le _, s0, F1, [], ys, by rw [List.drop_zero]; exact hm, rfl, Nat.zero_le _, Same.refl _, sx, hh1.newL (o := lstA T d ([] : List γ)) hd ⟨[], upd_same, .nil⟩⟩, ?_⟩
  rintro i m H ⟨rfl, hi, s, F, acc, r, hs, he, hl, f1, sx, hh⟩
  by_cases hlt : i < xs.length
  · refine .inr ⟨W.go i F _ H sx hh hlt, ?_⟩
    have hx : xs[i]? = some xs[i] := List.getElem?_eq_getElem hlt
    rw [List.drop_eq_getElem_cons hlt] at hs
    obtain ⟨⟨o, s'⟩, h1, hs⟩ := bnd_some hs
    obtain ⟨⟨r2, s2⟩, h2, hs⟩ := bnd_some hs
    cases hs
    refine ⟨fun H' => ∃ s F acc r, lcM b (xs.drop (i + 1)) s = some (r, s1) ∧ acc ++ r = ys ∧ acc.length ≤ i + 1 ∧ Same F1 F ∧ Sx F ∧ Holds F (O s ++ [lstA T d acc]) H', fun H' n => ⟨xs.length - (i + 1), by omega, rfl, hlt, n⟩, fun x H' y => ?_⟩
    obtain ⟨F2, e2, hh2, a2⟩ := W.yld i _ F _ H x H' sx hh hx y
    have en : Env F2 (wipe σ vs) (wip Γ vs) := wip_env ((e.mono e1).mono (f1.trans e2)) vs
    refine ht xs[i] F2 (wipe σ vs) (wip Γ vs) x H' _ en hh2 a2 _ fun F3 σ3 H3 e3 en3 hh3 hw => ⟨(hw vs hj).trans (wipe_wipe vs), ?_⟩
    obtain ⟨c1, c2⟩ := hb xs[i] s o s' (List.getElem_mem hlt) h1 (lstA T d acc)
    have f3 : Same F1 F3 := f1.trans (e2.trans e3)
    have sx3 := W.mono _ _ (e2.trans e3) sx
    cases o with
    | none =>
      refine c1 rfl F3 σ3 H3 en3 hh3 _ fun F4 H4 e4 hh4 => ?_
      rw [if_neg Bool.false_ne_true]
      exact ⟨s', F4, acc, r2, h2, he, by omega, f3.trans e4, W.mono _ _ e4 sx3, hh4⟩
    | some y =>
      obtain ⟨c3, c4⟩ := c2 y rfl
      refine c3 F3 σ3 H3 en3 hh3 _ fun F4 H4 e4 hh4 => ?_
      rw [if_pos rfl]
      refine c4 F4 σ3 H4 (en3.mono e4) hh4 _ fun F5 v H5 Ω5 e5 hh5 ⟨a5, o5⟩ => ?_
      subst o5
      have hk : (O s' ++ [lstA T d acc])[(O s').length]? = some (lstA T d acc) := app_at
      obtain ⟨t, ⟨ws, w1, al⟩, st, _, wr⟩ := hh5.get hk
      refine ⟨ws, st _ _ w1, by rw [al_len al]; omega, ?_⟩
      have hh6 := wr (lstA T d (acc ++ [y])) d _ (.lst (ws ++ [v])) w1 ⟨_, upd_same, al_app al (.cons a5 .nil)⟩
      rw [set_last] at hh6
      refine ⟨s', F5, acc ++ [y], r2, h2, by rw [List.append_assoc]; exact he, by rw [List.length_append]; simp; omega, f3.trans (e4.trans e5), W.mono _ _ (e4.trans e5) sx3, hh6⟩
  · have ei : i = xs.length := by omega
    subst ei
    refine .inl ⟨W.stop F _ H sx hh, ?_⟩
    rw [List.drop_length] at hs
    cases hs
    rw [List.append_nil] at he
    subst he
    exact q F (.ref d) H _ (e1.trans f1) hh ⟨d, rfl, rfl⟩
theorem xn_lcS {β γ S : Type} [Rp γ] {b : β → S → Option (Option γ × S)} {xs : List β} {s0 s1 : S} {ys : List γ} {wi : TI} {g : TG} {tt : TT} {vs : List Nat} {A : β → VA} {f : β → List (Option VA) → List (Option VA)} {js : List Nat} {Ω0 : List OA} (ks : S → List (Nat × OA)) (L : S → List OA)
    (hm : lcM b xs s0 = some (ys, s1)) (hi : XI wi Γ Ω0 xs A (stt Ω (ks s0) (L s0))) (ht : ∀ a, Tgt g (A a) (f a) js) (hj : ∀ j ∈ js, j ∈ vs) (hz : xs.length ≤ sizeLine)
    (hb : ∀ a s o s', a ∈ xs → b a s = some (o, s') → ∀ X : OA, (o = none → XT tt (f a (wip Γ vs)) (stt Ω (ks s) (L s ++ [X])) false (stt Ω (ks s') (L s' ++ [X]))) ∧
      (∀ y, o = some y → XT tt (f a (wip Γ vs)) (stt Ω (ks s) (L s ++ [X])) true (stt Ω (ks s) (L s ++ [X])) ∧ XE te (f a (wip Γ vs)) (stt Ω (ks s) (L s ++ [X])) (va T y) (stt Ω (ks s') (L s' ++ [X])))) :
    XG (tLc wi g tt te vs) Γ Ω0 (RN (stt Ω (ks s1) (L s1)) fun p => lstA T p ys) :=
  xn_lc (fun s => stt Ω (ks s) (L s)) hm hi ht hj hz fun a s o s' ha h X => by
    simp only [stt_app]
    exact hb a s o s' ha h X
/-- no test -/
theorem xt_yes : XT tYes Γ Ω true Ω := fun F σ H e hh Q q => q F H (Same.refl F) hh
end
end VL

set_option Elab.async false
set_option linter.all false
set_option maxRecDepth 100000
/-! defs, the machine, the numbers -/
namespace VL
open PySem L2
open PyProof.Rows (envOfC)

/-! ### a def by its body -/
/-- a body at a promise's arguments -/
def Bod (X : Cx) (body : List Stmt) (Γ : List (Option VA)) (Ω : List OA) (F0 : Hp) (R : Hp → V → List OA → Prop) : Prop :=
  ∃ t, PSs X body t ∧ ∀ D : Ends, RT F0 R D.rt → (∀ F σ H Ω', Same F0 F → Holds F Ω' H → R F .non Ω' → D.nx σ H) → XS t D F0 Γ Ω
theorem start_env {F : Hp} {N : List Str} {vs : List V} {As : List VA} (h : AlA F vs As) : Env F (L2.start N vs) (As.map some ++ List.replicate (N.length - As.length) none) := by
  have hl := h.len
  refine ⟨by unfold L2.start; simp [hl], fun i A q => ?_⟩
  by_cases hi : i < As.length
  · rw [List.getElem?_append_left (by simpa using hi), List.getElem?_map] at q
    have : ∀ {vs : List V} {As : List VA} {i : Nat}, AlA F vs As → (As[i]?).map some = some (some A) → ∃ v, vs[i]? = some v ∧ A.P F v := by
      intro vs As i h
      induction h generalizing i with
      | nil => intro q; simp at q
      | cons a t ih =>
        intro q
        cases i with
        | zero => simp at q; subst q; exact ⟨_, rfl, a⟩
        | succ i => simpa using ih (by simpa using q)
    obtain ⟨v, h1, h2⟩ := this h q
    refine ⟨v, ?_, h2⟩
    unfold L2.start
    rw [List.getElem?_append_left (by rw [List.length_map]; exact getlt h1), List.getElem?_map, h1]
    rfl
  · rw [List.getElem?_append_right (by simpa using hi), List.getElem?_replicate] at q
    split at q <;> cases q
section
variable {P : Program} {w : World} {K : PySem.W.Frag} {mg : Str → Option Value} {base : Heap}
theorem fn_ok {x qual : Str} {st : Stmt} {f : Addr} {fd : FuncData} {N ps : List Str} {k : Nat} {Pre : PreT} (F : Fun K x qual st f fd) (S : FnScope N ps (defScope st)) (hl : ∀ As Ω R, Pre As Ω R → As.length = ps.length)
    (hb : ∀ (cdv : Value) (A : Around) (outer : List PySem.Env) (s : Shared) (H : Hp) (E : XK), Room k (A.deeper (envOfC qual (defScope st) s.heap.objs.size f cdv)) → ∀ As Ω R F0, Pre As Ω R →
      Bod (cxOf CX0 P w K mg base N qual (defScope st) f cdv A outer s H E).nox (defBody st) (As.map some ++ List.replicate (N.length - As.length) none) Ω F0 R) : FnOk P w K mg base CX0 (k + 1) f fd ps (mkSp Pre) := by
  refine F.ok S (fun vs H Q E h => ?_) (fun cdv A outer s H vs Q E hr h => ?_)
  · obtain ⟨F, Ω, As, R, hp, ha, _⟩ := h
    rw [ha.len]; exact hl _ _ _ hp
  · obtain ⟨F0, Ω, As, R, hp, ha, hh, hq⟩ := h
    obtain ⟨t, h1, h2⟩ := hb cdv A outer s H E hr As Ω R F0 hp
    refine ⟨t, h1, h2 _ (fun F v H Ω' e hh r => hq F v H Ω' e hh r) (fun F σ H Ω' e hh r => hq F .non H Ω' e hh r) _ _ ⟨F0, Same.refl F0, start_env ha, hh⟩⟩

/-! ### a def that may be called -/
structure Cal (P : Program) (w : World) (K : PySem.W.Frag) (mg : Str → Option Value) (base : Heap) (k : Nat) (x : Str) (ps : List Str) (sp : Sp) : Prop where
  ex : ∃ f fd, FnOk P w K mg base CX0 k f fd ps sp ∧ mg x = some (.ref f) ∧ PySem.W.keepIn K (.ref f) = true ∧ Binds K fd ps []
theorem pe_cal {X : Cx} {k : Nat} {x : Str} {ps : List Str} {sp : Sp} {p pos : Pos} {e : Expr} {es : List Expr} {t : TA} (C : Cal X.prog X.w X.K X.mg X.base k x ps sp) (hr : Room k X.A) (hg : Gl X x) (ha : PA X (e :: es) t)
    (hdb : (x == ("__debug__" : Str)) = false := by decide) (he : starEach (e :: es) X.env = (false, eval e X.env) :: starEach es X.env := by rfl) (hpl : (backTo pos (starEach es X.env)).any (·.1) = false := by rfl) :
    PE X (.Call (.Name x p) (e :: es) [] pos) (tCall sp [] E0 t) := by
  obtain ⟨f, fd, F, hm, hk, hb⟩ := C.ex
  exact pe_call F hr hg hm hk hb .nil pass0 ha hdb he hpl
/-- a method -/
structure CalM (P : Program) (w : World) (K : PySem.W.Frag) (mg : Str → Option Value) (base : Heap) (k : Nat) (C : Addr) (m : Str) (ps : List Str) (sp : Sp) : Prop where
  ex : ∃ f fd, FnOk P w K mg base CX0 k f fd ps sp ∧ Meth K C m f ∧ Binds K fd ps []
  cl : Cls K C
end

/-! ### the machine -/
structure MS where
  w : Int
  c : Int
  cnt : Str → Int
  wk : List (T3 Str Int Int)
def mf (s : MS) (d e : Addr) : List (Str × V) := [("width", .int s.w), ("cutoff", .int s.c), ("counts", .ref d), ("entered", .ref e)]
def mkv (s : MS) : List (Key × V) := mwords.map fun w => (Sum.inr w, V.int (s.cnt w))
def MachAt (T : TC) (p dx d e : Addr) (ws : List V) (s : MS) (F t : Hp) : Prop := t p = some (.ins (T.C 0) dx (mf s d e)) ∧ t d = some (.dK (mkv s)) ∧ t e = some (.lst ws) ∧ Al T F ws s.wk
def machA (T : TC) (p : Addr) (s : MS) : OA := ⟨fun F t => ∃ dx d e ws, MachAt T p dx d e ws s F t, fun h ⟨dx, d, e, ws, h1, h2, h3, h4⟩ => ⟨dx, d, e, ws, h1, h2, h3, h4.mono h⟩⟩
section
variable {T : TC} {Γ : List (Option VA)} {Ω Ω1 Ω2 : List OA} {A B C : VA} {ta tb te : TE} {s : MS} {p : Addr} {k : Nat}
/-- machine.width, machine.cutoff -/
theorem xe_mw (cl : Cls T.K (T.C 0)) (na : NoAttr T.K (T.C 0) "width") (ha : XE ta Γ Ω (vr p) Ω1) (hk : Ω1[k]? = some (machA T p s)) : XE (tFld T.K ta "width") Γ Ω (va T s.w) Ω1 := fun F σ H e hh Q q => by
  refine ha F σ H e hh _ fun F1 x H1 Ω' e1 hh1 ⟨a1, o1⟩ => ?_
  subst o1
  obtain ⟨t, ⟨dx, d, en, ws, h1, h2, h3, h4⟩, st, _⟩ := hh1.get hk
  exact ⟨p, _, dx, _, _, a1, st _ _ h1, cl, na, rfl, q F1 _ H1 _ e1 hh1 ⟨rfl, rfl⟩⟩
theorem xe_mc (cl : Cls T.K (T.C 0)) (na : NoAttr T.K (T.C 0) "cutoff") (ha : XE ta Γ Ω (vr p) Ω1) (hk : Ω1[k]? = some (machA T p s)) : XE (tFld T.K ta "cutoff") Γ Ω (va T s.c) Ω1 := fun F σ H e hh Q q => by
  refine ha F σ H e hh _ fun F1 x H1 Ω' e1 hh1 ⟨a1, o1⟩ => ?_
  subst o1
  obtain ⟨t, ⟨dx, d, en, ws, h1, h2, h3, h4⟩, st, _⟩ := hh1.get hk
  exact ⟨p, _, dx, _, _, a1, st _ _ h1, cl, na, rfl, q F1 _ H1 _ e1 hh1 ⟨rfl, rfl⟩⟩
end

/-! ### the numbers -/
structure Bg where
  w : Int
  row : List Int
  v : Int
/-- the sign of a number -/
def sgn (v : Int) : Int := if v < 0 then -1 else if v = 0 then 0 else 1
instance : Rp Bg := ⟨fun T F v b => ∃ p dx r vs, v = .ref p ∧ F p = some (.ins (T.C 1) dx [("width", .int b.w), ("side", .int (sgn b.v)), ("row", .ref r), ("value", .int b.v)]) ∧ SqT T.K F r vs ∧ Al T F vs b.row,
  fun e ⟨p, dx, r, vs, h1, h2, h3, h4⟩ => ⟨p, dx, r, vs, h1, e _ _ h2, Same.tup e h3, h4.mono e⟩⟩
section
variable {T : TC} {Γ : List (Option VA)} {Ω Ω1 Ω2 : List OA} {A B C : VA} {ta tb te : TE} {x : Bg} {p : Addr} {k : Nat}
theorem xe_bw (cl : Cls T.K (T.C 1)) (na : NoAttr T.K (T.C 1) "width") (ha : XE ta Γ Ω (va T x) Ω1) : XE (tFld T.K ta "width") Γ Ω (va T x.w) Ω1 := fun F σ H e hh Q q => by
  refine ha F σ H e hh _ fun F1 v H1 Ω' e1 hh1 ⟨⟨p, dx, r, vs, h1, h2, h3, h4⟩, o1⟩ => ?_
  subst o1
  exact ⟨p, _, dx, _, _, h1, hh1.same _ _ h2, cl, na, rfl, q F1 _ H1 _ e1 hh1 ⟨rfl, rfl⟩⟩
theorem xe_bs (cl : Cls T.K (T.C 1)) (na : NoAttr T.K (T.C 1) "side") (ha : XE ta Γ Ω (va T x) Ω1) : XE (tFld T.K ta "side") Γ Ω (va T (sgn x.v)) Ω1 := fun F σ H e hh Q q => by
  refine ha F σ H e hh _ fun F1 v H1 Ω' e1 hh1 ⟨⟨p, dx, r, vs, h1, h2, h3, h4⟩, o1⟩ => ?_
  subst o1
  exact ⟨p, _, dx, _, _, h1, hh1.same _ _ h2, cl, na, rfl, q F1 _ H1 _ e1 hh1 ⟨rfl, rfl⟩⟩
theorem xe_br (cl : Cls T.K (T.C 1)) (na : NoAttr T.K (T.C 1) "row") (ha : XE ta Γ Ω (va T x) Ω1) : XE (tFld T.K ta "row") Γ Ω (va T (TF.mk x.row)) Ω1 := fun F σ H e hh Q q => by
  refine ha F σ H e hh _ fun F1 v H1 Ω' e1 hh1 ⟨⟨p, dx, r, vs, h1, h2, h3, h4⟩, o1⟩ => ?_
  subst o1
  exact ⟨p, _, dx, _, _, h1, hh1.same _ _ h2, cl, na, rfl, q F1 _ H1 _ e1 hh1 ⟨⟨r, vs, rfl, h3, h4⟩, rfl⟩⟩
theorem xe_bv (cl : Cls T.K (T.C 1)) (na : NoAttr T.K (T.C 1) "value") (ha : XE ta Γ Ω (va T x) Ω1) : XE (tFld T.K ta "value") Γ Ω (va T x.v) Ω1 := fun F σ H e hh Q q => by
  refine ha F σ H e hh _ fun F1 v H1 Ω' e1 hh1 ⟨⟨p, dx, r, vs, h1, h2, h3, h4⟩, o1⟩ => ?_
  subst o1
  exact ⟨p, _, dx, _, _, h1, hh1.same _ _ h2, cl, na, rfl, q F1 _ H1 _ e1 hh1 ⟨rfl, rfl⟩⟩
end
/-! ### things in the making -/
def rawA (t0 : Hp) : OA := ⟨fun _ t => Same t0 t, fun _ h => h⟩
section
variable {F F' H H' : Hp} {Ω : List OA} {o o' : OA} {i j : Nat} {a p : Addr} {u u' : HO}
theorem Holds.conv (h : Holds F Ω H) (q : Ω[i]? = some o) (k : ∀ t, o.P F t → o'.P F t) : Holds F (Ω.set i o') H := by
  obtain ⟨ts, h1, h2, h3, h4, h5⟩ := h
  have lt := getlt q
  refine ⟨ts, fun k x r => ?_, h2, fun k r => h3 k (by rwa [List.length_set] at r), fun k b x r => h4 k b x (by rwa [List.length_set] at r), fun k m b x r r2 => h5 k m b x (by rwa [List.length_set] at r) (by rwa [List.length_set] at r2)⟩
  by_cases hk : i = k
  · subst hk
    rw [List.getElem?_set_self lt] at r
    cases r
    exact k _ (h1 _ _ q)
  · rw [List.getElem?_set_ne hk] at r
    exact h1 k x r
/-- the thing at i, its part of the heap laid open -/
theorem Holds.opened (h : Holds F Ω H) (q : Ω[i]? = some o) : ∃ t, o.P F t ∧ Same t H ∧ Holds F (Ω.set i (rawA t)) H := by
  obtain ⟨ts, h1, h2, h3, h4, h5⟩ := h
  have lt := getlt q
  refine ⟨ts i, h1 i o q, h3 i lt, ts, fun k x r => ?_, h2, fun k r => h3 k (by rwa [List.length_set] at r), fun k b x r => h4 k b x (by rwa [List.length_set] at r), fun k m b x r r2 => h5 k m b x (by rwa [List.length_set] at r) (by rwa [List.length_set] at r2)⟩
  by_cases hk : i = k
  · subst hk
    rw [List.getElem?_set_self lt] at r
    cases r
    exact Same.refl _
  · rw [List.getElem?_set_ne hk] at r
    exact h1 k x r
theorem Holds.rawWrite {t : Hp} (h : Holds F Ω H) (q : Ω[i]? = some (rawA t)) (ha : t a = some u) : Holds F (Ω.set i (rawA (upd t a u'))) (upd H a u') := by
  obtain ⟨t2, s2, st, _, wr⟩ := h.get q
  refine wr (rawA (upd t a u')) a u u' (s2 _ _ ha) fun b x e => ?_
  by_cases hb : b = a
  · subst hb; rw [upd_same] at e ⊢; exact e
  · rw [upd_ne hb] at e ⊢; exact s2 _ _ e
theorem Holds.rawHas {t : Hp} (h : Holds F Ω H) (q : Ω[i]? = some (rawA t)) : Same t H := let ⟨_, s2, st, _⟩ := h.get q; fun b x e => st _ _ (s2 b x e)
end
/-- a new instance, nothing in it -/
def newA (C p : Addr) : OA := ⟨fun _ t => ∃ dx, t p = some (.ins C dx []), fun _ h => h⟩
section
variable {T : TC} {Γ : List (Option VA)} {Ω Ω1 Ω2 : List OA} {A B C : VA} {As Ds : List VA} {ta tb te : TE} {D : Ends} {F0 : Hp} {ts : TS}
theorem xn_make {C : Addr} {Pre : PreT} {E : XK} {t : TA} {dvs : List V} {o : Addr → OA} (ha : XA t Γ Ω As Ω1) (hd : ∀ F, AlA F dvs Ds) (hp : ∀ x, Pre (vr x :: (As ++ Ds)) (Ω1 ++ [newA C x]) (RV (va T ()) (Ω1 ++ [o x]))) :
    XG (tMake C (mkSp Pre) dvs E t) Γ Ω (RN Ω1 o) := fun F σ H e hh Q q => by
  refine ha F σ H e hh _ fun F1 xs H1 e1 hh1 a1 => ?_
  intro x dx nx ndx nex
  have hh2 : Holds F1 (Ω1 ++ [newA C x]) (upd (upd H1 dx (.own x)) x (.ins C dx [])) := by
    refine hh1.newO (t := upd (fun _ => none) x (.ins C dx [])) (fun b y r => by rw [sng_some r]; exact nx) (fun b y r => ?_) (fun b y r => ?_) ⟨dx, upd_same⟩
    · rw [upd_ne (ne_of_none r nx), upd_ne (ne_of_none r ndx)]; exact r
    · have hb := sng_some r
      subst hb
      rw [upd_same] at r ⊢; exact r
  refine ⟨F1, Ω1 ++ [newA C x], vr x :: (As ++ Ds), _, hp x, .cons rfl (a1.app (hd F1)), hh2, fun F' v H' Ω' e' hh' ⟨hv, ho⟩ => ⟨hv, ?_⟩⟩
  subst ho
  exact q F' _ H' _ (e1.trans e') hh' ⟨x, rfl, rfl⟩
def bigA (T : TC) (p : Addr) (b : Bg) : OA := ⟨fun F t => ∃ dx r vs, t p = some (.ins (T.C 1) dx [("width", .int b.w), ("side", .int (sgn b.v)), ("row", .ref r), ("value", .int b.v)]) ∧ SqT T.K F r vs ∧ Al T F vs b.row,
  fun e ⟨dx, r, vs, h2, h3, h4⟩ => ⟨dx, r, vs, h2, Same.tup e h3, h4.mono e⟩⟩
theorem xe_fzB {b : Bg} (h : XG te Γ Ω (RN Ω1 fun p => bigA T p b)) : XE te Γ Ω (va T b) Ω1 := fun F σ H e hh Q q =>
  h F σ H e hh Q fun F1 v H1 Ω' e1 hh1 ⟨p, hv, o1⟩ => by
    subst o1
    obtain ⟨F', t, s1, s2, ⟨dx, r, vs, h2, h3, h4⟩, hh'⟩ := hh1.freeze
    exact q F' v H1 _ (e1.trans s1) hh' ⟨⟨p, dx, r, vs, hv, s2 _ _ h2, Same.tup s1 h3, h4.mono s1⟩, rfl⟩
end
/-! ### what the machine's methods do -/
def MS.step (s : MS) (w : Str) (n : Int) : MS := { s with cnt := fun x => if x = w then s.cnt x + n else s.cnt x }
def MS.enter (s : MS) (w : Str) (m n : Int) : MS := { s with wk := if s.wk.length < 1000 then s.wk ++ [T3.mk w m n] else s.wk }
def MS.fresh (w c : Int) : MS := ⟨w, c, fun _ => 0, []⟩
def MS.reset (s : MS) : MS := MS.fresh s.w s.c
theorem mwords_nd : mwords.Nodup := by decide +kernel
theorem val_words {f : Str → Int} : ∀ {ws : List Str} {w : Str}, w ∈ ws → valV (ws.map fun w => ((Sum.inr w : Key), V.int (f w))) (Sum.inr w) = some (V.int (f w)) := by
  intro ws w hw
  unfold valV
  induction ws with
  | nil => cases hw
  | cons a r ih =>
    rw [List.map_cons, List.find?_cons]
    by_cases h : a = w
    · subst h; simp
    · have : decide ((Sum.inr a : Key) = Sum.inr w) = false := decide_eq_false fun e => h (Sum.inr.inj e)
      simp only [this]
      rcases List.mem_cons.mp hw with e | e
      · exact absurd e.symm h
      · exact ih e
end VL

set_option Elab.async false
set_option linter.all false
set_option maxRecDepth 100000
/-! the machine's methods, the numbers' -/
namespace VL
open PySem L2
theorem putK_words {f : Str → Int} {w : Str} (n : Int) {ws : List Str} (hw : w ∈ ws) :
    putK (ws.map fun x => ((Sum.inr x : Key), V.int (f x))) (Sum.inr w) (V.int n) = ws.map fun x => ((Sum.inr x : Key), V.int (if x = w then n else f x)) := by
  have any : ((ws.map fun x => ((Sum.inr x : Key), V.int (f x))).any fun kv => decide (kv.1 = Sum.inr w)) = true :=
    List.any_eq_true.mpr ⟨_, List.mem_map.mpr ⟨w, hw, rfl⟩, decide_eq_true rfl⟩
  unfold putK
  rw [if_pos any, List.map_map]
  apply List.map_congr_left
  intro x _
  show (if (Sum.inr x : Key) = Sum.inr w then ((Sum.inr x : Key), V.int n) else (Sum.inr x, V.int (f x))) = _
  by_cases e : x = w
  · rw [if_pos (by rw [e]), if_pos e]
  · rw [if_neg (fun z => e (Sum.inr.inj z)), if_neg e]
theorem mwords_len (s : MS) : (mkv s).length < sizeLine := by
  unfold mkv
  rw [List.length_map]
  decide +kernel
section
variable {T : TC} {Γ : List (Option VA)} {Ω Ω1 Ω2 : List OA} {A B C : VA} {As Ds : List VA} {ta tb te : TE} {D : Ends} {F0 : Hp} {ts : TS} {s : MS} {p : Addr} {k : Nat}
/-- what the machine's class must be -/
structure MCls (K : PySem.W.Frag) (C : Addr) : Prop where
  cl : Cls K C
  nw : NoAttr K C "width"
  nc : NoAttr K C "cutoff"
  nt : NoAttr K C "counts"
  ne : NoAttr K C "entered"
structure BCls (K : PySem.W.Frag) (C : Addr) : Prop where
  cl : Cls K C
  nw : NoAttr K C "width"
  ns : NoAttr K C "side"
  nr : NoAttr K C "row"
  nv : NoAttr K C "value"
theorem look_ne {a b : Str} {v : V} {fs : List (Str × V)} (h : (b == a) = false) : ((a, v) :: fs).lookup b = fs.lookup b := by
  rw [List.lookup_cons, h]
theorem mf_counts (d e : Addr) : (mf s d e).lookup ("counts" : Str) = some (V.ref d) := by
  unfold mf
  rw [look_ne (by decide +kernel), look_ne (by decide +kernel)]
  rfl
theorem mf_entered (d e : Addr) : (mf s d e).lookup ("entered" : Str) = some (V.ref e) := by
  unfold mf
  rw [look_ne (by decide +kernel), look_ne (by decide +kernel), look_ne (by decide +kernel)]
  rfl
theorem putF_hit {f : Str} {v x : V} {fs : List (Str × V)} : putF f v ((f, x) :: fs) = (f, v) :: fs := by
  show (if f = f then (f, v) :: fs else _) = _
  rw [if_pos rfl]
theorem putF_miss {f g : Str} {v x : V} {fs : List (Str × V)} (h : ¬ g = f) : putF f v ((g, x) :: fs) = (g, x) :: putF f v fs := by
  show (if g = f then _ else (g, x) :: putF f v fs) = _
  rw [if_neg h]
/-- self.counts[word] += many -/
theorem xs_step {wd : Str} {n : Int} (mc : MCls T.K (T.C 0)) (h0 : Γ[0]? = some (some (vr p))) (h1 : Γ[1]? = some (some (va T wd))) (h2 : Γ[2]? = some (some (va T n))) (hk : Ω[k]? = some (machA T p s)) (hw : wd ∈ mwords)
    (q : ∀ σ H, NX F0 Γ (Ω.set k (machA T p (s.step wd n))) σ H → D.nx σ H) : XS (sDAug (tFld T.K (tVar 0) "counts") (tVar 1) (tVar 2) rAdd) D F0 Γ Ω := fun σ H ⟨F, f0, e, hh⟩ => by
  obtain ⟨v0, a0, b0⟩ := e.2 0 _ h0
  obtain ⟨v1, a1, b1⟩ := e.2 1 _ h1
  obtain ⟨v2, a2, b2⟩ := e.2 2 _ h2
  have b1 : v1 = .str wd := b1
  have b2 : v2 = .int n := b2
  subst b1 b2
  obtain ⟨t, ⟨dx, d, en, ws, m1, m2, m3, m4⟩, st, _, wr⟩ := hh.get hk
  refine ⟨v0, a0, p, _, dx, _, _, b0, st _ _ m1, mc.cl, mc.nt, mf_counts d en, .str wd, a1, d, .int (s.cnt wd), rfl, ?_, .int n, a2, s.cnt wd, n, rfl, rfl, ?_⟩
  · have g := DGet.k (k := Sum.inr wd) (st _ _ m2)
    rw [show valV (mkv s) (Sum.inr wd) = some (V.int (s.cnt wd)) from val_words hw] at g
    exact g
  · refine ⟨_, DPut.k (k := Sum.inr wd) (st _ _ m2) (mwords_len s), q σ _ ⟨F, f0, e, wr (machA T p (s.step wd n)) d _ _ m2 ⟨dx, d, en, ws, ?_, ?_, ?_, m4⟩⟩⟩
    · rw [upd_ne (by intro z; rw [z, m2] at m1; cases m1)]; exact m1
    · rw [upd_same]
      unfold mkv
      rw [putK_words _ hw]
      congr 2
      apply List.map_congr_left
      intro x _
      show (Sum.inr x, V.int _) = (Sum.inr x, V.int (if x = wd then s.cnt x + n else s.cnt x))
      by_cases z : x = wd
      · rw [if_pos z, if_pos z, z]
      · rw [if_neg z, if_neg z]
    · rw [upd_ne (by intro z; rw [z, m2] at m3; cases m3)]; exact m3
/-- if len(self.entered) < 1000: self.entered.append((word, m, n)) -/
theorem xs_enter {wd : Str} {m n : Int} (mc : MCls T.K (T.C 0)) (h0 : Γ[0]? = some (some (vr p))) (h1 : Γ[1]? = some (some (va T wd))) (h2 : Γ[2]? = some (some (va T m))) (h3 : Γ[3]? = some (some (va T n))) (hk : Ω[k]? = some (machA T p s))
    (q : ∀ σ H, NX F0 Γ (Ω.set k (machA T p (s.enter wd m n))) σ H → D.nx σ H) :
    XS (tIfS (tTest (tOp (rI0 fun i j => .bl (decide (i < j))) (tCB (rLen T.K) (tCons (tFld T.K (tVar 0) "entered") tNil)) (tC (.int 1000))))
      (tDrop (tBM T.K "list" rAppend (tFld T.K (tVar 0) "entered") (tCons (tTup (tCons (tVar 1) (tCons (tVar 2) (tCons (tVar 3) tNil)))) tNil))) tNext) D F0 Γ Ω := fun σ H ⟨F, f0, e, hh⟩ => by
  obtain ⟨v0, a0, b0⟩ := e.2 0 _ h0
  obtain ⟨v1, a1, b1⟩ := e.2 1 _ h1
  obtain ⟨v2, a2, b2⟩ := e.2 2 _ h2
  obtain ⟨v3, a3, b3⟩ := e.2 3 _ h3
  obtain ⟨t, ⟨dx, d, en, ws, m1, m2, m3, m4⟩, st, _, wr⟩ := hh.get hk
  refine ⟨v0, a0, p, _, dx, _, _, b0, st _ _ m1, mc.cl, mc.ne, mf_entered d en, en, ws, rfl, .inl (SqL.of (st _ _ m3)), (ws.length : Int), 1000, rfl, rfl, _, rfl, ite2 (fun h => ?_) (fun h => ?_)⟩
  · have lt : ws.length < 1000 := by have := of_decide_eq_true h; omega
    refine ⟨v0, a0, p, _, dx, _, _, b0, st _ _ m1, mc.cl, mc.ne, mf_entered d en, .inl ⟨rfl, _, SqL.of (st _ _ m3)⟩, v1, a1, v2, a2, v3, a3, by show 3 ≤ sizeLine; decide, fun x hx => ?_⟩
    obtain ⟨hh2, e2⟩ := hh.newF (u := .tup [v1, v2, v3]) hx
    obtain ⟨t', ⟨dx', d', en', ws', m1', m2', m3', m4'⟩, st', _, wr'⟩ := hh2.get hk
    have nx : ∀ b y, H b = some y → b ≠ x := fun b y r => ne_of_none r hx
    have i1 := (st' _ _ m1').symm.trans ((upd_ne (nx _ _ (st _ _ m1))).trans (st _ _ m1))
    have i1 : mf s d' en' = mf s d en := by
      have := Option.some.inj i1
      injection this
    have i2 : en' = en := by
      unfold mf at i1
      injection i1 with _ i1
      injection i1 with _ i1
      injection i1 with _ i1
      injection i1 with i1 _
      injection i1 with _ i1
      injection i1
    subst i2
    have i3 := (st' _ _ m3').symm.trans ((upd_ne (nx _ _ (st _ _ m3))).trans (st _ _ m3))
    cases i3
    refine ⟨en', ws, _, rfl, rfl, st' _ _ m3', Nat.lt_trans lt (by decide), q σ _ ⟨_, f0.trans e2, e.mono e2, wr' (machA T p (s.enter wd m n)) en' _ _ m3' ⟨dx', d', en', _, ?_, ?_, upd_same, ?_⟩⟩⟩
    · rw [upd_ne (by intro z; rw [z, m3'] at m1'; cases m1')]; exact m1'
    · rw [upd_ne (by intro z; rw [z, m3'] at m2'; cases m2')]; exact m2'
    · have hl : s.wk.length < 1000 := by rw [← al_len m4]; exact lt
      show Al T _ _ (if s.wk.length < 1000 then s.wk ++ [T3.mk wd m n] else s.wk)
      rw [if_pos hl]
      exact al_app m4' (.cons ⟨x, v1, v2, v3, rfl, SqT.of upd_same, Rp.mono (α := Str) e2 b1, Rp.mono (α := Int) e2 b2, Rp.mono (α := Int) e2 b3⟩ .nil)
  · have ge : ¬ s.wk.length < 1000 := by
      intro z
      apply h
      rw [← al_len m4] at z
      exact decide_eq_true (by omega)
    refine q σ H ⟨F, f0, e, ?_⟩
    have es : s.enter wd m n = s := by
      unfold MS.enter
      rw [if_neg ge]
    rw [es]
    have : Ω.set k (machA T p s) = Ω := by
      apply List.ext_getElem?
      intro j
      by_cases z : k = j
      · subst z; rw [List.getElem?_set_self (getlt hk), hk]
      · rw [List.getElem?_set_ne z]
    rw [this]
    exact hh
/-! ### a thing in the making: its attributes stored one by one -/
theorem xs_fldV {C : Addr} {f : Str} {v0 : V} {t : Hp} {dx : Addr} {fs : List (Str × V)} {j : Nat} (cl : Cls T.K C) (na : NoAttr T.K C f) (h : XE te Γ Ω (vx v0) Ω) (hj : Γ[j]? = some (some (vr p))) (hk : Ω[k]? = some (rawA t)) (ht : t p = some (.ins C dx fs)) (hl : fs.length < 1000)
    (q : XS ts D F0 Γ (Ω.set k (rawA (upd t p (.ins C dx (putF f v0 fs)))))) : XS (tSeq (sFld T.K (tVar j) te f) ts) D F0 Γ Ω := fun σ H ⟨F, f0, e, hh⟩ => by
  refine h F σ H e hh _ fun F1 v H1 Ω' e1 hh1 ⟨a1, o1⟩ => ?_
  subst o1
  have a1 : v = v0 := a1
  subst a1
  obtain ⟨x, h1, h2⟩ := e.2 j _ hj
  refine ⟨x, h1, p, C, dx, fs, h2, hh1.rawHas hk _ _ ht, cl, na, hl, ?_⟩
  exact q σ _ ⟨F1, f0.trans e1, e.mono e1, hh1.rawWrite hk ht⟩
theorem xs_fldN {C : Addr} {f : Str} {u : HO} {t : Hp} {dx : Addr} {fs : List (Str × V)} {j : Nat} (cl : Cls T.K C) (na : NoAttr T.K C f) (h : XG te Γ Ω (RN Ω fun r => rawA (upd (fun _ => none) r u))) (hj : Γ[j]? = some (some (vr p))) (hk : Ω[k]? = some (rawA t)) (ht : t p = some (.ins C dx fs)) (hl : fs.length < 1000)
    (q : ∀ r, t r = none → XS ts D F0 Γ (Ω.set k (rawA (upd (upd t r u) p (.ins C dx (putF f (.ref r) fs)))))) : XS (tSeq (sFld T.K (tVar j) te f) ts) D F0 Γ Ω := fun σ H ⟨F, f0, e, hh⟩ => by
  refine h F σ H e hh _ fun F1 v H1 Ω' e1 hh1 ⟨r, a1, o1⟩ => ?_
  subst o1 a1
  obtain ⟨x, h1, h2⟩ := e.2 j _ hj
  obtain ⟨t1, t2, s1, s2, _, _, dj, kk⟩ := hh1.merge hk
  have nt : t r = none := by
    cases z : t r with
    | none => rfl
    | some y => exact (nn (s2 r u upd_same) (dj r y (s1 _ _ z))).elim
  have hh2 : Holds F1 (Ω.set k (rawA (upd t r u))) H1 := kk _ fun b y e => by
    by_cases hb : b = r
    · subst hb
      rw [upd_same] at e
      cases e
      refine cup_r (fun c y z => ?_) b u (s2 b u upd_same)
      cases w : t1 c with
      | none => rfl
      | some y2 => exact (nn z (dj c y2 w)).elim
    · rw [upd_ne hb] at e
      exact cup_l b y (s1 b y e)
  have hk2 : (Ω.set k (rawA (upd t r u)))[k]? = some (rawA (upd t r u)) := List.getElem?_set_self (getlt hk)
  have np : p ≠ r := ne_of_none ht nt
  have ht2 : upd t r u p = some (.ins C dx fs) := by rw [upd_ne np]; exact ht
  refine ⟨x, h1, p, C, dx, fs, h2, hh2.rawHas hk2 _ _ ht2, cl, na, hl, ?_⟩
  have hh3 := hh2.rawWrite (u' := .ins C dx (putF f (.ref r) fs)) hk2 ht2
  rw [List.set_set] at hh3
  exact q r nt σ _ ⟨F1, f0.trans e1, e.mono e1, hh3⟩
theorem NX.conv {o o' : OA} {σ : L2.St} {H : Hp} (h : NX F0 Γ Ω σ H) (hk : Ω[k]? = some o) (c : ∀ F t, Same F0 F → o.P F t → o'.P F t) : NX F0 Γ (Ω.set k o') σ H :=
  let ⟨F, f0, e, hh⟩ := h
  ⟨F, f0, e, hh.conv hk fun t => c F t f0⟩
/-- {word: 0 for word in WORDS} -/
theorem xn_zeros {aW : Addr} {i : Nat} {vs : List Nat} (hW : ∀ H, SqT T.K H aW (mwords.map V.str)) (hi : i ∈ vs) (hlt : i < Γ.length) :
    XG (tDc (iTup T.K (tC (.ref aW))) (gName i) tYes (tVar i) (tC (.int 0)) vs) Γ Ω (RN Ω fun r => rawA (upd (fun _ => none) r (.dK (mwords.map fun w => (Sum.inr w, V.int 0))))) := fun F σ H e hh Q q => by
  refine ⟨aW, rfl, ⟨_, hW H⟩, fun d hd => ?_⟩
  refine dc_tup (xs := mwords.map V.str) (fun m H' => Holds F (Ω ++ [rawA (upd (fun _ => none) d (.dK ((mwords.take m).map fun w => (Sum.inr w, V.int 0))))]) H') (hh.newL hd (Same.refl _)) (fun _ H' _ _ => hW H') (fun m x H' hx p => ?_) (fun H' p => ?_)
  · rw [List.getElem?_map] at hx
    cases hw : mwords[m]? with
    | none => rw [hw] at hx; cases hx
    | some wd =>
      rw [hw] at hx
      cases hx
      refine ⟨(wipe_set hi).trans (wipe_wipe vs), ?_⟩
      simp only [tYes, ↓reduceIte]
      have li : i < (wipe σ vs).length := by rw [wipe_length, e.1]; exact hlt
      refine ⟨.str wd, by rw [List.getElem?_set_self li], _, Sum.inr wd, rfl, p.rawHas app_at d _ upd_same, ?_, ?_⟩
      · rw [List.length_map, List.length_take]
        exact Nat.lt_of_le_of_lt (Nat.min_le_right _ _) (by decide +kernel)
      · have hh2 := p.rawWrite (u' := .dK (putK ((mwords.take m).map fun w => ((Sum.inr w : Key), V.int 0)) (Sum.inr wd) (.int 0))) app_at upd_same
        rw [set_last, upd_upd] at hh2
        have nin : valV ((mwords.take m).map fun w => ((Sum.inr w : Key), V.int 0)) (Sum.inr wd) = none := by
          cases z : valV ((mwords.take m).map fun w => ((Sum.inr w : Key), V.int 0)) (Sum.inr wd) with
          | none => rfl
          | some y =>
            have hm := valV_in z
            rw [List.map_map] at hm
            obtain ⟨w2, h2, e2⟩ := List.mem_map.mp hm
            have e2 : w2 = wd := Sum.inr.inj e2
            subst e2
            obtain ⟨j2, h3, h4⟩ := List.mem_take_iff_getElem.mp h2
            have hlt3 : j2 < mwords.length := by omega
            have eq2 : mwords[j2]? = some w2 := by rw [List.getElem?_eq_getElem hlt3, h4]
            have := nd_ix mwords_nd eq2 hw
            omega
        rw [putK_new _ nin] at hh2
        rw [List.take_add_one, hw, List.map_append, putK_new _ nin]
        exact hh2
  · rw [show (mwords.map V.str).length = mwords.length from List.length_map _, List.take_length] at p
    exact q F (.ref d) H' _ (Same.refl F) p ⟨d, rfl, rfl⟩
/-- the whole of a machine's __init__ behind its checks: four stores -/
theorem mf_put {w c : Int} {d e : Addr} : putF "entered" (.ref e) (putF "counts" (.ref d) (putF "cutoff" (.int c) (putF "width" (.int w) []))) = ([("width", .int w), ("cutoff", .int c), ("counts", .ref d), ("entered", .ref e)] : List (Str × V)) := by
  rw [show putF "width" (.int w) [] = [(("width" : Str), V.int w)] from rfl, putF_miss (f := "cutoff") (g := "width") (by decide +kernel), show putF "cutoff" (.int c) [] = [(("cutoff" : Str), V.int c)] from rfl,
    putF_miss (f := "counts") (g := "width") (by decide +kernel), putF_miss (f := "counts") (g := "cutoff") (by decide +kernel), show putF "counts" (.ref d) [] = [(("counts" : Str), V.ref d)] from rfl,
    putF_miss (f := "entered") (g := "width") (by decide +kernel), putF_miss (f := "entered") (g := "cutoff") (by decide +kernel), putF_miss (f := "entered") (g := "counts") (by decide +kernel)]
  all_goals rfl
theorem mf_reset {d e d2 e2 : Addr} : putF "entered" (.ref e2) (putF "counts" (.ref d2) (mf s d e)) = mf s d2 e2 := by
  unfold mf
  rw [putF_miss (f := "counts") (g := "width") (by decide +kernel), putF_miss (f := "counts") (g := "cutoff") (by decide +kernel), putF_hit,
    putF_miss (f := "entered") (g := "width") (by decide +kernel), putF_miss (f := "entered") (g := "cutoff") (by decide +kernel), putF_miss (f := "entered") (g := "counts") (by decide +kernel), putF_hit]
theorem set_get {l : List OA} {k : Nat} {o o' : OA} (h : l[k]? = some o) : (l.set k o')[k]? = some o' := List.getElem?_set_self (getlt h)
/-- self.width = bits; self.cutoff = cutoff; self.counts = {..}; self.entered = [] -/
theorem xs_minit {w c : Int} {aW : Addr} {i : Nat} {vs : List Nat} (mc : MCls T.K (T.C 0)) (hW : ∀ H, SqT T.K H aW (mwords.map V.str)) (hi : i ∈ vs) (hlt : i < Γ.length)
    (h0 : Γ[0]? = some (some (vr p))) (h1 : Γ[1]? = some (some (va T w))) (h2 : Γ[2]? = some (some (va T c))) (hk : Ω[k]? = some (newA (T.C 0) p)) (q : ∀ σ H, NX F0 Γ (Ω.set k (machA T p (MS.fresh w c))) σ H → D.nx σ H) :
    XS (tSeq (sFld T.K (tVar 0) (tVar 1) "width") (tSeq (sFld T.K (tVar 0) (tVar 2) "cutoff") (tSeq (sFld T.K (tVar 0) (tDc (iTup T.K (tC (.ref aW))) (gName i) tYes (tVar i) (tC (.int 0)) vs) "counts") (sFld T.K (tVar 0) (tLst tNil) "entered")))) D F0 Γ Ω := by
  intro σ H ⟨F, f0, e, hh⟩
  obtain ⟨t, ⟨dx, ht⟩, _, hh2⟩ := hh.opened hk
  have hk2 : (Ω.set k (rawA t))[k]? = some (rawA t) := set_get hk
  have iv : ∀ {j : Nat} {n : Int} {Ω' : List OA}, Γ[j]? = some (some (va T n)) → XE (tVar j) Γ Ω' (vx (.int n)) Ω' := fun h => (xe_var h).to fun F v a => a
  refine xs_fldV (D := D) (ts := (tSeq (sFld T.K (tVar 0) (tVar 2) "cutoff") (tSeq (sFld T.K (tVar 0) (tDc (iTup T.K (tC (.ref aW))) (gName i) tYes (tVar i) (tC (.int 0)) vs) "counts") (sFld T.K (tVar 0) (tLst tNil) "entered")))) mc.cl mc.nw (iv h1) h0 hk2 ht (by decide) ?_ σ H ⟨F, Same.refl F, e, hh2⟩
  rw [List.set_set]
  refine xs_fldV mc.cl mc.nc (iv h2) h0 (set_get hk) upd_same (by show 1 < 1000; decide) ?_
  rw [List.set_set, upd_upd]
  refine xs_fldN mc.cl mc.nt (xn_zeros hW hi hlt) h0 (set_get hk) upd_same (by rw [show putF "width" (V.int w) [] = [(("width" : Str), V.int w)] from rfl, putF_miss (by decide +kernel)]; show 2 < 1000; decide) fun d hd => ?_
  rw [List.set_set]
  refine fun σ H n => xs_fldN (ts := tNext) mc.cl mc.ne (u := .lst []) (p := p) ?_ h0 (set_get hk) upd_same ?_ (fun en he => ?_) σ H n
  · exact fun F σ H e hh Q q => ⟨Nat.zero_le _, fun r hr => q F (.ref r) _ _ (Same.refl F) (hh.newL (o := rawA (upd (fun _ => none) r (.lst []))) hr (Same.refl _)) ⟨r, rfl, rfl⟩⟩
  · rw [show putF "width" (V.int w) [] = [(("width" : Str), V.int w)] from rfl, putF_miss (by decide +kernel), show putF "cutoff" (V.int c) [] = [(("cutoff" : Str), V.int c)] from rfl, putF_miss (by decide +kernel), putF_miss (by decide +kernel)]
    show 3 < 1000
    decide
  · rw [List.set_set, mf_put]
    intro σ H n
    have npd : d ≠ p := fun z => by rw [z, upd_same] at hd; cases hd
    have npe : en ≠ p := fun z => by rw [z, upd_same] at he; cases he
    have nde : d ≠ en := fun z => by rw [← z, upd_ne npd, upd_same] at he; cases he
    have n2 := n.conv (o' := machA T p (MS.fresh w c)) (set_get hk) fun F t f st => ⟨dx, d, en, [], st p _ upd_same, st d _ (by rw [upd_ne npd, upd_ne nde, upd_ne npd, upd_same]; rfl), st en _ (by rw [upd_ne npe, upd_same]), .nil⟩
    rw [List.set_set] at n2
    obtain ⟨F2, f2, e2, hh3⟩ := n2
    exact q σ H ⟨F2, f0.trans f2, e2, hh3⟩
/-- self.counts = {..}; self.entered = [] -/
theorem xs_mreset {aW : Addr} {i : Nat} {vs : List Nat} (mc : MCls T.K (T.C 0)) (hW : ∀ H, SqT T.K H aW (mwords.map V.str)) (hi : i ∈ vs) (hlt : i < Γ.length)
    (h0 : Γ[0]? = some (some (vr p))) (hk : Ω[k]? = some (machA T p s)) (q : ∀ σ H, NX F0 Γ (Ω.set k (machA T p s.reset)) σ H → D.nx σ H) :
    XS (tSeq (sFld T.K (tVar 0) (tDc (iTup T.K (tC (.ref aW))) (gName i) tYes (tVar i) (tC (.int 0)) vs) "counts") (sFld T.K (tVar 0) (tLst tNil) "entered")) D F0 Γ Ω := by
  intro σ H ⟨F, f0, e, hh⟩
  obtain ⟨t, ⟨dx, d0, e0, ws, ht, _⟩, _, hh2⟩ := hh.opened hk
  have hk2 : (Ω.set k (rawA t))[k]? = some (rawA t) := set_get hk
  refine xs_fldN (D := D) (ts := sFld T.K (tVar 0) (tLst tNil) "entered") mc.cl mc.nt (xn_zeros hW hi hlt) h0 hk2 ht (by show 4 < 1000; decide) (fun d hd => ?_) σ H ⟨F, Same.refl F, e, hh2⟩
  rw [List.set_set]
  refine fun σ H n => xs_fldN (ts := tNext) mc.cl mc.ne (u := .lst []) (p := p) ?_ h0 (set_get hk) upd_same ?_ (fun en he => ?_) σ H n
  · exact fun F σ H e hh Q q => ⟨Nat.zero_le _, fun r hr => q F (.ref r) _ _ (Same.refl F) (hh.newL (o := rawA (upd (fun _ => none) r (.lst []))) hr (Same.refl _)) ⟨r, rfl, rfl⟩⟩
  · unfold mf
    rw [putF_miss (by decide +kernel), putF_miss (by decide +kernel), putF_hit]
    show 4 < 1000
    decide
  · rw [List.set_set, mf_reset]
    intro σ H n
    have npd : d ≠ p := fun z => by rw [z, ht] at hd; cases hd
    have npe : en ≠ p := fun z => by rw [z, upd_same] at he; cases he
    have nde : d ≠ en := fun z => by rw [← z, upd_ne npd, upd_same] at he; cases he
    have n2 := n.conv (o' := machA T p s.reset) (set_get hk) fun F t f st => ⟨dx, d, en, [], st p _ upd_same, st d _ (by rw [upd_ne npd, upd_ne nde, upd_ne npd, upd_same]; rfl), st en _ (by rw [upd_ne npe, upd_same]), .nil⟩
    rw [List.set_set] at n2
    obtain ⟨F2, f2, e2, hh3⟩ := n2
    exact q σ H ⟨F2, f0.trans f2, e2, hh3⟩
/-- self.counts[word] -/
theorem xe_cnt {wd : Str} {i j : Nat} (mc : MCls T.K (T.C 0)) (ha : Γ[j]? = some (some (vr p))) (hy : Γ[i]? = some (some (va T wd))) (hk : Ω[k]? = some (machA T p s)) (hw : wd ∈ mwords) : XE (tDGet (tFld T.K (tVar j) "counts") (tVar i)) Γ Ω (va T (s.cnt wd)) Ω := fun F σ H e hh Q q => by
  obtain ⟨v0, a0, b0⟩ := e.2 j _ ha
  obtain ⟨v1, a1, b1⟩ := e.2 i _ hy
  have b1 : v1 = .str wd := b1
  subst b1
  obtain ⟨t, ⟨dx, d, en, ws, m1, m2, m3, m4⟩, st, _⟩ := hh.get hk
  refine ⟨v0, a0, p, _, dx, _, _, b0, st _ _ m1, mc.cl, mc.nt, mf_counts d en, .str wd, a1, d, .int (s.cnt wd), rfl, ?_, q F _ H _ (Same.refl F) hh ⟨rfl, rfl⟩⟩
  have g := DGet.k (k := Sum.inr wd) (st _ _ m2)
  rw [show valV (mkv s) (Sum.inr wd) = some (V.int (s.cnt wd)) from val_words hw] at g
  exact g
/-- self.entered, as a list -/
theorem xe_walk {j : Nat} (mc : MCls T.K (T.C 0)) (ha : Γ[j]? = some (some (vr p))) (hk : Ω[k]? = some (machA T p s)) : XE (tCB (rList T.K) (tCons (tFld T.K (tVar j) "entered") tNil)) Γ Ω (va T (LF.mk s.wk)) Ω := fun F σ H e hh Q q => by
  obtain ⟨v0, a0, b0⟩ := e.2 j _ ha
  obtain ⟨t, ⟨dx, d, en, ws, m1, m2, m3, m4⟩, st, _⟩ := hh.get hk
  refine ⟨v0, a0, p, _, dx, _, _, b0, st _ _ m1, mc.cl, mc.ne, mf_entered d en, en, ws, rfl, .inl (SqL.of (st _ _ m3)), fun l hl => ?_⟩
  obtain ⟨hh2, e2⟩ := hh.newF (u := .lst ws) hl
  exact q _ _ _ _ e2 hh2 ⟨⟨l, ws, rfl, upd_same, m4.mono e2⟩, rfl⟩
/-- the words of the tally -/
theorem xi_words {aW : Addr} (hW : ∀ H, SqT T.K H aW (mwords.map V.str)) : XI (iTup T.K (tC (.ref aW))) Γ Ω mwords (fun a => va T a) Ω := fun F σ H e hh R r => by
  have al : ∀ l : List Str, Al T F (l.map V.str) l := fun l => by
    induction l with
    | nil => exact .nil
    | cons a r ih => exact .cons rfl ih
  exact ⟨aW, rfl, ⟨_, hW H⟩, r F _ H _ (Same.refl F) hh wk_tup ⟨hW F, al mwords⟩⟩
theorem lcM_all {β γ : Type} (f : β → γ) : ∀ l : List β, lcM (fun x (_ : Unit) => some (some (f x), ())) l () = some (l.map f, ())
  | [] => rfl
  | x :: r => by
    show ((lcM (fun x (_ : Unit) => some (some (f x), ())) r ()).bind fun (ys, s'') => some (f x :: ys, s'')) = _
    rw [lcM_all f r]
    rfl
def MS.tally (s : MS) : List (Str × Int) := mwords.map fun w => (w, s.cnt w)
theorem xe_tally {aW : Addr} {i j : Nat} {vs : List Nat} (mc : MCls T.K (T.C 0)) (hW : ∀ H, SqT T.K H aW (mwords.map V.str)) (hi : i ∈ vs) (ha : ((wip Γ vs).set i none)[j]? = some (some (vr p))) (hlt : i < (wip Γ vs).length) (hk : Ω[k]? = some (machA T p s)) :
    XE (tLc (iTup T.K (tC (.ref aW))) (gName i) tYes (tTup (tCons (tVar i) (tCons (tDGet (tFld T.K (tVar j) "counts") (tVar i)) tNil))) vs) Γ Ω (va T (LF.mk s.tally)) Ω := by
  refine xe_fz (xn_lc (fun _ : Unit => Ω) (lcM_all (fun w => (w, s.cnt w)) mwords) (xi_words hW) (fun a => tgt_name) (fun m hm => by rw [List.mem_singleton.mp hm]; exact hi) (by decide +kernel) fun a s1 o s2 hm h X => ⟨fun e => ?_, fun y e => ?_⟩)
  · subst e; cases h
  · subst e
    cases h
    have hj : ((wip Γ vs).set i (some (va T a)))[j]? = some (some (vr p)) := by
      have ne : i ≠ j := fun z => by
        subst z
        rw [List.getElem?_set_self hlt] at ha
        cases ha
      rw [List.getElem?_set_ne ne] at ha ⊢
      exact ha
    have hi' : ((wip Γ vs).set i (some (va T a)))[i]? = some (some (va T a)) := List.getElem?_set_self hlt
    exact ⟨xt_yes, xe_tup2 (xa_cons (xe_var hi') (xa_cons (xe_cnt mc hj hi' (app_lt hk) hm) xa_nil))⟩
/-- a frozen thing stored -/
theorem xs_fldR {C : Addr} {f : Str} {t : Hp} {dx : Addr} {fs : List (Str × V)} {j : Nat} {row : List Int} (cl : Cls T.K C) (na : NoAttr T.K C f) (h : ∀ Ω', XE te Γ Ω' (va T (TF.mk row)) Ω') (hj : Γ[j]? = some (some (vr p))) (hk : Ω[k]? = some (rawA t)) (ht : t p = some (.ins C dx fs)) (hl : fs.length < 1000)
    (q : ∀ F1 r vs, Same F0 F1 → SqT T.K F1 r vs → Al T F1 vs row → XS ts D F1 Γ (Ω.set k (rawA (upd t p (.ins C dx (putF f (.ref r) fs)))))) : XS (tSeq (sFld T.K (tVar j) te f) ts) D F0 Γ Ω := fun σ H ⟨F, f0, e, hh⟩ => by
  refine h Ω F σ H e hh _ fun F1 v H1 Ω' e1 hh1 ⟨⟨r, vs, hv, s1, a1⟩, o1⟩ => ?_
  subst o1 hv
  obtain ⟨x, h1, h2⟩ := e.2 j _ hj
  refine ⟨x, h1, p, C, dx, fs, h2, hh1.rawHas hk _ _ ht, cl, na, hl, ?_⟩
  exact q F1 r vs (f0.trans e1) s1 a1 σ _ ⟨F1, Same.refl F1, e.mono e1, hh1.rawWrite hk ht⟩
/-- a number's __init__ -/
theorem bg_put {w s v : Int} {r : Addr} : putF "value" (.int v) (putF "row" (.ref r) (putF "side" (.int s) (putF "width" (.int w) []))) = ([("width", .int w), ("side", .int s), ("row", .ref r), ("value", .int v)] : List (Str × V)) := by
  rw [show putF "width" (V.int w) [] = [(("width" : Str), V.int w)] from rfl, putF_miss (f := "side") (g := "width") (by decide +kernel), show putF "side" (V.int s) [] = [(("side" : Str), V.int s)] from rfl,
    putF_miss (f := "row") (g := "width") (by decide +kernel), putF_miss (f := "row") (g := "side") (by decide +kernel), show putF "row" (V.ref r) [] = [(("row" : Str), V.ref r)] from rfl,
    putF_miss (f := "value") (g := "width") (by decide +kernel), putF_miss (f := "value") (g := "side") (by decide +kernel), putF_miss (f := "value") (g := "row") (by decide +kernel)]
  rfl
theorem xs_binit {ts1 : TE} {w v : Int} {row : List Int} (bc : BCls T.K (T.C 1)) (h0 : Γ[0]? = some (some (vr p))) (h1 : Γ[1]? = some (some (va T w))) (h2 : Γ[2]? = some (some (va T v)))
    (hs : ∀ Ω', XE ts1 Γ Ω' (va T (sgn v)) Ω') (h3 : ∀ Ω', XE te Γ Ω' (va T (TF.mk row)) Ω') (hk : Ω[k]? = some (newA (T.C 1) p)) (q : ∀ σ H, NX F0 Γ (Ω.set k (bigA T p ⟨w, row, v⟩)) σ H → D.nx σ H) :
    XS (tSeq (sFld T.K (tVar 0) (tVar 1) "width") (tSeq (sFld T.K (tVar 0) ts1 "side") (tSeq (sFld T.K (tVar 0) te "row") (sFld T.K (tVar 0) (tVar 2) "value")))) D F0 Γ Ω := by
  intro σ H ⟨F, f0, e, hh⟩
  obtain ⟨t, ⟨dx, ht⟩, _, hh2⟩ := hh.opened hk
  have hk2 : (Ω.set k (rawA t))[k]? = some (rawA t) := set_get hk
  have iv : ∀ {j : Nat} {n : Int} {Ω' : List OA}, Γ[j]? = some (some (va T n)) → XE (tVar j) Γ Ω' (vx (.int n)) Ω' := fun h => (xe_var h).to fun F v a => a
  refine xs_fldV (D := D) (ts := (tSeq (sFld T.K (tVar 0) ts1 "side") (tSeq (sFld T.K (tVar 0) te "row") (sFld T.K (tVar 0) (tVar 2) "value")))) bc.cl bc.nw (iv h1) h0 hk2 ht (by decide) ?_ σ H ⟨F, Same.refl F, e, hh2⟩
  rw [List.set_set]
  refine xs_fldV (v0 := .int (sgn v)) bc.cl bc.ns ((hs _).to fun F u a => a) h0 (set_get hk) upd_same (by show 1 < 1000; decide) ?_
  rw [List.set_set, upd_upd]
  refine xs_fldR bc.cl bc.nr h3 h0 (set_get hk) upd_same (by rw [show putF "width" (V.int w) [] = [(("width" : Str), V.int w)] from rfl, putF_miss (by decide +kernel)]; show 2 < 1000; decide) fun F1 r vs e1 s1 a1 => ?_
  rw [List.set_set, upd_upd]
  refine fun σ H n => xs_fldV (ts := tNext) bc.cl bc.nv (iv h2) h0 (set_get hk) upd_same ?_ ?_ σ H n
  · rw [show putF "width" (V.int w) [] = [(("width" : Str), V.int w)] from rfl, putF_miss (by decide +kernel), show putF "side" (V.int (sgn v)) [] = [(("side" : Str), V.int (sgn v))] from rfl, putF_miss (by decide +kernel), putF_miss (by decide +kernel)]
    show 3 < 1000
    decide
  · rw [List.set_set, upd_upd, bg_put]
    intro σ H n
    have n2 := n.conv (o' := bigA T p ⟨w, row, v⟩) (set_get hk) fun F t f st => ⟨dx, r, vs, st p _ upd_same, Same.tup f s1, a1.mono f⟩
    rw [List.set_set] at n2
    obtain ⟨F2, f2, e2, hh3⟩ := n2
    exact q σ H ⟨F2, f0.trans (e1.trans f2), e2, hh3⟩
end
end VL

set_option Elab.async false
set_option linter.all false
set_option maxRecDepth 100000
/-! what the printed texts lean on -/
namespace VL
open PySem L2
open PyProof.Rows (envOfC)
section
variable {P : Program} {w : World} {K : PySem.W.Frag} {mg : Str → Option Value} {base : Heap}
theorem fn_okD {x qual : Str} {params : Arguments} {body : List Stmt} {scope : Scope} {dvs : List V} {f : Addr} {fd : FuncData} {N ps : List Str} {k : Nat} {Pre : PreT} (F : FunD K x qual params body scope dvs [] f fd) (S : FnScope N ps scope) (hl : ∀ As Ω R, Pre As Ω R → As.length = ps.length)
    (hb : ∀ (cdv : Value) (A : Around) (outer : List PySem.Env) (s : Shared) (H : Hp) (E : XK), Room k (A.deeper (envOfC qual scope s.heap.objs.size f cdv)) → ∀ As Ω R F0, Pre As Ω R →
      Bod (cxOf CX0 P w K mg base N qual scope f cdv A outer s H E).nox body (As.map some ++ List.replicate (N.length - As.length) none) Ω F0 R) : FnOk P w K mg base CX0 (k + 1) f fd ps (mkSp Pre) := by
  refine F.ok S (fun vs H Q E h => ?_) (fun cdv A outer s H vs Q E hr h => ?_)
  · obtain ⟨F, Ω, As, R, hp, ha, _⟩ := h
    rw [ha.len]; exact hl _ _ _ hp
  · obtain ⟨F0, Ω, As, R, hp, ha, hh, hq⟩ := h
    obtain ⟨t, h1, h2⟩ := hb cdv A outer s H E hr As Ω R F0 hp
    exact ⟨t, h1.nox, h2 _ (fun F v H Ω' e hh r => hq F v H Ω' e hh r) (fun F σ H Ω' e hh r => hq F .non H Ω' e hh r) _ _ ⟨F0, Same.refl F0, start_env ha, hh⟩⟩
/-- a class that may be made: dvs fill up what is not written -/
structure CalC (P : Program) (w : World) (K : PySem.W.Frag) (mg : Str → Option Value) (base : Heap) (k : Nat) (x : Str) (C : Addr) (ps : List Str) (dvs : List V) (sp : Sp) : Prop where
  ex : ∃ f fd ds, FnOk P w K mg base CX0 k f fd ps sp ∧ mg x = some (.ref C) ∧ Mk K C f ∧ Vals dvs ds ∧ Binds K fd ps ds
section
variable {X : Cx} {k : Nat} {x m : Str} {C : Addr} {ps : List Str} {dvs : List V} {sp : Sp} {p pos apos : Pos} {e o : Expr} {es : List Expr} {t : TA} {ta : TE}
theorem pe_calC (c : CalC X.prog X.w X.K X.mg X.base k x C ps dvs sp) (hr : Room (k + 1) X.A) (hg : Gl X x) (ha : PA X (e :: es) t)
    (hdb : (x == ("__debug__" : Str)) = false := by decide) (he : starEach (e :: es) X.env = (false, eval e X.env) :: starEach es X.env := by rfl) (hpl : (backTo pos (starEach es X.env)).any (·.1) = false := by rfl) :
    PE X (.Call (.Name x p) (e :: es) [] pos) (tMake C sp dvs E0 t) := by
  obtain ⟨f, fd, ds, F, hm, M, hv, hb⟩ := c.ex
  exact pe_make M F hr hg hm hb hv pass0 ha hdb he hpl
theorem pe_calM {pl : Sem Bool} (he : PE X o ta) (c : CalM X.prog X.w X.K X.mg X.base k C m ps sp) (hr : Room k X.A) (ha : PA X (e :: es) t)
    (hst : starEach (e :: es) X.env = (false, eval e X.env) :: starEach es X.env := by rfl) (hpl : (backTo pos (starEach es X.env)).any (·.1) = false := by rfl)
    (ht : eval (.Call (.Attribute o m apos) (e :: es) [] pos) X.env = (do
      let ov ← eval o X.env
      standAt apos.atName
      let (f, first) ← holding [ov] (getMethod ov m pl)
      callWith pos f first (backTo pos (starEach (e :: es) X.env)) (backToKw pos (keywordEach [] X.env))) := by rfl) :
    PE X (.Call (.Attribute o m apos) (e :: es) [] pos) (tMeth C m sp [] E0 ta t) := by
  obtain ⟨f, fd, F, hm, hb⟩ := c.ex
  exact pe_meth he c.cl hm F hr hb .nil pass0 ha hst hpl ht
theorem pe_calM0 {pl : Sem Bool} (he : PE X o ta) (c : CalM X.prog X.w X.K X.mg X.base k C m ps sp) (hr : Room k X.A)
    (ht : eval (.Call (.Attribute o m apos) [] [] pos) X.env = (do
      let ov ← eval o X.env
      standAt apos.atName
      let (f, first) ← holding [ov] (getMethod ov m pl)
      callWith pos f first (backTo pos (starEach [] X.env)) (backToKw pos (keywordEach [] X.env))) := by rfl) :
    PE X (.Call (.Attribute o m apos) [] [] pos) (tMeth C m sp [] E0 ta tNil) := by
  obtain ⟨f, fd, F, hm, hb⟩ := c.ex
  exact pe_meth0 he c.cl hm F hr hb .nil pass0 ht
/-- a module's constant -/
theorem pe_gl {x : Str} {v : V} {pos : Pos} (hg : Gl X x) (hm : ∃ u, X.mg x = some u ∧ RelV v u) (hd : (x == ("__debug__" : Str)) = false := by decide) : PE X (.Name x pos) (tC v) := by
  obtain ⟨u, h1, h2⟩ := hm
  exact pe_glob hg h1 h2 hd
end
end
section
variable {X : Cx}
theorem op_mulG : OpR X (binaryOp .Mult) (rI IntMulOk fun i j => .int (i * j)) := L2.opI fun _ _ _ _ _ _ _ hc q => PyProof.Rows.mul_int q hc
/-- + of ints, of lists; * of ints, of a list and an int -/
def rAddQ : R2 := fun x y H Q => rI0 (fun i j => .int (i + j)) x y H Q ∨ rCat x y H Q
theorem op_addQ : OpR X (binaryOp .Add) rAddQ := op_add.or op_cat
def rMulQ : R2 := fun x y H Q => rI IntMulOk (fun i j => .int (i * j)) x y H Q ∨ rRep x y H Q
theorem op_mulQ : OpR X (binaryOp .Mult) rMulQ := op_mulG.or op_rep
/-- int(x) -/
def rInt : List V → Hp → VK → Prop := fun xs H Q => (∃ i, xs = [.int i] ∧ Q (.int i) H) ∨ ∃ k, xs = [.bl k] ∧ Q (.int (if k then 1 else 0)) H
theorem cr_int : CallR X (.type "int") rInt := call_int1
def rAbs : List V → Hp → VK → Prop := fun xs H Q => ∃ i, xs = [.int i] ∧ Q (.int (if i < 0 then -i else i)) H
theorem cr_abs : CallR X (.builtin "abs") rAbs := call_abs
def rMax2 : List V → Hp → VK → Prop := fun xs H Q => ∃ i j, xs = [.int i, .int j] ∧ Q (.int (if j > i then j else i)) H
theorem cr_max2 (hc : X.calm = true) : CallR X (.builtin "max") rMax2 := call_max2 hc
def rMin2 : List V → Hp → VK → Prop := fun xs H Q => ∃ i j, xs = [.int i, .int j] ∧ Q (.int (if j < i then j else i)) H
theorem cr_min2 (hc : X.calm = true) : CallR X (.builtin "min") rMin2 := call_min2 hc
/-- x op= y by the operator's rule -/
theorem ip_of {op : Operator} {r : R2} (h : OpR X (inplaceOp op) r) : PIp X op r := h
end
section
variable {T : TC} {Γ : List (Option VA)} {Ω Ω1 Ω2 : List OA} {A B C : VA} {As Ds : List VA} {ta tb te : TE} {t u : TT} {D : Ends} {F0 : Hp} {ts : TS} {i j : Int} {b c : Bool} {α : Type} [Rp α] {l l2 : List α} {p : Addr} {k : Nat} {s : MS} {R : Hp → V → List OA → Prop}
theorem ro_or1 {r r' : R2} (h : RO r Ω A B C) : RO (fun x y H Q => r x y H Q ∨ r' x y H Q) Ω A B C := fun F H x y hh a1 a2 Q q => .inl (h F H x y hh a1 a2 Q q)
theorem ro_or2 {r r' : R2} (h : RO r' Ω A B C) : RO (fun x y H Q => r x y H Q ∨ r' x y H Q) Ω A B C := fun F H x y hh a1 a2 Q q => .inr (h F H x y hh a1 a2 Q q)
theorem xe_add (ha : XE ta Γ Ω (va T i) Ω1) (hb : XE tb Γ Ω1 (va T j) Ω2) : XE (tOp rAddQ ta tb) Γ Ω (va T (i + j)) Ω2 := xe_op ha hb (ro_or1 ro_int)
theorem xe_sub (ha : XE ta Γ Ω (va T i) Ω1) (hb : XE tb Γ Ω1 (va T j) Ω2) : XE (tOp (rI0 fun i j => .int (i - j)) ta tb) Γ Ω (va T (i - j)) Ω2 := xe_op ha hb ro_int
theorem xe_mul (h : IntMulOk i j) (ha : XE ta Γ Ω (va T i) Ω1) (hb : XE tb Γ Ω1 (va T j) Ω2) : XE (tOp rMulQ ta tb) Γ Ω (va T (i * j)) Ω2 := xe_op ha hb (ro_or1 (ro_intD h))
theorem xe_fdiv (h : CDivW i j) (ha : XE ta Γ Ω (va T i) Ω1) (hb : XE tb Γ Ω1 (va T j) Ω2) : XE (tOp (rI CDivW fun i j => .int (i / j)) ta tb) Γ Ω (va T (i / j)) Ω2 := xe_op ha hb (ro_intD h)
theorem xe_mod (h : 0 < j) (ha : XE ta Γ Ω (va T i) Ω1) (hb : XE tb Γ Ω1 (va T j) Ω2) : XE (tOp (rI (fun _ j => 0 < j) fun i j => .int (i % j)) ta tb) Γ Ω (va T (i % j)) Ω2 := xe_op ha hb (ro_intD (D := fun _ j => 0 < j) h)
theorem xe_shl (h : CShl i j) (ha : XE ta Γ Ω (va T i) Ω1) (hb : XE tb Γ Ω1 (va T j) Ω2) : XE (tOp (rI CShl fun i j => .int (i * 2 ^ j.toNat)) ta tb) Γ Ω (va T (i * 2 ^ j.toNat)) Ω2 := xe_op ha hb (ro_intD h)
theorem xe_shr (h : 0 ≤ j) (ha : XE ta Γ Ω (va T i) Ω1) (hb : XE tb Γ Ω1 (va T j) Ω2) : XE (tOp (rI (fun _ j => 0 ≤ j) fun i j => .int (i / 2 ^ j.toNat)) ta tb) Γ Ω (va T (i / 2 ^ j.toNat)) Ω2 := xe_op ha hb (ro_intD (D := fun _ j => 0 ≤ j) h)
theorem xe_pow (h : CPow i j) (ha : XE ta Γ Ω (va T i) Ω1) (hb : XE tb Γ Ω1 (va T j) Ω2) : XE (tOp (rI CPow fun i j => .int (i ^ j.toNat)) ta tb) Γ Ω (va T (i ^ j.toNat)) Ω2 := xe_op ha hb (ro_intD h)
theorem xe_band (ha : XE ta Γ Ω (va T i) Ω1) (hb : XE tb Γ Ω1 (va T j) Ω2) : XE (tOp (rI0 fun i j => .int (Builtin.bitAnd i j)) ta tb) Γ Ω (va T (Builtin.bitAnd i j)) Ω2 := xe_op ha hb ro_int
theorem xe_neg (ha : XE ta Γ Ω (va T i) Ω1) : XE (tUn (rU fun i => .int (-i)) ta) Γ Ω (va T (-i)) Ω1 := xe_un ha ru_int
theorem xe_cat {A B : VA} (ha : XE ta Γ Ω A Ω1) (hb : XE tb Γ Ω1 B Ω2) (h : IsLs T Ω2 A l) (h2 : IsLs T Ω2 B l2) (hz : l.length + l2.length ≤ sizeLine) : XE (tOp rAddQ ta tb) Γ Ω (va T (LF.mk (l ++ l2))) Ω2 := xe_op ha hb (ro_or2 (ro_cat h h2 hz))
theorem xe_rep {A : VA} (ha : XE ta Γ Ω A Ω1) (hb : XE tb Γ Ω1 (va T i) Ω2) (h : IsLs T Ω2 A l) (h1 : (-(2 ^ 63) ≤ i ∧ i < 2 ^ 63) ∧ l.length * i.toNat ≤ sizeLine) : XE (tOp rMulQ ta tb) Γ Ω (va T (LF.mk (List.replicate i.toNat l).flatten)) Ω2 := xe_op ha hb (ro_or2 (ro_rep h h1.1.1 h1.1.2 h1.2))
theorem xe_ix {A : VA} {a : α} (ha : XE ta Γ Ω A Ω1) (hb : XE tb Γ Ω1 (va T i) Ω2) (h : IsL T Ω2 A l) (e : atI l i = some a) : XE (tOp (rIx T.K) ta tb) Γ Ω (va T a) Ω2 := xe_op ha hb (ro_ixL h e)
theorem xe_int1 (ha : XE te Γ Ω (va T i) Ω1) : XE (tCB rInt (tCons te tNil)) Γ Ω (va T i) Ω1 := xe_cb (xa_cons ha xa_nil) fun F H vs hh a Q q => by
  obtain ⟨v, rfl, a1⟩ := alA1 a
  have a1 : v = .int i := a1
  subst a1
  exact .inl ⟨i, rfl, q F _ H (Same.refl F) hh rfl⟩
theorem xe_intb (ha : XE te Γ Ω (va T b) Ω1) : XE (tCB rInt (tCons te tNil)) Γ Ω (va T (if b = true then (1 : Int) else 0)) Ω1 := xe_cb (xa_cons ha xa_nil) fun F H vs hh a Q q => by
  obtain ⟨v, rfl, a1⟩ := alA1 a
  have a1 : v = .bl b := a1
  subst a1
  refine .inr ⟨b, rfl, q F _ H (Same.refl F) hh ?_⟩
  cases b <;> rfl
theorem xe_abs (ha : XE te Γ Ω (va T i) Ω1) : XE (tCB rAbs (tCons te tNil)) Γ Ω (va T ((i.natAbs : Nat) : Int)) Ω1 := xe_cb (xa_cons ha xa_nil) fun F H vs hh a Q q => by
  obtain ⟨v, rfl, a1⟩ := alA1 a
  have a1 : v = .int i := a1
  subst a1
  refine ⟨i, rfl, q F _ H (Same.refl F) hh ?_⟩
  show V.int _ = V.int _
  congr 1
  split <;> omega
theorem xe_max2 (ha : XE ta Γ Ω (va T i) Ω1) (hb : XE tb Γ Ω1 (va T j) Ω2) : XE (tCB rMax2 (tCons ta (tCons tb tNil))) Γ Ω (va T (max i j)) Ω2 := xe_cb (xa_cons ha (xa_cons hb xa_nil)) fun F H vs hh a Q q => by
  obtain ⟨v, w, rfl, a1, a2⟩ := alA2 a
  have a1 : v = .int i := a1
  have a2 : w = .int j := a2
  subst a1 a2
  refine ⟨i, j, rfl, q F _ H (Same.refl F) hh ?_⟩
  show V.int _ = V.int _
  congr 1
  split <;> omega
theorem xe_min2 (ha : XE ta Γ Ω (va T i) Ω1) (hb : XE tb Γ Ω1 (va T j) Ω2) : XE (tCB rMin2 (tCons ta (tCons tb tNil))) Γ Ω (va T (min i j)) Ω2 := xe_cb (xa_cons ha (xa_cons hb xa_nil)) fun F H vs hh a Q q => by
  obtain ⟨v, w, rfl, a1, a2⟩ := alA2 a
  have a1 : v = .int i := a1
  have a2 : w = .int j := a2
  subst a1 a2
  refine ⟨i, j, rfl, q F _ H (Same.refl F) hh ?_⟩
  show V.int _ = V.int _
  congr 1
  split <;> omega
theorem xe_bits (ha : XE te Γ Ω (va T i) Ω1) : XE (tBits te) Γ Ω (va T ((Builtin.Int.intBits i : Nat) : Int)) Ω1 := fun F σ H e hh Q q => by
  refine ha F σ H e hh _ fun F1 x H1 Ω' e1 hh1 ⟨a1, o1⟩ => ?_
  subst o1
  exact ⟨i, a1, q F1 _ H1 _ e1 hh1 ⟨rfl, rfl⟩⟩
theorem xe_ite {a a' : α} (h : XT t Γ Ω b Ω1) (h1 : XE ta Γ Ω1 (va T a) Ω2) (h2 : XE tb Γ Ω1 (va T a') Ω2) : XE (tIf t ta tb) Γ Ω (va T (if b = true then a else a')) Ω2 :=
  xe_if h (fun e => xe_eq h1 (by rw [if_pos e])) (fun e => xe_eq h2 (by rw [if_neg (by rw [e]; exact Bool.false_ne_true)]))
theorem xe_ifT (h : XT t Γ Ω true Ω1) (h1 : XE ta Γ Ω1 A Ω2) : XE (tIf t ta tb) Γ Ω A Ω2 := xe_if h (fun _ => h1) (fun e => nomatch e)
theorem xe_ifF (h : XT t Γ Ω false Ω1) (h1 : XE tb Γ Ω1 A Ω2) : XE (tIf t ta tb) Γ Ω A Ω2 := xe_if h (fun e => nomatch e) (fun _ => h1)
theorem xe_lt (ha : XE ta Γ Ω (va T i) Ω1) (hb : XE tb Γ Ω1 (va T j) Ω2) : XE (tOp (rI0 fun i j => .bl (decide (i < j))) ta tb) Γ Ω (va T (decide (i < j))) Ω2 := (xe_op ha hb ro_bl)
theorem xe_le (ha : XE ta Γ Ω (va T i) Ω1) (hb : XE tb Γ Ω1 (va T j) Ω2) : XE (tOp (rI0 fun i j => .bl (decide (i ≤ j))) ta tb) Γ Ω (va T (decide (i ≤ j))) Ω2 := (xe_op ha hb ro_bl)
theorem xe_gt (ha : XE ta Γ Ω (va T i) Ω1) (hb : XE tb Γ Ω1 (va T j) Ω2) : XE (tOp (rI0 fun i j => .bl (decide (j < i))) ta tb) Γ Ω (va T (decide (j < i))) Ω2 := (xe_op ha hb (ro_bl (g := fun i j => decide (j < i))))
theorem xe_ge (ha : XE ta Γ Ω (va T i) Ω1) (hb : XE tb Γ Ω1 (va T j) Ω2) : XE (tOp (rI0 fun i j => .bl (decide (j ≤ i))) ta tb) Γ Ω (va T (decide (j ≤ i))) Ω2 := (xe_op ha hb (ro_bl (g := fun i j => decide (j ≤ i))))
/-! == by values, by data -/
def rEqX (K : PySem.W.Frag) : R2 := fun x y H Q => rEq x y H Q ∨ rEqD K x y H Q
theorem op_eqX {X : Cx} (hu : X.A.units + 64 < cLine) : OpR X (compareOp .Eq) (rEqX X.K) := op_eq.or (op_eqD hu)
def rNeX (K : PySem.W.Frag) : R2 := fun x y H Q => rNe x y H Q ∨ rNeD K x y H Q
theorem op_neX {X : Cx} (hu : X.A.units + 64 < cLine) : OpR X (compareOp .NotEq) (rNeX X.K) := op_ne.or (op_neD hu)
theorem xe_eqI (ha : XE ta Γ Ω (va T i) Ω1) (hb : XE tb Γ Ω1 (va T j) Ω2) : XE (tOp (rEqX T.K) ta tb) Γ Ω (va T (decide (i = j))) Ω2 := xe_op ha hb (ro_or1 ro_eqI)
theorem xe_neI (ha : XE ta Γ Ω (va T i) Ω1) (hb : XE tb Γ Ω1 (va T j) Ω2) : XE (tOp (rNeX T.K) ta tb) Γ Ω (va T (!decide (i = j))) Ω2 := xe_op ha hb (ro_or1 ro_neI)
theorem xe_eqB (ha : XE ta Γ Ω (va T b) Ω1) (hb : XE tb Γ Ω1 (va T c) Ω2) : XE (tOp (rEqX T.K) ta tb) Γ Ω (va T (decide (b = c))) Ω2 := xe_op ha hb (ro_or1 ro_eqB)
/-! statements, further -/
theorem xs_ifN {t1 : TS} (h : XT t Γ Ω false Ω1) (q : XS ts D F0 Γ Ω1) : XS (tSeq (tIfS t t1 tNext) ts) D F0 Γ Ω := xs_ifF h q
theorem nt {b : Bool} (h : ¬ b = true) : b = false := by cases b with
  | true => exact absurd rfl h
  | false => rfl
variable {n : Int}
theorem xs_augI {k : Nat} {g : Int → Int → Int} (hx : Γ[k]? = some (some (va T i))) (h : XE te Γ Ω (va T j) Ω1) (e : g i j = n) (q : XS ts D F0 (Γ.set k (some (va T n))) Ω1) : XS (tSeq (tAug k te (rI0 fun i j => .int (g i j))) ts) D F0 Γ Ω := fun σ H ⟨F, f0, en, hh⟩ => by
  subst e
  obtain ⟨x, h1, h2⟩ := en.2 k _ hx
  refine ⟨x, h1, ?_⟩
  refine h F σ H en hh _ fun F1 v H1 Ω' e1 hh1 ⟨a1, o1⟩ => ?_
  exact ⟨i, j, h2, a1, q _ H1 ⟨F1, f0.trans e1, (en.mono e1).set (A := va T (g i j)) rfl, o1 ▸ hh1⟩⟩
theorem xs_augI1 {k : Nat} {g : Int → Int → Int} (hx : Γ[k]? = some (some (va T i))) (h : XE te Γ Ω (va T j) Ω1) (e : g i j = n) (q : ∀ σ H, NX F0 (Γ.set k (some (va T n))) Ω1 σ H → D.nx σ H) : XS (tAug k te (rI0 fun i j => .int (g i j))) D F0 Γ Ω := fun σ H m => xs_augI (ts := tNext) hx h e q σ H m
theorem xs_augD {k : Nat} {Dd : Int → Int → Prop} {g : Int → Int → Int} (hx : Γ[k]? = some (some (va T i))) (hd : Dd i j) (h : XE te Γ Ω (va T j) Ω1) (e : g i j = n) (q : XS ts D F0 (Γ.set k (some (va T n))) Ω1) : XS (tSeq (tAug k te (rI Dd fun i j => .int (g i j))) ts) D F0 Γ Ω := fun σ H ⟨F, f0, en, hh⟩ => by
  subst e
  obtain ⟨x, h1, h2⟩ := en.2 k _ hx
  refine ⟨x, h1, ?_⟩
  refine h F σ H en hh _ fun F1 v H1 Ω' e1 hh1 ⟨a1, o1⟩ => ?_
  exact ⟨i, j, h2, a1, hd, q _ H1 ⟨F1, f0.trans e1, (en.mono e1).set (A := va T (g i j)) rfl, o1 ▸ hh1⟩⟩
theorem xs_augD1 {k : Nat} {Dd : Int → Int → Prop} {g : Int → Int → Int} (hx : Γ[k]? = some (some (va T i))) (hd : Dd i j) (h : XE te Γ Ω (va T j) Ω1) (e : g i j = n) (q : ∀ σ H, NX F0 (Γ.set k (some (va T n))) Ω1 σ H → D.nx σ H) : XS (tAug k te (rI Dd fun i j => .int (g i j))) D F0 Γ Ω := fun σ H m => xs_augD (ts := tNext) hx hd h e q σ H m
theorem xs_par2 {k l : Nat} {ta : TA} (h : XA ta Γ Ω [A, B] Ω1) (q : XS ts D F0 ((Γ.set k (some A)).set l (some B)) Ω1) : XS (tSeq (tPar k l ta) ts) D F0 Γ Ω := fun σ H ⟨F, f0, en, hh⟩ => by
  refine h F σ H en hh _ fun F1 vs H1 e1 hh1 a1 => ?_
  obtain ⟨v, w, rfl, b1, b2⟩ := alA2 a1
  exact ⟨v, w, rfl, q _ H1 ⟨F1, f0.trans e1, ((en.mono e1).set b1).set b2, hh1⟩⟩
theorem xs_par3 {k l m : Nat} {ta : TA} (h : XA ta Γ Ω [A, B, C] Ω1) (q : XS ts D F0 (((Γ.set k (some A)).set l (some B)).set m (some C)) Ω1) : XS (tSeq (tPar3 k l m ta) ts) D F0 Γ Ω := fun σ H ⟨F, f0, en, hh⟩ => by
  refine h F σ H en hh _ fun F1 vs H1 e1 hh1 a1 => ?_
  cases a1 with
  | cons b0 a1 =>
    obtain ⟨v, w, rfl, b1, b2⟩ := alA2 a1
    exact ⟨_, v, w, rfl, q _ H1 ⟨F1, f0.trans e1, (((en.mono e1).set b0).set b1).set b2, hh1⟩⟩
theorem xs_par21 {k l : Nat} {ta : TA} (h : XA ta Γ Ω [A, B] Ω1) (q : ∀ σ H, NX F0 ((Γ.set k (some A)).set l (some B)) Ω1 σ H → D.nx σ H) : XS (tPar k l ta) D F0 Γ Ω := fun σ H n => xs_par2 (ts := tNext) h q σ H n
theorem xs_asgG {g : TG} {f : List (Option VA) → List (Option VA)} {js : List Nat} (h : XE te Γ Ω A Ω1) (ht : Tgt g A f js) (q : XS ts D F0 (f Γ) Ω1) : XS (tSeq (tAsg te g) ts) D F0 Γ Ω := fun σ H ⟨F, f0, en, hh⟩ => by
  refine h F σ H en hh _ fun F1 v H1 Ω' e1 hh1 ⟨a1, o1⟩ => ?_
  subst o1
  exact ht F1 σ Γ v H1 _ (en.mono e1) hh1 a1 _ fun F2 σ2 H2 e2 en2 hh2 _ => q σ2 H2 ⟨F2, f0.trans (e1.trans e2), en2, hh2⟩
theorem xs_asgG1 {g : TG} {f : List (Option VA) → List (Option VA)} {js : List Nat} (h : XE te Γ Ω A Ω1) (ht : Tgt g A f js) (q : ∀ σ H, NX F0 (f Γ) Ω1 σ H → D.nx σ H) : XS (tAsg te g) D F0 Γ Ω := fun σ H n => xs_asgG (ts := tNext) h ht q σ H n
theorem mf_none {m : Str} {d e : Addr} (h : (m == "width" || m == "cutoff" || m == "counts" || m == "entered") = false) : (mf s d e).lookup m = none := by
  simp only [Bool.or_eq_false_iff] at h
  unfold mf
  rw [look_ne h.1.1.1, look_ne h.1.1.2, look_ne h.1.2, look_ne h.2]
  rfl
/-- a method of the machine -/
theorem xe_mcall {m : Str} {Pre : PreT} {E : XK} {ta : TE} {t : TA} {Ω' : List OA} (ha : XE ta Γ Ω (vr p) Ω) (hk : Ω[k]? = some (machA T p s)) (hx : XA t Γ Ω As Ω1) (hp : Pre (vr p :: As) Ω1 (RV A Ω')) (he : Ω' = Ω2)
    (hm : (m == "width" || m == "cutoff" || m == "counts" || m == "entered") = false := by decide +kernel) : XE (tMeth (T.C 0) m (mkSp Pre) [] E ta t) Γ Ω A Ω2 := fun F σ H e hh Q q => by
  subst he
  refine ha F σ H e hh _ fun F1 x H1 Ωa e1 hh1 ⟨a1, o1⟩ => ?_
  subst o1
  obtain ⟨t0, ⟨dx, d, en, ws, m1, m2, m3, m4⟩, st, _⟩ := hh1.get hk
  refine ⟨p, dx, _, a1, st _ _ m1, mf_none hm, ?_⟩
  refine hx F1 σ H1 (e.mono e1) hh1 _ fun F2 vs H2 e2 hh2 a2 => ?_
  refine ⟨F2, Ω1, vr p :: As, _, hp, ?_, hh2, fun F' v H' Ω3 e' hh' r => q F' v H' Ω3 ((e1.trans e2).trans e') hh' r⟩
  rw [List.append_nil]
  exact .cons a1 a2
end
section
variable {T : TC} {Γ : List (Option VA)} {Ω Ω1 Ω2 : List OA} {A B C : VA} {ta tb te tc : TE} {i j : Int} {b : Bool}
def rIsi (K : PySem.W.Frag) : List V → Hp → VK → Prop := fun xs H Q => ∃ (x c : V) (t u : Value) (b : Bool), xs = [x, c] ∧ ClsV c u ∧ TyX K H x t ∧ PySem.W.kitOne K t u = some b ∧ Q (.bl b) H
theorem cr_isi {X : Cx} : CallR X (.builtin "isinstance") (rIsi X.K) := call_isi
/-- what a class must be that isinstance asks for -/
structure ICls (K : PySem.W.Frag) (C : Addr) : Prop where
  cl : Cls K C
  ha : PySem.W.findIn K (.ref C) "__class__" = some (some (.builtin "object.__class__"))
  hn : PySem.W.specialIn K (.builtin "object.__class__") "__get__" = some (some (.builtin "getset_descriptor.__get__"))
  htk : PySem.W.takesIn K (.builtin "object.__class__") = some true
  hm : PySem.W.mroIn K C (.type "object") = some true
  kit : PySem.W.kitOne K (.ref C) (.ref C) = some true
theorem xe_isi {c : V} {t u : Value} (ha : XE ta Γ Ω A Ω1) (hb : XE tc Γ Ω1 (vx c) Ω1) (hc : ClsV c u) (ht : ∀ F H v, Holds F Ω1 H → A.P F v → TyX T.K H v t) (hk : PySem.W.kitOne T.K t u = some b) :
    XE (tCB (rIsi T.K) (tCons ta (tCons tc tNil))) Γ Ω (va T b) Ω1 := xe_cb (xa_cons ha (xa_cons hb xa_nil)) fun F H vs hh a Q q => by
  obtain ⟨v, w, rfl, a1, a2⟩ := alA2 a
  have a2 : w = c := a2
  subst a2
  exact ⟨v, w, t, u, b, rfl, hc, ht F H v hh a1, hk, q F _ H (Same.refl F) hh rfl⟩
theorem xe_vx {c : V} : XE (tC c) Γ Ω (vx c) Ω := xe_c fun _ => rfl
theorem ty_int {F H : Hp} {v : V} (_ : Holds F Ω H) (a : (va T i).P F v) : TyX T.K H v (.type "int") := by
  have a : v = .int i := a
  subst a
  exact .base (.int i)
theorem ty_mach {F H : Hp} {v : V} {p : Addr} {k : Nat} {s : MS} (ic : ICls T.K (T.C 0)) (hk : Ω[k]? = some (machA T p s)) (hh : Holds F Ω H) (a : (vr p).P F v) : TyX T.K H v (.ref (T.C 0)) := by
  have a : v = .ref p := a
  subst a
  obtain ⟨t, ⟨dx, d, en, ws, m1, _⟩, st, _⟩ := hh.get hk
  exact .base (.ins (st _ _ m1) ic.cl ic.ha ic.hn ic.htk ic.hm)
theorem ty_big {F H : Hp} {v : V} {x : Bg} (ic : ICls T.K (T.C 1)) (hh : Holds F Ω H) (a : (va T x).P F v) : TyX T.K H v (.ref (T.C 1)) := by
  obtain ⟨p, dx, r, vs, rfl, h2, _⟩ := a
  exact .base (.ins (hh.same _ _ h2) ic.cl ic.ha ic.hn ic.htk ic.hm)
end
section
variable {X : Cx} {K : PySem.W.Frag} {e o tg l : Expr} {es : List Expr} {f m name : Str} {pos p1 p2 p3 apos cpos : Pos} {te ta tl : TE} {t : TA} {k : Nat} {id Tn : String} {r : V → List V → Hp → VK → Prop}
/-! the rules, the written part named (within a comprehension's block) -/
theorem pe_fldK (he : PE X e ta) (hb : attributeBase e f X.env (eval e X.env) = eval e X.env) (hK : X.K = K) : PE X (.Attribute e f pos) (tFld K ta f) := hK ▸ pe_fld he hb
theorem cr_lenK (hK : X.K = K) : CallR X (.builtin "len") (rLen K) := hK ▸ cr_len
theorem cr_listK (hK : X.K = K) : CallR X (.type "list") (rList K) := hK ▸ cr_list
theorem cr_isiK (hK : X.K = K) : CallR X (.builtin "isinstance") (rIsi K) := hK ▸ cr_isi
theorem ix_seqK (hK : X.K = K) : IxR X (rIx K) := hK ▸ ix_seq
theorem sl_listK (hK : X.K = K) : SlR X (rSlL K) := hK ▸ sl_list
theorem op_eqXK (hu : X.A.units + 64 < cLine) (hK : X.K = K) : OpR X (compareOp .Eq) (rEqX K) := hK ▸ op_eqX hu
theorem op_neXK (hu : X.A.units + 64 < cLine) (hK : X.K = K) : OpR X (compareOp .NotEq) (rNeX K) := hK ▸ op_neX hu
theorem pe_revLK (he : PE X e te) (hK : X.K = K) : PE X (.Subscript e (.Slice none none (some (.UnaryOp .USub (.Constant (.int 1) k p1) p2)) p3) pos) (tRevL K te) := hK ▸ pe_revL he
theorem pi_listK (hl : PE X l tl) (hK : X.K = K) : PI X tg l (iList K tl) := hK ▸ pi_list hl
theorem pg_tupK {es : List Expr} {k : Nat} {t : TGs} {n : Nat} (hK : X.K = K) (hc : X.calm = true) (h : PGs X es t)
    (hn : (assignEach es X.env).length = n := by rfl) (hst : (assignEach es X.env).findIdx? (·.1) = none := by rfl) : PG X (.Tuple es k pos) (gTup K n t) := hK ▸ pg_tup hc h hn hst
theorem pi_tupK (hl : PE X l tl) (hK : X.K = K) : PI X tg l (iTup K tl) := hK ▸ pi_tup hl
end
theorem neK_ {α : Type} [DecidableEq α] {a b : α} (h : a = b) : (!decide (a = b)) = false := by rw [decide_eq_true h]; rfl
/-! ### promises of the machine's and the numbers' methods -/
def Pre_Mach_step (T : TC) : PreT := fun As Ω R => ∃ (k : Nat) (p : Addr) (s : MS) (wd : Str) (n : Int), As = [vr p, va T wd, va T n] ∧ Ω[k]? = some (machA T p s) ∧ wd ∈ mwords ∧ R = RV (va T ()) (stt Ω [(k, machA T p (s.step wd n))] [])
def Pre_Mach_enter (T : TC) : PreT := fun As Ω R => ∃ (k : Nat) (p : Addr) (s : MS) (wd : Str) (m n : Int), As = [vr p, va T wd, va T m, va T n] ∧ Ω[k]? = some (machA T p s) ∧ R = RV (va T ()) (stt Ω [(k, machA T p (s.enter wd m n))] [])
def Pre_Mach_reset (T : TC) : PreT := fun As Ω R => ∃ (k : Nat) (p : Addr) (s : MS), As = [vr p] ∧ Ω[k]? = some (machA T p s) ∧ R = RV (va T ()) (stt Ω [(k, machA T p s.reset)] [])
def Pre_Mach_tally (T : TC) : PreT := fun As Ω R => ∃ (k : Nat) (p : Addr) (s : MS), As = [vr p] ∧ Ω[k]? = some (machA T p s) ∧ R = RV (va T (LF.mk s.tally)) Ω
def Pre_Mach_walk (T : TC) : PreT := fun As Ω R => ∃ (k : Nat) (p : Addr) (s : MS), As = [vr p] ∧ Ω[k]? = some (machA T p s) ∧ R = RV (va T (LF.mk s.wk)) Ω
def Pre_Mach_parts (T : TC) : PreT := fun As Ω R => ∃ (k : Nat) (p : Addr) (s : MS), As = [vr p] ∧ Ω[k]? = some (machA T p s) ∧ R = RV (va T (s.w, s.c)) Ω
def Pre_Machine (T : TC) : PreT := fun As Ω R => ∃ (Ω0 : List OA) (p : Addr) (w c : Int), As = [vr p, va T w, va T c] ∧ ((8 ≤ w ∧ w ≤ 30) ∧ 2 ≤ c ∧ c ≤ 1000) ∧ Ω = Ω0 ++ [newA (T.C 0) p] ∧ R = RV (va T ()) (Ω0 ++ [machA T p (MS.fresh w c)])
def Pre_Big (T : TC) : PreT := fun As Ω R => ∃ (Ω0 : List OA) (p : Addr) (w v : Int) (row : List Int) (B : VA), (B = va T (LF.mk row) ∨ B = va T (TF.mk row)) ∧ As = [vr p, va T w, va T v, B] ∧ Ω = Ω0 ++ [newA (T.C 1) p] ∧ R = RV (va T ()) (Ω0 ++ [bigA T p ⟨w, row, v⟩])
/-- what must hold to go on -/
noncomputable def chkP (p : Prop) : Option Unit := @ite _ p (Classical.propDecidable p) (some ()) none
theorem chkP_some {p : Prop} {r : Unit} (h : chkP p = some r) : p := by
  unfold chkP at h
  split at h
  · assumption
  · cases h
end VL

set_option Elab.async false
set_option linter.all false
set_option maxRecDepth 100000
/-! == of data; new things side by side -/
namespace VL
open PySem L2
class Dat (α : Type) [Rp α] where
  dat : α → PyData
  ok : α → Prop
  dep : Nat
  dp : ∀ {T : TC} {F H : Hp} {v : V} {a : α}, Same F H → Rp.rep T F v a → Dp T.K H v (dat a)
  lay : ∀ {a : α}, ok a → (dat a).canLay0 = true
  depth : ∀ {a : α}, (dat a).depth ≤ dep
  eqv : ∀ {a b : α}, PyData.eqv (dat a) (dat b) = true ↔ a = b
instance : Dat Int := ⟨.int, fun _ => True, 0, fun _ h => by
    rw [show _ = V.int _ from h]; exact .int _, fun _ => rfl, Nat.le_refl _, fun {a b} => by
    show (a == b) = true ↔ a = b
    exact beq_iff_eq⟩
instance : Dat Bool := ⟨.bool, fun _ => True, 0, fun _ h => by
    rw [show _ = V.bl _ from h]; exact .bl _, fun _ => rfl, Nat.le_refl _, fun {a b} => by
    show (a == b) = true ↔ a = b
    exact beq_iff_eq⟩
instance : Dat Str := ⟨.str, fun s => (PyData.str s).canLay0 = true, 0, fun _ h => by
    rw [show _ = V.str _ from h]; exact .str _, fun h => h, Nat.le_refl _, fun {a b} => by
    show (a == b) = true ↔ a = b
    exact beq_iff_eq⟩
section
variable {α : Type} [Rp α] [Dat α]
theorem dp_all {T : TC} {F H : Hp} (e : Same F H) : ∀ {vs : List V} {l : List α}, Al T F vs l → DpAll T.K H vs (l.map Dat.dat)
  | _, _, .nil => .nil
  | _, _, .cons h t => .cons (Dat.dp e h) (dp_all e t)
theorem lay_all : ∀ {l : List α}, (∀ x ∈ l, Dat.ok x) → PyData.canLayAll0 (l.map Dat.dat) = true
  | [], _ => rfl
  | x :: r, h => by
    show (PyData.canLay0 (Dat.dat x) && PyData.canLayAll0 (r.map Dat.dat)) = true
    rw [Dat.lay (h x List.mem_cons_self), lay_all fun y hy => h y (List.mem_cons_of_mem _ hy)]
    rfl
theorem dep_all : ∀ {l : List α}, PyData.depthAll (l.map Dat.dat) ≤ Dat.dep α
  | [] => Nat.zero_le _
  | x :: r => by
    show max (PyData.depth (Dat.dat x)) (PyData.depthAll (r.map Dat.dat)) ≤ _
    exact Nat.max_le.mpr ⟨Dat.depth, dep_all⟩
theorem eqv_all : ∀ {l m : List α}, PyData.eqvAll (l.map Dat.dat) (m.map Dat.dat) = true ↔ l = m
  | [], [] => by simp [PyData.eqvAll]
  | [], _ :: _ => by simp [PyData.eqvAll]
  | _ :: _, [] => by simp [PyData.eqvAll]
  | x :: r, y :: s => by
    simp only [List.map_cons, PyData.eqvAll, Bool.and_eq_true, Dat.eqv, eqv_all, List.cons.injEq]
end
theorem depth_list {ds : List PyData} : (PyData.list ds).depth = PyData.depthAll ds + 1 := by simp [PyData.depth]
theorem depth_tuple {ds : List PyData} : (PyData.tuple ds).depth = PyData.depthAll ds + 1 := by simp [PyData.depth]
instance {α : Type} [Rp α] [Dat α] : Dat (LF α) := ⟨fun l => .list (l.l.map Dat.dat), fun l => ∀ x ∈ l.l, Dat.ok x, Dat.dep α + 1, fun e ⟨p, vs, h1, h2, h3⟩ => by
    rw [h1]; exact .lst (SqL.of (e _ _ h2)) (dp_all e h3), fun h => by show PyData.canLayAll0 _ = true; exact lay_all h, fun {a} => by rw [depth_list]; exact Nat.succ_le_succ dep_all, fun {a b} => by
    show PyData.eqvAll _ _ = true ↔ a = b
    rw [eqv_all]
    cases a; cases b; simp⟩
instance {α : Type} [Rp α] [Dat α] : Dat (TF α) := ⟨fun l => .tuple (l.l.map Dat.dat), fun l => ∀ x ∈ l.l, Dat.ok x, Dat.dep α + 1, fun e ⟨p, vs, h1, h2, h3⟩ => by
    rw [h1]; exact .tup (Same.tup e h2) (dp_all e h3), fun h => by show PyData.canLayAll0 _ = true; exact lay_all h, fun {a} => by rw [depth_tuple]; exact Nat.succ_le_succ dep_all, fun {a b} => by
    show PyData.eqvAll _ _ = true ↔ a = b
    rw [eqv_all]
    cases a; cases b; simp⟩
instance {α β : Type} [Rp α] [Rp β] [Dat α] [Dat β] : Dat (α × β) := ⟨fun l => .tuple [Dat.dat l.1, Dat.dat l.2], fun l => Dat.ok l.1 ∧ Dat.ok l.2, max (Dat.dep α) (Dat.dep β) + 1, fun e ⟨p, x, y, h1, h2, h3, h4⟩ => by
    rw [h1]; exact .tup (Same.tup e h2) (.cons (Dat.dp e h3) (.cons (Dat.dp e h4) .nil)), fun h => by
    show (PyData.canLay0 (Dat.dat _) && (PyData.canLay0 (Dat.dat _) && true)) = true
    rw [Dat.lay h.1, Dat.lay h.2]; rfl, fun {a} => by
    rw [depth_tuple]
    refine Nat.succ_le_succ ?_
    show max (PyData.depth (Dat.dat a.1)) (max (PyData.depth (Dat.dat a.2)) 0) ≤ _
    have h1 := Dat.depth (a := a.1)
    have h2 := Dat.depth (a := a.2)
    omega, fun {a b} => by
    show (PyData.eqv (Dat.dat a.1) (Dat.dat b.1) && (PyData.eqv (Dat.dat a.2) (Dat.dat b.2) && true)) = true ↔ a = b
    rw [Bool.and_true, Bool.and_eq_true, Dat.eqv, Dat.eqv]
    exact Prod.ext_iff.symm⟩
instance {α β γ : Type} [Rp α] [Rp β] [Rp γ] [Dat α] [Dat β] [Dat γ] : Dat (T3 α β γ) := ⟨fun l => .tuple [Dat.dat l.a, Dat.dat l.b, Dat.dat l.c], fun l => Dat.ok l.a ∧ Dat.ok l.b ∧ Dat.ok l.c, max (Dat.dep α) (max (Dat.dep β) (Dat.dep γ)) + 1, fun e ⟨p, x, y, z, h1, h2, h3, h4, h5⟩ => by
    rw [h1]; exact .tup (Same.tup e h2) (.cons (Dat.dp e h3) (.cons (Dat.dp e h4) (.cons (Dat.dp e h5) .nil))), fun h => by
    show (PyData.canLay0 (Dat.dat _) && (PyData.canLay0 (Dat.dat _) && (PyData.canLay0 (Dat.dat _) && true))) = true
    rw [Dat.lay h.1, Dat.lay h.2.1, Dat.lay h.2.2]; rfl, fun {a} => by
    rw [depth_tuple]
    refine Nat.succ_le_succ ?_
    show max (PyData.depth (Dat.dat a.a)) (max (PyData.depth (Dat.dat a.b)) (max (PyData.depth (Dat.dat a.c)) 0)) ≤ _
    have h1 := Dat.depth (a := a.a)
    have h2 := Dat.depth (a := a.b)
    have h3 := Dat.depth (a := a.c)
    omega, fun {a b} => by
    show (PyData.eqv (Dat.dat a.a) (Dat.dat b.a) && (PyData.eqv (Dat.dat a.b) (Dat.dat b.b) && (PyData.eqv (Dat.dat a.c) (Dat.dat b.c) && true))) = true ↔ a = b
    rw [Bool.and_true, Bool.and_eq_true, Bool.and_eq_true, Dat.eqv, Dat.eqv, Dat.eqv]
    cases a; cases b; simp⟩
/-- == -/
def eqD {α : Type} [Rp α] [Dat α] (x y : α) : Bool := PyData.eqv (Dat.dat x) (Dat.dat y)
theorem eqD_iff {α : Type} [Rp α] [Dat α] {x y : α} : eqD x y = true ↔ x = y := Dat.eqv
/-- A is data d -/
def IsD (T : TC) (Ω : List OA) (A : VA) (d : PyData) : Prop := ∀ F H v, Holds F Ω H → A.P F v → Dp T.K H v d
section
variable {T : TC} {Γ : List (Option VA)} {Ω Ω1 Ω2 Ω3 : List OA} {A B C : VA} {ta tb te : TE} {D : Ends} {F0 : Hp} {ts : TS} {b : Bool} {α : Type} [Rp α] [Dat α] {x y : α} {l m : List α} {p : Addr} {k : Nat}
theorem isD_va : IsD T Ω (va T x) (Dat.dat x) := fun F H v hh a => Dat.dp hh.same a
theorem shp {x : α} (h : Dat.ok x) (hd : Dat.dep α ≤ 64) : SeqAt.shaped (Dat.dat x) = true := by
  unfold SeqAt.shaped
  rw [Dat.lay h, Bool.true_and]
  exact decide_eq_true (Nat.le_trans Dat.depth hd)
theorem ro_eqD {d e : PyData} (h1 : IsD T Ω A d) (h2 : IsD T Ω B e) (s1 : SeqAt.shaped d = true) (s2 : SeqAt.shaped e = true) : RO (rEqX T.K) Ω A B (va T (PyData.eqv d e)) := fun F H x y hh a1 a2 Q q =>
  .inr ⟨d, e, h1 F H x hh a1, h2 F H y hh a2, s1, s2, q F _ H (Same.refl F) hh rfl⟩
theorem ro_neD {d e : PyData} (h1 : IsD T Ω A d) (h2 : IsD T Ω B e) (s1 : SeqAt.shaped d = true) (s2 : SeqAt.shaped e = true) : RO (rNeX T.K) Ω A B (va T (!PyData.eqv d e)) := fun F H x y hh a1 a2 Q q =>
  .inr ⟨d, e, h1 F H x hh a1, h2 F H y hh a2, s1, s2, q F _ H (Same.refl F) hh rfl⟩
theorem xe_appE {k : Nat} {p : Addr} {a : α} {l l2 : List α} {Ω2 : List OA} (h0 : Ω[k]? = some (lstA T p l2)) (hk : Ω1[k]? = some (lstA T p l)) (ha : XE ta Γ Ω (vr p) Ω) (hb : XE tb Γ Ω (va T a) Ω1) (hz : l.length < sizeLine) (he : Ω1.set k (lstA T p (l ++ [a])) = Ω2) :
    XE (tBM T.K "list" rAppend ta (tCons tb tNil)) Γ Ω (va T ()) Ω2 := he ▸ xe_app h0 hk ha hb hz
/-- == of data -/
theorem xe_eqD (h : Dat.ok x ∧ Dat.ok y) (hd : Dat.dep α ≤ 64) (ha : XE ta Γ Ω A Ω1) (hb : XE tb Γ Ω1 B Ω2) (i1 : IsD T Ω2 A (Dat.dat x)) (i2 : IsD T Ω2 B (Dat.dat y)) : XE (tOp (rEqX T.K) ta tb) Γ Ω (va T (eqD x y)) Ω2 := xe_op ha hb (ro_eqD i1 i2 (shp h.1 hd) (shp h.2 hd))
theorem xe_neD (h : Dat.ok x ∧ Dat.ok y) (hd : Dat.dep α ≤ 64) (ha : XE ta Γ Ω A Ω1) (hb : XE tb Γ Ω1 B Ω2) (i1 : IsD T Ω2 A (Dat.dat x)) (i2 : IsD T Ω2 B (Dat.dat y)) : XE (tOp (rNeX T.K) ta tb) Γ Ω (va T (!eqD x y)) Ω2 := xe_op ha hb (ro_neD i1 i2 (shp h.1 hd) (shp h.2 hd))
/-- things made in a turn are left -/
theorem Holds.cutL {F H : Hp} {Ω : List OA} {ks : List (Nat × OA)} {L M : List OA} (h : Holds F (stt Ω ks (L ++ M)) H) : Holds F (stt Ω ks L) H := by
  have e : stt Ω ks (L ++ M) = stt Ω ks L ++ M := (List.append_assoc _ _ _).symm
  rw [e] at h
  obtain ⟨ts, h1, h2, h3, h4, h5⟩ := h
  have len : (stt Ω ks L ++ M).length = (stt Ω ks L).length + M.length := List.length_append
  exact ⟨ts, fun i o q => h1 i o (by rw [List.getElem?_append_left (getlt q)]; exact q), h2, fun i q => h3 i (by omega), fun i b x q => h4 i b x (by omega), fun i j b x qi qj => h5 i j b x (by omega) (by omega)⟩
theorem NX.cutL {ks : List (Nat × OA)} {σ : L2.St} {H : Hp} {L' : List OA} (L M : List OA) (h : NX F0 Γ (stt Ω ks L') σ H) (e : L' = L ++ M := by rfl) : NX F0 Γ (stt Ω ks L) σ H := by
  subst e
  let ⟨F, f0, en, hh⟩ := h
  exact ⟨F, f0, en, hh.cutL⟩
end
/-! ### keyword arguments -/
/-- the parameters' values out of those that are written, by place -/
def prm {α : Type} (ix : List Nat) (l : List α) : List α := ix.filterMap fun i => l[i]?
structure CalK (P : Program) (w : World) (K : PySem.W.Frag) (mg : Str → Option Value) (base : Heap) (k : Nat) (x : Str) (ps : List Str) (n : Nat) (ks : List Str) (ix : List Nat) (sp : Sp) : Prop where
  ex : ∃ f fd, FnOk P w K mg base CX0 k f fd ps sp ∧ mg x = some (.ref f) ∧ PySem.W.keepIn K (.ref f) = true ∧ KBn K fd ps n ks (fun us ws => prm ix (us ++ ws)) (fun vs zs => prm ix (vs ++ zs))
section
variable {X : Cx} {k n : Nat} {x : Str} {ps ks : List Str} {ix : List Nat} {sp : Sp} {p pos : Pos} {e : Expr} {es : List Expr} {kws : List Keyword} {t tk : TA}
end
section
variable {T : TC} {Γ : List (Option VA)} {Ω Ω1 Ω2 Ω3 : List OA} {A : VA} {As Ks : List VA}
end
end VL

set_option Elab.async false
set_option linter.all false
set_option maxRecDepth 100000
/-! frozen dicts from texts to ints; zip; pairs by place -/
namespace VL
open PySem L2 PyProof.Rows
structure DF where
  l : List (Str × Int)
def dkv (l : List (Str × Int)) : List (Key × V) := l.map fun q => (Sum.inr q.1, V.int q.2)
instance : Rp DF := ⟨fun T F v d => ∃ p od, v = .ref p ∧ F p = some (.frz od (.dK (dkv d.l))), fun e ⟨p, od, h1, h2⟩ => ⟨p, od, h1, e _ _ h2⟩⟩
/-- what an expression makes is locked for good -/
def tFz (te : TE) : TE := fun σ H Q => te σ H fun v H1 => ∃ p kvs, v = .ref p ∧ H1 p = some (.dK kvs) ∧ ∀ od, Q v (upd H1 p (.frz od (.dK kvs)))
theorem pe_fz {X : Cx} {e : Expr} {te : TE} (he : PE X e te) : PE X e (tFz te) := by
  refine ⟨fun pins s σ H Q I hw => ?_⟩
  refine thn (he.run pins s σ H _ I hw) fun u s1 ⟨x, H1, I1, rx, p, kvs, ex, hp, q⟩ => ?_
  obtain ⟨od, I2⟩ := I1.lock hp trivial
  exact ⟨x, _, I2, rx, q od⟩
/-! ### a dict on its way -/
def rawD (p : Addr) (kvs : List (Key × V)) : OA := ⟨fun _ t => t p = some (.dK kvs), fun _ h => h⟩
theorem Holds.newD {F H : Hp} {Ω : List OA} {p : Addr} {kvs : List (Key × V)} (h : Holds F Ω H) (n : H p = none) : Holds F (Ω ++ [rawD p kvs]) (upd H p (.dK kvs)) := by
  refine h.newO (t := upd (fun _ => none) p (.dK kvs)) (fun b x e => ?_) (same_upd n) (fun b x e => ?_) upd_same
  · by_cases hb : b = p
    · rw [hb]; exact n
    · rw [upd_ne hb] at e; cases e
  · by_cases hb : b = p
    · subst hb; rw [upd_same] at e ⊢; exact e
    · rw [upd_ne hb] at e; cases e
theorem Holds.fzD {F H : Hp} {Ω : List OA} {p : Addr} {kvs : List (Key × V)} {u : HO} (h : Holds F (Ω ++ [rawD p kvs]) H) : H p = some (.dK kvs) ∧ Holds (upd F p u) Ω (upd H p u) ∧ Same F (upd F p u) := by
  obtain ⟨ts, h1, h2, h3, h4, h5⟩ := h
  have len : (Ω ++ [rawD p kvs]).length = Ω.length + 1 := by simp
  have tp : ts Ω.length p = some (.dK kvs) := h1 Ω.length (rawD p kvs) app_at
  have nF : F p = none := h4 Ω.length p _ (by omega) tp
  have sF : Same F (upd F p u) := same_upd nF
  have nt : ∀ i, i < Ω.length → ts i p = none := fun i q => h5 Ω.length i p _ (by omega) (by omega) (by omega) tp
  refine ⟨h3 Ω.length (by omega) p _ tp, ⟨ts, fun i o q => o.mono sF (h1 i o (app_lt q)), fun b x e => ?_, fun i q b x e => ?_, fun i b x q e => ?_, fun i j b x qi qj ne e => h5 i j b x (by omega) (by omega) ne e⟩, sF⟩
  · by_cases hb : b = p
    · subst hb; rw [upd_same] at e ⊢; exact e
    · rw [upd_ne hb] at e ⊢; exact h2 b x e
  · by_cases hb : b = p
    · subst hb; rw [nt i q] at e; cases e
    · rw [upd_ne hb]; exact h3 i (by omega) b x e
  · by_cases hb : b = p
    · subst hb; rw [nt i q] at e; cases e
    · rw [upd_ne hb]; exact h4 i b x (by omega) e
section
variable {T : TC} {Γ : List (Option VA)} {Ω Ω1 Ω2 Ω3 : List OA} {A B C : VA} {ta tb te : TE} {D : Ends} {F0 : Hp} {ts : TS}
/-- keys that differ: merging leaves them as they are -/
theorem any_dkv {k : Str} : ∀ {l : List (Str × Int)}, (k ∉ l.map (·.1)) → ((dkv l).any fun kv => decide (kv.1 = (Sum.inr k : Key))) = false := by
  intro l h
  rw [List.any_eq_false]
  intro x hx
  obtain ⟨y, hy, rfl⟩ := List.mem_map.mp hx
  have : y.1 ≠ k := fun e => h (List.mem_map.mpr ⟨y, hy, e⟩)
  simp [this]
theorem merge_dkv : ∀ {l acc : List (Str × Int)}, ((acc ++ l).map (·.1)).Nodup → mergeK (dkv acc) (dkv l) = dkv (acc ++ l)
  | [], acc, _ => by rw [List.append_nil]; rfl
  | x :: r, acc, h => by
    have hx : x.1 ∉ acc.map (·.1) := fun m => by
      rw [List.map_append, List.nodup_append] at h
      exact h.2.2 _ m _ (by simp) rfl
    have e : mergeK (dkv acc) (dkv (x :: r)) = mergeK (putK (dkv acc) (Sum.inr x.1) (V.int x.2)) (dkv r) := rfl
    have e2 : putK (dkv acc) (Sum.inr x.1) (V.int x.2) = dkv (acc ++ [x]) := by
      unfold putK
      rw [any_dkv hx]
      show dkv acc ++ [(Sum.inr x.1, V.int x.2)] = _
      unfold dkv
      rw [List.map_append]
      rfl
    rw [e, e2, merge_dkv (l := r) (acc := acc ++ [x]) (by rw [List.append_assoc]; exact h), List.append_assoc]
    rfl
theorem merge0 {l : List (Str × Int)} (h : (l.map (·.1)).Nodup) : mergeK [] (dkv l) = dkv l := merge_dkv (acc := []) h
theorem val_dkv {k : Str} {v : Int} : ∀ {l : List (Str × Int)}, l.lookup k = some v → valV (dkv l) (Sum.inr k) = some (V.int v)
  | [], h => by cases h
  | x :: r, h => by
    by_cases e : x.1 = k
    · have hb : (k == x.1) = true := by rw [e]; exact beq_self_eq_true k
      have h2 : (match k == x.1 with | true => some x.2 | false => r.lookup k) = some v := h
      rw [hb] at h2
      have h3 : x.2 = v := Option.some.inj h2
      show valV ((Sum.inr x.1, V.int x.2) :: dkv r) (Sum.inr k) = _
      rw [valV_pos (p := ((Sum.inr x.1 : Key), V.int x.2)) (by show (Sum.inr x.1 : Key) = Sum.inr k; rw [e])]
      show some (V.int x.2) = _
      rw [h3]
    · have hb : (k == x.1) = false := by
        cases q : k == x.1 with
        | false => rfl
        | true => exact absurd (beq_iff_eq.mp q).symm e
      have h2 : (match k == x.1 with | true => some x.2 | false => r.lookup k) = some v := h
      rw [hb] at h2
      have ih := val_dkv (l := r) h2
      show valV ((Sum.inr x.1, V.int x.2) :: dkv r) (Sum.inr k) = _
      unfold valV at ih ⊢
      rw [List.find?_cons_of_neg (by simp [e])]
      exact ih
/-! ### a display -/
def XPs (trs : List (TE × TE)) (Γ : List (Option VA)) (Ω : List OA) (kvs : List (Str × Int)) : Prop :=
  ∀ F σ H, Env F σ Γ → Holds F Ω H → ∀ Q : List (V × V) → Hp → Prop, (∀ F' H', Same F F' → Holds F' Ω H' → Q (kvs.map fun q => (V.str q.1, V.int q.2)) H') → tPairs trs σ H Q
theorem xps_nil : XPs [] Γ Ω [] := fun F σ H e hh Q q => q F H (Same.refl F) hh
theorem xps_cons {tk tv : TE} {trs : List (TE × TE)} {k : Str} {v : Int} {r : List (Str × Int)} (hk : XE tk Γ Ω (va T k) Ω) (hv : XE tv Γ Ω (va T v) Ω) (hr : XPs trs Γ Ω r) : XPs ((tk, tv) :: trs) Γ Ω ((k, v) :: r) := fun F σ H e hh Q q => by
  refine hk F σ H e hh _ fun F1 x H1 Ω' e1 hh1 ⟨a1, o1⟩ => ?_
  subst o1
  refine hv F1 σ H1 (e.mono e1) hh1 _ fun F2 y H2 Ω' e2 hh2 ⟨a2, o2⟩ => ?_
  subst o2
  have a1 : x = V.str k := a1
  have a2 : y = V.int v := a2
  subst a1 a2
  exact hr F2 σ H2 ((e.mono e1).mono e2) hh2 _ fun F3 H3 e3 hh3 => q F3 H3 ((e1.trans e2).trans e3) hh3
theorem xe_disp {trs : List (TE × TE)} {kvs : List (Str × Int)} {ks : List (Nat × OA)} {L : List OA} (h : ∀ X, XPs trs Γ (stt Ω ks (L ++ [X])) kvs) (hn : (kvs.map (·.1)).Nodup) (h15 : kvs.length ≤ 15) : XE (tFz (tDisp trs)) Γ (stt Ω ks L) (va T (DF.mk kvs)) (stt Ω ks L) := fun F σ H e hh Q q => by
  intro p hp
  have hh1 := hh.newD (kvs := []) hp
  rw [stt_app] at hh1
  refine h (rawD p []) F σ _ e hh1 _ fun F2 H2 e2 hh2 => ?_
  rw [← stt_app] at hh2
  refine ⟨(hh2.fzD (u := .dK [])).1, dkv kvs, ?_, by unfold dkv; rw [List.length_map]; exact h15, p, _, rfl, upd_same, fun od => ?_⟩
  · unfold dkv
    rw [List.map_map]
    rfl
  · obtain ⟨_, hh3, e3⟩ := hh2.fzD (u := .frz od (.dK (mergeK [] (dkv kvs))))
    have eu : upd (upd H2 p (.dK (mergeK [] (dkv kvs)))) p (.frz od (.dK (mergeK [] (dkv kvs)))) = upd H2 p (.frz od (.dK (mergeK [] (dkv kvs)))) := by
      funext b
      by_cases hb : b = p
      · subst hb; rw [upd_same, upd_same]
      · rw [upd_ne hb, upd_ne hb, upd_ne hb]
    rw [eu]
    exact q _ _ _ _ (e2.trans e3) hh3 ⟨⟨p, od, rfl, by rw [upd_same, merge0 hn]⟩, rfl⟩
/-! ### dict(pairs) -/
def rDictP (K : PySem.W.Frag) : List V → Hp → VK → Prop := fun xs H Q => ∃ (a : Addr) (ps : List Addr) (kvs : List (Key × V)), xs = [.ref a] ∧ SqL K H a (ps.map V.ref) ∧ Paired (fun p kv => SqT K H p [kV kv.1, kv.2]) ps kvs ∧
    ∀ p, H p = none → Q (.ref p) (upd H p (.dK (mergeK [] kvs)))
theorem cr_dictPK {X : Cx} {K : PySem.W.Frag} (hc : X.calm = true) (hK : X.K = K) : CallR X (.type "dict") (rDictP K) := hK ▸ call_dictP hc
theorem pairs_al {F : Hp} : ∀ {vs : List V} {l : List (Str × Int)}, Al T F vs l → ∃ ps : List Addr, vs = ps.map V.ref ∧ Paired (fun p kv => SqT T.K F p [kV kv.1, kv.2]) ps (dkv l)
  | _, _, .nil => ⟨[], rfl, .nil⟩
  | _, _, .cons h t => by
    obtain ⟨p, x, y, hv, hs, h1, h2⟩ := h
    have h1 : x = V.str _ := h1
    have h2 : y = V.int _ := h2
    obtain ⟨ps, e, pr⟩ := pairs_al t
    subst h1 h2
    exact ⟨p :: ps, by rw [hv, e]; rfl, .cons hs pr⟩
theorem paired_imp {α β : Type} {R R' : α → β → Prop} (k : ∀ a b, R a b → R' a b) : ∀ {xs : List α} {ys : List β}, Paired R xs ys → Paired R' xs ys
  | _, _, .nil => .nil
  | _, _, .cons h t => .cons (k _ _ h) (paired_imp k t)
theorem fz_upd {H : Hp} {p : Addr} {u u' : HO} : upd (upd H p u) p u' = upd H p u' := by
  funext b
  by_cases hb : b = p
  · subst hb; rw [upd_same, upd_same]
  · rw [upd_ne hb, upd_ne hb, upd_ne hb]
theorem xe_dictP {l : List (Str × Int)} (ha : XE te Γ Ω A Ω1) (h : IsL T Ω1 A l) (hn : (l.map (·.1)).Nodup) : XE (tFz (tCB (rDictP T.K) (tCons te tNil))) Γ Ω (va T (DF.mk l)) Ω1 := fun F σ H e hh Q q => by
  refine ha F σ H e hh _ fun F1 x H1 Ω' e1 hh1 ⟨a1, o1⟩ => ?_
  subst o1
  obtain ⟨p, ws, ev, hs, al⟩ := h F1 H1 x hh1 a1
  obtain ⟨ps, ew, pr⟩ := pairs_al al
  refine ⟨p, ps, dkv l, by rw [ev], (by rw [← ew]; exact hs), paired_imp (fun a b q => Same.tup hh1.same q) pr, fun d hd => ?_⟩
  refine ⟨d, _, rfl, upd_same, fun od => ?_⟩
  rw [fz_upd]
  obtain ⟨hh3, e3⟩ := hh1.newF (u := .frz od (.dK (mergeK [] (dkv l)))) hd
  exact q _ _ _ _ (e1.trans e3) hh3 ⟨⟨d, od, rfl, by rw [upd_same, merge0 hn]⟩, rfl⟩
/-! ### == where it is known to hold -/
def rEqF : R2 := fun x y H Q => ∃ a b oa ob ks ls, x = .ref a ∧ y = .ref b ∧ H a = some (.frz oa (.dK ks)) ∧ H b = some (.frz ob (.dK ls)) ∧ ks.length = ls.length ∧ (∀ p ∈ ks, valV ls p.1 = some p.2 ∧ flatB p.2 = true) ∧ Q (.bl true) H
/-- the same keys, the same numbers -/
def sameD (l m : List (Str × Int)) : Prop := l.length = m.length ∧ ∀ x ∈ l, m.lookup x.1 = some x.2
/-! ### a pair's part -/
theorem xe_fst {α β : Type} [Rp α] [Rp β] {z : α × β} (ha : XE te Γ Ω (va T z) Ω1) : XE (tOp (rIx T.K) te (tC (.int 0))) Γ Ω (va T z.1) Ω1 := xe_op ha (xe_int (T := T) (n := 0)) fun F H x y hh a1 a2 Q q => by
  obtain ⟨p, u, v, rfl, hs, r1, r2⟩ := a1
  exact .inr (.inl ⟨p, _, 0, u, rfl, a2, Same.tup hh.same hs, rfl, q F u H (Same.refl F) hh r1⟩)
theorem xe_snd {α β : Type} [Rp α] [Rp β] {z : α × β} (ha : XE te Γ Ω (va T z) Ω1) : XE (tOp (rIx T.K) te (tC (.int 1))) Γ Ω (va T z.2) Ω1 := xe_op ha (xe_int (T := T) (n := 1)) fun F H x y hh a1 a2 Q q => by
  obtain ⟨p, u, v, rfl, hs, r1, r2⟩ := a1
  exact .inr (.inl ⟨p, _, 1, v, rfl, a2, Same.tup hh.same hs, rfl, q F v H (Same.refl F) hh r2⟩)
theorem xs_parNV {i j : Nat} {ks ks2 : List (Nat × OA)} {L : List OA} {M : Addr → List OA} {o : Addr → OA} {Ω0 : List OA} (h1 : XG ta Γ Ω0 (RN (stt Ω ks L) o)) (h2 : ∀ p, XE tb Γ (stt Ω ks (L ++ [o p])) A (stt Ω ks2 (M p)))
    (q : ∀ p, XS ts D F0 ((Γ.set i (some (vr p))).set j (some A)) (stt Ω ks2 (M p))) : XS (tSeq (tPar i j (tCons ta (tCons tb tNil))) ts) D F0 Γ Ω0 := fun σ H ⟨F, f0, e, hh⟩ => by
  refine h1 F σ H e hh _ fun F1 x H1 Ω' e1 hh1 ⟨p, a1, o1⟩ => ?_
  subst a1 o1
  rw [stt_app] at hh1
  refine h2 p F1 σ H1 (e.mono e1) hh1 _ fun F2 y H2 Ω' e2 hh2 ⟨a2, o2⟩ => ?_
  subst o2
  exact ⟨_, _, rfl, q p _ H2 ⟨F2, f0.trans (e1.trans e2), (((e.mono e1).mono e2).set (A := vr p) rfl).set a2, hh2⟩⟩
def rSumT (K : PySem.W.Frag) : List V → Hp → VK → Prop := fun vs H Q => ∃ (a : Addr) (ns : List Int), vs = [V.ref a] ∧ SqT K H a (ns.map V.int) ∧ Q (.int ns.sum) H
end
end VL

set_option Elab.async false
set_option linter.all false
set_option maxRecDepth 100000
/-! enumerate over a tuple; a truth whose second part may have no value; slices of tuples -/
namespace VL
open PySem L2 PyProof.Rows
/-- the tuple at a, its items in new pairs with their places -/
def IteT (K : PySem.W.Frag) (a : Addr) : It :=
  ⟨fun i H => ∃ xs x, SqT K H a xs ∧ xs[i]? = some x, fun i H v H' => ∃ p x, v = .ref p ∧ H p = none ∧ H' = upd H p (.tup [.int (i : Nat), x]) ∧ ∀ xs, SqT K H a xs → xs[i]? = some x, fun i H => ∃ xs, SqT K H a xs ∧ xs.length = i⟩
def iEnumT (K : PySem.W.Frag) (ta : TA) : TI := fun σ H R => ta σ H fun vs H1 => ∃ a xs, vs = [.ref a] ∧ SqT K H1 a xs ∧ R (IteT K a) H1
section
variable {T : TC} {Γ : List (Option VA)} {Ω Ω1 Ω2 Ω3 : List OA} {A B C : VA} {ta tb te : TE} {b : Bool} {α : Type} [Rp α] {l : List α}
/-- the items with their places -/
def nums (l : List α) : List (Int × α) := (rng 0 l.length).zip l
/-! ### a pair of a new list and a value -/
def RNP (T : TC) (Ω2 : List OA) (o : Addr → OA) (B : VA) : Hp → V → List OA → Prop := fun F v Ω' => ∃ p t w, v = .ref t ∧ SqT T.K F t [.ref p, w] ∧ B.P F w ∧ Ω' = Ω2 ++ [o p]
def RNQ (T : TC) (Ω2 : List OA) (p : Addr) (B : VA) : Hp → V → List OA → Prop := fun F v Ω' => ∃ t w, v = .ref t ∧ SqT T.K F t [.ref p, w] ∧ B.P F w ∧ Ω' = Ω2
end
end VL

set_option Elab.async false
set_option linter.all false
set_option maxRecDepth 100000
/-! == and != by the text's own __eq__ -/
namespace VL
open PySem L2 PyProof.Rows
/-- x == y, x != y of two instances of the class at C: what its own __eq__ promises -/
def rOwnEq (C : Addr) (sp : Sp) : R2 := fun x y H Q => ∃ a b dx dy fs gs, x = .ref a ∧ y = .ref b ∧ H a = some (.ins C dx fs) ∧ H b = some (.ins C dy gs) ∧ sp [x, y] H (fun v H' => ∃ r, v = .bl r ∧ Q (.bl r) H') E0
def rOwnNe (C : Addr) (sp : Sp) : R2 := fun x y H Q => ∃ a b dx dy fs gs, x = .ref a ∧ y = .ref b ∧ H a = some (.ins C dx fs) ∧ H b = some (.ins C dy gs) ∧ sp [x, y] H (fun v H' => ∃ r, v = .bl r ∧ Q (.bl (!r)) H') E0
section
variable {X : Cx} {n : Nat} {C f : Addr} {fd : FuncData} {ps : List Str} {sp : Sp}
end
section
variable {T : TC} {Γ : List (Option VA)} {Ω Ω1 Ω2 Ω3 : List OA} {A B C : VA} {ta tb te : TE} {x y : Bg} {r : Bool}
/-- a method of a number -/
theorem xe_mcallB {m : Str} {Pre : PreT} {E : XK} {t : TA} {As : List VA} {Ω' : List OA} (ha : XE ta Γ Ω (va T x) Ω1) (hx : XA t Γ Ω1 As Ω2) (hp : Pre (va T x :: As) Ω2 (RV A Ω')) (he : Ω' = Ω3)
    (hm : (m == "width" || m == "side" || m == "row" || m == "value") = false := by decide +kernel) : XE (tMeth (T.C 1) m (mkSp Pre) [] E ta t) Γ Ω A Ω3 := fun F σ H e hh Q q => by
  subst he
  refine ha F σ H e hh _ fun F1 v H1 Ωa e1 hh1 ⟨a1, o1⟩ => ?_
  subst o1
  obtain ⟨p, dx, r1, vs, rfl, h1, h2, h3⟩ := id a1
  simp only [Bool.or_eq_false_iff] at hm
  refine ⟨p, dx, _, rfl, hh1.same _ _ h1, by rw [look_ne hm.1.1.1, look_ne hm.1.1.2, look_ne hm.1.2, look_ne hm.2]; rfl, ?_⟩
  refine hx F1 σ H1 (e.mono e1) hh1 _ fun F2 ws H2 e2 hh2 a2 => ?_
  refine ⟨F2, Ω2, va T x :: As, _, hp, ?_, hh2, fun F' w H' Ω3 e' hh' r => q F' w H' Ω3 ((e1.trans e2).trans e') hh' r⟩
  rw [List.append_nil]
  exact .cons ((va T x).mono e2 a1) a2
end
structure CalEq (P : Program) (w : World) (K : PySem.W.Frag) (mg : Str → Option Value) (base : Heap) (n : Nat) (C : Addr) (sp : Sp) : Prop where
  ex : ∃ f fd, FnOk P w K mg base CX0 n f fd ["self", "other"] sp ∧ ownB K C f = true ∧ Meth K C "__eq__" f ∧ Binds K fd ["self", "other"] []
section
variable {X : Cx} {n : Nat} {C : Addr} {sp : Sp}
end
end VL

set_option Elab.async false
set_option linter.all false
set_option maxRecDepth 100000
/-! bits joined; tuples of four -/
namespace VL
open PySem L2
structure T4 (α β γ δ : Type) where
  a : α
  b : β
  c : γ
  d : δ
instance {α β γ δ : Type} [Rp α] [Rp β] [Rp γ] [Rp δ] : Rp (T4 α β γ δ) := ⟨fun T F v l => ∃ p x y z u, v = .ref p ∧ SqT T.K F p [x, y, z, u] ∧ Rp.rep T F x l.a ∧ Rp.rep T F y l.b ∧ Rp.rep T F z l.c ∧ Rp.rep T F u l.d,
  fun e ⟨p, x, y, z, u, h1, h2, h3, h4, h5, h6⟩ => ⟨p, x, y, z, u, h1, Same.tup e h2, Rp.mono e h3, Rp.mono e h4, Rp.mono e h5, Rp.mono e h6⟩⟩
section
variable {T : TC} {Γ : List (Option VA)} {Ω Ω1 Ω2 Ω3 : List OA} {A B C : VA} {As : List VA} {ta tb te : TE} {t u : TT} {i j n m : Int} {b c : Bool}
theorem xe_bxor (ha : XE ta Γ Ω (va T i) Ω1) (hb : XE tb Γ Ω1 (va T j) Ω2) : XE (tOp (rI0 fun i j => .int (Builtin.bitXor i j)) ta tb) Γ Ω (va T (Builtin.bitXor i j)) Ω2 := xe_op ha hb ro_int
theorem xe_tup4 {α β γ δ : Type} [Rp α] [Rp β] [Rp γ] [Rp δ] {a : α} {x : β} {y : γ} {z : δ} {ta : TA} (h : XA ta Γ Ω [va T a, va T x, va T y, va T z] Ω1) : XE (tTup ta) Γ Ω (va T (T4.mk a x y z)) Ω1 := fun F σ H e hh Q q => by
  refine h F σ H e hh _ fun F1 xs H1 e1 hh1 a1 => ?_
  cases a1 with
  | cons h1 a1 =>
    cases a1 with
    | cons h2 a1 =>
      obtain ⟨v, w, rfl, h3, h4⟩ := alA2 a1
      refine ⟨by show 4 ≤ sizeLine; decide, fun p hp => ?_⟩
      obtain ⟨hh2, e2⟩ := hh1.newF (u := .tup [_, _, v, w]) hp
      exact q _ _ _ _ (e1.trans e2) hh2 ⟨⟨p, _, _, v, w, rfl, SqT.of upd_same, Rp.mono e2 h1, Rp.mono e2 h2, Rp.mono e2 h3, Rp.mono e2 h4⟩, rfl⟩
theorem tgt_quad {α β γ δ : Type} [Rp α] [Rp β] [Rp γ] [Rp δ] {x : T4 α β γ δ} {k l m n : Nat} : Tgt (gTup T.K 4 (gCons (gName k) (gCons (gName l) (gCons (gName m) (gCons (gName n) gNil))))) (va T x) (fun Γ => (((Γ.set k (some (va T x.a))).set l (some (va T x.b))).set m (some (va T x.c))).set n (some (va T x.d))) [k, l, m, n] := fun F σ Γ v H Ω e hh a Q q => by
  obtain ⟨p, y, z, w, u, rfl, ht, ry, rz, rw, ru⟩ := a
  refine ⟨p, [y, z, w, u], rfl, Same.tup hh.same ht, rfl, y, [z, w, u], rfl, z, [w, u], rfl, w, [u], rfl, u, [], rfl, rfl, ?_⟩
  exact q F _ H (Same.refl F) ((((e.set (A := va T x.a) ry).set (A := va T x.b) rz).set (A := va T x.c) rw).set (A := va T x.d) ru) hh fun vs h => (wipe_set (h n (by simp))).trans ((wipe_set (h m (by simp))).trans ((wipe_set (h l (by simp))).trans (wipe_set (h k (by simp)))))
theorem cal0' {Ω : List OA} : stt Ω [] [] = Ω := List.append_nil _
end
end VL

set_option Elab.async false
set_option linter.all false
set_option maxRecDepth 100000
/-! texts compared; items of a dict; enumerate over a list; lists unpacked; extend -/
namespace VL
open PySem L2
section
variable {T : TC} {Γ : List (Option VA)} {Ω Ω1 Ω2 Ω3 : List OA} {A B C : VA} {As : List VA} {ta tb te ti : TE} {t u : TT} {i j n m : Int} {b c : Bool} {x y : Str}
def un2 {α : Type} : List α → Option (α × α)
  | [a, b] => some (a, b)
  | _ => none
end
instance {α β γ δ : Type} [Rp α] [Rp β] [Rp γ] [Rp δ] [Dat α] [Dat β] [Dat γ] [Dat δ] : Dat (T4 α β γ δ) := ⟨fun l => .tuple [Dat.dat l.a, Dat.dat l.b, Dat.dat l.c, Dat.dat l.d], fun l => Dat.ok l.a ∧ Dat.ok l.b ∧ Dat.ok l.c ∧ Dat.ok l.d, max (Dat.dep α) (max (Dat.dep β) (max (Dat.dep γ) (Dat.dep δ))) + 1, fun e ⟨p, x, y, z, u, h1, h2, h3, h4, h5, h6⟩ => by
    rw [h1]; exact .tup (Same.tup e h2) (.cons (Dat.dp e h3) (.cons (Dat.dp e h4) (.cons (Dat.dp e h5) (.cons (Dat.dp e h6) .nil)))), fun h => by
    show (PyData.canLay0 (Dat.dat _) && (PyData.canLay0 (Dat.dat _) && (PyData.canLay0 (Dat.dat _) && (PyData.canLay0 (Dat.dat _) && true)))) = true
    rw [Dat.lay h.1, Dat.lay h.2.1, Dat.lay h.2.2.1, Dat.lay h.2.2.2]; rfl, fun {a} => by
    rw [depth_tuple]
    refine Nat.succ_le_succ ?_
    show max (PyData.depth (Dat.dat a.a)) (max (PyData.depth (Dat.dat a.b)) (max (PyData.depth (Dat.dat a.c)) (max (PyData.depth (Dat.dat a.d)) 0))) ≤ _
    have h1 := Dat.depth (a := a.a)
    have h2 := Dat.depth (a := a.b)
    have h3 := Dat.depth (a := a.c)
    have h4 := Dat.depth (a := a.d)
    omega, fun {a b} => by
    show (PyData.eqv (Dat.dat a.a) (Dat.dat b.a) && (PyData.eqv (Dat.dat a.b) (Dat.dat b.b) && (PyData.eqv (Dat.dat a.c) (Dat.dat b.c) && (PyData.eqv (Dat.dat a.d) (Dat.dat b.d) && true)))) = true ↔ a = b
    rw [Bool.and_true, Bool.and_eq_true, Bool.and_eq_true, Bool.and_eq_true, Dat.eqv, Dat.eqv, Dat.eqv, Dat.eqv]
    cases a; cases b; simp⟩
section
variable {X : Cx} {K : PySem.W.Frag} {e : Expr} {ta : TA} {p pos tpos : Pos} {elts : List Expr} {kk : Nat}
end
end VL

set_option Elab.async false
set_option linter.all false
set_option maxRecDepth 100000
/-! != of tuples item by item; == and != of pairs (frozen dict, data) that are equal -/
namespace VNe
open PySem
end VNe
namespace VL
open PySem L2 PyProof.Rows
/-- two frozen dicts of the same keys and flat values -/
def FD (H : Hp) (x y : V) : Prop := ∃ a b oa ob ks ls, x = .ref a ∧ y = .ref b ∧ H a = some (.frz oa (.dK ks)) ∧ H b = some (.frz ob (.dK ls)) ∧ ks.length = ls.length ∧ ∀ p ∈ ks, valV ls p.1 = some p.2 ∧ flatB p.2 = true
/-- the same data -/
def FS (K : PySem.W.Frag) (H : Hp) (x y : V) : Prop := ∃ d, Dp K H x d ∧ Dp K H y d ∧ d.canLay0 = true ∧ d.depth ≤ 60 ∧ PyData.eqv d d = true
section
variable {X : Cx} {pins : List (Addr × Obj)} {σ : L2.St} {H : Hp} {s : Shared}
theorem fd_eqP (I : Inv X pins σ H s) {A : Around} (hu : A.units + 60 < cLine) {x y : V} {v u : Value} (h : FD H x y) (rx : RelV x v) (ry : RelV y u) : SeqAt.EqP X.prog X.w A s v u true := by
  obtain ⟨a, b, oa, ob, ks, ls, rfl, rfl, ha, hb, hl, hp⟩ := h
  cases (show v = Value.ref a from rx)
  cases (show u = Value.ref b from ry)
  by_cases e : a = b
  · subst e
    exact (SeqAt.EqAt.same _).eqP
  · refine SeqAt.eqP_refs e fun E Q q => ?_
    have okA : ObjOk X.prog X.w H s.heap a (.dK ks) := (show s.heap.get? a = some oa ∧ ObjOk X.prog X.w H s.heap a (.dK ks) from I.hok a _ ha).2
    have okB : ObjOk X.prog X.w H s.heap b (.dK ls) := (show s.heap.get? b = some ob ∧ ObjOk X.prog X.w H s.heap b (.dK ls) from I.hok b _ hb).2
    obtain ⟨_, ya, va, ra, da⟩ := okA
    obtain ⟨_, yb, vb, rb, db⟩ := okB
    refine PySem.W.rcP_dicts (knd := mixKind X.prog X.w) (r := true) ya yb da db (by omega) (fun _ => hits_run (F := fun x y => x = y ∧ flatB x = true) (fun x y v u h r1 r2 => ?_) rb ra fun p hm => ⟨p.2, (hp p hm).1, rfl, (hp p hm).2⟩) E Q ?_
    · obtain ⟨rfl, f⟩ := h
      exact (eqAt_same r1 r2 f).eqP
    · have e : va.length = vb.length := by rw [← ra.length, ← rb.length]; exact hl
      rw [show (va.length == vb.length && true) = true from by rw [e]; simp]
      exact q
theorem fs_eqP (I : Inv X pins σ H s) {A : Around} (hu : A.units + 60 < cLine) {x y : V} {v u : Value} (h : FS X.K H x y) (rx : RelV x v) (ry : RelV y u) : SeqAt.EqP X.prog X.w A s v u true := by
  obtain ⟨d, h1, h2, sh, hd, e⟩ := h
  obtain ⟨as, r1⟩ := Dp.reads I d x v h1 rx
  obtain ⟨bs, r2⟩ := Dp.reads I d y u h2 ry
  have := SeqAt.eqAt_reads d d A s v u as bs r1 r2 sh sh (by rw [Nat.min_self]; omega)
  rw [e] at this
  exact this.eqP
end
def PkE (K : PySem.W.Frag) (x y : V) (H : Hp) : Prop := ∃ a b x1 x2 y1 y2, x = .ref a ∧ y = .ref b ∧ SqT K H a [x1, x2] ∧ SqT K H b [y1, y2] ∧ FD H x1 y1 ∧ FS K H x2 y2
def rPkEq (K : PySem.W.Frag) : R2 := fun x y H Q => PkE K x y H ∧ Q (.bl true) H
def rPkNe (K : PySem.W.Frag) : R2 := fun x y H Q => PkE K x y H ∧ Q (.bl false) H
section
variable {X : Cx} {pins : List (Addr × Obj)} {σ : L2.St} {H : Hp} {s : Shared}
theorem pk_all (I : Inv X pins σ H s) {A : Around} (hu : A.units + 60 < cLine) {x1 x2 y1 y2 : V} (f1 : FD H x1 y1) (f2 : FS X.K H x2 y2) {us ws : List Value} (r1 : Vals [x1, x2] us) (r2 : Vals [y1, y2] ws) : ∀ z ∈ us.zip ws, SeqAt.EqP X.prog X.w A s z.1 z.2 true := by
  have two : ∀ {a b : V} {us : List Value}, Vals [a, b] us → ∃ u v, us = [u, v] ∧ RelV a u ∧ RelV b v := fun r => by
    cases r with | cons h t => cases t with | cons h2 t => cases t; exact ⟨_, _, rfl, h, h2⟩
  obtain ⟨u1, u2, rfl, a1, a2⟩ := two r1
  obtain ⟨w1, w2, rfl, b1, b2⟩ := two r2
  intro z hz
  simp only [List.zip_cons_cons, List.zip_nil_left, List.mem_cons, List.not_mem_nil, or_false] at hz
  rcases hz with e | e <;> subst e
  · exact fd_eqP I hu f1 a1 b1
  · exact fs_eqP I hu f2 a2 b2
theorem op_pkEq (hu : X.A.units + 64 < cLine) : OpR X (compareOp .Eq) (rPkEq X.K) := by
  intro pins s σ H x y v u Q I rx ry ⟨h, q⟩
  obtain ⟨a, b, x1, x2, y1, y2, rfl, rfl, ha, hb, f1, f2⟩ := h
  cases rx
  cases ry
  obtain ⟨us, r1, e1, _⟩ := I.tuple ha
  obtain ⟨ws, r2, e2, _⟩ := I.tuple hb
  have len : us.length = ws.length := by rw [← r1.length, ← r2.length]; rfl
  have all := pk_all I (A := X.A.in1) (by show X.A.units + 1 + 60 < cLine; omega) f1 f2 r1 r2
  refine GQ.rc_tupG (by simpa using len) (by omega) (fun _ z => z = s) e1 e2 (fun i h1 h2 z ez => ?_) (fun z ez => ⟨.bl true, H, ez ▸ I, rfl, q⟩) rfl
  subst ez
  have h1 : i < us.length := by simpa using h1
  have h2 : i < ws.length := by simpa using h2
  have := all (us[i], ws[i]) (List.mem_iff_getElem.mpr ⟨i, by rw [List.length_zip]; omega, List.getElem_zip⟩) X.xe (fun r z' => r = true ∧ z' = z) ⟨rfl, rfl⟩
  simpa using this
theorem op_pkEqK {K : PySem.W.Frag} (hK : X.K = K) (hu : X.A.units + 64 < cLine) : OpR X (compareOp .Eq) (rPkEq K) := hK ▸ op_pkEq hu
end
section
variable {T : TC} {Γ : List (Option VA)} {Ω Ω1 Ω2 : List OA} {ta tb : TE} {α : Type} [Rp α] [Dat α] {x y : DF × α}
theorem pkE_of (h : sameD x.1.l y.1.l ∧ x.2 = y.2 ∧ Dat.ok x.2) (hd : Dat.dep α ≤ 60) {F H : Hp} {v w : V} (hh : Holds F Ω H) (a1 : (va T x).P F v) (a2 : (va T y).P F w) : PkE T.K v w H := by
  obtain ⟨s1, s2, s3⟩ := h
  obtain ⟨p, v1, v2, rfl, t1, b1, b2⟩ := a1
  obtain ⟨q, w1, w2, rfl, t2, c1, c2⟩ := a2
  refine ⟨p, q, v1, v2, w1, w2, rfl, rfl, Same.tup hh.same t1, Same.tup hh.same t2, ?_, Dat.dat x.2, Dat.dp hh.same b2, ?_, Dat.lay s3, Nat.le_trans Dat.depth hd, Dat.eqv.mpr rfl⟩
  · obtain ⟨a, oa, rfl, h1⟩ := b1
    obtain ⟨b, ob, rfl, h2⟩ := c1
    refine ⟨a, b, oa, ob, dkv x.1.l, dkv y.1.l, rfl, rfl, hh.same _ _ h1, hh.same _ _ h2, by unfold dkv; rw [List.length_map, List.length_map]; exact s1.1, fun z hz => ?_⟩
    obtain ⟨u, hu, rfl⟩ := List.mem_map.mp hz
    exact ⟨val_dkv (s1.2 u hu), rfl⟩
  · rw [s2]
    exact Dat.dp hh.same c2
theorem xe_pkEq (h : sameD x.1.l y.1.l ∧ x.2 = y.2 ∧ Dat.ok x.2) (hd : Dat.dep α ≤ 60) (ha : XE ta Γ Ω (va T x) Ω1) (hb : XE tb Γ Ω1 (va T y) Ω2) : XE (tOp (rPkEq T.K) ta tb) Γ Ω (va T true) Ω2 := xe_op ha hb fun F H v w hh a1 a2 Q q =>
  ⟨pkE_of h hd hh a1 a2, q F _ H (Same.refl F) hh rfl⟩
end
/-! d.get(k, x) -/
theorem val_dkvN {k : Str} : ∀ {l : List (Str × Int)}, l.lookup k = none → valV (dkv l) (Sum.inr k) = none
  | [], _ => rfl
  | x :: r, h => by
    have e : (k == x.1) = false := by
      cases q : k == x.1 with
      | false => rfl
      | true =>
        have h2 : (match k == x.1 with | true => some x.2 | false => r.lookup k) = none := h
        rw [q] at h2
        cases h2
    have h2 : (match k == x.1 with | true => some x.2 | false => r.lookup k) = none := h
    rw [e] at h2
    have ih := val_dkvN (l := r) h2
    have ne : x.1 ≠ k := fun z => by rw [z, beq_self_eq_true] at e; cases e
    show valV ((Sum.inr x.1, V.int x.2) :: dkv r) (Sum.inr k) = _
    unfold valV at ih ⊢
    rw [List.find?_cons_of_neg (by simp [ne])]
    exact ih
theorem val_dkvO {k : Str} {l : List (Str × Int)} : valV (dkv l) (Sum.inr k) = (l.lookup k).map V.int := by
  cases h : l.lookup k with
  | some v => exact val_dkv h
  | none => exact val_dkvN h
section
variable {T : TC} {Γ : List (Option VA)} {Ω Ω1 Ω2 Ω3 : List OA} {ta tb tc : TE}
end
end VL

set_option Elab.async false
set_option linter.all false
set_option maxRecDepth 100000
/-! != of lists whose items have a text's own __eq__; a list unpacked into three -/
namespace VNe
open PySem PySem.SeqAt
end VNe
namespace VL
open PySem L2 PyProof.Rows
/-- pair by pair the own __eq__ says yes; both lists stay -/
def WL (C : Addr) (sp : Sp) (a b : Addr) (xs ys : List V) : List (V × V) → Hp → (Hp → Prop) → Prop
  | [], H, Q => Q H
  | z :: r, H, Q => ∃ p q dx dy fs gs, z.1 = .ref p ∧ z.2 = .ref q ∧ H p = some (.ins C dx fs) ∧ H q = some (.ins C dy gs) ∧ (p = q → WL C sp a b xs ys r H Q) ∧
    (p ≠ q → sp [z.1, z.2] H (fun v H' => v = .bl true ∧ H' a = some (.lst xs) ∧ H' b = some (.lst ys) ∧ WL C sp a b xs ys r H' Q) E0)
def rOwnL (C : Addr) (sp : Sp) (r : Bool) : R2 := fun x y H Q => ∃ a b xs ys, x = .ref a ∧ y = .ref b ∧ H a = some (.lst xs) ∧ H b = some (.lst ys) ∧ xs.length = ys.length ∧ WL C sp a b xs ys (xs.zip ys) H (fun H' => Q (.bl r) H')
section
variable {X : Cx} {n : Nat} {C f : Addr} {fd : FuncData} {ps : List Str} {sp : Sp}
/-- what the loop keeps -/
def LI (X : Cx) (pins : List (Addr × Obj)) (σ : L2.St) (C : Addr) (sp : Sp) (a b : Addr) (xs ys : List V) (Q : Hp → Prop) (i : Nat) (s : Shared) : Prop := ∃ H, Inv X pins σ H s ∧ H a = some (.lst xs) ∧ H b = some (.lst ys) ∧ WL C sp a b xs ys ((xs.zip ys).drop i) H Q
end
section
variable {T : TC} {Γ : List (Option VA)} {Ω Ω1 Ω2 Ω3 : List OA} {ta tb te : TE} {l m : List Bg}
def un3 {α : Type} : List α → Option (α × α × α)
  | [a, b, c] => some (a, b, c)
  | _ => none
end
end VL

set_option Elab.async false
set_option linter.all false
set_option maxRecDepth 100000
/-! None behind a list of numbers; a pair of a new list and a value, kept in a name -/
namespace VL
open PySem L2
inductive OI where
  | i (n : Int)
  | no
def OI.v : OI → V
  | .i n => .int n
  | .no => .non
def OI.d : OI → PyData
  | .i n => .int n
  | .no => .none
instance : Rp OI := ⟨fun _ _ v a => v = a.v, fun _ h => h⟩
instance : Dat OI := ⟨OI.d, fun _ => True, 0, fun {T F H v a} _ h => by
    rw [show v = a.v from h]
    cases a
    · exact .int _
    · exact .non, fun {a} _ => by cases a <;> rfl, fun {a} => by cases a <;> exact Nat.le_refl _, fun {a b} => by
    cases a <;> cases b
    · rename_i m n
      show (m == n) = true ↔ _
      rw [beq_iff_eq]
      exact ⟨fun e => by rw [e], fun e => by cases e; rfl⟩
    · exact ⟨(fun e => nomatch e), (fun e => nomatch e)⟩
    · exact ⟨(fun e => nomatch e), (fun e => nomatch e)⟩
    · exact ⟨fun _ => rfl, fun _ => rfl⟩⟩
/-- a pair of a list that changes, at p, and a value -/
def pvA (T : TC) (p : Addr) (B : VA) : VA := ⟨fun F v => ∃ t w, v = .ref t ∧ SqT T.K F t [.ref p, w] ∧ B.P F w, fun e ⟨t, w, a, b, c⟩ => ⟨t, w, a, Same.tup e b, B.mono e c⟩⟩
section
variable {T : TC} {Γ : List (Option VA)} {Ω Ω1 Ω2 Ω3 : List OA} {A B C : VA} {ta tb te : TE} {D : Ends} {F0 : Hp} {ts : TS} {p : Addr}
end
/-! ### walks over a list that may change, and doesn't -/
section
variable {T : TC} {Γ : List (Option VA)} {Ω Ω0 Ω1 Ω2 : List OA} {A B : VA} {te ta tb : TE} {D : Ends} {F0 : Hp} {ts : TS}
structure Wk2 (k : Nat) (o : OA) {α : Type} (J : It) (Sx : Hp → Prop) (xs : List α) (A : α → VA) : Prop where
  mono : ∀ F F', Same F F' → Sx F → Sx F'
  go : ∀ (i : Nat) F Ω H, Sx F → Holds F Ω H → Ω[k]? = some o → i < xs.length → J.go i H
  stop : ∀ F Ω H, Sx F → Holds F Ω H → Ω[k]? = some o → J.stop xs.length H
  yld : ∀ (i : Nat) a F Ω H x H', Sx F → Holds F Ω H → Ω[k]? = some o → xs[i]? = some a → J.yld i H x H' → ∃ F', Same F F' ∧ Holds F' Ω H' ∧ (A a).P F' x
def XI2 (k : Nat) (o : OA) {α : Type} (wi : TI) (Γ : List (Option VA)) (Ω : List OA) (xs : List α) (A : α → VA) (Ω2 : List OA) : Prop :=
  ∀ F σ H, Env F σ Γ → Holds F Ω H → ∀ R : It → Hp → Prop, (∀ F' J H' Sx, Same F F' → Holds F' Ω2 H' → Wk2 k o J Sx xs A → Sx F' → R J H') → wi σ H R
end
end VL

set_option Elab.async false
set_option linter.all false
set_option maxRecDepth 100000
/-! the parts of a pair with a list that changes -/
namespace VL
open PySem L2
section
variable {T : TC} {Γ : List (Option VA)} {Ω Ω1 Ω2 : List OA} {B : VA} {te : TE} {p : Addr}
end
end VL

set_option Elab.async false
set_option linter.all false
set_option maxRecDepth 100000
/-! an own __eq__ beside a number or a list; is, of truths; a new list of a tuple; a new machine handed over at once -/
namespace VL
open PySem L2 PyProof.Rows
/-- neither an int nor a list comes ahead of the class at C, nor is one of it -/
def otherB (K : PySem.W.Frag) (C : Addr) : Bool := PySem.W.notFirst K C (.type "int") && (PySem.W.notFirst K C (.type "list") && (decide (PySem.W.kitOne K (.type "int") (.ref C) = some false) && decide (PySem.W.kitOne K (.type "list") (.ref C) = some false)))
/-- an int or a list -/
def IsO (H : Hp) (y : V) : Prop := (∃ i, y = .int i) ∨ ∃ b vs, y = .ref b ∧ H b = some (.lst vs)
def rOwnX (K : PySem.W.Frag) (C : Addr) (sp : Sp) : R2 := fun x y H Q => ∃ a dx fs, x = .ref a ∧ H a = some (.ins C dx fs) ∧ IsO H y ∧ sp [x, y] H (fun v H' => v = .bl false ∧ Q (.bl false) H') E0
section
variable {X : Cx} {n : Nat} {C f : Addr} {fd : FuncData} {ps : List Str} {sp : Sp}
structure CalEqX (P : Program) (w : World) (K : PySem.W.Frag) (mg : Str → Option Value) (base : Heap) (n : Nat) (C : Addr) (sp : Sp) : Prop where
  ex : ∃ f fd, FnOk P w K mg base CX0 n f fd ["self", "other"] sp ∧ otherB K C = true ∧ Meth K C "__eq__" f ∧ Binds K fd ["self", "other"] []
end
/-- what __eq__ tells of a number beside an int or a list -/
def PreX (T : TC) : PreT := fun As Ω R => ∃ (x0 : Bg) (A : VA), As = [va T x0, A] ∧ (∀ F H v, Holds F Ω H → A.P F v → IsO H v) ∧ R = RV (va T false) (stt Ω [] [])
section
variable {T : TC} {Γ : List (Option VA)} {Ω Ω0 Ω1 Ω2 : List OA} {A B : VA} {ta tb te : TE} {x : Bg} {b c : Bool}
def rIsB : R2 := fun x y H Q => ∃ a b, x = .bl a ∧ y = .bl b ∧ Q (.bl (decide (a = b))) H
end
end VL

set_option Elab.async false
set_option linter.all false
set_option maxRecDepth 100000
/-! VL18: a name that holds one of several defs; and/or whose second part changes things. -/
namespace VL
open PySem L2
/-- one of several defs, by its number -/
structure FT where
  i : Nat
instance : Rp FT := ⟨fun T _ v a => v = .ref (T.C (200 + a.i)), fun _ h => h⟩
structure HeldF (P : Program) (w : World) (K : PySem.W.Frag) (mg : Str → Option Value) (base : Heap) (k : Nat) (f : Addr) (sp : Sp) : Prop where
  ex : ∃ (fd : FuncData) (ps : List Str), FnOk P w K mg base CX0 k f fd ps sp ∧ PySem.W.keepIn K (.ref f) = true ∧ Binds K fd ps []
structure HeldFK (P : Program) (w : World) (K : PySem.W.Frag) (mg : Str → Option Value) (base : Heap) (k : Nat) (f : Addr) (n : Nat) (ks : List Str) (ix : List Nat) (sp : Sp) : Prop where
  ex : ∃ (fd : FuncData) (ps : List Str), FnOk P w K mg base CX0 k f fd ps sp ∧ PySem.W.keepIn K (.ref f) = true ∧ KBn K fd ps n ks (fun us ws => prm ix (us ++ ws)) (fun vs zs => prm ix (vs ++ zs))
def tCallFn (i : Nat) (S : Addr → Sp → Prop) (t : TA) : TE := fun σ H Q => ∃ f sp, σ[i]? = some (some (.ref f)) ∧ S f sp ∧ t σ H fun vs H1 => sp (vs ++ []) H1 Q E0
def tCallFnN (i : Nat) (S : Addr → Sp → Prop) (n m : Nat) (g : List V → List V → List V) (t tk : TA) : TE := fun σ H Q => ∃ f sp, σ[i]? = some (some (.ref f)) ∧ S f sp ∧ tCallN n m sp g E0 t tk σ H Q
section
variable {X : Cx} {k i n : Nat} {S : Addr → Sp → Prop} {x : Str} {ks : List Str} {ix : List Nat} {p pos : Pos} {e : Expr} {es : List Expr} {kws : List Keyword} {t tk : TA}
end
section
variable {T : TC} {Γ : List (Option VA)} {Ω Ω1 Ω2 Ω3 : List OA} {A : VA} {As Ks : List VA} {a : FT} {i : Nat} {S : Addr → Sp → Prop}
end
end VL

set_option Elab.async false
set_option linter.all false
set_option maxRecDepth 100000
set_option maxHeartbeats 2000000
/-! VL19: a lambda without parameters handed to a def that calls it: what it makes of the caller's machine. -/
namespace VL
open PySem PySem.Spec PyProof.Rows L2 LamX
/-- the table at P in t: its code objects stand in F -/
def TabF (F t : Hp) (P : Addr) (q : Str) : Prop := ∃ ps : Array Value, t P = some (.tbl ps) ∧ TriplesOk ps.toList ∧ ∀ (pos : Pos) (cv : Value), codeAmong pos ps.toList = some cv → ∃ c, cv = .ref c ∧ F c = some (CodeO c q)
theorem TabF.mono {F F' t : Hp} {P : Addr} {q : Str} (e : Same F F') : TabF F t P q → TabF F' t P q := fun ⟨ps, h1, h2, h3⟩ => ⟨ps, h1, h2, fun pos cv h => let ⟨c, a, b⟩ := h3 pos cv h; ⟨c, a, e _ _ b⟩⟩
/-- all the tables of a law -/
def tabA (l : List (Addr × Str)) : OA := ⟨fun F t => ∀ p ∈ l, TabF F t p.1 p.2, fun e h p hp => (h p hp).mono e⟩
/-- the table's part of the heap behind a lambda's making: H as it was, or a new code object at c' -/
def Grown (H : Hp) (P : Addr) (q : Str) (H1 : Hp) (c' : Addr) : Prop :=
  (H1 = H ∧ ∃ (ps : Array Value) (pos : Pos), H P = some (.tbl ps) ∧ codeAmong pos ps.toList = some (.ref c')) ∨
  ∃ (ps more : Array Value), H P = some (.tbl ps) ∧ H c' = none ∧ H1 = upd (upd H P (.tbl (ps ++ more))) c' (CodeO c' q) ∧ (TriplesOk ps.toList → TriplesOk (ps ++ more).toList) ∧
    ∀ (pos : Pos) (cv : Value), TriplesOk ps.toList → codeAmong pos (ps ++ more).toList = some cv → codeAmong pos ps.toList = some cv ∨ cv = .ref c'
section
variable {X : Cx} {pins : List (Addr × Obj)} {σ : L2.St} {H : Hp} {s : Shared}
end
/-! ### a def that is handed a lambda -/
/-- what its name makes: act -/
def tAct (i : Nat) (f c' : Addr) (q : Str) (act : Hp → VK → Prop) : TE := fun σ H Q => σ[i]? = some (some (.ref f)) ∧ H c' = some (CodeO c' q) ∧ act H Q
/-- in each def's context that is entered at s: a call of the name that holds the lambda -/
def ActH (P : Program) (w : World) (K : PySem.W.Frag) (mg : Str → Option Value) (base : Heap) (k : Nat) (A : Around) (outer : List PySem.Env) (s : Shared) (H : Hp) (f c' : Addr) (q : Str) (act : Hp → VK → Prop) : Prop :=
  ∀ (Ng : List Str) (qg : Str) (sg : Scope) (g : Addr) (cdg : Value) (i : Nat) (a : Str) (p1 p2 : Pos), Room (k + 1) (A.deeper (envOfC qg sg s.heap.objs.size g cdg)) → Ng[i]? = some a → Vis sg a → (a == ("__debug__" : Str)) = false → (a == ("__classdict__" : Str)) = false →
    PE (cxOf CX0 P w K mg base Ng qg sg g cdg A outer s H E0).nox (.Call (.Name a p1) [] [] p2) (tAct i f c' q act)
abbrev PreLT := Addr → Addr → Str → (Hp → VK → Prop) → PreT
/-- that def: k, its depth; kl, that of the lambda's body -/
structure CalL (P : Program) (w : World) (K : PySem.W.Frag) (mg : Str → Option Value) (base : Heap) (kl k : Nat) (x : Str) (ps : List Str) (Pre : PreLT) : Prop where
  ex : ∃ g fd, mg x = some (.ref g) ∧ PySem.W.keepIn K (.ref g) = true ∧ Binds K fd ps [] ∧ (∀ f c' q act As Ω R, Pre f c' q act As Ω R → As.length = ps.length) ∧
    ∀ (A : Around) (outer : List PySem.Env) (s : Shared) (H : Hp) (us : List Value) (vs : List V) (Q : VK) (f c' : Addr) (q : Str) (act : Hp → VK → Prop), Room k A → Env0 P w K mg base A outer s H → BindsTo s fd ⟨us, []⟩ (ps.zip us) → Vals vs us →
      ActH P w K mg base kl A outer s H f c' q act → mkSp (Pre f c' q act) vs H Q E0 → codeAny (model P w) A (.call (.ref g) ⟨us, []⟩) (CR CX0 outer P w H s Q E0) s
section
variable {P : Program} {w : World} {K : PySem.W.Frag} {mg : Str → Option Value} {base : Heap}
end
/-! ### x(e, lambda: body) -/
def tLam (P : Addr) (q : Str) (Pre : PreLT) (ta tb : TE) : TE := fun σ H Q => ta σ H fun v H0 => (∃ ps : Array Value, H0 P = some (.tbl ps) ∧ TriplesOk ps.toList ∧ ∀ (pos : Pos) (cv : Value), codeAmong pos ps.toList = some cv → ∃ c, cv = .ref c ∧ H0 c = some (CodeO c q)) ∧
  ∀ f c' H1, Grown H0 P q H1 c' → mkSp (Pre f c' q fun H' Q' => tb σ H' Q') [v, .ref f] H1 Q E0
section
variable {X : Cx}
end
/-! ### what it makes of a machine -/
/-- the name's value: the lambda f, which takes the machine at k0 from m to r.2 and tells r.1 -/
def askA (T : TC) {α : Type} [Rp α] (f c' : Addr) (q : Str) (act : Hp → VK → Prop) (Ω : List OA) (k0 : Nat) (p0 : Addr) (M : MS → Option (α × MS)) : VA :=
  ⟨fun F v => v = .ref f ∧ F c' = some (CodeO c' q) ∧ ∀ m r, M m = some r → ∀ F1 H1, Same F F1 → Holds F1 (stt Ω [(k0, machA T p0 m)] []) H1 → ∀ Q : VK, (∀ F2 v H2, Same F1 F2 → Holds F2 (stt Ω [(k0, machA T p0 r.2)] []) H2 → (va T r.1).P F2 v → Q v H2) → act H1 Q,
   fun e ⟨h1, h2, h3⟩ => ⟨h1, e _ _ h2, fun m r hm F1 H1 e1 => h3 m r hm F1 H1 (e.trans e1)⟩⟩
section
variable {T : TC} {Γ : List (Option VA)} {Ω Ω1 : List OA} {α : Type} [Rp α]
end
section
variable {T : TC} {Γ : List (Option VA)} {Ω Ω1 Ω2 : List OA} {α : Type} [Rp α]
end
/-! ### a def whose code object is known -/
def CodeIs (K : PySem.W.Frag) (g c : Addr) : Prop := ∀ (oc : Value) (od : Option Addr) (x qual : Str) (ar : Arguments) (body : List Stmt) (sc : Scope) (dV kV doc pm : Value) (an : Option Addr) (cdv ct : Value) (osl : Array (Option Value)),
  K.lookup g = some ⟨oc, od, .func (PySem.W.fnOf x qual ar body sc dV kV doc pm an cdv ct), osl⟩ → PySem.W.codeIn K cdv qual = true → cdv = .ref c
section
variable {P : Program} {w : World} {K : PySem.W.Frag} {mg : Str → Option Value} {base : Heap}
end
end VL

set_option Elab.async false
set_option linter.all false
set_option maxRecDepth 100000
/-! VL20: the script with a list behind it; divmod; tests whose parts change things. -/
namespace VL
open PySem PySem.Spec PyProof.Rows L2
def rCatS (K : PySem.W.Frag) : R2 := fun x y H Q => ∃ l b xs zs, x = .ref l ∧ y = .ref b ∧ SqL K H l xs ∧ H b = some (.lst zs) ∧ xs.length + zs.length ≤ sizeLine ∧ ∀ p, H p = none → Q (.ref p) (upd H p (.lst (xs ++ zs)))
/-- divmod by what is not 0 -/
def CDivF (_ j : Int) : Prop := j ≠ 0 ∧ j.natAbs.log2 < 9000
def rDivmod : List V → Hp → VK → Prop := fun xs H Q => ∃ i j, xs = [.int i, .int j] ∧ CDivF i j ∧ ∀ p, H p = none → Q (.ref p) (upd H p (.tup [.int (i.fdiv j), .int (i.fmod j)]))
section
variable {T : TC} {ts : TA} {Γ : List (Option VA)} {Ω Ω1 Ω2 : List OA} {A : VA} {ta tb : TE} {t u : TT} {i j : Int} {b : Bool}
end
end VL

set_option Elab.async false
set_option linter.all false
set_option maxRecDepth 100000
/-! VL21: == and != of tuples whose items are numbers by their own __eq__, frozen dicts and data. -/
namespace VNe
open PySem PySem.SeqAt
end VNe
namespace VL
open PySem L2 PyProof.Rows
/-- pair by pair: equal dicts, equal data, or the own __eq__ says yes -/
def WT (K : PySem.W.Frag) (C : Addr) (sp : Sp) : List (V × V) → Hp → (Hp → Prop) → Prop
  | [], H, Q => Q H
  | z :: r, H, Q => (FD H z.1 z.2 ∧ WT K C sp r H Q) ∨ (FS K H z.1 z.2 ∧ WT K C sp r H Q) ∨
    ∃ p q dx dy fs gs, z.1 = .ref p ∧ z.2 = .ref q ∧ H p = some (.ins C dx fs) ∧ H q = some (.ins C dy gs) ∧ (p = q → WT K C sp r H Q) ∧ (p ≠ q → sp [z.1, z.2] H (fun v H' => v = .bl true ∧ WT K C sp r H' Q) E0)
def rOwnT (K : PySem.W.Frag) (C : Addr) (sp : Sp) (b : Bool) : R2 := fun x y H Q => ∃ a c xs ys, x = .ref a ∧ y = .ref c ∧ SqT K H a xs ∧ SqT K H c ys ∧ xs.length = ys.length ∧ WT K C sp (xs.zip ys) H (fun H' => Q (.bl b) H')
section
variable {X : Cx} {n : Nat} {C f : Addr} {fd : FuncData} {ps : List Str} {sp : Sp}
/-- what the walk keeps -/
def TI (X : Cx) (pins : List (Addr × Obj)) (σ : L2.St) (C : Addr) (sp : Sp) (Q : Hp → Prop) (zs : List (Value × Value)) (s : Shared) : Prop :=
  ∃ H, Inv X pins σ H s ∧ ∃ us : List (V × V), us.length = zs.length ∧ (∀ i (h : i < us.length) (h2 : i < zs.length), RelV us[i].1 zs[i].1 ∧ RelV us[i].2 zs[i].2) ∧ WT X.K C sp us H Q
end
section
variable {T : TC} {Γ : List (Option VA)} {Ω Ω1 Ω2 : List OA} {ta tb : TE} {Pre : PreT}
/-- two items that compare alike -/
def ItE (T : TC) (Ω : List OA) (sp : Sp) (A B : VA) : Prop := ∀ F H x y r k, Holds F Ω H → A.P F x → B.P F y → (∀ F' H', Same F F' → Holds F' Ω H' → WT T.K (T.C 1) sp r H' k) → WT T.K (T.C 1) sp ((x, y) :: r) H k
end
end VL

set_option Elab.async false
set_option linter.all false
set_option maxRecDepth 100000
/-! VL22: a dict that changes: made, written, read, locked where it is read as a value. -/
namespace VL
open PySem L2 PyProof.Rows
/-- a dict that is locked from now on, at its old place -/
def fzDA (p : Addr) (l : List (Str × Int)) : OA := ⟨fun F _ => ∃ od, F p = some (.frz od (.dK (dkv l))), fun e ⟨od, h⟩ => ⟨od, e _ _ h⟩⟩
theorem Holds.fzAt {F H : Hp} {Ω : List OA} {k : Nat} {p : Addr} {l : List (Str × Int)} {od : Obj} (h : Holds F Ω H) (hk : Ω[k]? = some (rawD p (dkv l))) :
    Holds (upd F p (.frz od (.dK (dkv l)))) (Ω.set k (fzDA p l)) (upd H p (.frz od (.dK (dkv l)))) ∧ Same F (upd F p (.frz od (.dK (dkv l)))) := by
  obtain ⟨ts, h1, h2, h3, h4, h5⟩ := h
  have lt := getlt hk
  have tp : ts k p = some (.dK (dkv l)) := h1 k (rawD p (dkv l)) hk
  have nF : F p = none := h4 k p _ lt tp
  have sF : Same F (upd F p (.frz od (.dK (dkv l)))) := same_upd nF
  have nt : ∀ i, i < Ω.length → i ≠ k → ts i p = none := fun i q ne => h5 k i p _ lt q (fun e => ne e.symm) tp
  refine ⟨⟨fun i => if i = k then (fun _ => none) else ts i, fun i o r => ?_, fun b x e => ?_, fun i li b x e => ?_, fun i b x li e => ?_, fun i j b x li lj ne e => ?_⟩, sF⟩
  · show o.P _ (if i = k then _ else ts i)
    by_cases hi : i = k
    · subst hi
      rw [List.getElem?_set_self lt] at r
      cases r
      exact ⟨od, upd_same⟩
    · rw [if_neg hi]
      rw [List.getElem?_set_ne (fun z => hi z.symm)] at r
      exact o.mono sF (h1 i o r)
  · by_cases hb : b = p
    · subst hb; rw [upd_same] at e ⊢; exact e
    · rw [upd_ne hb] at e ⊢; exact h2 b x e
  · rw [List.length_set] at li
    have e : (if i = k then (fun _ => none) else ts i) b = some x := e
    by_cases hi : i = k
    · rw [if_pos hi] at e; cases e
    · rw [if_neg hi] at e
      by_cases hb : b = p
      · subst hb; rw [nt i li hi] at e; cases e
      · rw [upd_ne hb]; exact h3 i li b x e
  · rw [List.length_set] at li
    have e : (if i = k then (fun _ => none) else ts i) b = some x := e
    by_cases hi : i = k
    · rw [if_pos hi] at e; cases e
    · rw [if_neg hi] at e
      by_cases hb : b = p
      · subst hb; rw [nt i li hi] at e; cases e
      · rw [upd_ne hb]; exact h4 i b x li e
  · rw [List.length_set] at li lj
    have e : (if i = k then (fun _ => none) else ts i) b = some x := e
    show (if j = k then (fun _ => none) else ts j) b = none
    by_cases hi : i = k
    · rw [if_pos hi] at e; cases e
    · rw [if_neg hi] at e
      by_cases hj : j = k
      · rw [if_pos hj]
      · rw [if_neg hj]; exact h5 i j b x li lj ne e
/-- written in its place, or at the end -/
def dput (l : List (Str × Int)) (k : Str) (v : Int) : List (Str × Int) := if (l.any fun p => decide (p.1 = k)) = true then l.map (fun p => if p.1 = k then (p.1, v) else p) else l ++ [(k, v)]
theorem dput_kv (l : List (Str × Int)) (k : Str) (v : Int) : putK (dkv l) (Sum.inr k : Key) (V.int v) = dkv (dput l k v) := by
  have e : ((dkv l).any fun kv => decide (kv.1 = (Sum.inr k : Key))) = (l.any fun p => decide (p.1 = k)) := by
    unfold dkv
    rw [List.any_map]
    congr 1
    funext p
    exact decide_eq_decide.mpr ⟨fun h => Sum.inr.inj h, fun h => congrArg Sum.inr h⟩
  unfold putK dput
  rw [e]
  split
  · unfold dkv
    rw [List.map_map, List.map_map]
    congr 1
    funext p
    show (if (Sum.inr p.1 : Key) = Sum.inr k then ((Sum.inr p.1 : Key), V.int v) else (Sum.inr p.1, V.int p.2)) = _
    by_cases h : p.1 = k
    · rw [if_pos (congrArg Sum.inr h)]
      show _ = (fun q : Str × Int => ((Sum.inr q.1 : Key), V.int q.2)) (if p.1 = k then (p.1, v) else p)
      rw [if_pos h]
    · rw [if_neg (fun z => h (Sum.inr.inj z))]
      show _ = (fun q : Str × Int => ((Sum.inr q.1 : Key), V.int q.2)) (if p.1 = k then (p.1, v) else p)
      rw [if_neg h]
  · unfold dkv
    rw [List.map_append]; rfl
section
variable {T : TC} {Γ : List (Option VA)} {Ω Ω1 Ω2 Ω3 : List OA} {A B C : VA} {ta tb te : TE} {D : Ends} {F0 : Hp} {ts : TS}
/-! written -/
/-- a target that writes a thing -/
def Tgo (g : TG) (A : VA) (Γ : List (Option VA)) (Ω Ω2 : List OA) : Prop := ∀ F σ v H, Env F σ Γ → Holds F Ω H → A.P F v → ∀ Q : L2.St → Hp → Prop, (∀ F' H', Same F F' → Holds F' Ω2 H' → Q σ H') → g v σ H Q
theorem tgo_dict {to ti : TE} {p : Addr} {l : List (Str × Int)} {key : Str} {v : Int} {k : Nat} (ho : XE to Γ Ω (vr p) Ω) (hi : XE ti Γ Ω (va T key) Ω) (hk : Ω[k]? = some (rawD p (dkv l))) (hz : l.length < sizeLine) (he : Ω.set k (rawD p (dkv (dput l key v))) = Ω2) : Tgo (gSub to ti rSetD) (va T v) Γ Ω Ω2 := fun F σ x H e hh a Q q => by
  subst he
  refine ho F σ H e hh _ fun F1 y H1 Ω' e1 hh1 ⟨a1, o1⟩ => ?_
  subst o1
  refine hi F1 σ H1 (e.mono e1) hh1 _ fun F2 z H2 Ω' e2 hh2 ⟨a2, o2⟩ => ?_
  subst o2
  have a1 : y = V.ref p := a1
  have a2 : z = V.str key := a2
  have a : x = V.int v := a
  subst a1 a2 a
  obtain ⟨t, h1, h3, _, h5⟩ := hh2.get hk
  have h1 : t p = some (.dK (dkv l)) := h1
  have := h5 (rawD p (dkv (dput l key v))) p (.dK (dkv l)) (.dK (dkv (dput l key v))) h1 upd_same
  refine ⟨p, upd H2 p (.dK (putK (dkv l) (Sum.inr key : Key) (V.int v))), rfl, DPut.k (k := (Sum.inr key : Key)) (h3 _ _ h1) (by unfold dkv; rw [List.length_map]; exact hz), ?_⟩
  rw [dput_kv]
  exact q F2 _ (e1.trans e2) this
theorem xs_asgO {g : TG} (h : XE te Γ Ω A Ω1) (ht : Tgo g A Γ Ω1 Ω2) (q : XS ts D F0 Γ Ω2) : XS (tSeq (tAsg te g) ts) D F0 Γ Ω := fun σ H ⟨F, f0, en, hh⟩ => by
  refine h F σ H en hh _ fun F1 v H1 Ω' e1 hh1 ⟨a1, o1⟩ => ?_
  subst o1
  exact ht F1 σ v H1 (en.mono e1) hh1 a1 _ fun F2 H2 e2 hh2 => q σ H2 ⟨F2, f0.trans (e1.trans e2), (en.mono e1).mono e2, hh2⟩
theorem xs_asgO1 {g : TG} (h : XE te Γ Ω A Ω1) (ht : Tgo g A Γ Ω1 Ω2) (q : ∀ σ H, NX F0 Γ Ω2 σ H → D.nx σ H) : XS (tAsg te g) D F0 Γ Ω := fun σ H n => xs_asgO (ts := tNext) h ht q σ H n
end
/-! != of two dicts, where they are known to be alike -/
def rNeF : R2 := fun x y H Q => ∃ a b oa ob ks ls, x = .ref a ∧ y = .ref b ∧ H a = some (.frz oa (.dK ks)) ∧ H b = some (.frz ob (.dK ls)) ∧ ks.length = ls.length ∧ (∀ p ∈ ks, valV ls p.1 = some p.2 ∧ flatB p.2 = true) ∧ Q (.bl false) H
end VL

set_option Elab.async false
set_option linter.all false
set_option maxRecDepth 100000
/-! VL23: range downwards, one by one; isinstance and len of pairs. -/
namespace VL
open PySem L2 PyProof.Rows
section
variable {T : TC} {Γ : List (Option VA)} {Ω Ω1 Ω2 : List OA} {A B C : VA} {ta tb te : TE}
/-- i, i - 1, .. (n of them) -/
def rngD (i : Int) (n : Nat) : List Int := (List.range n).map fun (k : Nat) => i + (k : Int) * (-1)
end
end VL

set_option Elab.async false
set_option linter.all false
set_option maxRecDepth 100000
/-! VL24: a pair of a dict and a list that both change: made, handed on, its parts; get of a dict that changes. -/
namespace VL
open PySem L2 PyProof.Rows
section
variable {T : TC} {Γ : List (Option VA)} {Ω Ω1 Ω2 Ω3 : List OA} {A B C : VA} {ta tb tc te : TE} {D : Ends} {F0 : Hp} {ts : TS}
theorem xe_dget2O {l : List (Str × Int)} {key : Str} {d : Int} {p : Addr} {k : Nat} (ha : XE ta Γ Ω (vr p) Ω1) (hb : XE tb Γ Ω1 (va T key) Ω2) (hc : XE tc Γ Ω2 (va T d) Ω3) (h1 : Ω1[k]? = some (rawD p (dkv l))) (hk : Ω3[k]? = some (rawD p (dkv l))) : XE (tDGet2 ta tb tc) Γ Ω (va T ((l.lookup key).getD d)) Ω3 := fun F σ H e hh Q q => by
  refine ha F σ H e hh _ fun F1 x H1 Ω' e1 hh1 ⟨a1, o1⟩ => ?_
  subst o1
  have a1 : x = V.ref p := a1
  subst a1
  obtain ⟨t1, g1, g3, _⟩ := hh1.get h1
  have g1 : t1 p = some (.dK (dkv l)) := g1
  refine ⟨p, rfl, .inl ⟨dkv l, .inl (g3 _ _ g1)⟩, ?_⟩
  refine hb F1 σ H1 (e.mono e1) hh1 _ fun F2 y H2 Ω' e2 hh2 ⟨a2, o2⟩ => ?_
  subst o2
  refine hc F2 σ H2 (e.mono (e1.trans e2)) hh2 _ fun F3 z H3 Ω' e3 hh3 ⟨a3, o3⟩ => ?_
  subst o3
  have a2 : y = V.str key := a2
  have a3 : z = V.int d := a3
  subst a2 a3
  obtain ⟨t, h1, h3, _⟩ := hh3.get hk
  have h1 : t p = some (.dK (dkv l)) := h1
  refine ⟨(l.lookup key).map V.int, .inl ⟨dkv l, Sum.inr key, .inl (h3 _ _ h1), rfl, val_dkvO.symm⟩, ?_⟩
  have ez : ((l.lookup key).map V.int).getD (V.int d) = V.int ((l.lookup key).getD d) := by cases l.lookup key <;> rfl
  rw [ez]
  exact q F3 _ H3 _ ((e1.trans e2).trans e3) hh3 ⟨rfl, rfl⟩
/-- dict(d): a new one, from a locked one -/
def rDictD : List V → Hp → VK → Prop := fun xs H Q => ∃ (a : Addr) (kvs : List (Key × V)), xs = [.ref a] ∧ Rd H a (.dK kvs) ∧ ∀ p, H p = none → Q (.ref p) (upd H p (.dK kvs))
end
end VL

set_option Elab.async false
set_option linter.all false
set_option maxRecDepth 100000
set_option maxHeartbeats 2000000
/-! VL25: a lambda with one parameter that has an int for its default, handed to a def that calls it without arguments. -/
namespace VL
open PySem PySem.Spec PyProof.Rows L2 LamX
structure LamSD (N : List Str) (nm : Str) (sc scope : Scope) : Prop where
  kind : scope.kind = .function
  co : scope.isCoroutine = false
  gen : scope.isGenerator = false
  own : ∀ y ∈ scope.names, y.2 ≠ .cell ∧ (y.2 = .local → y.1 ∉ N)
  free : ∀ y ∈ scope.names, y.2 = .free → sc.names.lookup y.1 = some .cell ∨ sc.names.lookup y.1 = some .free
  par : scope.names.lookup nm = some .local
def lamSDB (N : List Str) (nm : Str) (sc scope : Scope) : Bool :=
  decide (scope.kind = .function) && !scope.isCoroutine && !scope.isGenerator && (scope.names.all fun y => !decide (y.2 = .cell) && (!decide (y.2 = .local) || !decide (y.1 ∈ N)) && (!decide (y.2 = .free) || decide (sc.names.lookup y.1 = some .cell) || decide (sc.names.lookup y.1 = some .free))) && decide (scope.names.lookup nm = some .local)
theorem LamSD.has {X : Cx} {N : List Str} {nm : Str} {scope : Scope} (L : LamSD N nm X.env.scope scope) (ok : X.Ok) : ∀ y ∈ scope.names, y.2 = .free → ∃ c, X.env.cells.lookup y.1 = some c := fun y hy e => by
  rcases L.free y hy e with k | k
  · exact ok.has _ (.inl k)
  · exact ok.has _ (.inr k)
section
variable {X : Cx} {pins : List (Addr × Obj)} {σ : L2.St} {H : Hp} {s : Shared}
end
section
variable {X : Cx} {pins : List (Addr × Obj)} {σ : L2.St} {H HZ : Hp} {s s1 : Shared}
end
section
variable {X : Cx}
end
section
variable {X : Cx}
end
section
variable {T : TC} {Γ : List (Option VA)} {Ω Ω1 Ω2 : List OA} {ta tb : TE} {i j : Int}
end
end VL

set_option Elab.async false
set_option linter.all false
set_option maxRecDepth 100000
/-! VL26: the first and the last of four. -/
namespace VL
open PySem L2 PyProof.Rows
section
variable {T : TC} {Γ : List (Option VA)} {Ω Ω1 Ω2 : List OA} {te ti : TE}
end
end VL

set_option Elab.async false
set_option linter.all false
set_option maxRecDepth 100000
/-! VL27: == and != of tuples among whose items stand pairs of numbers with an own __eq__; a call with a new thing ahead of arguments that change things. -/
namespace VL
open PySem L2 PyProof.Rows
/-- pair by pair, as WT, or two tuples within -/
def WT2 (K : PySem.W.Frag) (C : Addr) (sp : Sp) : List (V × V) → Hp → (Hp → Prop) → Prop
  | [], H, Q => Q H
  | z :: r, H, Q => WT K C sp [z] H (fun H' => WT2 K C sp r H' Q) ∨
    ∃ p q xs ys, z.1 = .ref p ∧ z.2 = .ref q ∧ SqT K H p xs ∧ SqT K H q ys ∧ xs.length = ys.length ∧ (p = q → WT2 K C sp r H Q) ∧ (p ≠ q → WT K C sp (xs.zip ys) H (fun H' => WT2 K C sp r H' Q))
def rOwnT2 (K : PySem.W.Frag) (C : Addr) (sp : Sp) (b : Bool) : R2 := fun x y H Q => ∃ a c xs ys, x = .ref a ∧ y = .ref c ∧ SqT K H a xs ∧ SqT K H c ys ∧ xs.length = ys.length ∧ WT2 K C sp (xs.zip ys) H (fun H' => Q (.bl b) H')
section
variable {X : Cx} {n : Nat} {C f : Addr} {fd : FuncData} {ps : List Str} {sp : Sp}
def TI2 (X : Cx) (pins : List (Addr × Obj)) (σ : L2.St) (C : Addr) (sp : Sp) (Q : Hp → Prop) (zs : List (Value × Value)) (s : Shared) : Prop :=
  ∃ H, Inv X pins σ H s ∧ ∃ us : List (V × V), us.length = zs.length ∧ (∀ i (h : i < us.length) (h2 : i < zs.length), RelV us[i].1 zs[i].1 ∧ RelV us[i].2 zs[i].2) ∧ WT2 X.K C sp us H Q
end
section
variable {T : TC} {Γ : List (Option VA)} {Ω Ω1 Ω2 : List OA} {ta tb : TE} {Pre : PreT}
def ItE2 (T : TC) (Ω : List OA) (sp : Sp) (A B : VA) : Prop := ∀ F H x y r k, Holds F Ω H → A.P F x → B.P F y → (∀ F' H', Same F F' → Holds F' Ω H' → WT2 T.K (T.C 1) sp r H' k) → WT2 T.K (T.C 1) sp ((x, y) :: r) H k
end
end VL

set_option Elab.async false
set_option linter.all false
set_option maxRecDepth 100000
/-! VL28: a pair of a new list and a value out of one of several defs; such a pair handed on at once; a new list and two values in one assignment. -/
namespace VL
open PySem L2 PyProof.Rows
section
variable {T : TC} {Γ : List (Option VA)} {Ω Ω0 Ω1 Ω2 Ω3 : List OA} {A B C : VA} {As Ks : List VA} {a : FT} {i : Nat} {S : Addr → Sp → Prop} {ta tb te : TE} {D : Ends} {F0 : Hp} {ts : TS}
/-- arguments, among them a pair of a new list at p -/
def XAN (t : TA) (Γ : List (Option VA)) (Ω : List OA) (As : Addr → List VA) (Ω2 : Addr → List OA) : Prop :=
  ∀ F σ H, Env F σ Γ → Holds F Ω H → ∀ Q : List V → Hp → Prop, (∀ F' vs H' p, Same F F' → Holds F' (Ω2 p) H' → AlA F' vs (As p) → Q vs H') → t σ H Q
end
end VL

set_option Elab.async false
set_option linter.all false
set_option maxRecDepth 100000
/-! VL29: == and != of machines, with a new one, with a tuple; a machine made by keywords; in of a dict that changes; new lists told by a machine; a method of a new machine. -/
namespace VL
open PySem L2 PyProof.Rows
section
variable {T : TC} {Γ : List (Option VA)} {Ω Ω0 Ω1 Ω2 Ω3 : List OA} {A B C : VA} {As Ks : List VA} {ta tb te : TE} {D : Ends} {F0 : Hp} {ts : TS} {p p2 : Addr} {k k2 : Nat} {x y s : MS} {r : Bool}
end
/-! ### machine == a tuple -/
def otherT (K : PySem.W.Frag) (C : Addr) : Bool := PySem.W.notFirst K C (.type "tuple") && decide (PySem.W.kitOne K (.type "tuple") (.ref C) = some false)
def rOwnXT (K : PySem.W.Frag) (C : Addr) (sp : Sp) : R2 := fun x y H Q => ∃ a dx fs b xs, x = .ref a ∧ H a = some (.ins C dx fs) ∧ y = .ref b ∧ SqT K H b xs ∧ sp [x, y] H (fun v H' => v = .bl false ∧ Q (.bl false) H') E0
section
variable {X : Cx} {n : Nat} {C f : Addr} {fd : FuncData} {ps : List Str} {sp : Sp}
structure CalEqT (P : Program) (w : World) (K : PySem.W.Frag) (mg : Str → Option Value) (base : Heap) (n : Nat) (C : Addr) (sp : Sp) : Prop where
  ex : ∃ f fd, FnOk P w K mg base CX0 n f fd ["self", "other"] sp ∧ otherT K C = true ∧ Meth K C "__eq__" f ∧ Binds K fd ["self", "other"] []
end
/-- what __eq__ of a machine tells beside a tuple -/
def PreXT (T : TC) : PreT := fun As Ω R => ∃ (k0 : Nat) (p0 : Addr) (x0 : MS) (A : VA), As = [vr p0, A] ∧ Ω[k0]? = some (machA T p0 x0) ∧ (∀ F H v, Holds F Ω H → A.P F v → ∃ b xs, v = .ref b ∧ SqT T.K H b xs) ∧ R = RV (va T false) (stt Ω [] [])
section
variable {T : TC} {Γ : List (Option VA)} {Ω Ω0 Ω1 Ω2 Ω3 : List OA} {A B C : VA} {As Ks : List VA} {ta tb te : TE} {p : Addr} {k : Nat} {x s : MS} {r : Bool}
def rNoN : R2 := fun x y H Q => y = .non ∧ Q (.bl (!decide (x = .non))) H
/-! ### new lists that a machine tells -/
def Pre_Mach_tallyN (T : TC) : PreT := fun As Ω R => ∃ (k : Nat) (p : Addr) (s : MS), As = [vr p] ∧ Ω[k]? = some (machA T p s) ∧ R = RN Ω (fun q => lstA T q s.tally)
def Pre_Mach_walkN (T : TC) : PreT := fun As Ω R => ∃ (k : Nat) (p : Addr) (s : MS), As = [vr p] ∧ Ω[k]? = some (machA T p s) ∧ R = RN Ω (fun q => lstA T q s.wk)
structure CalCK (P : Program) (w : World) (K : PySem.W.Frag) (mg : Str → Option Value) (base : Heap) (k : Nat) (x : Str) (C : Addr) (ps ks : List Str) (ix : List Nat) (sp : Sp) : Prop where
  ex : ∃ f fd g, FnOk P w K mg base CX0 k f fd ps sp ∧ mg x = some (.ref C) ∧ Mk K C f ∧ KBn K fd ps 1 ks g (fun vs zs => prm ix (vs ++ zs))
end
end VL

set_option Elab.async false
set_option linter.all false
set_option maxRecDepth 100000
/-! VL30: a dict with three numbers, a dict and a list that change (a law's own tally and walk): made, its parts; ways that are never taken; ranges by a step; max of a list. -/
namespace VL
open PySem L2 PyProof.Rows
def wkv (b c B : Int) (d e : Addr) : List (Key × V) := [(Sum.inr ("bits" : Str), .int b), (Sum.inr ("cutoff" : Str), .int c), (Sum.inr ("base" : Str), .int B), (Sum.inr ("counts" : Str), .ref d), (Sum.inr ("walk" : Str), .ref e)]
section
variable {b c B : Int} {d e : Addr}
theorem valV_hit {k : Key} {v : V} {r : List (Key × V)} : valV ((k, v) :: r) k = some v := by
  unfold valV
  rw [List.find?_cons_of_pos (p := fun kv : Key × V => decide (kv.1 = k)) (decide_eq_true rfl)]
  rfl
theorem valV_miss {j k : Key} {v : V} {r : List (Key × V)} (h : j ≠ k) : valV ((j, v) :: r) k = valV r k := by
  unfold valV
  rw [List.find?_cons_of_neg (p := fun kv : Key × V => decide (kv.1 = k)) (fun q => h (of_decide_eq_true q))]
theorem ks_ne {x y : Str} (h : x ≠ y) : (Sum.inr x : Key) ≠ Sum.inr y := fun e => h (Sum.inr.inj e)
theorem wkv_bits : valV (wkv b c B d e) (Sum.inr ("bits" : Str) : Key) = some (V.int b) := valV_hit
theorem wkv_cutoff : valV (wkv b c B d e) (Sum.inr ("cutoff" : Str) : Key) = some (V.int c) := (valV_miss (ks_ne (by decide +kernel))).trans (valV_hit)
theorem wkv_base : valV (wkv b c B d e) (Sum.inr ("base" : Str) : Key) = some (V.int B) := (valV_miss (ks_ne (by decide +kernel))).trans ((valV_miss (ks_ne (by decide +kernel))).trans (valV_hit))
theorem wkv_counts : valV (wkv b c B d e) (Sum.inr ("counts" : Str) : Key) = some (V.ref d) := (valV_miss (ks_ne (by decide +kernel))).trans ((valV_miss (ks_ne (by decide +kernel))).trans ((valV_miss (ks_ne (by decide +kernel))).trans (valV_hit)))
theorem wkv_walk : valV (wkv b c B d e) (Sum.inr ("walk" : Str) : Key) = some (V.ref e) := (valV_miss (ks_ne (by decide +kernel))).trans ((valV_miss (ks_ne (by decide +kernel))).trans ((valV_miss (ks_ne (by decide +kernel))).trans ((valV_miss (ks_ne (by decide +kernel))).trans (valV_hit))))
end
section
variable {T : TC} {Γ : List (Option VA)} {Ω Ω0 Ω1 Ω2 Ω3 : List OA} {A B' C : VA} {ta tb te : TE} {D : Ends} {F0 : Hp} {ts : TS} {b c B : Int} {p : Addr} {k : Nat}
theorem xe_wget {kvs : List (Key × V)} {key : Str} {v : V} (ha : XE ta Γ Ω (vr p) Ω1) (hb : XE tb Γ Ω1 (va T key) Ω2) (hk : Ω2[k]? = some (rawD p kvs)) (hv : valV kvs (Sum.inr key : Key) = some v) (hA : ∀ F, A.P F v) : XE (tDGet ta tb) Γ Ω A Ω2 := fun F σ H e hh Q q => by
  refine ha F σ H e hh _ fun F1 x H1 Ω' e1 hh1 ⟨a1, o1⟩ => ?_
  subst o1
  refine hb F1 σ H1 (e.mono e1) hh1 _ fun F2 y H2 Ω' e2 hh2 ⟨a2, o2⟩ => ?_
  subst o2
  have a1 : x = V.ref p := a1
  have a2 : y = V.str key := a2
  subst a1 a2
  obtain ⟨t, h1, h3, _⟩ := hh2.get hk
  have h1 : t p = some (.dK kvs) := h1
  exact ⟨p, v, rfl, .inl ⟨kvs, Sum.inr key, .inl (h3 _ _ h1), rfl, hv.symm⟩, q F2 _ H2 _ (e1.trans e2) hh2 ⟨hA F2, rfl⟩⟩
/-- such a dict, new -/
def RNW (T : TC) (Ω2 : List OA) (b c B : Int) : Hp → V → List OA → Prop := fun _ v Ω' => ∃ p d e, v = .ref p ∧ Ω' = Ω2 ++ [rawD p (wkv b c B d e), rawD d (dkv []), lstA T e ([] : List (T3 Str Int Int))]
theorem stt_apps {ks : List (Nat × OA)} {L M : List OA} : stt Ω ks L ++ M = stt Ω ks (L ++ M) := List.append_assoc _ _ _
theorem merge_wkv {d e : Addr} : mergeK [] (wkv b c B d e) = wkv b c B d e := by
  unfold wkv mergeK putK
  rfl
theorem xg_world {t1 t2 t3 t5 : TE} {ks : List (Nat × OA)} {L : List OA} (h1 : ∀ X, XE t1 Γ (stt Ω ks (L ++ [X])) (va T b) (stt Ω ks (L ++ [X]))) (h2 : ∀ X, XE t2 Γ (stt Ω ks (L ++ [X])) (va T c) (stt Ω ks (L ++ [X]))) (h3 : ∀ X, XE t3 Γ (stt Ω ks (L ++ [X])) (va T B) (stt Ω ks (L ++ [X])))
    (h5 : ∀ M, XG t5 Γ (stt Ω ks (L ++ M)) (RN (stt Ω ks (L ++ M)) (fun q => lstA T q ([] : List (T3 Str Int Int))))) :
    XG (tDisp [(tC (.str "bits"), t1), (tC (.str "cutoff"), t2), (tC (.str "base"), t3), (tC (.str "counts"), tDNewK), (tC (.str "walk"), t5)]) Γ (stt Ω ks L) (RNW T (stt Ω ks L) b c B) := fun F σ H e hh Q q => by
  intro p hp
  have hh1 := hh.newD (kvs := []) hp
  rw [stt_apps] at hh1
  refine h1 _ F σ _ e hh1 _ fun F1 x1 H1 Ωa e1 hh1 ⟨a1, o1⟩ => ?_
  subst o1
  refine h2 _ F1 σ H1 (e.mono e1) hh1 _ fun F2 x2 H2 Ωa e2 hh2 ⟨a2, o2⟩ => ?_
  subst o2
  refine h3 _ F2 σ H2 ((e.mono e1).mono e2) hh2 _ fun F3 x3 H3 Ωa e3 hh3 ⟨a3, o3⟩ => ?_
  subst o3
  intro d hd
  have hh4 := hh3.newD (kvs := []) hd
  rw [stt_apps, List.append_assoc] at hh4
  refine h5 _ F3 σ _ (((e.mono e1).mono e2).mono e3) hh4 _ fun F4 x5 H4 Ωa e4 hh5 ⟨l, a5, o5⟩ => ?_
  subst o5
  have a1 : x1 = .int b := a1
  have a2 : x2 = .int c := a2
  have a3 : x3 = .int B := a3
  subst a1 a2 a3 a5
  rw [stt_apps, List.append_assoc, List.append_assoc] at hh5
  have hg : (stt Ω ks (L ++ ([rawD p []] ++ ([rawD d []] ++ [lstA T l ([] : List (T3 Str Int Int))]))))[Ω.length + L.length]? = some (rawD p []) := stt_getL (j := L.length) (by simp)
  obtain ⟨t, g1, g3, g4, g5⟩ := hh5.get hg
  have g1 : t p = some (.dK []) := g1
  refine ⟨g3 _ _ g1, wkv b c B d l, rfl, by show 5 ≤ 15; decide, ?_⟩
  rw [merge_wkv]
  have := g5 (rawD p (wkv b c B d l)) p (.dK []) (.dK (wkv b c B d l)) g1 upd_same
  refine q F4 _ _ _ (((e1.trans e2).trans e3).trans e4) this ⟨p, d, l, rfl, ?_⟩
  rw [stt_setL, stt_apps, List.set_append_right _ _ (Nat.le_refl _), Nat.sub_self]
  rfl
theorem xs_parWN {i j : Nat} {ks : List (Nat × OA)} {L : List OA} {o : Addr → OA} (h1 : XG ta Γ Ω0 (RNW T (stt Ω ks L) b c B)) (h2 : ∀ p d e, XG tb Γ (stt Ω ks (L ++ [rawD p (wkv b c B d e), rawD d (dkv []), lstA T e ([] : List (T3 Str Int Int))])) (RN (stt Ω ks (L ++ [rawD p (wkv b c B d e), rawD d (dkv []), lstA T e ([] : List (T3 Str Int Int))])) o))
    (q : ∀ p d e r, XS ts D F0 ((Γ.set i (some (vr p))).set j (some (vr r))) (stt Ω ks (L ++ [rawD p (wkv b c B d e), rawD d (dkv []), lstA T e ([] : List (T3 Str Int Int)), o r]))) : XS (tSeq (tPar i j (tCons ta (tCons tb tNil))) ts) D F0 Γ Ω0 := fun σ H ⟨F, f0, e, hh⟩ => by
  refine h1 F σ H e hh _ fun F1 x H1 Ω' e1 hh1 ⟨p, d, l, a1, o1⟩ => ?_
  subst a1 o1
  rw [stt_apps] at hh1
  refine h2 p d l F1 σ H1 (e.mono e1) hh1 _ fun F2 y H2 Ω' e2 hh2 ⟨r, a2, o2⟩ => ?_
  subst a2 o2
  rw [stt_apps, List.append_assoc] at hh2
  exact ⟨_, _, rfl, q p d l r _ H2 ⟨F2, f0.trans (e1.trans e2), (((e.mono e1).mono e2).set (A := vr p) rfl).set (A := vr r) rfl, hh2⟩⟩
theorem xe_fzE {l : List (Str × Int)} (ha : XE te Γ Ω (vr p) Ω) (hk : Ω[k]? = some (rawD p (dkv l))) (he : Ω.set k (fzDA p l) = Ω2) : XE (tFz te) Γ Ω (va T (DF.mk l)) Ω2 := fun F σ H e hh Q q => by
  subst he
  refine ha F σ H e hh _ fun F1 x H1 Ω' e1 hh1 ⟨a1, o1⟩ => ?_
  subst o1
  have a1 : x = V.ref p := a1
  subst a1
  obtain ⟨t, h3, h4, _⟩ := hh1.get hk
  have h3 : t p = some (.dK (dkv l)) := h3
  refine ⟨p, dkv l, rfl, h4 _ _ h3, fun od => ?_⟩
  obtain ⟨hh', s'⟩ := hh1.fzAt (od := od) hk
  exact q _ _ _ _ (e1.trans s') hh' ⟨⟨p, od, rfl, upd_same⟩, rfl⟩
/-- a tuple of a number, a dict and a list that is changed no more -/
theorem xe_fzL3 {α : Type} [Rp α] {β γ : Type} [Rp β] [Rp γ] {x : β} {y : γ} {wl : List α} {t : TA} {ks : List (Nat × OA)} {L : List OA} {j : Nat} (h : XA t Γ Ω0 [va T x, va T y, vr p] (stt Ω ks L)) (hj : L[j]? = some (lstA T p wl)) : XE (tTup t) Γ Ω0 (va T (T3.mk x y (LF.mk wl))) (stt Ω ks (L.set j nilA)) := fun F σ H e hh Q q => by
  refine h F σ H e hh _ fun F1 xs H1 e1 hh1 a1 => ?_
  cases a1 with
  | cons b0 a1 =>
    obtain ⟨v, w, rfl, b1, b2⟩ := alA2 a1
    have b2 : w = V.ref p := b2
    subst b2
    obtain ⟨F', u, s1, s2, ⟨vs, ht, al⟩, hh'⟩ := hh1.freezeAt (stt_getL hj)
    rw [stt_setL] at hh'
    refine ⟨by show 3 ≤ sizeLine; decide, fun d hd => ?_⟩
    obtain ⟨hh2, e2⟩ := hh'.newF (u := .tup [_, v, .ref p]) hd
    exact q _ _ _ _ ((e1.trans s1).trans e2) hh2 ⟨⟨d, _, v, .ref p, rfl, SqT.of upd_same, Rp.mono (s1.trans e2) b0, Rp.mono (s1.trans e2) b1, p, vs, rfl, e2 _ _ (s2 _ _ ht), al.mono (s1.trans e2)⟩, rfl⟩
/-! ### is None -/
def rIsNo : R2 := fun x y H Q => y = .non ∧ Q (.bl (decide (x = .non))) H
theorem op_isNo {X : Cx} : OpR X (compareOp .Is) rIsNo := op_isN
theorem xe_isNI {i : Int} (ha : XE ta Γ Ω (va T i) Ω1) (hb : XE tb Γ Ω1 (va T ()) Ω2) : XE (tOp rIsNo ta tb) Γ Ω (va T false) Ω2 := xe_op ha hb fun F H u v hh a1 a2 Q q => by
  have a1 : u = .int i := a1
  have a2 : v = .non := a2
  subst a1 a2
  exact ⟨rfl, q F _ H (Same.refl F) hh rfl⟩
theorem xe_isNU (ha : XE ta Γ Ω (va T ()) Ω1) (hb : XE tb Γ Ω1 (va T ()) Ω2) : XE (tOp rIsNo ta tb) Γ Ω (va T true) Ω2 := xe_op ha hb fun F H u v hh a1 a2 Q q => by
  have a1 : u = .non := a1
  have a2 : v = .non := a2
  subst a1 a2
  exact ⟨rfl, q F _ H (Same.refl F) hh rfl⟩
def tNo : TE := fun _ _ _ => False
theorem pe_no {X : Cx} {e : Expr} : PE X e tNo := ⟨fun _ _ _ _ _ _ h => h.elim⟩
/-! ### max of a list -/
def maxL : List Int → Int
  | [] => 0
  | [a] => a
  | a :: r => max a (maxL r)
theorem maxL_is : ∀ {l : List Int} {m : Int}, m ∈ l → (∀ y, y ∈ l → y ≤ m) → m = maxL l
  | [], m, h, _ => by cases h
  | [a], m, h, _ => List.mem_singleton.mp h
  | a :: b :: r, m, h, k => by
    show m = max a (maxL (b :: r))
    have ha := k a List.mem_cons_self
    rcases List.mem_cons.mp h with e | h'
    · subst e
      have : maxL (b :: r) ≤ m := by
        have key : ∀ (l : List Int), l ≠ [] → maxL l ∈ l := fun l => by
          induction l with
          | nil => intro h; exact absurd rfl h
          | cons x xs ih =>
            intro _
            cases xs with
            | nil => exact List.mem_cons_self
            | cons y ys =>
              show max x (maxL (y :: ys)) ∈ _
              rcases Int.le_total x (maxL (y :: ys)) with h | h
              · rw [Int.max_eq_right h]; exact List.mem_cons_of_mem _ (ih (List.cons_ne_nil _ _))
              · rw [Int.max_eq_left h]; exact List.mem_cons_self
        exact k _ (List.mem_cons_of_mem _ (key _ (List.cons_ne_nil _ _)))
      omega
    · have := maxL_is h' fun y hy => k y (List.mem_cons_of_mem _ hy)
      rw [← this]
      omega
theorem al_ints {F : Hp} {ws : List V} {l : List Int} (al : Al T F ws l) : ws = l.map V.int := by
  induction al with
  | nil => rfl
  | cons h _ ih => rw [List.map_cons, ← ih, show _ = V.int _ from h]
theorem xe_maxL {l : List Int} (ha : XE te Γ Ω A Ω1) (hl : IsLs T Ω1 A l) (h0 : 0 < l.length) : XE (tCB (rMax T.K) (tCons te tNil)) Γ Ω (va T (maxL l)) Ω1 := xe_cb (xa_cons ha xa_nil) fun F H vs hh a Q q => by
  obtain ⟨v, rfl, a1⟩ := alA1 a
  obtain ⟨p, ws, rfl, hs, al⟩ := hl F H v hh a1
  refine ⟨p, l, rfl, ?_, h0, fun m h1 h2 => ?_⟩
  · rw [← al_ints al]
    exact SqL.of hs
  · rw [maxL_is h1 h2]
    exact q F _ H (Same.refl F) hh rfl
theorem cr_maxK {X : Cx} {K : PySem.W.Frag} (h : X.K = K) (hc : X.calm = true) : CallR X (.builtin "max") (rMax K) := h ▸ cr_max hc
end
end VL
namespace VL
open PySem L2 PyProof.Rows
/-! ### range(0, j, c) -/
def rngS (c : Int) (n : Nat) : List Int := (List.range n).map fun (k : Nat) => 0 + (k : Int) * c
def CRg (j c : Int) : Prop := 0 < c ∧ c < 2 ^ 30 ∧ 0 ≤ j ∧ j < 2 ^ 30
theorem wk_rangeS {n : Nat} {c : Int} {T : TC} : Wk (Itc 0 c n) (fun _ => True) (rngS c n) (fun a => va T a) where
  mono := fun _ _ _ _ => trivial
  go := fun i F Ω H _ _ hi => by
    have hi : i < n := by simpa [rngS] using hi
    exact hi
  stop := fun F Ω H _ _ => by show n ≤ _; simp [rngS]
  yld := fun i a F Ω H x H' _ hh hx y => by
    obtain ⟨e, y⟩ := y
    subst e y
    refine ⟨F, Same.refl F, hh, ?_⟩
    show V.int _ = V.int a
    unfold rngS at hx
    rw [List.getElem?_map] at hx
    cases hr : (List.range n)[i]? with
    | none => rw [hr] at hx; cases hx
    | some k =>
      rw [hr] at hx
      have hk : i = k := by
        obtain ⟨h1, h2⟩ := List.getElem?_eq_some_iff.mp hr
        rw [List.getElem_range] at h2
        exact h2
      subst hk
      cases hx
      rfl
theorem rgc_ok {j c : Int} (h : CRg j c) : RgC 0 j c ((j + c - 1) / c).toNat := by
  obtain ⟨h1, h2, h3, h4⟩ := h
  have e := rangeSize_pos (len := j) (c := c) (by omega) h3
  have q0 : 0 ≤ (j + c - 1) / c := Int.ediv_nonneg (by omega) (by omega)
  have q1 : (j + c - 1) / c ≤ j + c - 1 := Int.ediv_le_self _ (by omega)
  refine ⟨by omega, by omega, ?_, by rw [e]; omega⟩
  unfold Builtin.Range.small
  rw [e]
  simp only [Builtin.Range.rangeFitsLong, Bool.and_eq_true, Bool.or_eq_true, decide_eq_true_eq, beq_iff_eq, show c > 0 from h1, if_true]
  omega
section
variable {T : TC} {Γ : List (Option VA)} {Ω Ω1 Ω2 : List OA} {B' : VA} {As : List VA}
theorem xi_rangeS {j c : Int} {ta : TA} (ha : XA ta Γ Ω [va T (0 : Int), va T j, va T c] Ω1) (h : CRg j c) : XI (iRng3 ta) Γ Ω (rngS c ((j + c - 1) / c).toNat) (fun a => va T a) Ω1 := fun F σ H e hh R r => by
  refine ha F σ H e hh _ fun F1 vs H1 e1 hh1 a1 => ?_
  cases a1 with
  | cons a1 t =>
    obtain ⟨v, w, rfl, a2, a3⟩ := alA2 t
    have a1 : _ = V.int 0 := a1
    have a2 : v = .int j := a2
    have a3 : w = .int c := a3
    subst a1 a2 a3
    exact ⟨0, j, c, _, rfl, rgc_ok h, r F1 _ H1 _ e1 hh1 wk_rangeS trivial⟩
theorem xn_callW {Pre : PreT} {E : XK} {t : TA} {Ω' : List OA} {b c B : Int} (ha : XA t Γ Ω As Ω1) (hp : Pre As Ω1 (RNW T Ω' b c B)) (he : Ω' = Ω2) : XG (tCall (mkSp Pre) [] E t) Γ Ω (RNW T Ω2 b c B) := he ▸ xg_call ha hp
end
end VL

set_option Elab.async false
set_option linter.all false
set_option maxRecDepth 100000
/-! VL31: reversed(range(n)). -/
namespace VL
open PySem L2 PyProof.Rows
section
variable {T : TC} {Γ : List (Option VA)} {Ω Ω1 Ω2 : List OA} {A B C : VA} {ta tb te : TE}
end
end VL

set_option Elab.async false
set_option linter.all false
set_option maxRecDepth 100000
/-! VL32: defs with defaults and keyword-only parameters. -/
namespace VL
open PySem L2
open PyProof.Rows (envOfC)
section
variable {P : Program} {w : World} {K : PySem.W.Frag} {mg : Str → Option Value} {base : Heap}
/-- a def that may be called, what is not written filled up -/
structure CalD (P : Program) (w : World) (K : PySem.W.Frag) (mg : Str → Option Value) (base : Heap) (k : Nat) (x : Str) (ps : List Str) (dvs : List V) (sp : Sp) : Prop where
  ex : ∃ f fd ds, FnOk P w K mg base CX0 k f fd ps sp ∧ mg x = some (.ref f) ∧ PySem.W.keepIn K (.ref f) = true ∧ Vals dvs ds ∧ Binds K fd ps ds
structure CalKD (P : Program) (w : World) (K : PySem.W.Frag) (mg : Str → Option Value) (base : Heap) (k : Nat) (x : Str) (ps : List Str) (n : Nat) (ks : List Str) (dvs : List V) (ix : List Nat) (sp : Sp) : Prop where
  ex : ∃ f fd g, FnOk P w K mg base CX0 k f fd ps sp ∧ mg x = some (.ref f) ∧ PySem.W.keepIn K (.ref f) = true ∧ KBn K fd ps n ks g (fun vs zs => prm ix (vs ++ (dvs ++ zs)))
end
section
variable {X : Cx} {k n : Nat} {x : Str} {ps ks : List Str} {dvs : List V} {ix : List Nat} {sp : Sp} {p pos : Pos} {e : Expr} {es : List Expr} {kws : List Keyword} {t tk : TA}
end
section
variable {T : TC} {Γ : List (Option VA)} {Ω Ω1 Ω2 Ω3 : List OA} {A : VA} {As Ks Ds : List VA} {dvs : List V}
end
end VL

set_option Elab.async false
set_option linter.all false
set_option maxRecDepth 100000
/-! VL33: a list of two new machines. -/
namespace VL
open PySem L2
def rawLA (d : Addr) (vs : List V) : OA := ⟨fun _ t => t d = some (.lst vs), fun _ h => h⟩
/-- hands back a list of two new machines -/
abbrev RMM (T : TC) (Ω2 : List OA) (s1 s2 : MS) : Hp → V → List OA → Prop := fun F v Ω' => ∃ p q1 q2, v = .ref p ∧ F p = some (.lst [.ref q1, .ref q2]) ∧ Ω' = Ω2 ++ [machA T q1 s1, machA T q2 s2]
section
variable {T : TC} {Γ : List (Option VA)} {Ω Ω0 Ω1 Ω2 : List OA} {As : List VA} {ta tb te : TE}
variable {F0 : Hp}
end
end VL

set_option Elab.async false
set_option linter.all false
set_option maxRecDepth 100000
/-! VL34: count of a text in a list of texts. -/
namespace VL
open PySem L2
/-- how often -/
def cntStr (k : Str) (l : List Str) : Nat := l.countP (· == k)
def rCntS (K : PySem.W.Frag) : V → List V → Hp → VK → Prop := fun x xs H Q => ∃ (p : Addr) (l : List Str) (k : Str), x = .ref p ∧ xs = [.str k] ∧ SqL K H p (l.map V.str) ∧ Q (.int (cntStr k l : Nat)) H
section
variable {T : TC} {Ω Ω1 Ω2 : List OA}
end
end VL

set_option Elab.async false
set_option linter.all false
set_option maxRecDepth 100000
set_option maxHeartbeats 1000000
/-! VL35: list(reversed(l)) of a list. -/
namespace VLR
open PySem PySem.Spec PyProof.Rows RT
section
variable {prog : Program} {w : World} {A : Around} {E : Value → Shared → Prop} {s : Shared}
end
end VLR
namespace VL
open PySem PySem.Spec PyProof.Rows L2 _root_.RT
section
variable {X : Cx}
def tListRev (K : PySem.W.Frag) (te : TE) : TE := fun σ H Q => te σ H fun v H1 => ∃ (a : Addr) (xs : List V), v = .ref a ∧ SqL K H1 a xs ∧ ∀ q, H1 q = none → Q (.ref q) (upd H1 q (.lst xs.reverse))
end
section
variable {T : TC} {Ω Ω1 : List OA}
end
section
variable {T : TC} {Ω Ω1 Ω2 : List OA}
/-- a text among texts -/
def inS (k : Str) (l : List Str) : Bool := l.any fun y => y == k
end
end VL

set_option Elab.async false
set_option linter.all false
set_option maxRecDepth 100000
/-! VL36: a tuple of one thing and a pair make a triple. -/
namespace VL
open PySem L2
section
variable {T : TC} {Ω Ω1 Ω2 : List OA}
end
end VL

set_option Elab.async false
set_option linter.all false
set_option maxRecDepth 100000
/-! VL37: a dict that changed, locked within a pair that is handed back; both things of a pair one by one. -/
namespace VL
open PySem L2 PyProof.Rows
/-- some dict is locked for good -/
def tFzA (te : TE) : TE := fun σ H Q => te σ H fun v H1 => ∃ p kvs, H1 p = some (.dK kvs) ∧ ∀ od, Q v (upd H1 p (.frz od (.dK kvs)))
section
variable {T : TC} {Γ : List (Option VA)} {Ω Ω1 Ω2 Ω3 : List OA} {A B C : VA} {ta tb te : TE} {D : Ends} {F0 : Hp} {ts : TS}
end
end VL

set_option Elab.async false
set_option linter.all false
set_option maxRecDepth 100000
set_option maxHeartbeats 2000000
/-! VL38: a lambda with one parameter, handed to a def that calls it with a machine. -/
namespace VL
open PySem PySem.Spec PyProof.Rows L2 LamX
/-- the context of the body of such a lambda: the caller's names and its own -/
def lamCx1 (X : Cx) (nm : Str) (A : Around) (outer : List PySem.Env) (s : Shared) (H : Hp) (E : XK) (scope : Scope) (f c' : Addr) : Cx := { lamCx X A outer s H E scope f c' with N := X.N ++ [nm] }
section
variable {X : Cx} {pins : List (Addr × Obj)} {σ : L2.St} {H HZ : Hp} {s s1 : Shared}
/-- what a call of the name with one value makes -/
def tAct1 (i : Nat) (f c' : Addr) (q : Str) (act : V → Hp → VK → Prop) (te : TE) : TE := fun σ H Q => σ[i]? = some (some (.ref f)) ∧ te σ H fun v H1 => H1 c' = some (CodeO c' q) ∧ act v H1 Q
end
/-! ### a def that is handed such a lambda -/
def ActH1 (P : Program) (w : World) (K : PySem.W.Frag) (mg : Str → Option Value) (base : Heap) (k : Nat) (A : Around) (outer : List PySem.Env) (s : Shared) (H : Hp) (f c' : Addr) (q : Str) (act : V → Hp → VK → Prop) : Prop :=
  ∀ (Ng : List Str) (qg : Str) (sg : Scope) (g : Addr) (cdg : Value) (i : Nat) (a : Str) (p1 p2 : Pos) (e : Expr) (te : TE), Room (k + 1) (A.deeper (envOfC qg sg s.heap.objs.size g cdg)) → Ng[i]? = some a → Vis sg a → (a == ("__debug__" : Str)) = false → (a == ("__classdict__" : Str)) = false →
    PE (cxOf CX0 P w K mg base Ng qg sg g cdg A outer s H E0).nox e te → starEach [e] (envOfC qg sg s.heap.objs.size g cdg) = (false, eval e (envOfC qg sg s.heap.objs.size g cdg)) :: starEach [] (envOfC qg sg s.heap.objs.size g cdg) →
    PE (cxOf CX0 P w K mg base Ng qg sg g cdg A outer s H E0).nox (.Call (.Name a p1) [e] [] p2) (tAct1 i f c' q act te)
abbrev PreLT1 := Addr → Addr → Str → (V → Hp → VK → Prop) → PreT
structure CalL1 (P : Program) (w : World) (K : PySem.W.Frag) (mg : Str → Option Value) (base : Heap) (kl k : Nat) (x : Str) (ps : List Str) (Pre : PreLT1) : Prop where
  ex : ∃ g fd, mg x = some (.ref g) ∧ PySem.W.keepIn K (.ref g) = true ∧ Binds K fd ps [] ∧ (∀ f c' q act As Ω R, Pre f c' q act As Ω R → As.length = ps.length) ∧
    ∀ (A : Around) (outer : List PySem.Env) (s : Shared) (H : Hp) (us : List Value) (vs : List V) (Q : VK) (f c' : Addr) (q : Str) (act : V → Hp → VK → Prop), Room k A → Env0 P w K mg base A outer s H → BindsTo s fd ⟨us, []⟩ (ps.zip us) → Vals vs us →
      ActH1 P w K mg base kl A outer s H f c' q act → mkSp (Pre f c' q act) vs H Q E0 → codeAny (model P w) A (.call (.ref g) ⟨us, []⟩) (CR CX0 outer P w H s Q E0) s
section
variable {P : Program} {w : World} {K : PySem.W.Frag} {mg : Str → Option Value} {base : Heap}
end
def tLam1 (P : Addr) (q : Str) (Pre : PreLT1) (ta tb : TE) : TE := fun σ H Q => ta σ H fun v H0 => (∃ ps : Array Value, H0 P = some (.tbl ps) ∧ TriplesOk ps.toList ∧ ∀ (pos : Pos) (cv : Value), codeAmong pos ps.toList = some cv → ∃ c, cv = .ref c ∧ H0 c = some (CodeO c q)) ∧
  ∀ f c' H1, Grown H0 P q H1 c' → mkSp (Pre f c' q fun u H' Q' => tb (σ ++ [some u]) H' Q') [v, .ref f] H1 Q E0
section
variable {X : Cx}
end
/-- the name's value: the lambda f, which takes the machine at k0, handed over, from m to r.2 and tells r.1 -/
def askA1 (T : TC) {α : Type} [Rp α] (f c' : Addr) (q : Str) (act : V → Hp → VK → Prop) (Ω : List OA) (k0 : Nat) (p0 : Addr) (M : MS → Option (α × MS)) : VA :=
  ⟨fun F v => v = .ref f ∧ F c' = some (CodeO c' q) ∧ ∀ m r, M m = some r → ∀ F1 H1, Same F F1 → Holds F1 (stt Ω [(k0, machA T p0 m)] []) H1 → ∀ Q : VK, (∀ F2 v H2, Same F1 F2 → Holds F2 (stt Ω [(k0, machA T p0 r.2)] []) H2 → (va T r.1).P F2 v → Q v H2) → act (.ref p0) H1 Q,
   fun e ⟨h1, h2, h3⟩ => ⟨h1, e _ _ h2, fun m r hm F1 H1 e1 => h3 m r hm F1 H1 (e.trans e1)⟩⟩
section
variable {T : TC} {Γ : List (Option VA)} {Ω Ω1 Ω2 : List OA} {α : Type} [Rp α]
end
/-! ### a dict with a machine, a list and a dict -/
def wev (m e d : Addr) : List (Key × V) := [(Sum.inr ("engine" : Str), .ref m), (Sum.inr ("walk" : Str), .ref e), (Sum.inr ("counts" : Str), .ref d)]
section
variable {m e d : Addr}
end
section
variable {T : TC} {Γ : List (Option VA)} {Ω Ω0 Ω1 Ω2 Ω3 : List OA} {A B' C : VA} {ta tb te : TE} {D : Ends} {F0 : Hp} {ts : TS} {p m : Addr} {k : Nat}
/-- such a dict, new, about the machine at m -/
def RNE (T : TC) (Ω2 : List OA) (m : Addr) : Hp → V → List OA → Prop := fun _ v Ω' => ∃ p e d, v = .ref p ∧ Ω' = Ω2 ++ [rawD p (wev m e d), lstA T e ([] : List (T3 Str Int Int)), rawD d (dkv [])]
end
end VL

set_option Elab.async false
set_option linter.all false
set_option maxRecDepth 100000
/-! VL39: a list of two machines by its name: kept, taken apart, handed over; a dict with a machine out of a def. -/
namespace VL
open PySem L2 PyProof.Rows
/-- a list of the things at q1 and q2, for good -/
def mmA (q1 q2 : Addr) : VA := ⟨fun F v => ∃ p, v = .ref p ∧ F p = some (.lst [.ref q1, .ref q2]), fun e ⟨p, a, b⟩ => ⟨p, a, e _ _ b⟩⟩
section
variable {T : TC} {Γ : List (Option VA)} {Ω Ω0 Ω1 Ω2 Ω3 : List OA} {A B C : VA} {As : List VA} {ta tb te : TE} {D : Ends} {F0 : Hp} {ts : TS} {p m q1 q2 : Addr}
end
end VL

set_option Elab.async false
set_option linter.all false
set_option maxRecDepth 100000
/-! VL40: x *= e; two names for one value; range(a, j, c). -/
namespace VL
open PySem L2 PyProof.Rows
section
variable {T : TC} {Γ : List (Option VA)} {Ω Ω0 Ω1 Ω2 : List OA} {A B' : VA} {As : List VA} {te : TE} {D : Ends} {F0 : Hp} {ts : TS}
def rngA (a c : Int) (n : Nat) : List Int := (List.range n).map fun (k : Nat) => a + (k : Int) * c
def CRgA (a j c : Int) : Prop := 0 < c ∧ c < 2 ^ 30 ∧ 0 ≤ a ∧ a ≤ j ∧ j < 2 ^ 30
end
end VL

set_option Elab.async false
set_option linter.all false
set_option maxRecDepth 100000
/-! VL41: list(range(a, j, c)); the first part of a triple. -/
namespace VL
open PySem PySem.Spec L2 PyProof.Rows
def rgVC (a c : Int) (n : Nat) : List V := (rngA a c n).map V.int
def tLstRgC (ta : TA) : TE := fun σ H Q => ta σ H fun vs H1 => ∃ (i j c : Int) (n : Nat), vs = [.int i, .int j, .int c] ∧ RgC i j c n ∧ n ≤ 2 ^ 24 ∧ ∀ q, H1 q = none → Q (.ref q) (upd H1 q (.lst (rgVC i c n)))
section
variable {X : Cx}
end
section
variable {T : TC} {Γ : List (Option VA)} {Ω Ω1 : List OA} {te : TE}
end
end VL

set_option Elab.async false
set_option linter.all false
set_option maxRecDepth 100000
/-! VL42: three things that change; a list of two new machines handed to a def; w, x, y, z = values and a new list. -/
namespace VL
open PySem L2 PyProof.Rows
section
variable {T : TC} {Γ : List (Option VA)} {Ω Ω0 Ω1 : List OA} {A B C : VA} {As : List VA} {ta tb tc td : TE} {D : Ends} {F0 : Hp} {ts : TS}
end
end VL

set_option Elab.async false
set_option linter.all false
set_option maxRecDepth 100000
/-! VL43: a pair turned about, p[::-1]; d.get(k) of a key that is there. -/
namespace VL
open PySem PySem.Spec PySem.Calls L2 PyProof.Rows
section
variable {prog : Program} {w : World} {A : Around} {E : Value → Shared → Prop} {s : Shared}
end
def tRevP (K : PySem.W.Frag) (te : TE) : TE := fun σ H Q => te σ H fun x H1 => ∃ a u v, x = .ref a ∧ SqT K H1 a [u, v] ∧ ∀ p, H1 p = none → Q (.ref p) (upd H1 p (.tup [v, u]))
section
variable {X : Cx}
end
section
variable {T : TC} {Γ : List (Option VA)} {Ω Ω1 Ω2 : List OA} {te ta tb : TE}
end
section
variable {T : TC} {Γ : List (Option VA)} {Ω Ω1 Ω2 : List OA} {ta tb : TE}
/-- a number among numbers -/
def inI (k : Int) (l : List Int) : Bool := l.any fun y => y == k
end
end VL

set_option Elab.async false
set_option linter.all false
set_option maxRecDepth 100000
/-! VL44: sum(d.values()). -/
namespace VL
open PySem PySem.Spec PySem.Calls PySem.W L2 PyProof PyProof.Rows
def tSumVals (td : TE) : TE := fun σ H Q => td σ H fun x H1 => ∃ (a : Addr) (kvs : List (Key × V)) (is : List Int), x = V.ref a ∧ Rd H1 a (.dK kvs) ∧ kvs.map (·.2) = is.map V.int ∧ Q (.int (preSum (fun i => is.getD i 0) is.length)) H1
section
variable {X : Cx} {o : Expr} {p pos apos mpos : Pos} {td : TE}
end
section
variable {T : TC} {Γ : List (Option VA)} {Ω Ω1 : List OA} {te : TE}
end
end VL

set_option Elab.async false
set_option linter.all false
set_option maxRecDepth 100000
/-! VL45: defs that raise an own exception without arguments; try .. except X around one statement. -/
namespace VL
open PySem L2
open PyProof.Rows (envOfC)
/-- a promise to raise: of the arguments As in the state Ω -/
abbrev PreXX := List VA → List OA → (Hp → Value → Option Addr → List OA → Prop) → Prop
def mkSpX (Pre : PreXX) : Sp := fun vs H _ E => ∃ F Ω As R, Pre As Ω R ∧ AlA F vs As ∧ Holds F Ω H ∧ ∀ F' c d H' Ω', Same F F' → Holds F' Ω' H' → R F' c d Ω' → E c d H'
/-- an exception of the class at C, the state Ω2 -/
abbrev RX (C : Addr) (Ω2 : List OA) : Hp → Value → Option Addr → List OA → Prop := fun _ c _ Ω' => c = .ref C ∧ Ω' = Ω2
/-- it returns, or it raises -/
def sp2 (Pre : PreT) (PreX : PreXX) : Sp := fun vs H Q E => mkSp Pre vs H Q E ∨ mkSpX PreX vs H Q E
def RTX (F0 : Hp) (R : Hp → Value → Option Addr → List OA → Prop) : XK → Prop := fun E => ∀ F c d H Ω, Same F0 F → Holds F Ω H → R F c d Ω → E c d H
def BodX (X : Cx) (body : List Stmt) (Γ : List (Option VA)) (Ω : List OA) (F0 : Hp) : Prop := ∃ t, PSs X body t ∧ ∀ D : Ends, XS t D F0 Γ Ω
abbrev WXE (E : XK) : WX := fun c d _ H => E c d H
section
variable {P : Program} {w : World} {K : PySem.W.Frag} {mg : Str → Option Value} {base : Heap}
/-- what never raises may stand where something may be let out -/
theorem FnOk.up {k : Nat} {f : Addr} {fd : FuncData} {ps : List Str} {sp : Sp} (F : FnOk P w K mg base CX0 k f fd ps sp) : FnOk P w K mg base (L2.CX P w) k f fd ps sp :=
  ⟨F.len, fun A outer s H args us vs Q E hr he hb hv hs => codeAny_mono (F.run A outer s H args us vs Q E hr he hb hv hs) fun r s' q => by
    cases r with
    | error e => exact False.elim q
    | ok fl => cases fl <;> exact q⟩
theorem FnOk.or {k : Nat} {f : Addr} {fd : FuncData} {ps : List Str} {Pre : PreT} {PreX : PreXX} (F : FnOk P w K mg base CX0 k f fd ps (mkSp Pre)) (G : FnOk P w K mg base (L2.CX P w) k f fd ps (mkSpX PreX)) : FnOk P w K mg base (L2.CX P w) k f fd ps (sp2 Pre PreX) :=
  ⟨fun vs H Q E h => h.elim (F.len vs H Q E) (G.len vs H Q E), fun A outer s H args us vs Q E hr he hb hv hs => hs.elim (fun h => (FnOk.up F).run A outer s H args us vs Q E hr he hb hv h) (fun h => G.run A outer s H args us vs Q E hr he hb hv h)⟩
/-- a def that may be called, and may raise -/
structure CalX (P : Program) (w : World) (K : PySem.W.Frag) (mg : Str → Option Value) (base : Heap) (k : Nat) (x : Str) (ps : List Str) (sp : Sp) : Prop where
  ex : ∃ f fd, FnOk P w K mg base (L2.CX P w) k f fd ps sp ∧ mg x = some (.ref f) ∧ PySem.W.keepIn K (.ref f) = true ∧ Binds K fd ps []
end
/-! ### an own exception -/
structure ExcC (K : PySem.W.Frag) (mg : Str → Option Value) (x : Str) (C : Addr) : Prop where
  q : PySem.W.excIn K C aeBase "ArithmeticError.__new__" = true
  k : PySem.W.keepIn K (.ref C) = true
  s : PySem.W.subIn K (.ref C) (.type "BaseException") = some true
  t : PySem.W.typeIn K (.ref C) = some (.type "type")
  g : mg x = some (.ref C)
section
variable {X : Cx} {C : Addr} {x : Str} {p pos : Pos} {W : WX}
/-- raise X() -/
def tRz (c : Value) (W : WX) : TS := fun _ σ H => W c none σ H
end
section
variable {T : TC} {Γ Γ' : List (Option VA)} {Ω Ω' Ω1 Ω2 : List OA} {A : VA} {As : List VA} {te : TE} {t : TA} {D : Ends} {F0 : Hp} {W : WX} {C : Addr} {Pre : PreT} {PreX : PreXX} {E : XK} {R : Hp → Value → Option Addr → List OA → Prop}
/-- the wish W takes an exception of the class at C at such slots in such a state -/
def WTk (W : WX) (C : Addr) (F0 : Hp) (Γ : List (Option VA)) (Ω : List OA) : Prop := ∀ d σ H, NX F0 Γ Ω σ H → W (.ref C) d σ H
/-- an expression that raises -/
def XR (te : TE) (F0 : Hp) (Γ : List (Option VA)) (Ω : List OA) : Prop := ∀ σ H, NX F0 Γ Ω σ H → ∀ Q : VK, te σ H Q
/-! try: .. except x: .. -/
def tTry (K : PySem.W.Frag) (c : Value) (ts : Addr → Value → Option Addr → TS) (tb : WX → TS) (Wout : WX) : TS := fun D σ H => tb (wOnly K c ts Wout D) D σ H
end
section
variable {X : Cx} {x : Str} {C : Addr} {np pos pos' : Pos} {body suite : List Stmt} {b₀ : Stmt} {tb : WX → TS} {ts : Addr → Value → Option Addr → TS}
end
/-- a call's way: it raises (the class told by a number), or it returns -/
def onX {β : Type} (o : Option Nat) (s : Nat → Option β) (n : Option β) : Option β := match o with | some k => s k | none => n
end VL
namespace VL
open PySem L2
section
variable {T : TC} {Γ Γ' : List (Option VA)} {Ω Ω' Ω1 Ω2 : List OA} {A : VA} {D : Ends} {F0 : Hp} {C : Addr} {E : XK} {K : PySem.W.Frag} {c : Value} {us : Addr → Value → Option Addr → TS} {te : WX → TE} {Wo : WX} {ts : TS} {R : Hp → V → List OA → Prop}
end
/-! a value or None, a value or a text -/
inductive EN (α : Type) where
  | ok (a : α)
  | no
inductive ES (α : Type) where
  | ok (a : α)
  | s (t : Str)
instance {α : Type} [Rp α] : Rp (EN α) := ⟨fun T F v x => match x with | .ok a => Rp.rep T F v a | .no => v = .non, fun {T F F' v a} e h => by
  cases a with
  | ok a => exact Rp.mono e h
  | no => exact h⟩
instance {α : Type} [Rp α] : Rp (ES α) := ⟨fun T F v x => match x with | .ok a => Rp.rep T F v a | .s t => v = .str t, fun {T F F' v a} e h => by
  cases a with
  | ok a => exact Rp.mono e h
  | s t => exact h⟩
def EN.get {α : Type} : EN α → Option α
  | .ok a => some a
  | .no => none
def EN.isN {α : Type} : EN α → Bool
  | .ok _ => false
  | .no => true
def ES.get {α : Type} : ES α → Option α
  | .ok a => some a
  | .s _ => none
/-- data that is neither None nor a text -/
class Tupl (α : Type) [Rp α] [Dat α] where
  n1 : ∀ a : α, PyData.eqv (Dat.dat a) .none = false
  n2 : ∀ a : α, PyData.eqv .none (Dat.dat a) = false
  s1 : ∀ (a : α) (t : Str), PyData.eqv (Dat.dat a) (.str t) = false
  s2 : ∀ (a : α) (t : Str), PyData.eqv (.str t) (Dat.dat a) = false
  nn : ∀ {T : TC} {F : Hp} {v : V} {a : α}, Rp.rep T F v a → v ≠ .non
end VL
namespace VL
open PySem L2
instance {α β : Type} [Rp α] [Rp β] [Dat α] [Dat β] : Tupl (α × β) := ⟨fun _ => rfl, fun _ => rfl, fun _ _ => rfl, fun _ _ => rfl, fun ⟨p, _, _, h, _⟩ e => by rw [h] at e; cases e⟩
instance {α β γ : Type} [Rp α] [Rp β] [Rp γ] [Dat α] [Dat β] [Dat γ] : Tupl (T3 α β γ) := ⟨fun _ => rfl, fun _ => rfl, fun _ _ => rfl, fun _ _ => rfl, fun ⟨p, _, _, _, h, _⟩ e => by rw [h] at e; cases e⟩
instance {α : Type} [Rp α] [Dat α] [Tupl α] : Dat (EN α) := ⟨fun x => match x with | .ok a => Dat.dat a | .no => .none, fun x => match x with | .ok a => Dat.ok a | .no => True, Dat.dep α, fun {T F H v a} e h => by
    cases a with
    | ok a => exact Dat.dp e h
    | no => rw [show v = V.non from h]; exact .non, fun {a} h => by
    cases a with
    | ok a => exact Dat.lay h
    | no => rfl, fun {a} => by
    cases a with
    | ok a => exact Dat.depth
    | no => exact Nat.zero_le _, fun {a b} => by
    cases a <;> cases b
    · exact Dat.eqv.trans ⟨fun h => by rw [h], fun h => EN.ok.inj h⟩
    · exact ⟨fun h => (Bool.false_ne_true ((Tupl.n1 _).symm.trans h)).elim, fun h => by cases h⟩
    · exact ⟨fun h => (Bool.false_ne_true ((Tupl.n2 _).symm.trans h)).elim, fun h => by cases h⟩
    · exact ⟨fun _ => rfl, fun _ => rfl⟩⟩
instance {α : Type} [Rp α] [Dat α] [Tupl α] : Dat (ES α) := ⟨fun x => match x with | .ok a => Dat.dat a | .s t => .str t, fun x => match x with | .ok a => Dat.ok a | .s t => Dat.ok t, Dat.dep α, fun {T F H v a} e h => by
    cases a with
    | ok a => exact Dat.dp e h
    | s t => rw [show v = V.str t from h]; exact .str _, fun {a} h => by
    cases a with
    | ok a => exact Dat.lay h
    | s t => exact h, fun {a} => by
    cases a with
    | ok a => exact Dat.depth
    | s t => exact Nat.zero_le _, fun {a b} => by
    cases a <;> cases b
    · exact Dat.eqv.trans ⟨fun h => by rw [h], fun h => ES.ok.inj h⟩
    · exact ⟨fun h => (Bool.false_ne_true ((Tupl.s1 _ _).symm.trans h)).elim, fun h => by cases h⟩
    · exact ⟨fun h => (Bool.false_ne_true ((Tupl.s2 _ _).symm.trans h)).elim, fun h => by cases h⟩
    · exact (Dat.eqv (α := Str)).trans ⟨fun h => by rw [h], fun h => ES.s.inj h⟩⟩
section
variable {T : TC} {Γ : List (Option VA)} {Ω Ω1 Ω2 : List OA} {A B : VA} {ta tb te : TE} {α : Type} [Rp α]
end
end VL
namespace VL
open PySem L2
section
variable {T : TC} {Γ : List (Option VA)} {Ω Ω0 Ω1 Ω2 : List OA} {A : VA} {As Ks : List VA} {ta te : TE}
/-- arguments, the last of which is a new thing -/
def XANw (t : TA) (Γ : List (Option VA)) (Ω : List OA) (As : List VA) (Ω2 : List OA) (o : Addr → OA) : Prop :=
  ∀ F σ H, Env F σ Γ → Holds F Ω H → ∀ Q : List V → Hp → Prop, (∀ F' vs H' q, Same F F' → Holds F' (Ω2 ++ [o q]) H' → AlA F' vs (As ++ [vr q]) → Q vs H') → t σ H Q
end
end VL

namespace VL
open PySem PySem.Spec PyProof.Rows L2
section
variable {T : TC} {Γ : List (Option VA)} {Ω Ω1 Ω2 : List OA} {ta tb : TE} {i j : Int}
end
end VL

set_option Elab.async false
set_option linter.all false
set_option maxRecDepth 100000
/-! VL46: a triple of a value, a new thing and a value. -/
namespace VL
open PySem L2
section
variable {T : TC} {Γ : List (Option VA)} {Ω Ω1 Ω2 : List OA} {A B : VA} {te t0 td tl : TE}
def RNT (T : TC) (Ω2 : List OA) (o : Addr → OA) (A B : VA) : Hp → V → List OA → Prop := fun F v Ω' => ∃ p t x w, v = .ref t ∧ SqT T.K F t [x, .ref p, w] ∧ A.P F x ∧ B.P F w ∧ Ω' = Ω2 ++ [o p]
def RNTQ (T : TC) (Ω2 : List OA) (p : Addr) (A B : VA) : Hp → V → List OA → Prop := fun F v Ω' => ∃ t x w, v = .ref t ∧ SqT T.K F t [x, .ref p, w] ∧ A.P F x ∧ B.P F w ∧ Ω' = Ω2
end
end VL

set_option Elab.async false
set_option linter.all false
set_option maxRecDepth 100000
/-! VL47: a dict by numbers; a list made longer by += ; a constant that is a tuple of pairs. -/
namespace VL
open PySem L2 PyProof.Rows
section
variable {T : TC} {α : Type} [Rp α] {F F' : Hp} {r : List (Key × V)} {l : List (Int × α)}
/-- keys that are numbers, values told -/
inductive AlK (T : TC) (F : Hp) : List (Key × V) → List (Int × α) → Prop
  | nil : AlK T F [] []
  | cons {v : V} {i : Int} {a : α} {r : List (Key × V)} {l : List (Int × α)} (h : Rp.rep T F v a) (t : AlK T F r l) : AlK T F ((Sum.inl i, v) :: r) ((i, a) :: l)
theorem AlK.mono (e : Same F F') : ∀ {r : List (Key × V)} {l : List (Int × α)}, AlK T F r l → AlK T F' r l
  | _, _, .nil => .nil
  | _, _, .cons h t => .cons (Rp.mono e h) (AlK.mono e t)
theorem AlK.len : ∀ {r : List (Key × V)} {l : List (Int × α)}, AlK T F r l → r.length = l.length
  | _, _, .nil => rfl
  | _, _, .cons _ t => by rw [List.length_cons, List.length_cons, AlK.len t]
theorem AlK.get {i : Int} {a : α} : ∀ {r : List (Key × V)} {l : List (Int × α)}, AlK T F r l → l.lookup i = some a → ∃ v, valV r (Sum.inl i : Key) = some v ∧ Rp.rep T F v a
  | _, _, .nil, e => by cases e
  | _, _, .cons (i := j) (a := b) h t, e => by
    rw [List.lookup_cons] at e
    by_cases c : i = j
    · subst c
      rw [beq_self_eq_true] at e
      cases e
      exact ⟨_, valV_pos rfl, h⟩
    · rw [show (i == j) = false from by simpa using c] at e
      obtain ⟨v, h1, h2⟩ := AlK.get t e
      exact ⟨v, (valV_neg (fun z => c (Sum.inl.inj z).symm)).trans h1, h2⟩
/-- written in its place, or at the end -/
def iput (l : List (Int × α)) (k : Int) (v : α) : List (Int × α) := if (l.any fun p => decide (p.1 = k)) = true then l.map (fun p => if p.1 = k then (p.1, v) else p) else l ++ [(k, v)]
theorem AlK.any {i : Int} : ∀ {r : List (Key × V)} {l : List (Int × α)}, AlK T F r l → (r.any fun kv => decide (kv.1 = (Sum.inl i : Key))) = (l.any fun p => decide (p.1 = i))
  | _, _, .nil => rfl
  | _, _, .cons (i := j) h t => by
    rw [List.any_cons, List.any_cons, AlK.any t]
    congr 1
    exact decide_eq_decide.mpr ⟨fun z => Sum.inl.inj z, fun z => congrArg Sum.inl z⟩
theorem AlK.sub {i : Int} {v : V} {a : α} (hv : Rp.rep T F v a) : ∀ {r : List (Key × V)} {l : List (Int × α)}, AlK T F r l → AlK T F (r.map fun kv => if kv.1 = (Sum.inl i : Key) then (kv.1, v) else kv) (l.map fun p => if p.1 = i then (p.1, a) else p)
  | _, _, .nil => .nil
  | _, _, .cons (v := w) (i := j) (a := b) h t => by
    rw [List.map_cons, List.map_cons]
    by_cases c : j = i
    · subst c
      rw [if_pos rfl, if_pos rfl]
      exact .cons hv (AlK.sub hv t)
    · rw [if_neg (fun z => c (Sum.inl.inj z)), if_neg c]
      exact .cons h (AlK.sub hv t)
theorem AlK.snoc {i : Int} {v : V} {a : α} (hv : Rp.rep T F v a) : ∀ {r : List (Key × V)} {l : List (Int × α)}, AlK T F r l → AlK T F (r ++ [(Sum.inl i, v)]) (l ++ [(i, a)])
  | _, _, .nil => .cons hv .nil
  | _, _, .cons h t => .cons h (AlK.snoc hv t)
theorem AlK.put {i : Int} {v : V} {a : α} (h : AlK T F r l) (hv : Rp.rep T F v a) : AlK T F (putK r (Sum.inl i : Key) v) (iput l i a) := by
  unfold putK iput
  rw [h.any (i := i)]
  split
  · exact h.sub hv
  · exact h.snoc hv
/-- a dict by numbers that changes -/
def intD (T : TC) {α : Type} [Rp α] (p : Addr) (l : List (Int × α)) : OA := ⟨fun F t => ∃ kvs, t p = some (.dK kvs) ∧ AlK T F kvs l, fun e ⟨kvs, h1, h2⟩ => ⟨kvs, h1, h2.mono e⟩⟩
end
section
variable {T : TC} {Γ : List (Option VA)} {Ω Ω1 Ω2 Ω3 : List OA} {A B C : VA} {ta tb te tk tv : TE} {D : Ends} {F0 : Hp} {ts : TS} {α : Type} [Rp α]
end
section
variable {T : TC} {Γ : List (Option VA)} {Ω Ω1 Ω2 : List OA} {ta tb : TE}
end
end VL

set_option Elab.async false
set_option linter.all false
set_option maxRecDepth 100000
/-! VL48: and, or with a first part that changes a thing. -/
namespace VL
open PySem L2
section
variable {T : TC} {Γ : List (Option VA)} {Ω Ω1 Ω2 : List OA} {ta tb : TE} {b c : Bool}
end
end VL

set_option Elab.async false
set_option linter.all false
set_option maxRecDepth 100000
/-! VL49: the second and the third thing of a triple; the triple without its first thing. -/
namespace VL
open PySem L2
section
variable {T : TC} {Γ : List (Option VA)} {Ω Ω1 Ω2 : List OA} {te ta tb : TE} {α β γ : Type} [Rp α] [Rp β] [Rp γ]
end
end VL

set_option Elab.async false
set_option linter.all false
set_option maxRecDepth 100000
/-! VL50: for over a list of two machines; a test whose first part is known to fail. -/
namespace VL
open PySem L2 PyProof.Rows
section
variable {T : TC} {Γ : List (Option VA)} {Ω Ω1 Ω2 : List OA} {te ta tb : TE} {t u : TT} {q1 q2 : Addr}
/-- the two things, one behind the other -/
def oneOf (q1 q2 : Addr) (b : Bool) : VA := vr (cond b q2 q1)
def tNoT : TT := fun _ _ _ => False
end
end VL

set_option Elab.async false
set_option linter.all false
set_option maxRecDepth 100000
set_option maxHeartbeats 2000000
/-! VL51: the program's own exceptions over ArithmeticError that have an __init__ of their own: C(text), its field read in a clause. -/
namespace VL
open PySem PySem.Spec PyProof.Rows L2
/-- C: the class at C, its __init__ at fI, its field f; the class above it at B0 -/
structure IxC (K : PySem.W.Frag) (C B0 fI : Addr) (f : Str) : Prop where
  ini : PySem.W.excInitIn K C aeBase "ArithmeticError.__new__" = true
  ovr : PySem.W.excOver K C aeBase = true
  hdC : PySem.W.hasDictIn K C = true
  tkr : PySem.W.takerIn K C f = some none
  iC : PySem.W.findIn K (.ref C) "__init__" = some (some (.ref fI))
  tI : PySem.W.typeIn K (.ref fI) = some (.type "function")
  sa : PySem.W.findIn K (.ref C) "__setattr__" = some (some (.builtin "object.__setattr__"))
  exC : PySem.W.subIn K (.ref C) (.type "BaseException") = some true
  tyC : PySem.W.typeIn K (.ref C) = some (.type "type")
  kC : PySem.W.keepIn K (.ref C) = true
  xf : xfB K C = true
  no : PySem.W.findIn K (.ref C) f = some none
  b1 : PySem.W.specialIn K (.ref B0) "__getattribute__" = some (some (.builtin "type.__getattribute__"))
  b2 : PySem.W.readsIn K B0 (.type "type") = true
  b3 : PySem.W.findCls K (.ref B0) (.type "type") "__init__" = some (.val (.builtin "ArithmeticError.__init__"))
  k0 : PySem.W.keepIn K (.ref B0) = true
section
variable {X : Cx} {pins : List (Addr × Obj)} {σ : L2.St} {H : Hp} {s : Shared} {a C B0 fI : Addr} {f : Str} {y : V} {u : Value} {A : Around} {EE : Value → Shared → Prop}
end
section
variable {X : Cx} {C B0 fI : Addr} {f xb : Str} {o e : Expr} {es : List Expr} {to te : TE} {ta : TA} {p p' p1 p2 pos : Pos}
/-- B.__init__(self, ..) -/
def tIxI (ta : TA) (C : Addr) : TE := fun σ H Q => ta σ H fun vs H1 => ∃ (a : Addr) (ws : List V), vs = .ref a :: ws ∧ ws.length ≤ 1000 ∧ H1 a = some (exo a C none) ∧ Q .non H1
/-- self.f = e -/
def tIxS (f : Str) (C : Addr) (to te : TE) : TS := fun D σ H => te σ H fun y H1 => to σ H1 fun x H2 => ∃ a : Addr, x = .ref a ∧ H2 a = some (exo a C none) ∧ ∀ dx, H2 dx = none → dx ≠ a → D.nx σ (upd (upd H2 dx (exd dx [(f, y)])) a (exo a C (some dx)))
/-- what __init__ makes -/
def spIx (C : Addr) (f : Str) : Sp := fun vs H Q _ => ∃ (a : Addr) (x : Str), vs = [.ref a, .str x] ∧ x.length ≤ 100 ∧ H a = some (exo a C none) ∧ ∀ H1 d, Same H H1 → H d = none → d ≠ a → Q .non (upd (upd H1 d (exd d [(f, .str x)])) a (exo a C (some d)))
/-- C(e) -/
def tMkX (C : Addr) (f : Str) (ta : TA) : L2.St → Hp → XK → Prop := fun σ H Q => ta σ H fun vs H1 => ∃ x : Str, vs = [.str x] ∧ x.length ≤ 100 ∧ ∀ H3 d, Same H1 H3 → H1 d = none → H3 d = some (.xd [(f, .str x)]) → Q (.ref C) (some d) H3
end
end VL

set_option Elab.async false
set_option linter.all false
set_option maxRecDepth 100000
set_option maxHeartbeats 2000000
/-! VL52: several except clauses, with and without a name; defs that raise exceptions with a field. -/
namespace VL
open PySem PySem.Spec PyProof.Rows L2
/-- the ends of a suite whose name stands in slot i -/
def Ends.un (D : Ends) : Option Nat → Ends
  | none => D
  | some i => { nx := fun σ' H' => D.nx (σ'.set i none) H', rt := D.rt, bk := fun σ' H' => D.bk (σ'.set i none) H', ct := fun σ' H' => D.ct (σ'.set i none) H' }
def sSet (σ : L2.St) (a : Addr) : Option Nat → L2.St
  | none => σ
  | some i => σ.set i (some (.ref a))
/-- a clause: its class, its name's slot, its suite -/
structure Cla where
  c : Value
  o : Option Nat
  ts : Addr → Value → Option Addr → TS
def wCl (K : PySem.W.Frag) (Wo : WX) (D : Ends) : List Cla → WX
  | [] => Wo
  | k :: r => fun cls d σ H => ∃ b, PySem.W.exmOne K cls k.c = some b ∧ (b = true → ∀ a, H a = none → k.ts a cls d (Ends.un D k.o) (sSet σ a k.o) H) ∧ (b = false → wCl K Wo D r cls d σ H)
/-- the clauses' derivations -/
inductive ClOk (X : Cx) : List ExceptHandler → List Cla → Prop
  | nil : ClOk X [] []
  | plain {x : Str} {k : Value} {ts : Addr → Value → Option Addr → TS} {st : Stmt} {su : List Stmt} {np pp : Pos} {hs : List ExceptHandler} {l : List Cla} (hk : Names X x k)
      (hb : ∀ (a : Addr) (oe : Obj) (cls : Value) (d : Option Addr) (pn : List (Addr × Obj)), Zc cls d oe → (∃ vs, oe.data = .fields vs) → PSs (X.suite a ((a, oe) :: pn)) (st :: su) (ts a cls d)) (r : ClOk X hs l) :
      ClOk X (.ExceptHandler (some (.Name x np)) none (st :: su) pp :: hs) (⟨k, none, ts⟩ :: l)
  | named {x n : Str} {k : Value} {i : Nat} {ts : Addr → Value → Option Addr → TS} {st : Stmt} {su : List Stmt} {np pp : Pos} {hs : List ExceptHandler} {l : List Cla} (hN : X.N.Nodup) (hi : X.N[i]? = some n) (hl : X.env.kindOf n = some .local) (hk : Names X x k)
      (hb : ∀ (a : Addr) (oe : Obj) (cls : Value) (d : Option Addr) (pn : List (Addr × Obj)), Zc cls d oe → (∃ vs, oe.data = .fields vs) → PSs (X.suite a ((a, oe) :: pn)) (st :: su) (ts a cls d)) (r : ClOk X hs l) :
      ClOk X (.ExceptHandler (some (.Name x np)) (some n) (st :: su) pp :: hs) (⟨k, some i, ts⟩ :: l)
section
variable {X : Cx} {body : List Stmt} {g0 : ExceptHandler} {gs : List ExceptHandler} {l : List Cla} {pos : Pos} {tb : WX → TS} {Wo : WX}
end
end VL

set_option Elab.async false
set_option linter.all false
set_option maxRecDepth 100000
set_option maxHeartbeats 2000000
/-! VL53: which exception is raised, with its field's text; f-strings of texts; an exception's __init__. -/
namespace VL
open PySem PySem.Spec PyProof.Rows L2
/-- an exception: the class's number, and the field with its text -/
inductive XC where
  | z (k : Nat)
  | f (k : Nat) (fl x : Str)
  | n (k : Nat) (fl : Str) (i : Int)
def XC.k : XC → Nat
  | .z k => k
  | .f k _ _ => k
  | .n k _ _ => k
def RCf (T : TC) (r : XC) (F : Hp) (c : Value) (d : Option Addr) : Prop := c = .ref (T.C (300 + r.k)) ∧ match r with | .z _ => True | .f _ fl x => ∃ a, d = some a ∧ F a = some (.xd [(fl, .str x)]) | .n _ fl i => ∃ a, d = some a ∧ F a = some (.xd [(fl, .int i)])
theorem RCf.mono {T : TC} {r : XC} {F F' : Hp} {c : Value} {d : Option Addr} (e : Same F F') (h : RCf T r F c d) : RCf T r F' c d := by
  cases r with
  | z k => exact h
  | f k fl x => obtain ⟨h1, a, h2, h3⟩ := h; exact ⟨h1, a, h2, e _ _ h3⟩
  | n k fl x => obtain ⟨h1, a, h2, h3⟩ := h; exact ⟨h1, a, h2, e _ _ h3⟩
abbrev RQ (T : TC) (r : XC) (Ω2 : List OA) : Hp → Value → Option Addr → List OA → Prop := fun F c d Ω' => RCf T r F c d ∧ Ω' = Ω2
/-- the wish W takes such an exception at such slots in such a state -/
def WTC (W : WX) (T : TC) (r : XC) (F0 : Hp) (Γ : List (Option VA)) (Ω : List OA) : Prop := ∀ F c d σ H, Same F0 F → Env F σ Γ → Holds F Ω H → RCf T r F c d → W c d σ H
section
variable {T : TC} {Γ Γ' : List (Option VA)} {Ω Ω' Ω1 Ω2 : List OA} {A : VA} {As : List VA} {te : TE} {t ta : TA} {D : Ends} {F0 F1 : Hp} {W Wo : WX} {Pre : PreT} {PreX : PreXX} {E : XK} {r : XC} {K : PySem.W.Frag} {l : List Cla}
theorem WTC.up (e : Same F0 F1) (h : WTC W T r F0 Γ Ω) : WTC W T r F1 Γ Ω := fun F c d σ H f => h F c d σ H (e.trans f)
/-! raise C(text) -/
def tRx (C : Addr) (f : Str) (ta : TA) (W : WX) : TS := fun _ σ H => tMkX C f ta σ H fun cls d H' => W cls d σ H'
/-- a caught exception with its field -/
def excA (a dd : Addr) (fl x : Str) : VA := ⟨fun F v => v = .ref a ∧ F dd = some (.xd [(fl, .str x)]), fun e h => ⟨h.1, e _ _ h.2⟩⟩
/-- try: .. several clauses -/
def tTryC (K : PySem.W.Frag) (l : List Cla) (tb : WX → TS) (Wo : WX) : TS := fun D σ H => tb (wCl K Wo D l) D σ H
/-! an exception's __init__: the class above is told a text, the field is stored -/
/-- at a: an exception without a dict -/
def exoA (a C : Addr) : VA := ⟨fun F v => v = .ref a ∧ F a = some (exo a C none), fun e h => ⟨h.1, e _ _ h.2⟩⟩
end
end VL

set_option Elab.async false
set_option linter.all false
set_option maxRecDepth 100000
set_option maxHeartbeats 2000000
/-! VL54: a lambda as a value; a def that is handed one and calls it within a try. -/
namespace VL
open PySem PySem.Spec PyProof.Rows L2 LamX
/-- an object that stands as it is -/
def LamO (f : Addr) (o : Obj) : HO := .ext fun h => h.get? f = some o
/-- at f: the lambda with such a body, made in X -/
inductive LamIs (X : Cx) (params : Arguments) (body : Expr) (scope : Scope) (c' f : Addr) (H : Hp) : Prop
  | plain {pm ctv : Value} (h : H f = some (LamO f (PySem.W.kla_obj "<lambda>" (X.env.qual ++ "<lambda>") params body scope (cloFrom X.env.cells scope.names []) pm c' ctv)))
      (L : LamS X.env.scope scope) (hb : ∀ (q : Str) (cl : List (Str × Addr)) (pm cv ctv : Value), bindArgs (PySem.W.kla_fn "<lambda>" q params body scope cl pm cv ctv) ⟨[], []⟩ = pure [])
  | dflt {nm : Str} {T0 : Addr} {doc pm ctv : Value} {iv : Int} {t : Tok} (h : H f = some (LamO f (PySem.W.kdv_obj "<lambda>" (X.env.qual ++ "<lambda>") params (.expr body) scope (cloFrom X.env.cells scope.names []) (.ref T0) doc pm c' ctv)))
      (hT : H T0 = some (LamO T0 (PySem.W.kdv_tup [.int iv t]))) (L : LamSD X.N nm X.env.scope scope)
      (hb : ∀ (q : Str) (cl : List (Str × Addr)) (T0 : Addr) (doc pm cv ctv : Value) (t : Tok) (s : Shared), s.heap.get? T0 = some (PySem.W.kdv_tup [.int iv t]) → BindsTo s (PySem.W.kdv_fn "<lambda>" q params (.expr body) scope cl (.ref T0) doc pm cv ctv) ⟨[], []⟩ [(nm, .int iv t)])
theorem LamIs.mono {X : Cx} {params : Arguments} {body : Expr} {scope : Scope} {c' f : Addr} {H H' : Hp} (e : Same H H') (h : LamIs X params body scope c' f H) : LamIs X params body scope c' f H' := by
  cases h with
  | plain h L hb => exact .plain (e _ _ h) L hb
  | dflt h hT L hb => exact .dflt (e _ _ h) (e _ _ hT) L hb
/-- a lambda's text and reading -/
structure LamPk (X : Cx) (kl : Nat) where
  params : Arguments
  body : Expr
  scope : Scope
  tb : XK → TE
  hbody : ∀ (E : XK) (A : Around) (outer : List PySem.Env) (s : Shared) (H : Hp) (f c' : Addr), Room kl (A.deeper (lamEnv X scope s.heap.objs.size f c')) → PE (lamCx X A outer s H E scope f c') body (tb E)
abbrev lamQ (X : Cx) : Str := X.env.qual ++ "<lambda>"
def LamPk.at {X : Cx} {kl : Nat} (L : LamPk X kl) (c' f : Addr) (H : Hp) : Prop := LamIs X L.params L.body L.scope c' f H ∧ H c' = some (CodeO c' (lamQ X))
/-- what a call makes, at the slots σ of the frame that made the lambda -/
def LamPk.act {X : Cx} {kl : Nat} (L : LamPk X kl) (c' f : Addr) (σ : L2.St) : XK → Hp → VK → Prop := fun E H Q => L.at c' f H ∧ L.tb E σ H Q
def tActX (i : Nat) (f : Addr) (act : XK → Hp → VK → Prop) (W : WX) : TE := fun σ H Q => σ[i]? = some (some (.ref f)) ∧ act (WE W σ) H Q
section
variable {X : Cx} {pins : List (Addr × Obj)} {σ : L2.St} {H : Hp} {s : Shared}
end
/-! ### a def that is handed a lambda, and calls it within a try -/
def ActHX (P : Program) (w : World) (K : PySem.W.Frag) (mg : Str → Option Value) (base : Heap) (k : Nat) (A : Around) (outer : List PySem.Env) (s : Shared) (H : Hp) (f : Addr) (act : XK → Hp → VK → Prop) : Prop :=
  ∀ (Ng : List Str) (qg : Str) (sg : Scope) (g : Addr) (cdg : Value) (i : Nat) (a : Str) (p1 p2 : Pos) (pn : List (Addr × Obj)) (xe : Value → Shared → Prop) (W : WX), Room (k + 1) (A.deeper (envOfC qg sg s.heap.objs.size g cdg)) → Ng[i]? = some a → Vis sg a → (a == ("__debug__" : Str)) = false → (a == ("__classdict__" : Str)) = false →
    Takes ((cxOf CX0 P w K mg base Ng qg sg g cdg A outer s H E0).tr pn xe) W → PE ((cxOf CX0 P w K mg base Ng qg sg g cdg A outer s H E0).tr pn xe) (.Call (.Name a p1) [] [] p2) (tActX i f act W)
abbrev PreLX := Addr → (XK → Hp → VK → Prop) → PreT
structure CalLX (P : Program) (w : World) (K : PySem.W.Frag) (mg : Str → Option Value) (base : Heap) (kl k : Nat) (x : Str) (ps : List Str) (Pre : PreLX) : Prop where
  ex : ∃ g fd, mg x = some (.ref g) ∧ PySem.W.keepIn K (.ref g) = true ∧ Binds K fd ps [] ∧ (∀ f act As Ω R, Pre f act As Ω R → As.length = ps.length) ∧
    ∀ (A : Around) (outer : List PySem.Env) (s : Shared) (H : Hp) (us : List Value) (vs : List V) (Q : VK) (f : Addr) (act : XK → Hp → VK → Prop), Room k A → Env0 P w K mg base A outer s H → BindsTo s fd ⟨us, []⟩ (ps.zip us) → Vals vs us →
      ActHX P w K mg base kl A outer s H f act → mkSp (Pre f act) vs H Q E0 → codeAny (model P w) A (.call (.ref g) ⟨us, []⟩) (CR CX0 outer P w H s Q E0) s
section
variable {P : Program} {w : World} {K : PySem.W.Frag} {mg : Str → Option Value} {base : Heap}
end
/-- x(e), e's value a lambda of this frame -/
def tCallLX (X : Cx) (kl : Nat) (Pre : PreLX) (ta : TA) : TE := fun σ H Q => ta σ H fun vs H1 => ∃ (Lm : LamPk X kl) (f c' : Addr), vs = [.ref f] ∧ Lm.at c' f H1 ∧ mkSp (Pre f (Lm.act c' f σ)) [.ref f] H1 Q E0
section
variable {X : Cx}
end
end VL

set_option Elab.async false
set_option linter.all false
set_option maxRecDepth 100000
set_option maxHeartbeats 2000000
/-! VL55: a lambda's making; what a call of it makes, told by the exception it raises; raise C(text). -/
namespace VL
open PySem PySem.Spec PyProof.Rows L2 LamX
/-- a lambda of X -/
def lamV (X : Cx) {kl : Nat} (Lm : LamPk X kl) : VA := ⟨fun F v => ∃ f c', v = .ref f ∧ Lm.at c' f F, fun e ⟨f, c', h1, h2, h3⟩ => ⟨f, c', h1, h2.mono e, e _ _ h3⟩⟩
/-- a lambda expression: the table at P -/
def tLamV (X : Cx) {kl : Nat} (Lm : LamPk X kl) (P : Addr) : TE := fun σ H Q => (∃ ps : Array Value, H P = some (.tbl ps) ∧ TriplesOk ps.toList ∧ ∀ (pos : Pos) (cv : Value), codeAmong pos ps.toList = some cv → ∃ c, cv = .ref c ∧ H c = some (CodeO c (lamQ X))) ∧
  ∀ (f c' : Addr) (H2 : Hp), (∀ (F : Hp) (Ω : List OA) (l : List (Addr × Str)) (kt : Nat), Holds F Ω H → Ω[kt]? = some (tabA l) → (P, lamQ X) ∈ l → (∀ p ∈ l, p.1 = P → p.2 = lamQ X) → ∃ F2, Same F F2 ∧ Holds F2 Ω H2 ∧ Lm.at c' f F2) → Q (.ref f) H2
section
variable {X : Cx} {kl : Nat}
end
section
variable {X : Cx} {kl : Nat} {T : TC} {Γ : List (Option VA)} {Ω Ω1 Ω2 Ω' : List OA} {A : VA} {F0 : Hp} {D : Ends} {W : WX}
/-- the parameter's value: a lambda that raises r, or returns in Ω' -/
def askX (T : TC) (f : Addr) (act : XK → Hp → VK → Prop) (Ω Ω' : List OA) (o : Option XC) : VA :=
  ⟨fun F v => v = .ref f ∧ ∀ F1 H1, Same F F1 → Holds F1 Ω H1 → ∀ (E : XK) (Q : VK),
      (∀ r, o = some r → ∀ F2 c d H2, Same F1 F2 → Holds F2 Ω H2 → RCf T r F2 c d → E c d H2) → (o = none → ∀ F2 v H2, Same F1 F2 → Holds F2 Ω' H2 → Q v H2) → act E H1 Q,
   fun e ⟨h1, h2⟩ => ⟨h1, fun F1 H1 e1 => h2 F1 H1 (e.trans e1)⟩⟩
def anyA : VA := ⟨fun _ _ => True, fun _ _ => True.intro⟩
/-- what a call of the lambda makes -/
def Outc (T : TC) (Γ : List (Option VA)) (Ω Ω' : List OA) (tb : XK → TE) (o : Option XC) : Prop :=
  match o with
  | some r => ∀ (E : XK) (F1 : Hp), (∀ F2 c d H2, Same F1 F2 → Holds F2 Ω H2 → RCf T r F2 c d → E c d H2) → XR (tb E) F1 Γ Ω
  | none => ∀ E : XK, ∃ B : VA, XE (tb E) Γ Ω B Ω'
end
/-! ### raise C(text) -/
/-- C(text) may be made -/
structure MkC (P : Program) (w : World) (K : PySem.W.Frag) (mg : Str → Option Value) (base : Heap) (k : Nat) (x : Str) (C : Addr) (f : Str) : Prop where
  ex : ∃ B0 fI fd, IxC K C B0 fI f ∧ FnOk P w K mg base CX0 k fI fd ["self", f] (spIx C f) ∧ Binds K fd ["self", f] [] ∧ mg x = some (.ref C)
section
variable {X : Cx} {W : WX}
end
end VL

set_option Elab.async false
set_option linter.all false
set_option maxRecDepth 100000
set_option maxHeartbeats 2000000
/-! VL56: values of any kind, told by what they are not; lists of them; deep lists. -/
namespace VL
open PySem PySem.Spec PyProof.Rows L2
/-- A's values have the type t -/
def TyA (T : TC) (Ω : List OA) (A : VA) (t : Value) : Prop := ∀ F H v, Holds F Ω H → A.P F v → TyX T.K H v t
/-- A's values are none of the class u -/
def NoC (T : TC) (Ω : List OA) (A : VA) (u : Value) : Prop := ∀ F H v, Holds F Ω H → A.P F v → ∃ t, TyX T.K H v t ∧ PySem.W.kitOne T.K t u = some false
section
variable {T : TC} {Γ : List (Option VA)} {Ω Ω1 Ω2 : List OA} {A B : VA} {u t : Value} {ta tc te : TE}
/-! lists of any values -/
def lsA (As : List VA) : VA := ⟨fun F v => ∃ p vs, v = .ref p ∧ F p = some (.lst vs) ∧ AlA F vs As, fun e ⟨p, vs, h1, h2, h3⟩ => ⟨p, vs, h1, e _ _ h2, h3.mono e⟩⟩
end
/-- a list of one thing that is not looked at -/
inductive DP where
  | mk
instance : Rp DP := ⟨fun _ F v _ => ∃ p x, v = .ref p ∧ F p = some (.lst [x]), fun e ⟨p, x, h1, h2⟩ => ⟨p, x, h1, e _ _ h2⟩⟩
section
variable {T : TC} {Γ : List (Option VA)} {Ω Ω1 : List OA} {A : VA} {ta : TE}
end
/-- all are done -/
def allN {α β : Type} (b : α → Option β) : List α → Option Unit
  | [] => some ()
  | a :: l => (b a).bind fun _ => allN b l
section
variable {T : TC} {Γ : List (Option VA)} {Ω O : List OA} {D : Ends} {F0 : Hp} {wi : L2.TI} {tb ts : TS} {k : Nat} {As : List VA} {G : List (Option VA)}
/-- what a turn may rely on -/
abbrev Turn (F1 : Hp) (D' : Ends) (G : List (Option VA)) (O : List OA) : Prop := To D' F1 (Stp.nx () : Stp Unit Unit) (fun _ => NX F1 G O) (fun _ => NX F1 G O) (fun _ _ _ _ => False)
/-- an element: of any kind, or an int, a truth, a number -/
def Kin (T : TC) (P : VA → Prop) (QI : Int → Prop) (QB : Bool → Prop) (QG : Bg → Prop) (a : VA) : Prop := P a ∨ (∃ i : Int, a = va T i ∧ QI i) ∨ (∃ b : Bool, a = va T b ∧ QB b) ∨ ∃ x : Bg, a = va T x ∧ QG x
end
end VL

set_option Elab.async false
set_option linter.all false
set_option maxRecDepth 100000
set_option maxHeartbeats 2000000
/-! VL57: which exception, asked in a mirror; a def with several promises; tests known by their first part. -/
namespace VL
open PySem PySem.Spec PyProof.Rows L2
instance : Dat (EN Str) := ⟨fun x => match x with | .ok a => .str a | .no => .none, fun x => match x with | .ok a => (PyData.str a).canLay0 = true | .no => True, 0, fun {T F H v a} e h => by
    cases a with
    | ok a => rw [show v = V.str a from h]; exact .str _
    | no => rw [show v = V.non from h]; exact .non, fun {a} h => by
    cases a with
    | ok a => exact h
    | no => rfl, fun {a} => by
    cases a with
    | ok a => exact Nat.le_refl _
    | no => exact Nat.le_refl _, fun {a b} => by
    cases a <;> cases b
    · exact (Dat.eqv (α := Str)).trans ⟨fun h => by rw [h], fun h => EN.ok.inj h⟩
    · exact ⟨fun h => (Bool.false_ne_true (show false = true from h)).elim, fun h => nomatch h⟩
    · exact ⟨fun h => (Bool.false_ne_true (show false = true from h)).elim, fun h => nomatch h⟩
    · exact ⟨fun _ => rfl, fun _ => rfl⟩⟩
def onC {β : Type} (o : Option XC) (s : XC → Option β) (n : Option β) : Option β := match o with | some r => s r | none => n
/-- the field's text, of an exception of the class c with the field fl -/
def XC.isF (c : Nat) (fl : Str) : XC → Option Str
  | .f k g x => if k = c ∧ g = fl then some x else none
  | .z _ => none
  | .n _ _ _ => none
def XC.isZ (c : Nat) : XC → Bool
  | .f _ _ _ => false
  | .n _ _ _ => false
  | .z k => k == c
def onF {β : Type} (o : Option Str) (s : Str → Option β) (n : Option β) : Option β := match o with | some x => s x | none => n
section
variable {T : TC} {Γ : List (Option VA)} {Ω Ω1 Ω2 : List OA} {A : VA} {As : List VA} {t : TA} {tu u : TT} {F0 : Hp} {W : WX} {Pre : PreT} {PreX : PreXX} {E : XK} {r : XC} {sp : Sp}
def tNeverE : TE := fun _ _ _ => False
end
section
variable {P : Program} {w : World} {K : PySem.W.Frag} {mg : Str → Option Value} {base : Heap}
end
section
variable {X : Cx} {body : List Stmt} {g0 : ExceptHandler} {gs : List ExceptHandler} {l : List Cla} {pos : Pos} {tb : WX → TS} {K : PySem.W.Frag}
end
end VL
namespace VL
open PySem PySem.Spec PyProof.Rows L2
section
variable {X : Cx} {kl : Nat}
end
end VL

set_option Elab.async false
set_option linter.all false
set_option maxRecDepth 100000
set_option maxHeartbeats 2000000
/-! VL58: a lambda may be called as long as the cells of its frame are kept, whatever runs in between. -/
namespace VL
open PySem PySem.Spec PyProof.Rows L2 LamX
/-- the cells that stood, untracked, stand as they did -/
def Cells (H0 H1 : Hp) (h0 h1 : Heap) : Prop := ∀ (c : Addr) (v : Option Value), H0 c = none → h0.IsCell c v → h1.IsCell c v ∧ H1 c = none
theorem Cells.trans {H0 H1 H2 : Hp} {h0 h1 h2 : Heap} (a : Cells H0 H1 h0 h1) (b : Cells H1 H2 h1 h2) : Cells H0 H2 h0 h2 := fun c v n i => let ⟨i1, n1⟩ := a c v n i; b c v n1 i1
section
variable {X : Cx} {pins : List (Addr × Obj)} {σ : L2.St} {H0 HZ : Hp} {s0 s1 : Shared}
end
/-- f may be called in any later state that keeps the cells -/
def CanCall (P : Program) (w : World) (K : PySem.W.Frag) (mg : Str → Option Value) (base : Heap) (k : Nat) (H0 : Hp) (h0 : Heap) (f : Addr) (act : XK → Hp → VK → Prop) : Prop :=
  ∀ (A : Around) (outer : List PySem.Env) (s1 : Shared) (H1 : Hp) (E : XK) (Q : VK), Room (k + 1) A → Env0 P w K mg base A outer s1 H1 → Cells H0 H1 h0 s1.heap → act E H1 Q →
    (∃ e1 e2 e3 e4, s1.heap.get? f = some ⟨e1, e2, .func e3, e4⟩) ∧ codeAny (model P w) A (.call (.ref f) ⟨[], []⟩) (CR (L2.CX P w) outer P w H1 s1 Q E) s1
theorem CanCall.later {P : Program} {w : World} {K : PySem.W.Frag} {mg : Str → Option Value} {base : Heap} {k : Nat} {H0 H1 : Hp} {h0 h1 : Heap} {f : Addr} {act : XK → Hp → VK → Prop} (c : CanCall P w K mg base k H0 h0 f act) (kc : Cells H0 H1 h0 h1) : CanCall P w K mg base k H1 h1 f act :=
  fun A outer s1 H E Q hr e0 k2 ha => c A outer s1 H E Q hr e0 (kc.trans k2) ha
section
variable {X : Cx} {pins : List (Addr × Obj)} {σ : L2.St} {H : Hp} {s : Shared}
end
end VL

set_option Elab.async false
set_option linter.all false
set_option maxRecDepth 100000
set_option maxHeartbeats 2000000
/-! VL59: a list comprehension whose parts may rely on the state of the frame at its start: a lambda of that frame is called in it. -/
namespace VL
open PySem PySem.Spec PyProof.Rows L2 LamX
/-- where the block starts: the frame at s, the iterator's own objects at fp -/
def BlkAt (X : Cx) (σ : L2.St) (s : Shared) (H : Hp) (fp : List Addr) : Prop := (∃ pins, Inv X pins σ H s) ∧ ∀ b ∈ fp, ∀ v, ¬ s.heap.IsCell b v
/-- an expression at slots that agree with σ but for vs -/
def PEr (X : Cx) (vs : List Nat) (σ : L2.St) (e : Expr) (t : TE) : Prop := ∀ (pins : List (Addr × Obj)) (s : Shared) (τ : L2.St) (H : Hp) (Q : VK), wipe τ vs = wipe σ vs → Inv X pins τ H s → t τ H Q → wpAny (model X.prog X.w) X.A (eval e X.env) (EP X pins τ Q) X.xe s
def PTr (X : Cx) (vs : List Nat) (σ : L2.St) (ifs : List Expr) (t : TT) : Prop := ∀ (pins : List (Addr × Obj)) (s : Shared) (τ : L2.St) (H : Hp) (Q : Bool → Hp → Prop), wipe τ vs = wipe σ vs → Inv X pins τ H s → t τ H Q →
  wpAny (model X.prog X.w) X.A (forIn ifs true fun c r => if r = true then do let ok ← isTrue c X.env (eval c X.env); pure (ForInStep.yield ok) else pure (ForInStep.yield r)) (TP X pins τ Q) X.xe s
theorem PTr.of {X : Cx} {vs : List Nat} {σ : L2.St} {ifs : List Expr} {t : TT} (h : PTs X ifs t) : PTr X vs σ ifs t := fun pins s τ H Q _ I ht => h.run pins s τ H Q I ht
theorem PEr.of {X : Cx} {vs : List Nat} {σ : L2.St} {e : Expr} {t : TE} (h : PE X e t) : PEr X vs σ e t := fun pins s τ H Q _ I ht => h.run pins s τ H Q I ht
section
variable {X : Cx}
end
/-- f(x) in a block: x's value a lambda of the frame ahead -/
def tCallBX (X : Cx) (kl : Nat) (vs : List Nat) (Pre : PreLX) (i : Nat) : TE := fun τ H Q => ∃ (Lm : LamPk X kl) (f c' : Addr), τ[i]? = some (some (.ref f)) ∧ Lm.at c' f H ∧ mkSp (Pre f (Lm.act c' f (wipe τ vs))) [.ref f] H Q E0
section
variable {X : Cx}
end
end VL

set_option Elab.async false
set_option linter.all false
set_option maxRecDepth 100000
set_option maxHeartbeats 2000000
/-! VL60: a lambda with a default as a value; lists of lambdas, walked by a comprehension that tries each. -/
namespace VL
open PySem PySem.Spec PyProof.Rows L2 LamX
section
variable {X : Cx} {kl : Nat}
end
/-! lists of any values: joined -/
section
variable {T : TC} {Γ : List (Option VA)} {Ω Ω1 Ω2 Ω0 Ω' : List OA} {A B : VA} {u : Value} {ta tb te : TE} {As Bs : List VA} {D : Ends} {F0 : Hp}
/-- element by element -/
inductive Pw {γ : Type} (P : VA → γ → Prop) : List VA → List γ → Prop
  | nil : Pw P [] []
  | cons {A : VA} {y : γ} {As : List VA} {ys : List γ} (h : P A y) (t : Pw P As ys) : Pw P (A :: As) (y :: ys)
theorem Pw.len {γ : Type} {P : VA → γ → Prop} : ∀ {As : List VA} {ys : List γ}, Pw P As ys → As.length = ys.length
  | _, _, .nil => rfl
  | _, _, .cons _ t => by rw [List.length_cons, List.length_cons, t.len]
theorem Pw.zip {γ : Type} {P : VA → γ → Prop} : ∀ {As : List VA} {ys : List γ}, Pw P As ys → (As.zip ys).map (·.1) = As ∧ (As.zip ys).map (·.2) = ys ∧ ∀ z ∈ As.zip ys, P z.1 z.2
  | _, _, .nil => ⟨rfl, rfl, fun z h => nomatch h⟩
  | _, _, .cons h t => by
    obtain ⟨h1, h2, h3⟩ := t.zip
    refine ⟨by rw [List.zip_cons_cons, List.map_cons, h1], by rw [List.zip_cons_cons, List.map_cons, h2], fun z hz => ?_⟩
    rcases List.mem_cons.mp hz with rfl | hz
    · exact h
    · exact h3 z hz
end
section
variable {X : Cx} {kl : Nat} {T : TC} {Γ : List (Option VA)} {Ω Ω2 Ω' : List OA} {A : VA}
end
end VL

set_option Elab.async false
set_option linter.all false
set_option maxRecDepth 100000
set_option maxHeartbeats 2000000
/-! VL61: tuples of any values; deep lists or tuples; lists of a value or None. -/
namespace VL
open PySem PySem.Spec PyProof.Rows L2 LamX
section
variable {T : TC} {Γ : List (Option VA)} {Ω Ω1 Ω2 : List OA} {A B : VA} {u t : Value} {ta : TA} {te : TE}
def tpA (T : TC) (As : List VA) : VA := ⟨fun F v => ∃ p vs, v = .ref p ∧ SqT T.K F p vs ∧ AlA F vs As, fun e ⟨p, vs, h1, h2, h3⟩ => ⟨p, vs, h1, Same.tup e h2, h3.mono e⟩⟩
end
/-- a list or a tuple of things that are not looked at -/
inductive DX where
  | mk
instance : Rp DX := ⟨fun T F v _ => ∃ p vs, v = .ref p ∧ (F p = some (.lst vs) ∨ SqT T.K F p vs), fun e ⟨p, vs, h1, h2⟩ => ⟨p, vs, h1, h2.elim (fun h => .inl (e _ _ h)) fun h => .inr (Same.tup e h)⟩⟩
section
variable {T : TC} {Γ : List (Option VA)} {Ω Ω1 : List OA} {A : VA} {u : Value} {ta : TA} {te : TE}
end
section
variable {T : TC} {Γ : List (Option VA)} {Ω Ω1 : List OA} {te : TE} {α : Type} [Rp α]
end
section
variable {T : TC} {Γ : List (Option VA)} {Ω Ω1 Ω2 : List OA} {A : VA} {As : List VA} {t : TA} {sp : Sp} {Pre : PreT}
end
end VL

set_option Elab.async false
set_option linter.all false
set_option maxRecDepth 100000
set_option maxHeartbeats 2000000
/-! VL62: isinstance of a caught exception, with or without a dict; a raising call with a new machine ahead. -/
namespace VL
open PySem PySem.Spec PyProof.Rows L2 LamX
/-- what the class D of an exception must be -/
structure ExI (K : PySem.W.Frag) (D : Addr) : Prop where
  hc : (PySem.W.clsIn K D).isSome = true
  hg : PySem.W.findIn K (.ref D) "__getattribute__" = some (some (.builtin "BaseException.__getattribute__"))
  hk : PySem.W.findIn K (.ref D) "__getattr__" = some none
  hs : PySem.W.subIn K (.ref D) (.type "BaseException") = some true
  ha : PySem.W.findIn K (.ref D) "__class__" = some (some (.builtin "object.__class__"))
  hn : PySem.W.specialIn K (.builtin "object.__class__") "__get__" = some (some (.builtin "getset_descriptor.__get__"))
  ht : PySem.W.takesIn K (.builtin "object.__class__") = some true
  hm : PySem.W.mroIn K D (.type "object") = some true
/-- isinstance(e, c), e the exception caught: its class and its dict told by the wish -/
def rIsX (K : PySem.W.Frag) (cls : Value) (d : Option Addr) (a : Addr) : List V → Hp → VK → Prop := fun xs H Q =>
  ∃ (D : Addr) (c : V) (cv : Value) (b : Bool), cls = .ref D ∧ ExI K D ∧ xs = [.ref a, c] ∧ (∀ u, RelV c u → u = cv) ∧ PySem.W.kitOne K (.ref D) cv = some b ∧ (∀ dd, d = some dd → ∃ fs, H dd = some (.xd fs)) ∧ Q (.bl b) H
section
variable {X : Cx}
end
section
variable {T : TC} {Γ : List (Option VA)} {Ω Ω1 : List OA} {te tc : TE}
end
/-! a raising call with a new machine ahead -/
section
variable {T : TC} {Γ : List (Option VA)} {Ω Ω0 Ω1 : List OA} {sp : Sp} {PreX : PreXX} {t : TA} {ta : TE} {W : WX} {As : List VA} {r : XC} {F0 : Hp}
end
end VL

set_option Elab.async false
set_option linter.all false
set_option maxRecDepth 100000
set_option maxHeartbeats 2000000
/-! VL63: a dict of the program by numbers, read only. -/
namespace VL
open PySem PySem.Spec PyProof.Rows L2 LamX
/-- the written dict at d: these numbers, each with its value -/
structure IDict (K : PySem.W.Frag) (d : Addr) (kvs : List (Int × Int)) : Prop where
  ex : ∃ es n, K.lookup d = some ⟨.type "dict", none, .dict es n, #[]⟩ ∧ entB es.toList kvs = true
  low : (d == sysModules) = false
theorem ent_keys (P : Program) (w : World) : ∀ {l : List DictEntry} {kvs : List (Int × Int)}, entB l kvs = true → ∀ e ∈ l, ∃ k, (intKind P w).is k e.key = true ∧ e.hash = (intKind P w).hash k
  | [], _, _, _, m => nomatch m
  | e :: r, [], h, _, _ => nomatch h
  | e :: r, p :: q, h, x, m => by
    obtain ⟨h1, h⟩ := Bool.and_eq_true_iff.mp h
    obtain ⟨h2, h⟩ := Bool.and_eq_true_iff.mp h
    obtain ⟨h3, h4⟩ := Bool.and_eq_true_iff.mp h
    rcases List.mem_cons.mp m with rfl | m
    · obtain ⟨hash, key, val⟩ := x
      cases key with
      | int a t =>
        obtain rfl := of_decide_eq_true h1
        exact ⟨p.1, intKind_is P w p.1 t, of_decide_eq_true h3⟩
      | _ => cases h1
    · exact ent_keys P w h4 x m
def GetsI (o : Option Value) : Option Int → Prop
  | some v => ∃ t, o = some (.int v t)
  | none => o = none
theorem ent_find : ∀ {l : List DictEntry} {kvs : List (Int × Int)} (k : Int), entB l kvs = true → GetsI ((l.find? fun e => Value.isInt k e.key).map (·.val)) (kvs.lookup k)
  | [], [], k, _ => rfl
  | [], _ :: _, _, h => nomatch h
  | e :: r, [], _, h => nomatch h
  | e :: r, p :: q, k, h => by
    obtain ⟨h1, h⟩ := Bool.and_eq_true_iff.mp h
    obtain ⟨h2, h⟩ := Bool.and_eq_true_iff.mp h
    obtain ⟨h3, h4⟩ := Bool.and_eq_true_iff.mp h
    obtain ⟨hash, key, val⟩ := e
    obtain ⟨pk, pv⟩ := p
    cases key with
    | int a t =>
      obtain rfl : a = pk := of_decide_eq_true h1
      cases val with
      | int b u =>
        obtain rfl : b = pv := of_decide_eq_true h2
        by_cases z : k = a
        · subst z
          rw [List.lookup_cons, show (k == k) = true from beq_self_eq_true k]
          refine ⟨u, ?_⟩
          rw [List.find?_cons_of_pos (by simp [Value.isInt])]
          rfl
        · rw [List.lookup_cons, show (k == a) = false from beq_false_of_ne z]
          rw [List.find?_cons_of_neg (by simp [Value.isInt]; exact fun e => z e.symm)]
          exact ent_find k h4
      | _ => cases h2
    | _ => cases h1
section
variable {X : Cx} {d : Addr} {kvs : List (Int × Int)}
theorem IDict.map (D : IDict X.K d kvs) {h : Heap} (I : X.K.In h) : ∃ f, h.MapOf (intKind X.prog X.w) d f ∧ ∀ k, GetsI (f k) (kvs.lookup k) := by
  obtain ⟨es, n, hl, he⟩ := D.ex
  refine ⟨fun k => findBy Value.isInt es k, ⟨_, es, n, I _ _ hl, ⟨rfl, rfl, rfl⟩, rfl, fun e m => ent_keys _ _ he e (Array.mem_toList_iff.mpr m), fun _ => rfl⟩, fun k => ?_⟩
  have := ent_find k he
  obtain ⟨l⟩ := es
  show GetsI (findBy Value.isInt ⟨l⟩ k) _
  unfold findBy
  rw [List.find?_toArray]
  exact this
def rInID (d : Addr) (kvs : List (Int × Int)) (g : Bool → Bool) : R2 := fun x y H Q => ∃ i : Int, x = .int i ∧ y = .ref d ∧ Q (.bl (g (kvs.lookup i).isSome)) H
end
section
variable {T : TC} {Γ : List (Option VA)} {Ω Ω1 Ω2 : List OA} {te tc : TE} {i : Int} {d : Addr} {kvs : List (Int × Int)} {g : Bool → Bool}
end
end VL

set_option Elab.async false
set_option linter.all false
set_option maxRecDepth 100000
set_option maxHeartbeats 2000000
/-! VL64: one of several values, not known which; a lambda that asks with it raises the same for each. -/
namespace VL
open PySem PySem.Spec PyProof.Rows L2 LamX
def orA (As : List VA) : VA := ⟨fun F v => ∃ A ∈ As, A.P F v, fun e ⟨A, h, p⟩ => ⟨A, h, A.mono e p⟩⟩
section
variable {T : TC} {Γ : List (Option VA)} {Ω Ω' Ω1 Ω2 : List OA} {As : List VA} {A B : VA} {u : Value} {i : Nat} {tb : XK → TE} {r : XC}
end
/-- all tell the same -/
def allX {α : Type} (f : α → Option XC) (l : List α) (r : XC) : Prop := ∀ a ∈ l, f a = some r
end VL

set_option Elab.async false
set_option linter.all false
set_option maxRecDepth 100000
set_option maxHeartbeats 2000000
/-! VL65: a list of any values that grows by append, then stands. -/
namespace VL
open PySem PySem.Spec PyProof.Rows L2 LamX
def lstV (p : Addr) (As : List VA) : OA := ⟨fun F t => ∃ vs, t p = some (.lst vs) ∧ AlA F vs As, fun e ⟨vs, h1, h2⟩ => ⟨vs, h1, h2.mono e⟩⟩
section
variable {T : TC} {Γ : List (Option VA)} {Ω Ω1 Ω2 : List OA} {As : List VA} {A : VA} {ta tb : TE} {t : TA} {D : Ends} {F0 : Hp} {ts : TS} {p : Addr}
end
end VL

set_option Elab.async false
set_option linter.all false
set_option maxRecDepth 100000
set_option maxHeartbeats 2000000
/-! VL66: a, b = x, y of any values. -/
namespace VL
open PySem PySem.Spec PyProof.Rows L2 LamX
section
variable {T : TC} {A B : VA} {k l : Nat} {Γ : List (Option VA)} {Ω Ω1 : List OA} {ta : TA} {ts : TS} {D : Ends} {F0 : Hp}
theorem tgt_tp2 : Tgt (gTup T.K 2 (gCons (gName k) (gCons (gName l) gNil))) (tpA T [A, B]) (fun Γ => (Γ.set k (some A)).set l (some B)) [k, l] := fun F σ Γ v H Ω e hh h Q q => by
  obtain ⟨p, vs, rfl, ht, al⟩ := h
  obtain ⟨y, z, rfl, ry, rz⟩ := alA2 al
  refine ⟨p, [y, z], rfl, Same.tup hh.same ht, rfl, y, [z], rfl, z, [], rfl, rfl, ?_⟩
  exact q F _ H (Same.refl F) ((e.set ry).set rz) hh fun vs h => (wipe_set (h l (by simp))).trans (wipe_set (h k (by simp)))
end
end VL

set_option Elab.async false
set_option linter.all false
set_option maxRecDepth 100000
set_option maxHeartbeats 2000000
/-! VL67: a call by keywords that raises. -/
namespace VL
open PySem PySem.Spec PyProof.Rows L2 LamX
/-- f(.., k = v, ..), its errors at the slots -/
def tCallNS (n m : Nat) (sp : Sp) (gV : List V → List V → List V) (E : L2.St → XK) (t tk : TA) : TE := fun σ H Q => t σ H fun vs H1 => tk σ H1 fun zs H2 => vs.length = n ∧ zs.length = m ∧ sp (gV vs zs) H2 Q (E σ)
structure CalXK (P : Program) (w : World) (K : PySem.W.Frag) (mg : Str → Option Value) (base : Heap) (k : Nat) (x : Str) (ps : List Str) (n : Nat) (ks : List Str) (dvs : List V) (ix : List Nat) (sp : Sp) : Prop where
  ex : ∃ f fd g, FnOk P w K mg base (L2.CX P w) k f fd ps sp ∧ mg x = some (.ref f) ∧ PySem.W.keepIn K (.ref f) = true ∧ KBn K fd ps n ks g (fun vs zs => prm ix (vs ++ (dvs ++ zs)))
section
variable {X : Cx} {k n : Nat} {x : Str} {ps ks : List Str} {dvs : List V} {ix : List Nat} {sp : Sp} {p pos : Pos} {e : Expr} {es : List Expr} {kws : List Keyword} {t tk : TA} {W : WX}
end
section
variable {T : TC} {Γ : List (Option VA)} {Ω Ω1 Ω2 : List OA} {sp : Sp} {PreX : PreXX} {t tk : TA} {W : WX} {As Ks Ds : List VA} {dvs : List V} {ix : List Nat} {r : XC} {F0 : Hp} {n m : Nat}
end
end VL

set_option Elab.async false
set_option linter.all false
set_option maxRecDepth 100000
/-! VL68: a name for a pair of a new list and a value; for over four. -/
namespace VL
open PySem L2 PyProof.Rows
section
variable {T : TC} {Γ : List (Option VA)} {Ω Ω0 Ω1 Ω2 : List OA} {B : VA} {te : TE} {D : Ends} {F0 : Hp} {ts : TS}
end
end VL
namespace VL
open PySem PySem.Spec L2 PyProof.Rows
/-- some dict, locked for good -/
def dicA : VA := ⟨fun F v => ∃ p od kvs, v = .ref p ∧ F p = some (.frz od (.dK kvs)), fun e ⟨p, od, kvs, h1, h2⟩ => ⟨p, od, kvs, h1, e _ _ h2⟩⟩
def rawFz (p : Addr) (u : HO) : OA := ⟨fun _ t => t p = some u, fun _ h => h⟩
section
variable {T : TC} {Γ : List (Option VA)} {Ω Ω0 Ω1 Ω2 : List OA} {te : TE}
end
end VL

set_option Elab.async false
set_option linter.all false
set_option maxRecDepth 100000
set_option maxHeartbeats 2000000
/-! VL69: defs with keyword-only parameters that raise; a pick that tells which; None and values of any kind. -/
namespace VL
open PySem PySem.Spec PyProof.Rows L2 LamX
section
variable {P : Program} {w : World} {K : PySem.W.Frag} {mg : Str → Option Value} {base : Heap}
end
section
variable {T : TC} {Γ : List (Option VA)} {Ω Ω1 Ω2 : List OA} {A : VA} {As : List VA} {ta tb te : TE} {i : Int}
/-- one of some values, the i-th -/
def pkA (As : List VA) (i : Int) : VA := ⟨fun F v => ∃ A, As[i.toNat]? = some A ∧ A.P F v, fun e ⟨A, h, p⟩ => ⟨A, h, A.mono e p⟩⟩
end
end VL

set_option Elab.async false
set_option linter.all false
set_option maxRecDepth 100000
set_option maxHeartbeats 2000000
/-! VL70: a target of two pairs; dict(pairs) whose keys come several times. -/
namespace VL
open PySem PySem.Spec PyProof.Rows L2
section
variable {T : TC} {Γ : List (Option VA)} {Ω Ω1 Ω2 : List OA} {A : VA} {te : TE}
/-- max of three ints -/
def rMax3 : List V → Hp → VK → Prop := L2.rNuC3 L2.nuMax3
/-- a dict of pairs, one behind another -/
def mrgS (l : List (Str × Int)) : List (Str × Int) := l.foldl (fun d q => dput d q.1 q.2) []
end
end VL

set_option Elab.async false
set_option linter.all false
set_option maxRecDepth 100000
set_option maxHeartbeats 2000000
/-! VL71: min and index of a list; a list behind which None is put, all but the last of it. -/
namespace VL
open PySem PySem.Spec PyProof.Rows L2
def minL : List Int → Int
  | [] => 0
  | [a] => a
  | a :: r => min a (minL r)
section
variable {T : TC} {Γ : List (Option VA)} {Ω Ω1 Ω2 : List OA} {A : VA} {te ta tb : TE} {p : Addr}
/-- a list behind which None stands -/
def lnA (T : TC) {α : Type} [Rp α] (p : Addr) (l : List α) : OA := ⟨fun F t => ∃ vs, t p = some (.lst (vs ++ [.non])) ∧ Al T F vs l, fun e ⟨vs, h1, h2⟩ => ⟨vs, h1, h2.mono e⟩⟩
end
end VL

set_option Elab.async false
set_option linter.all false
set_option maxRecDepth 100000
set_option maxHeartbeats 2000000
/-! VL72: a law's own dict with a machine, a list, a dict and, put in later, a number. -/
namespace VL
open PySem PySem.Spec PyProof.Rows L2
def wevM (m e d : Addr) (n : Int) : List (Key × V) := wev m e d ++ [(Sum.inr ("most" : Str), V.int n)]
section
variable {m e d : Addr} {n : Int}
end
section
variable {T : TC} {Γ : List (Option VA)} {Ω Ω1 Ω2 : List OA} {A : VA} {p m e d : Addr}
end
end VL

set_option Elab.async false
set_option linter.all false
set_option maxRecDepth 100000
set_option maxHeartbeats 2000000
/-! VL73: values of several kinds as elements of a plain list (type 'MV'): an integer, a truth, something else. -/
namespace VL
open PySem PySem.Spec PyProof.Rows L2
inductive MV where
  | i (n : Int)
  | b (x : Bool)
  | o
/-- v is none of the class int, wherever what F holds stands -/
def NoI (T : TC) (F : Hp) (v : V) : Prop := ∀ H, Same F H → ∃ t, TyX T.K H v t ∧ PySem.W.kitOne T.K t (.type "int") = some false
def mvP (T : TC) (F : Hp) (v : V) : MV → Prop
  | .i n => v = .int n
  | .b x => v = .bl x
  | .o => NoI T F v
theorem mvP_mono {T : TC} {F F' : Hp} (e : Same F F') {v : V} : ∀ {m : MV}, mvP T F v m → mvP T F' v m
  | .i _, h => h
  | .b _, h => h
  | .o, h => fun H e2 => h H (e.trans e2)
instance : Rp MV := ⟨fun T F v m => mvP T F v m, fun e h => mvP_mono e h⟩
/-- what is_between tells of it -/
def MV.btw (lo hi : Int) : MV → Bool
  | .i n => decide (lo ≤ n) && decide (n ≤ hi)
  | _ => false
section
variable {T : TC} {Γ : List (Option VA)} {Ω Ω0 Ω1 Ω2 : List OA} {A B : VA} {te : TE} {ts : TS} {D : Ends} {F0 : Hp} {k : Nat}
end
/-! deep lists whose depth is told -/
/-- a list in lists, so many of them about [an int] -/
structure DPn where
  d : Nat
def dpv (F : Hp) : Nat → V → Prop
  | 0, v => ∃ p n, v = .ref p ∧ F p = some (.lst [.int n])
  | d + 1, v => ∃ p x, v = .ref p ∧ F p = some (.lst [x]) ∧ dpv F d x
theorem dpv_mono {F F' : Hp} (e : Same F F') : ∀ {d : Nat} {v : V}, dpv F d v → dpv F' d v
  | 0, _, ⟨p, n, h1, h2⟩ => ⟨p, n, h1, e _ _ h2⟩
  | _ + 1, _, ⟨p, x, h1, h2, h3⟩ => ⟨p, x, h1, e _ _ h2, dpv_mono e h3⟩
instance : Rp DPn := ⟨fun _ F v a => dpv F a.d v, fun e h => dpv_mono e h⟩
section
variable {T : TC} {Γ : List (Option VA)} {Ω Ω1 : List OA} {ta : TE}
end
end VL

set_option Elab.async false
set_option linter.all false
set_option maxRecDepth 100000
set_option maxHeartbeats 2000000
/-! VL74: a lambda handed over that raises or returns a value that is kept. -/
namespace VL
open PySem PySem.Spec PyProof.Rows L2
section
variable {X : Cx} {kl : Nat} {T : TC} {Γ : List (Option VA)} {Ω Ω1 Ω2 Ω' : List OA} {A : VA} {F0 : Hp} {D : Ends} {W : WX}
/-- as askX; what it returns is A -/
def askV (T : TC) (f : Addr) (act : XK → Hp → VK → Prop) (Ω Ω' : List OA) (o : Option XC) (A : VA) : VA :=
  ⟨fun F v => v = .ref f ∧ ∀ F1 H1, Same F F1 → Holds F1 Ω H1 → ∀ (E : XK) (Q : VK),
      (∀ r, o = some r → ∀ F2 c d H2, Same F1 F2 → Holds F2 Ω H2 → RCf T r F2 c d → E c d H2) → (o = none → ∀ F2 v H2, Same F1 F2 → Holds F2 Ω' H2 → A.P F2 v → Q v H2) → act E H1 Q,
   fun e ⟨h1, h2⟩ => ⟨h1, fun F1 H1 e1 => h2 F1 H1 (e.trans e1)⟩⟩
/-- what a call of such a lambda makes -/
def OutcV (T : TC) (Γ : List (Option VA)) (Ω Ω' : List OA) (tb : XK → TE) (o : Option XC) (A : VA) : Prop :=
  match o with
  | some r => ∀ (E : XK) (F1 : Hp), (∀ F2 c d H2, Same F1 F2 → Holds F2 Ω H2 → RCf T r F2 c d → E c d H2) → XR (tb E) F1 Γ Ω
  | none => ∀ E : XK, XE (tb E) Γ Ω A Ω'
end
end VL

set_option Elab.async false
set_option linter.all false
set_option maxRecDepth 100000
set_option maxHeartbeats 2000000
/-! VL75: lambdas of a frame, called in that frame; three by a tuple, the second one new. -/
namespace VL
open PySem PySem.Spec PyProof.Rows L2 LamX
def EN0 : XK := fun _ _ _ => False
/-- x(), x's value a lambda of this frame -/
def tSelf (X : Cx) (kl i : Nat) : TE := fun σ H Q => ∃ (Lm : LamPk X kl) (f c' : Addr), σ[i]? = some (some (.ref f)) ∧ Lm.at c' f H ∧ Lm.tb EN0 σ H Q
section
variable {X : Cx}
end
section
variable {X : Cx} {kl : Nat} {T : TC} {Γ : List (Option VA)} {Ω Ω1 Ω2 Ω' : List OA} {A B C : VA} {As : List VA} {te ta tb tc : TE} {ts : TS} {F0 : Hp} {D : Ends}
end
end VL

set_option Elab.async false
set_option linter.all false
set_option maxRecDepth 100000
set_option maxHeartbeats 2000000
/-! VL76: texts: joined, repeated, one sign, parts, lengths, numbers written and read. -/
namespace VL
open PySem PySem.Spec PyProof.Rows L2
/-- a text of code points -/
abbrev SS (l : List Nat) : Str := ⟨l.toArray⟩
def Str.tl' (x : Str) : List Nat := x.cps.toList
/-- one sign -/
def sAt (x : Str) (i : Int) : Option Str := (atI x.cps.toList i).map fun c => SS [c]
def sRep (x : Str) (k : Int) : Str := SS (List.replicate k.toNat x.cps.toList).flatten
/-! written by a base -/
def fmB (b : Nat) (a : Int) : Str := SS ((if a < 0 then [45] else []) ++ (Nat.toDigits b a.natAbs).map Char.toNat)
def fmD (b : Nat) (a : Int) : List Nat := (Nat.toDigits b a.natAbs).map fun c => c.toNat
def fmSg (a : Int) : List Nat := if (decide (a < 0)) = true then [45] else []
def fmDs (b : Nat) (a : Int) : List Nat := if (fmD b a).isEmpty = true then [] else List.replicate ((0 : Int).toNat - (fmD b a).length) 48 ++ fmD b a
def fmR (b : Nat) (a : Int) : Str := SS (List.replicate ((-1 : Int) - (((fmSg a).length : Int) + (([] : List Nat).length : Int) + (([] : List Nat).length : Int)) - ((fmDs b a).length : Int)).toNat 32 ++ fmSg a ++ [] ++ List.replicate 0 32 ++ fmDs b a ++ [] ++ List.replicate 0 32)
end VL
namespace PySem
open Sem (wp)
open Builtin Builtin.Str Builtin.Int Builtin.Float
end PySem
namespace VL
open PySem PySem.Spec PyProof.Rows L2
/-- s * n -/
def rRepS : R2 := fun x y H Q => ∃ a k, x = .str a ∧ y = .int k ∧ -(2 ^ 63) ≤ k ∧ k < 2 ^ 63 ∧ a.length * k.toNat ≤ sizeLine ∧ Q (.str (sRep a k)) H
section
variable {X : Cx}
def tFsp (b : Nat) (te : TE) : TE := fun σ H Q => te σ H fun x H1 => ∃ i : Int, x = .int i ∧ (fmB b i).length ≤ sizeLine ∧ Q (.str (fmB b i)) H1
end
section
variable {T : TC} {Γ : List (Option VA)} {Ω Ω1 Ω2 : List OA} {ta tb te : TE} {x y z : Str} {i n : Int} {F0 : Hp} {D : Ends}
def rLenS : List V → Hp → VK → Prop := fun xs H Q => ∃ z, xs = [.str z] ∧ z.length ≤ sizeLine ∧ Q (.int z.length) H
def rIntS : List V → Hp → VK → Prop := fun xs H Q => ∃ a n, xs = [.str a] ∧ PySem.intText? a = some n ∧ a.length ≤ 640 ∧ Q (.int n) H
/-- str(i) -/
def sStr (i : Int) : Str := toString i
def rStrI : List V → Hp → VK → Prop := fun xs H Q => ∃ i, xs = [.int i] ∧ i.natAbs.log2 < 1920 ∧ Q (.str (toString i)) H
/-! methods -/
def rZf : V → List V → Hp → VK → Prop := fun x xs H Q => ∃ (a : Str) (i : Int), x = .str a ∧ xs = [.int i] ∧ PadOk i = true ∧ Q (.str (Txt.zfill a i)) H
/-- a method with one text: what it tells -/
def rM1 (C : Str → Str → Prop) (g : Str → Str → V) : V → List V → Hp → VK → Prop := fun x xs H Q => ∃ a b, x = .str a ∧ xs = [.str b] ∧ C a b ∧ Q (g a b) H
def rFi : V → List V → Hp → VK → Prop := fun x xs H Q => ∃ a b, x = .str a ∧ xs = [.str b] ∧ Q (.int (Txt.find a b)) H
/-- a method without arguments -/
def rM0 (C : Str → Prop) (g : Str → V) : V → List V → Hp → VK → Prop := fun x xs H Q => ∃ a, x = .str a ∧ xs = [] ∧ C a ∧ Q (g a) H
end
end VL
namespace VL
open PySem PySem.Spec PyProof.Rows L2
end VL

set_option Elab.async false
set_option linter.all false
set_option maxRecDepth 100000
set_option maxHeartbeats 2000000
/-! VL77: texts read: a sign in a text, the program's dicts by texts, a written dict read at once. -/
namespace VL
open PySem PySem.Spec PyProof.Rows L2
/-! ### a sign in a text -/
def sIn (x y : Str) : Bool := decide (x.cps.toList.headD 0 ∈ y.cps.toList)
section
variable {T : TC} {Γ : List (Option VA)} {Ω Ω1 Ω2 Ω3 : List OA} {ta tb tc te : TE} {x y : Str}
end
/-! ### "and" whose second part draws -/
section
variable {T : TC} {Γ : List (Option VA)} {Ω : List OA} {ta tb : TE} {b : Bool}
end
/-! ### the program's dicts -/
section
variable {X : Cx} {d : Addr} {kvs : List (Int × Int)}
def rIxID (d : Addr) (kvs : List (Int × Int)) : R2 := fun x y H Q => ∃ i v, x = .ref d ∧ y = .int i ∧ kvs.lookup i = some v ∧ Q (.int v) H
end
section
variable {T : TC} {Γ : List (Option VA)} {Ω Ω1 Ω2 Ω3 : List OA} {te tc td : TE} {i v : Int} {d : Addr} {kvs : List (Int × Int)}
end
/-- the written dict at d: these texts, each with its value -/
structure SDict (K : PySem.W.Frag) (w : World) (d : Addr) (kvs : List (Str × Int)) : Prop where
  ex : ∃ es n, KDict K w d es n ∧ sentB es.toList kvs = true
theorem sent_find : ∀ {l : List DictEntry} {kvs : List (Str × Int)} (k : Str), sentB l kvs = true → GetsI ((l.find? fun e => Value.isStrOf k e.key).map (·.val)) (kvs.lookup k)
  | [], [], k, _ => rfl
  | [], _ :: _, _, h => nomatch h
  | e :: r, [], _, h => nomatch h
  | e :: r, p :: q, k, h => by
    obtain ⟨h1, h⟩ := Bool.and_eq_true_iff.mp h
    obtain ⟨h2, h4⟩ := Bool.and_eq_true_iff.mp h
    obtain ⟨hash, key, val⟩ := e
    obtain ⟨pk, pv⟩ := p
    cases key with
    | str a t =>
      obtain rfl : a = pk := of_decide_eq_true h1
      cases val with
      | int b u =>
        obtain rfl : b = pv := of_decide_eq_true h2
        by_cases z : k = a
        · subst z
          rw [List.lookup_cons, show (k == k) = true from beq_self_eq_true k]
          refine ⟨u, ?_⟩
          rw [List.find?_cons_of_pos (by simp [Value.isStrOf])]
          rfl
        · rw [List.lookup_cons, show (k == a) = false from beq_false_of_ne z]
          rw [List.find?_cons_of_neg (by simp [Value.isStrOf]; exact fun e => z e.symm)]
          exact sent_find k h4
      | _ => cases h2
    | _ => cases h1
/-- d.get(k, i) -/
def tGetSD (d : Addr) (kvs : List (Str × Int)) (td ty tx : TE) : TE := fun σ H Q => td σ H fun x H1 => x = .ref d ∧ ty σ H1 fun y H2 => tx σ H2 fun z H3 => ∃ k i, y = .str k ∧ z = .int i ∧ Q (.int ((kvs.lookup k).getD i)) H3
section
variable {X : Cx} {o e f : Expr} {apos cpos : Pos} {td ty tx : TE} {d : Addr} {kvs : List (Str × Int)}
theorem SDict.map (D : SDict X.K X.w d kvs) {h : Heap} (I : X.K.In h) : ∃ f, h.MapOf (strKind X.prog X.w) d f ∧ ∀ k, GetsI (f k) (kvs.lookup k) := by
  obtain ⟨es, n, D, he⟩ := D.ex
  refine ⟨_, PySem.W.mapOf_K (prog := X.prog) I D.at_ D.lit, fun k => ?_⟩
  have := sent_find k he
  obtain ⟨l⟩ := es
  show GetsI (findBy Value.isStrOf ⟨l⟩ k) _
  unfold findBy
  rw [List.find?_toArray]
  exact this
theorem SDict.low (D : SDict X.K X.w d kvs) : (d == sysModules) = false := by
  obtain ⟨es, n, D, he⟩ := D.ex
  exact D.low
end
section
variable {T : TC} {Γ : List (Option VA)} {Ω Ω1 Ω2 Ω3 : List OA} {ta tb tc : TE} {d : Addr} {kvs : List (Str × Int)} {k : Str} {i : Int}
end
end VL

set_option Elab.async false
set_option linter.all false
set_option maxRecDepth 100000
set_option maxHeartbeats 2000000
/-! VL78: the program's own exceptions whose field is a number: C(i), its field read in a clause. -/
namespace VL
open PySem PySem.Spec PyProof.Rows L2
section
variable {X : Cx} {C B0 fI : Addr} {f xb : Str} {o e : Expr} {es : List Expr} {to te : TE} {ta : TA} {p p' p1 p2 pos : Pos}
def spIxI (C : Addr) (f : Str) : Sp := fun vs H Q _ => ∃ (a : Addr) (x : Int), vs = [.ref a, .int x] ∧ x.natAbs < 2 ^ 64 ∧ H a = some (exo a C none) ∧ ∀ H1 d, Same H H1 → H d = none → d ≠ a → Q .non (upd (upd H1 d (exd d [(f, .int x)])) a (exo a C (some d)))
def tMkXI (C : Addr) (f : Str) (ta : TA) : L2.St → Hp → XK → Prop := fun σ H Q => ta σ H fun vs H1 => ∃ x : Int, vs = [.int x] ∧ x.natAbs < 2 ^ 64 ∧ ∀ H3 d, Same H1 H3 → H1 d = none → H3 d = some (.xd [(f, .int x)]) → Q (.ref C) (some d) H3
end
def tRxI (C : Addr) (f : Str) (ta : TA) (W : WX) : TS := fun _ σ H => tMkXI C f ta σ H fun cls d H' => W cls d σ H'
section
variable {X : Cx} {kl : Nat} {T : TC} {Γ : List (Option VA)} {Ω Ω1 Ω2 Ω' : List OA} {A : VA} {F0 : Hp} {D : Ends} {W : WX}
structure MkCI (P : Program) (w : World) (K : PySem.W.Frag) (mg : Str → Option Value) (base : Heap) (k : Nat) (x : Str) (C : Addr) (f : Str) : Prop where
  ex : ∃ B0 fI fd, IxC K C B0 fI f ∧ FnOk P w K mg base CX0 k fI fd ["self", f] (spIxI C f) ∧ Binds K fd ["self", f] [] ∧ mg x = some (.ref C)
end
section
variable {X : Cx} {W : WX}
end
section
variable {T : TC} {Γ Γ' : List (Option VA)} {Ω Ω' Ω1 Ω2 : List OA} {A : VA} {As : List VA} {te : TE} {t ta : TA} {D : Ends} {F0 F1 : Hp} {W Wo : WX} {Pre : PreT} {PreX : PreXX} {E : XK} {r : XC} {K : PySem.W.Frag} {l : List Cla}
def excN (a dd : Addr) (fl : Str) (x : Int) : VA := ⟨fun F v => v = .ref a ∧ F dd = some (.xd [(fl, .int x)]), fun e h => ⟨h.1, e _ _ h.2⟩⟩
end
section
variable {T : TC} {Γ Γ' : List (Option VA)} {Ω Ω' Ω1 Ω2 : List OA} {A : VA} {As : List VA} {te : TE} {t ta : TA} {D : Ends} {F0 F1 : Hp} {W Wo : WX} {Pre : PreT} {PreX : PreXX} {E : XK} {r : XC} {K : PySem.W.Frag} {l : List Cla}
end
section
variable {T : TC} {Γ : List (Option VA)} {Ω Ω1 : List OA} {te tc : TE}
end
section
variable {T : TC} {Γ Γ' : List (Option VA)} {Ω Ω' Ω1 Ω2 : List OA} {A : VA} {As : List VA} {te : TE} {t ta : TA} {D : Ends} {F0 F1 : Hp} {W Wo : WX} {Pre : PreT} {PreX : PreXX} {E : XK} {r : XC} {K : PySem.W.Frag} {l : List Cla}
end
end VL
namespace VL
open PySem PySem.Spec PyProof.Rows L2
instance : Dat (ES Int) := ⟨fun x => match x with | .ok a => .int a | .s t => .str t, fun x => match x with | .ok _ => True | .s t => (PyData.str t).canLay0 = true, 0, fun {T F H v a} e h => by
    cases a with
    | ok a => rw [show v = V.int a from h]; exact .int _
    | s t => rw [show v = V.str t from h]; exact .str _, fun {a} h => by
    cases a with
    | ok a => rfl
    | s t => exact h, fun {a} => by
    cases a with
    | ok a => exact Nat.le_refl _
    | s t => exact Nat.le_refl _, fun {a b} => by
    cases a <;> cases b
    · exact (Dat.eqv (α := Int)).trans ⟨fun h => by rw [h], fun h => ES.ok.inj h⟩
    · exact ⟨fun h => (Bool.false_ne_true (show false = true from h)).elim, fun h => nomatch h⟩
    · exact ⟨fun h => (Bool.false_ne_true (show false = true from h)).elim, fun h => nomatch h⟩
    · exact (Dat.eqv (α := Str)).trans ⟨fun h => by rw [h], fun h => ES.s.inj h⟩⟩
/-- the field's number, of an exception of the class c with the field fl -/
def XC.isN (c : Nat) (fl : Str) : XC → Option Int
  | .n k g x => if k = c ∧ g = fl then some x else none
  | .z _ => none
  | .f _ _ _ => none
def onI {β : Type} (o : Option Int) (s : Int → Option β) (n : Option β) : Option β := match o with | some x => s x | none => n
end VL

set_option Elab.async false
set_option linter.all false
set_option maxRecDepth 100000
set_option maxHeartbeats 2000000
/-! VL79: loops over values of several kinds, lists of several kinds among them; one of several such values. -/
namespace VL
open PySem PySem.Spec PyProof.Rows L2 LamX
/-- an element: of any kind, or an int, a truth, a number, or a list that may be read as a list of several kinds -/
def Kin5 (T : TC) (P : VA → Prop) (QI : Int → Prop) (QB : Bool → Prop) (QG : Bg → Prop) {μ : Type} [Rp μ] (QM : List μ → Prop) (a : VA) : Prop := Kin T P QI QB QG a ∨ ∃ l : List μ, (∀ F v, a.P F v → (va T (LF.mk l)).P F v) ∧ QM l
section
variable {T : TC} {Γ : List (Option VA)} {Ω O Ω' : List OA} {D : Ends} {F0 : Hp} {wi : L2.TI} {tb ts : TS} {k : Nat} {As : List VA} {G : List (Option VA)} {te : XK → TE} {r : XC} {i : Nat} {μ : Type} [Rp μ]
end
end VL

set_option Elab.async false
set_option linter.all false
set_option maxRecDepth 100000
set_option maxHeartbeats 2000000
/-! VL80: a def that is handed a list of lambdas, and hands each to a def that tries it. -/
namespace VL
open PySem PySem.Spec PyProof.Rows L2 LamX
abbrev ActF := XK → Hp → VK → Prop
abbrev PreLXs := List (Addr × ActF) → PreT
structure CalLXs (P : Program) (w : World) (K : PySem.W.Frag) (mg : Str → Option Value) (base : Heap) (kl k : Nat) (x : Str) (ps : List Str) (Pre : PreLXs) : Prop where
  ex : ∃ g fd, mg x = some (.ref g) ∧ PySem.W.keepIn K (.ref g) = true ∧ Binds K fd ps [] ∧ (∀ fs As Ω R, Pre fs As Ω R → As.length = ps.length) ∧
    ∀ (A : Around) (outer : List PySem.Env) (s : Shared) (H : Hp) (us : List Value) (vs : List V) (Q : VK) (fs : List (Addr × ActF)), Room k A → Env0 P w K mg base A outer s H → BindsTo s fd ⟨us, []⟩ (ps.zip us) → Vals vs us →
      (∀ p ∈ fs, CanCall P w K mg base kl H s.heap p.1 p.2) → mkSp (Pre fs) vs H Q E0 → codeAny (model P w) A (.call (.ref g) ⟨us, []⟩) (CR CX0 outer P w H s Q E0) s
section
variable {P : Program} {w : World} {K : PySem.W.Frag} {mg : Str → Option Value} {base : Heap}
end
/-! ### f(x), x's value one of the lambdas that were handed in -/
def tCallAX (fs : List (Addr × ActF)) (Pre : PreLX) (i : Nat) : TE := fun τ H Q => ∃ p ∈ fs, τ[i]? = some (some (.ref p.1)) ∧ mkSp (Pre p.1 p.2) [.ref p.1] H Q E0
section
variable {X : Cx}
end
section
variable {T : TC} {Γ : List (Option VA)} {Ω Ω2 Ω3 : List OA} {A : VA} {i : Nat}
/-- a lambda that may be asked while one thing more is held -/
def askB (T : TC) (f : Addr) (act : ActF) (Ω : List OA) (o : Option XC) : VA := ⟨fun F v => v = .ref f ∧ ∀ X : OA, (askX T f act (Ω ++ [X]) (Ω ++ [X]) o).P F v, fun e ⟨h1, h2⟩ => ⟨h1, fun X => (askX T f act (Ω ++ [X]) (Ω ++ [X]) o).mono e (h2 X)⟩⟩
end
/-! ### x(list, ..): the list's elements lambdas of this frame -/
def tCallLXs (X : Cx) (kl : Nat) (Pre : PreLXs) (ta : TA) : TE := fun σ H Q => ta σ H fun vs H1 => ∃ fs : List (Addr × ActF), (∀ p ∈ fs, ∃ (Lm : LamPk X kl) (c' : Addr), p.2 = Lm.act c' p.1 σ) ∧ mkSp (Pre fs) vs H1 Q E0
section
variable {X : Cx}
end
section
variable {X : Cx} {kl : Nat} {T : TC} {Γ : List (Option VA)} {Ω Ω2 Ω3 : List OA} {A : VA} {ta : TA}
end
end VL

set_option Elab.async false
set_option linter.all false
set_option maxRecDepth 100000
set_option maxHeartbeats 2000000
/-! VL81: a loop over a written list, each turn with a state of its own. -/
namespace VL
open PySem PySem.Spec PyProof.Rows L2 LamX
section
variable {T : TC} {Ω : List OA} {D : Ends} {F0 : Hp} {wi : L2.TI} {tb ts : TS} {k : Nat} {As : List VA}
/-- what the turn i may rely on -/
abbrev TurnL (F1 : Hp) (D' : Ends) (Gs : Nat → List (Option VA)) (Os : Nat → List OA) (i : Nat) : Prop := To D' F1 (Stp.nx (i + 1) : Stp Nat Unit) (fun s => NX F1 (Gs s) (Os s)) (fun s => NX F1 (Gs s) (Os s)) (fun _ _ _ _ => False)
end
section
variable {T : TC} {Ω : List OA}
end
end VL

set_option Elab.async false
set_option linter.all false
set_option maxRecDepth 100000
set_option maxHeartbeats 2000000
/-! VL82: a loop over a written list of pairs whose first part is a thing, each turn with a state of its own. -/
namespace VL
open PySem PySem.Spec PyProof.Rows L2 LamX
section
variable {T : TC} {Γ : List (Option VA)} {Ω Ω1 : List OA} {D : Ends} {F0 : Hp} {wi : L2.TI} {tb ts : TS} {k l : Nat}
end
end VL

set_option Elab.async false
set_option linter.all false
set_option maxRecDepth 100000
set_option maxHeartbeats 2000000
/-! VL83: a loop over a list one of whose things is made while the list is written: its place is known only then. -/
namespace VL
open PySem PySem.Spec PyProof.Rows L2 LamX
section
variable {T : TC} {Γ : List (Option VA)} {Ω Ω1 : List OA} {D : Ends} {F0 : Hp} {wi : L2.TI} {tb ts : TS} {k l : Nat}
def XIN {α : Type} (wi : L2.TI) (Γ : List (Option VA)) (Ω : List OA) (xs : List α) (A : Addr → α → VA) (Ω2 : Addr → List OA) : Prop :=
  ∀ F σ H, Env F σ Γ → Holds F Ω H → ∀ R : It → Hp → Prop, (∀ p F' J H' Sx, Same F F' → Holds F' (Ω2 p) H' → Wk J Sx xs (A p) → Sx F' → R J H') → wi σ H R
/-- the pairs of two machines, the other way about, and a new one with the first -/
def psMOM (pm po : Addr) (p : Addr) : Nat → Addr × VA | 0 => (pm, vr po) | 1 => (po, vr pm) | _ => (p, vr pm)
def pick3 {β : Type} : Nat → β → β → β → β | 0, a, _, _ => a | 1, _, b, _ => b | _, _, _, c => c
end
end VL

set_option Elab.async false
set_option linter.all false
set_option maxRecDepth 100000
set_option maxHeartbeats 2000000
/-! VL84: a lambda within a comprehension over defs of the program: the block's own name is what the lambda calls. -/
namespace VL
open PySem PySem.Spec PyProof.Rows L2 LamX
structure HeldFX (P : Program) (w : World) (K : PySem.W.Frag) (mg : Str → Option Value) (base : Heap) (k : Nat) (f : Addr) (sp : Sp) : Prop where
  ex : ∃ (fd : FuncData) (ps : List Str), FnOk P w K mg base (L2.CX P w) k f fd ps sp ∧ PySem.W.keepIn K (.ref f) = true ∧ Binds K fd ps []
section
variable {P : Program} {w : World} {K : PySem.W.Frag} {mg : Str → Option Value} {base : Heap} {j k : Nat} {x : Str} {ps : List Str} {sp : Sp} {f : Addr}
end
/-- x(..), x a name of the frame that holds one of several defs, which may raise -/
def tCallFS (i : Nat) (S : Addr → Sp → Prop) (W : WX) (t : TA) : TE := fun σ H Q => ∃ f sp, σ[i]? = some (some (.ref f)) ∧ S f sp ∧ tCallS sp (WE W) t σ H Q
section
variable {X : Cx} {k i : Nat} {S : Addr → Sp → Prop} {x : Str} {p pos : Pos} {e : Expr} {es : List Expr} {t : TA} {W : WX}
end
section
variable {T : TC} {Γ : List (Option VA)} {Ω Ω1 Ω2 : List OA} {A : VA} {As : List VA} {t : TA} {F0 : Hp} {W : WX} {i : Nat} {a : FT} {S : Addr → Sp → Prop} {sp : Sp} {PreX : PreXX} {r : XC}
end
/-! ### a comprehension whose element's meaning goes with its block -/
def tAllB (te : Shared → Hp → Addr → List (Str × Addr) → List Addr → TE) : TE := fun σ H Q => ∀ s H1 C cl fp, te s H1 C cl fp σ H Q
section
variable {T : TC} {Γ : List (Option VA)} {Ω Ω1 Ω2 : List OA} {ta tb : TE}
end
end VL

set_option Elab.async false
set_option linter.all false
set_option maxRecDepth 100000
set_option maxHeartbeats 2000000
/-! VL85: deep tuples, a list of two values; a comprehension over lambdas each of which changes the state. -/
namespace VL
open PySem PySem.Spec PyProof.Rows L2 LamX
/-- a tuple whose things are not looked at -/
inductive DT where
  | mk
instance : Rp DT := ⟨fun T F v _ => ∃ p vs, v = .ref p ∧ SqT T.K F p vs, fun e ⟨p, vs, h1, h2⟩ => ⟨p, vs, h1, Same.tup e h2⟩⟩
/-- a list of two values -/
structure LP (α β : Type) where
  a : α
  b : β
instance {α β : Type} [Rp α] [Rp β] : Rp (LP α β) := ⟨fun T F v x => ∃ p u w, v = .ref p ∧ F p = some (.lst [u, w]) ∧ Rp.rep T F u x.a ∧ Rp.rep T F w x.b, fun e ⟨p, u, w, h1, h2, h3, h4⟩ => ⟨p, u, w, h1, e _ _ h2, Rp.mono e h3, Rp.mono e h4⟩⟩
section
variable {T : TC} {Γ : List (Option VA)} {Ω Ω0 Ω1 Ω2 : List OA} {A B : VA} {As : List VA} {ta : TA} {te : TE} {α β : Type} [Rp α] [Rp β]
end
/-! a chain of states -/
inductive PwS {γ S : Type} (P : VA → γ → S → S → Prop) : S → List VA → List γ → S → Prop
  | nil {s : S} : PwS P s [] [] s
  | cons {A : VA} {y : γ} {As : List VA} {ys : List γ} {s s1 s2 : S} (h : P A y s s1) (t : PwS P s1 As ys s2) : PwS P s (A :: As) (y :: ys) s2
structure Zs (γ S : Type) where
  A : VA
  y : γ
  s : S
  t : S
open Classical in
noncomputable def zsB {γ S : Type} (z : Zs γ S) (s : S) : Option (Option γ × S) := if s = z.s then some (some z.y, z.t) else none
theorem PwS.zs {γ S : Type} {P : VA → γ → S → S → Prop} : ∀ {As : List VA} {ys : List γ} {s s1 : S}, PwS P s As ys s1 → ∃ zs : List (Zs γ S), zs.map (·.A) = As ∧ lcM zsB zs s = some (ys, s1) ∧ ∀ z ∈ zs, P z.A z.y z.s z.t
  | _, _, _, _, .nil => ⟨[], rfl, rfl, fun z h => nomatch h⟩
  | _, _, s, _, .cons (A := A) (y := y) (s1 := s1) h t => by
    obtain ⟨zs, h1, h2, h3⟩ := t.zs
    refine ⟨⟨A, y, s, s1⟩ :: zs, by rw [List.map_cons, h1], ?_, fun z hz => ?_⟩
    · show (zsB ⟨A, y, s, s1⟩ s).bind _ = _
      rw [show zsB ⟨A, y, s, s1⟩ s = some (some y, s1) from if_pos rfl]
      show (lcM zsB zs s1).bind _ = _
      rw [h2]
      rfl
    · rcases List.mem_cons.mp hz with rfl | hz
      · exact h
      · exact h3 z hz
section
variable {T : TC} {Γ : List (Option VA)} {Ω Ω0 Ω1 Ω2 : List OA} {As : List VA} {te : TE}
end
end VL

set_option Elab.async false
set_option linter.all false
set_option maxRecDepth 100000
set_option maxHeartbeats 2000000
/-! VL86: lists whose elements are numbers or something else (type 'GV'); deep lists or tuples whose kind is told; for over a list of lambdas. -/
namespace VL
open PySem PySem.Spec PyProof.Rows L2 LamX
inductive GV where
  | g (x : Bg)
  | o
def gvP (T : TC) (F : Hp) (v : V) : GV → Prop
  | .g x => Rp.rep T F v x
  | .o => ∀ H, Same F H → ∃ t, TyX T.K H v t ∧ PySem.W.kitOne T.K t (.ref (T.C 1)) = some false
theorem gvP_mono {T : TC} {F F' : Hp} (e : Same F F') {v : V} : ∀ {m : GV}, gvP T F v m → gvP T F' v m
  | .g _, h => Rp.mono e h
  | .o, h => fun H e2 => h H (e.trans e2)
instance : Rp GV := ⟨fun T F v m => gvP T F v m, fun e h => gvP_mono e h⟩
/-- a number of these bits -/
def GV.is (w : Int) : GV → Bool
  | .g x => true && decide (x.w = w)
  | .o => false
section
variable {T : TC} {Γ : List (Option VA)} {Ω Ω0 Ω1 Ω2 : List OA} {A B : VA} {te : TE} {k : Nat}
end
/-! deep lists or tuples -/
structure DQn where
  d : Nat
  b : Bool
def dqv (T : TC) (F : Hp) : Nat → Bool → V → Prop
  | 0, _, v => ∃ p, v = .ref p ∧ SqT T.K F p []
  | _ + 1, true, v => ∃ p x, v = .ref p ∧ F p = some (.lst [x]) ∧ Rp.rep T F x DX.mk
  | _ + 1, false, v => ∃ p vs, v = .ref p ∧ SqT T.K F p vs
theorem dqv_mono {T : TC} {F F' : Hp} (e : Same F F') : ∀ {d : Nat} {b : Bool} {v : V}, dqv T F d b v → dqv T F' d b v
  | 0, _, _, ⟨p, h1, h2⟩ => ⟨p, h1, Same.tup e h2⟩
  | _ + 1, true, _, ⟨p, x, h1, h2, h3⟩ => ⟨p, x, h1, e _ _ h2, Rp.mono e h3⟩
  | _ + 1, false, _, ⟨p, vs, h1, h2⟩ => ⟨p, vs, h1, Same.tup e h2⟩
instance : Rp DQn := ⟨fun T F v a => dqv T F a.d a.b v, fun e h => dqv_mono e h⟩
/-- a list of one list or tuple -/
inductive D1 where
  | mk
instance : Rp D1 := ⟨fun T F v _ => ∃ p x, v = .ref p ∧ F p = some (.lst [x]) ∧ Rp.rep T F x DX.mk, fun e ⟨p, x, h1, h2, h3⟩ => ⟨p, x, h1, e _ _ h2, Rp.mono e h3⟩⟩
section
variable {T : TC} {Γ : List (Option VA)} {Ω Ω0 Ω1 Ω2 : List OA} {A B : VA} {te ta tb : TE} {t : TT} {b : Bool}
end
/-! for over a list, each element for itself -/
def AllA (P : VA → Prop) : List VA → Prop
  | [] => True
  | A :: As => P A ∧ AllA P As
section
variable {T : TC} {G : List (Option VA)} {Ω O : List OA} {D : Ends} {F0 : Hp} {wi : L2.TI} {tb ts : TS} {k : Nat} {As : List VA}
end
end VL

set_option Elab.async false
set_option linter.all false
set_option maxRecDepth 100000
set_option maxHeartbeats 2000000
/-! VL87: == of lists of numbers, one of them empty. -/
namespace VL
open PySem PySem.Spec PyProof.Rows L2 LamX GQ
section
variable {prog : Program} {w : World} {A : Around} {E : Value → Shared → Prop} {R : Except Value Flow → Shared → Prop}
end
def rLenNe : R2 := fun x y H Q => ∃ a b xs ys, x = .ref a ∧ y = .ref b ∧ H a = some (.lst xs) ∧ H b = some (.lst ys) ∧ xs.length ≠ ys.length ∧ Q (.bl false) H
section
variable {T : TC} {Γ : List (Option VA)} {Ω Ω1 Ω2 : List OA} {ta tb : TE} {l : List Bg} {C : Addr} {sp : Sp}
end
end VL

set_option Elab.async false
set_option linter.all false
set_option maxRecDepth 100000
set_option maxHeartbeats 2000000
/-! VL88: a lambda that changes the state ahead of what it raises; a list of lambdas out of two, which grows. -/
namespace VL
open PySem PySem.Spec PyProof.Rows L2 LamX
/-- the parameter's value: a lambda that raises r, in the state Ω' -/
def askM (T : TC) (f : Addr) (act : XK → Hp → VK → Prop) (Ω Ω' : List OA) (r : XC) : VA :=
  ⟨fun F v => v = .ref f ∧ ∀ F1 H1, Same F F1 → Holds F1 Ω H1 → ∀ (E : XK) (Q : VK), (∀ F2 c d H2, Same F1 F2 → Holds F2 Ω' H2 → RCf T r F2 c d → E c d H2) → act E H1 Q,
   fun e ⟨h1, h2⟩ => ⟨h1, fun F1 H1 e1 => h2 F1 H1 (e.trans e1)⟩⟩
def OutcM (T : TC) (Γ : List (Option VA)) (Ω Ω' : List OA) (tb : XK → TE) (r : XC) : Prop :=
  ∀ (E : XK) (F1 : Hp), (∀ F2 c d H2, Same F1 F2 → Holds F2 Ω' H2 → RCf T r F2 c d → E c d H2) → XR (tb E) F1 Γ Ω
section
variable {X : Cx} {kl : Nat} {T : TC} {Γ : List (Option VA)} {Ω Ω1 Ω2 Ω' : List OA} {A : VA} {As Bs : List VA} {F0 : Hp} {W : WX} {ta tb : TE}
end
section
variable {T : TC} {Γ : List (Option VA)} {Ω Ω' Ω1 Ω2 : List OA} {As : List VA} {A B : VA} {u : Value} {i : Nat} {tb : XK → TE} {r : XC}
end
end VL

set_option Elab.async false
set_option linter.all false
set_option maxRecDepth 100000
set_option maxHeartbeats 2000000
/-! VL89: lists of lists of texts and of numbers: == of equal ones. -/
namespace VL
open PySem PySem.Spec PyProof.Rows L2 LamX
/-- a list of texts, or a list of numbers -/
inductive SB where
  | s (l : List Str)
  | g (l : List Bg)
def sbP (T : TC) (F : Hp) (v : V) : SB → Prop
  | .s l => Rp.rep T F v (LF.mk l)
  | .g l => Rp.rep T F v (LF.mk l)
theorem sbP_mono {T : TC} {F F' : Hp} (e : Same F F') {v : V} : ∀ {m : SB}, sbP T F v m → sbP T F' v m
  | .s _, h => Rp.mono e h
  | .g _, h => Rp.mono e h
instance : Rp SB := ⟨fun T F v m => sbP T F v m, fun e h => sbP_mono e h⟩
def SB.bigs : SB → List Bg
  | .s _ => []
  | .g l => l
section
variable {T : TC} {Γ : List (Option VA)} {Ω Ω1 Ω2 : List OA} {te ta tb : TE}
end
/-- what the own == is asked -/
def rBig (T : TC) (Pre : PreT) (a b : Addr) (H : Hp) : Prop := ∃ x : Bg, Rp.rep T H (.ref a) x ∧ Rp.rep T H (.ref b) x ∧ Pre [va T x, va T x] [] (RV (va T true) [])
abbrev DSB (T : TC) (Pre : PreT) : Eqv := DList (fun x y H => DList DFlat x y H ∨ DList (DIns (T.C 1) (rBig T Pre)) x y H)
section
variable {T : TC} {Γ : List (Option VA)} {Ω Ω1 Ω2 : List OA} {ta tb : TE}
end
end VL

set_option Elab.async false
set_option linter.all false
set_option maxRecDepth 100000
set_option maxHeartbeats 2000000
/-! VL90: loops over values of several kinds, one kind of any type beside the numbers; a call of a lambda that draws ahead of what it raises. -/
namespace VL
open PySem PySem.Spec PyProof.Rows L2 LamX
/-- an element: of any kind, or an int, a truth, a number, or a value of another type -/
def Kin6 (T : TC) (P : VA → Prop) (QI : Int → Prop) (QB : Bool → Prop) (QG : Bg → Prop) {μ : Type} [Rp μ] (QM : μ → Prop) (a : VA) : Prop := Kin T P QI QB QG a ∨ ∃ l : μ, (∀ F v, a.P F v → (va T l).P F v) ∧ QM l
section
variable {T : TC} {Γ : List (Option VA)} {Ω O Ω' : List OA} {D : Ends} {F0 : Hp} {wi : L2.TI} {tb ts : TS} {k : Nat} {As : List VA} {G : List (Option VA)} {te : XK → TE} {r : XC} {i : Nat} {μ : Type} [Rp μ]
end
section
variable {X : Cx} {kl : Nat} {T : TC} {Γ : List (Option VA)} {Ω Ω1 Ω2 Ω' : List OA} {A : VA}
end
section
variable {T : TC} {Γ : List (Option VA)} {Ω : List OA} {D : Ends} {F0 : Hp} {ts : TS}
end
end VL

set_option Elab.async false
set_option linter.all false
set_option maxRecDepth 100000
set_option maxHeartbeats 2000000
/-! VL91: a text walked over, sign by sign; enumerate(text). -/
namespace VL
open PySem PySem.Spec PyProof.Rows L2 LamX
section
variable {T : TC} {Γ : List (Option VA)} {Ω Ω1 : List OA} {te : TE}
/-- the signs of a text -/
def signs (x : Str) : List Str := x.cps.toList.map fun c => SS [c]
end
/-- the signs of a text, in new pairs with their places -/
def IteS (x : Str) : It :=
  ⟨fun i _ => i < x.cps.size, fun i H v H' => ∃ p c, v = .ref p ∧ H p = none ∧ H' = upd H p (.tup [.int (i : Nat), .str ⟨#[c]⟩]) ∧ x.cps[i]? = some c, fun i _ => x.cps.size = i⟩
def iEnumS (ta : TA) : L2.TI := fun σ H R => ta σ H fun vs H1 => ∃ x, vs = [.str x] ∧ R (IteS x) H1
section
variable {T : TC} {Γ : List (Option VA)} {Ω Ω1 : List OA} {te : TE}
end
section
variable {T : TC} {Γ : List (Option VA)} {Ω Ω1 Ω2 : List OA} {ta tb te : TE} {x y : Str} {α : Type} [Rp α]
end
section
variable {T : TC} {Γ : List (Option VA)} {Ω : List OA} {D : Ends} {F0 : Hp} {ts : TS}
end
/-- what a loop tells in which a turn may raise -/
def xst {S : Type} (st : Stp S XC) (k : S → Option XC) : Option XC := match st with | .rt r => some r | .nx s => k s | .bk _ => none
end VL

set_option Elab.async false
set_option linter.all false
set_option maxRecDepth 100000
set_option maxHeartbeats 2000000
/-! VL92: a loop over a written list turn by turn, any target, each turn with a state of its own; tuples of four values of any kind. -/
namespace VL
open PySem PySem.Spec PyProof.Rows L2 LamX
/-- an item, and what the target makes of it -/
structure Itm (g : TG) (js : List Nat) where
  A : VA
  f : List (Option VA) → List (Option VA)
  ok : Tgt g A f js
def AllI {α : Type} (P : Nat → α → Prop) : Nat → List α → Prop
  | _, [] => True
  | k, a :: l => P k a ∧ AllI P (k + 1) l
theorem AllI.get {α : Type} {P : Nat → α → Prop} : ∀ {l : List α} {k : Nat}, AllI P k l → ∀ i a, l[i]? = some a → P (k + i) a
  | [], _, _, i, a, h => by cases h
  | b :: l, k, ⟨h1, h2⟩, 0, a, h => by cases h; exact h1
  | b :: l, k, ⟨h1, h2⟩, i + 1, a, h => by
    have := h2.get i a h
    rw [show k + (i + 1) = k + 1 + i by omega]
    exact this
section
variable {T : TC} {Ω : List OA} {D : Ends} {F0 : Hp} {wi : L2.TI} {tb ts : TS} {g : TG} {js : List Nat}
end
section
variable {T : TC} {Ω : List OA} {A B C D : VA} {k l m n : Nat}
theorem alA4 {F : Hp} {vs : List V} (h : AlA F vs [A, B, C, D]) : ∃ a b c d, vs = [a, b, c, d] ∧ A.P F a ∧ B.P F b ∧ C.P F c ∧ D.P F d := by
  cases h with
  | cons h1 t => cases t with
    | cons h2 t => cases t with
      | cons h3 t => cases t with
        | cons h4 t => cases t; exact ⟨_, _, _, _, rfl, h1, h2, h3, h4⟩
theorem tgt_tp4 : Tgt (gTup T.K 4 (gCons (gName k) (gCons (gName l) (gCons (gName m) (gCons (gName n) gNil))))) (tpA T [A, B, C, D]) (fun Γ => (((Γ.set k (some A)).set l (some B)).set m (some C)).set n (some D)) [k, l, m, n] := fun F σ Γ v H Ω e hh h Q q => by
  obtain ⟨p, vs, rfl, ht, al⟩ := h
  obtain ⟨a, b, c, d, rfl, ra, rb, rc, rd⟩ := alA4 al
  refine ⟨p, [a, b, c, d], rfl, Same.tup hh.same ht, rfl, a, [b, c, d], rfl, b, [c, d], rfl, c, [d], rfl, d, [], rfl, rfl, ?_⟩
  exact q F _ H (Same.refl F) ((((e.set ra).set rb).set rc).set rd) hh fun vs h => (wipe_set (h n (by simp))).trans ((wipe_set (h m (by simp))).trans ((wipe_set (h l (by simp))).trans (wipe_set (h k (by simp)))))
end
section
variable {T : TC}
def it2 (T : TC) (k l : Nat) (A B : VA) : Itm (gTup T.K 2 (gCons (gName k) (gCons (gName l) gNil))) [k, l] := ⟨tpA T [A, B], _, tgt_tp2⟩
def it4 (T : TC) (k l m n : Nat) (A B C D : VA) : Itm (gTup T.K 4 (gCons (gName k) (gCons (gName l) (gCons (gName m) (gCons (gName n) gNil))))) [k, l, m, n] := ⟨tpA T [A, B, C, D], _, tgt_tp4⟩
end
end VL

set_option Elab.async false
set_option linter.all false
set_option maxRecDepth 100000
set_option maxHeartbeats 2000000
/-! VL93: divisions by any divisor above 0: where nothing watches the interpreter's own long division. -/
namespace VL
open PySem PySem.Spec PyProof.Rows L2 LamX
/-! what the law's base tells -/
theorem keysB_ok {es : Array DictEntry} (h : keysB es = true) : StrKeys es := fun e he => by
  have := List.all_eq_true.mp h e (Array.mem_toList_iff.mpr he)
  cases q : e.key with
  | str n t => exact ⟨n, t, rfl⟩
  | _ => rw [q] at this; cases this
theorem spaceB_ok {K : PySem.W.Frag} {h : Heap} {a : Addr} {xs : List Str} (X : K.In h) (c : spaceB K a xs = true) : ∃ m, h.Ns a m ∧ ∀ x ∈ xs, m x = none := by
  unfold spaceB at c
  cases e : K.lookup a with
  | none => rw [e] at c; cases c
  | some o =>
    rw [e] at c
    have c : (match o.data with | .dict es _ => keysB es && xs.all fun x => (nsFind es x).isNone | _ => false) = true := c
    cases d : o.data with
    | dict es ep =>
      rw [d] at c
      obtain ⟨c1, c2⟩ := Bool.and_eq_true_iff.mp c
      exact ⟨fun x => nsFind es x, ⟨o, es, ep, X _ _ e, d, keysB_ok c1, fun _ => rfl⟩, fun x hx => Option.isNone_iff_eq_none.mp (List.all_eq_true.mp c2 x hx)⟩
    | _ => rw [d] at c; cases c
theorem modB_ok {K : PySem.W.Frag} {h : Heap} {mg : Str → Option Value} (X : K.In h) (G : h.Ns mainGlobals mg) (c : modB K = true) : ∃ bm ob, mg "__builtins__" = some (.ref bm) ∧ h.get? bm = some ob ∧ ob.cls = .type "module" ∧ ob.dict = some builtinsNs := by
  unfold modB at c
  cases e : PySem.W.nsIn K mainGlobals "__builtins__" with
  | none => rw [e] at c; cases c
  | some v =>
    cases v with
    | none => rw [e] at c; cases c
    | some v =>
      cases v with
      | ref bm =>
        rw [e] at c
        have c : (match K.lookup bm with | some o => (match o.cls, o.dict with | .type n, some d => decide (n = "module") && decide (d = builtinsNs) | _, _ => false) | none => false) = true := c
        cases l : K.lookup bm with
        | none => rw [l] at c; cases c
        | some o =>
          rw [l] at c
          have c : (match o.cls, o.dict with | .type n, some d => decide (n = "module") && decide (d = builtinsNs) | _, _ => false) = true := c
          refine ⟨bm, o, PySem.W.mg_of X G e, X _ _ l, ?_⟩
          cases q : o.cls with
          | type n =>
            cases r : o.dict with
            | none => rw [q, r] at c; cases c
            | some d =>
              rw [q, r] at c
              obtain ⟨c1, c2⟩ := Bool.and_eq_true_iff.mp c
              exact ⟨by rw [of_decide_eq_true c1], by rw [of_decide_eq_true c2]⟩
          | _ => rw [q] at c; cases c
      | _ => rw [e] at c; cases c
theorem seer_ok {K : PySem.W.Frag} {h : Heap} {mg : Str → Option Value} (X : K.In h) (G : h.Ns mainGlobals mg) (B : ∃ mb, h.Ns builtinsNs mb ∧ ∀ x : Str, x ≠ "__name__" → mb x = bootBuiltins x) (c : seerB K = true) : h.NoSeer := by
  obtain ⟨c1, c⟩ := Bool.and_eq_true_iff.mp c
  obtain ⟨c2, c3⟩ := Bool.and_eq_true_iff.mp c
  obtain ⟨mc, h1, h2⟩ := spaceB_ok X c1
  obtain ⟨mm, h3, h4⟩ := spaceB_ok X c2
  obtain ⟨bm, ob, h5, h6⟩ := modB_ok X G c3
  exact ⟨⟨mc, h1, h2 _ (by simp), h2 _ (by simp)⟩, ⟨mm, h3, h4 _ (by simp)⟩, B, ⟨mg, bm, ob, G, h5, h6⟩⟩
/-! the operator -/
/-- a divisor above 0 -/
def CDivS (_ j : Int) : Prop := 0 < j
instance {i j : Int} : Decidable (CDivS i j) := by unfold CDivS; infer_instance
/-- what the program tells: no tree of modules, a base that nobody watches -/
structure Unseen (P : Program) (K : PySem.W.Frag) : Prop where
  t : P.given.tree = none
  b : seerB K = true
theorem op_fdivS {X : Cx} (U : Unseen X.prog X.K) (hr : Room 32 X.A) (hs : X.stack = X.env :: X.outer) (hg : X.env.scope.isGenerator = false) (hc : X.env.scope.isCoroutine = false) : OpR X (binaryOp .FloorDiv) (rI CDivS fun i j => .int (i / j)) := by
  intro pins s σ H x y v u Q I rx ry h
  obtain ⟨i, j, rfl, rfl, h1, q⟩ := h
  obtain ⟨t, rfl⟩ := rx
  obtain ⟨t', rfl⟩ := ry
  have h1 : (0 : Int) < j := h1
  have hN : s.heap.NoSeer := (seer_ok I.mod.kin I.mod.glob I.mod.blt U.b).keeps I.bk
  have hf : X.A.frames = some (X.env :: X.outer) := by rw [I.ok.frames, hs]
  refine floordiv_int (by omega) (by rw [Int.fdiv_eq_ediv_of_nonneg i (by omega)]; exact ⟨.int (i / j), H, I.tok _, ⟨_, rfl⟩, q⟩) (.inr (PySem.PylongRoom.of I.nolimit ?_ (PySem.SeerAt.of hN U.t hf hg hc I.ok.blt I.ok.glob)))
  have := hr.dp
  show X.A.depth + 100 < recursionLimit
  omega
section
variable {T : TC} {Γ : List (Option VA)} {Ω Ω1 Ω2 : List OA} {ta tb : TE} {i j : Int}
theorem xe_fdivS (h : CDivS i j) (ha : XE ta Γ Ω (va T i) Ω1) (hb : XE tb Γ Ω1 (va T j) Ω2) : XE (tOp (rI CDivS fun i j => .int (i / j)) ta tb) Γ Ω (va T (i / j)) Ω2 := xe_op ha hb (ro_intD h)
end
end VL

set_option Elab.async false
set_option linter.all false
/-! the mathematics: loops by invariants, digits, bits -/
namespace VL
open PySem L2
theorem chkP_eq {p : Prop} (h : p) : chkP p = some () := by unfold chkP; exact if_pos h
theorem bnd_of {α β : Type} {o : Option α} {a : α} {f : α → Option β} {r : Option β} (h : o = some a) (k : f a = r) : o.bind f = r := by rw [h]; exact k
/-! ### loops -/
section
variable {α S ρ : Type} {b : α → S → Option (Stp S ρ)}
theorem forM_cons {x : α} {r : List α} {s s' : S} (h : b x s = some (.nx s')) : forM' b (x :: r) s = forM' b r s' := by
  show (b x s).bind _ = _
  rw [h]
  rfl
theorem forM_ind (I : Nat → S → Prop) : ∀ (xs : List α) (k : Nat) (s : S), (∀ i x s, xs[i]? = some x → I (k + i) s → ∃ s', b x s = some (.nx s') ∧ I (k + i + 1) s') → I k s → ∃ s', forM' b xs s = some (.nx s') ∧ I (k + xs.length) s'
  | [], k, s, _, h => ⟨s, rfl, h⟩
  | x :: r, k, s, hs, h => by
    obtain ⟨s1, e1, i1⟩ := hs 0 x s rfl h
    obtain ⟨s2, e2, i2⟩ := forM_ind I r (k + 1) s1 (fun i y t hy ht => by
      obtain ⟨t', e, q⟩ := hs (i + 1) y t hy (by rw [show k + (i + 1) = k + 1 + i from by omega]; exact ht)
      exact ⟨t', e, by rw [show k + 1 + i + 1 = k + (i + 1) + 1 from by omega]; exact q⟩) i1
    exact ⟨s2, by rw [forM_cons e1, e2], by rw [List.length_cons, show k + (r.length + 1) = k + 1 + r.length from by omega]; exact i2⟩
theorem whileM_f {c : S → Option Bool} {bd : S → Option (Stp S ρ)} {n : Nat} {s : S} (h : c s = some false) : whileM c bd (n + 1) s = some (.nx s) := by
  show (c s).bind _ = _
  rw [h]
  rfl
theorem whileM_t {c : S → Option Bool} {bd : S → Option (Stp S ρ)} {n : Nat} {s s' : S} (h : c s = some true) (h2 : bd s = some (.nx s')) : whileM c bd (n + 1) s = whileM c bd n s' := by
  show (c s).bind _ = _
  rw [h]
  show (bd s).bind _ = _
  rw [h2]
  rfl
end
/-! ### bits -/
def bl (a : Nat) : Nat := if a = 0 then 0 else a.log2 + 1
theorem intBits_nat (a : Nat) : Builtin.Int.intBits (a : Int) = bl a := by
  unfold Builtin.Int.intBits bl
  by_cases h : a = 0
  · subst h; rfl
  · rw [if_neg h, if_neg (by simpa using h), Int.natAbs_natCast]
def pc (a : Nat) : Nat := if h : a = 0 then 0 else a % 2 + pc (a / 2)
termination_by a
decreasing_by omega
/-! ### digits -/
def dg (w a : Nat) : List Int := if h : a = 0 ∨ w = 0 then [] else ((a % 2 ^ w : Nat) : Int) :: dg w (a / 2 ^ w)
termination_by a
decreasing_by
  have h1 : a ≠ 0 := fun e => h (.inl e)
  have h2 : w ≠ 0 := fun e => h (.inr e)
  exact Nat.div_lt_self (by omega) (Nat.one_lt_two_pow h2)
theorem dg_zero (w : Nat) : dg w 0 = [] := by unfold dg; rfl
theorem dg_pos {w a : Nat} (hw : w ≠ 0) (h : a ≠ 0) : dg w a = ((a % 2 ^ w : Nat) : Int) :: dg w (a / 2 ^ w) := by
  rw [dg, dif_neg (fun e => e.elim h hw)]
theorem dg_ind {w : Nat} (hw : w ≠ 0) {p : Nat → Prop} (h0 : p 0) (hs : ∀ a, a ≠ 0 → p (a / 2 ^ w) → p a) : ∀ a, p a := fun a => by
  induction a using Nat.strongRecOn with
  | ind a ih =>
    by_cases h : a = 0
    · subst h; exact h0
    · exact hs a h (ih _ (Nat.div_lt_self (by omega) (Nat.one_lt_two_pow hw)))
section
variable {w : Nat} (hw : w ≠ 0)
include hw
theorem dg_mem : ∀ a, ∀ x ∈ dg w a, ∃ d : Nat, x = (d : Int) ∧ d < 2 ^ w := by
  refine dg_ind hw (fun x hx => by rw [dg_zero] at hx; cases hx) fun a h ih x hx => ?_
  rw [dg_pos hw h] at hx
  rcases List.mem_cons.mp hx with e | e
  · exact ⟨_, e, Nat.mod_lt _ (Nat.two_pow_pos w)⟩
  · exact ih x e
theorem dg_len : ∀ a m, a < 2 ^ (w * m) → (dg w a).length ≤ m := by
  refine dg_ind hw (fun m _ => by rw [dg_zero]; exact Nat.zero_le _) fun a h ih m hm => ?_
  rw [dg_pos hw h, List.length_cons]
  cases m with
  | zero => rw [Nat.mul_zero, Nat.pow_zero] at hm; omega
  | succ m =>
    have := ih m (by
      rw [Nat.div_lt_iff_lt_mul (Nat.two_pow_pos w), ← Nat.pow_add, show w * m + w = w * (m + 1) from by rw [Nat.mul_succ]]
      exact hm)
    omega
end
/-! ### rows from the last digit on, compared -/
def vm (B : Int) : List Int → Int
  | [] => 0
  | d :: r => d * B ^ r.length + vm B r
theorem vm_snoc {B : Int} : ∀ {r : List Int} {d : Int}, vm B (r ++ [d]) = vm B r * B + d
  | [], d => by show d * B ^ 0 + 0 = 0 * B + d; simp
  | e :: r, d => by
    show e * B ^ (r ++ [d]).length + vm B (r ++ [d]) = (e * B ^ r.length + vm B r) * B + d
    rw [vm_snoc (r := r), List.length_append, show [d].length = 1 from rfl, Int.pow_succ, Int.add_mul, ← Int.mul_assoc, Int.add_assoc]
theorem vm_bound {B : Int} (hB : 0 < B) : ∀ {r : List Int}, (∀ x ∈ r, 0 ≤ x ∧ x < B) → 0 ≤ vm B r ∧ vm B r < B ^ r.length
  | [], _ => ⟨Int.le_refl _, by show (0 : Int) < B ^ 0; rw [Int.pow_zero]; decide⟩
  | d :: r, h => by
    obtain ⟨i0, i1⟩ := vm_bound hB (r := r) fun x hx => h x (List.mem_cons_of_mem _ hx)
    obtain ⟨d0, d1⟩ := h d List.mem_cons_self
    have hp : 0 < B ^ r.length := Int.pow_pos hB
    have h0 : 0 ≤ d * B ^ r.length := Int.mul_nonneg d0 (by omega)
    have h1 : (d + 1) * B ^ r.length ≤ B * B ^ r.length := Int.mul_le_mul_of_nonneg_right (by omega) (by omega)
    rw [Int.add_mul, Int.one_mul] at h1
    show 0 ≤ d * B ^ r.length + vm B r ∧ d * B ^ r.length + vm B r < B ^ (r.length + 1)
    rw [Int.pow_succ, Int.mul_comm (B ^ r.length) B]
    omega
theorem vm_dg {w : Nat} (hw : w ≠ 0) : ∀ a : Nat, vm (2 ^ w) (dg w a).reverse = (a : Int) := by
  refine dg_ind hw (by rw [dg_zero]; rfl) fun a h ih => ?_
  rw [dg_pos hw h, List.reverse_cons, vm_snoc, ih]
  have := Nat.div_add_mod a (2 ^ w)
  have q : (a : Int) = ((2 ^ w * (a / 2 ^ w) + a % 2 ^ w : Nat) : Int) := by rw [this]
  conv => rhs; rw [q]
  push_cast
  rw [Int.mul_comm]
theorem dg_bound {w : Nat} (hw : w ≠ 0) (a : Nat) : a < 2 ^ (w * (dg w a).length) := by
  have h := (vm_bound (B := 2 ^ w) (Int.pow_pos (by decide)) (r := (dg w a).reverse) fun x hx => by
    obtain ⟨d, rfl, lt⟩ := dg_mem hw a x (List.mem_reverse.mp hx)
    have : ((d : Nat) : Int) < ((2 ^ w : Nat) : Int) := Int.ofNat_lt.mpr lt
    rw [Int.natCast_pow] at this
    exact ⟨by omega, this⟩).2
  rw [vm_dg hw, List.length_reverse] at h
  have e : (((2 ^ w) ^ (dg w a).length : Nat) : Int) = ((2 : Int) ^ w) ^ (dg w a).length := by rw [Int.natCast_pow, Int.natCast_pow]; rfl
  rw [← e] at h
  rw [Nat.pow_mul]
  exact Int.ofNat_lt.mp h
def cp : List Int → List Int → Nat
  | x :: r, y :: t => if x = y then cp r t + 1 else 0
  | _, _ => 0
end VL

set_option Elab.async false
set_option linter.all false
/-! rows from the first digit on; masks of any number -/
namespace VL
open PySem L2
theorem mod_neg (t : Nat) {M : Nat} (hM : 0 < M) : (-(t : Int) - 1) % (M : Int) = (M : Int) - 1 - ((t % M : Nat) : Int) := by
  have h := Nat.div_add_mod t M
  have lt := Nat.mod_lt t hM
  have e : (-(t : Int) - 1) = ((M : Int) - 1 - ((t % M : Nat) : Int)) + (M : Int) * (-((t / M : Nat) : Int) - 1) := by
    have q : (t : Int) = ((M * (t / M) + t % M : Nat) : Int) := by rw [h]
    rw [q, Int.mul_sub, Int.mul_neg, Int.mul_one]
    push_cast
    omega
  rw [e, Int.add_mul_emod_self_left, Int.emod_eq_of_lt (by omega) (by omega)]
theorem and_low (x : Int) (W : Nat) : Builtin.bitAnd x ((2 ^ W - 1 : Nat) : Int) = x % 2 ^ W := by
  have hp : 0 < 2 ^ W := Nat.two_pow_pos W
  have e2 : ((2 : Int) ^ W) = ((2 ^ W : Nat) : Int) := by rw [Int.natCast_pow]; rfl
  rw [e2]
  by_cases h : 0 ≤ x
  · obtain ⟨a, rfl⟩ := Int.eq_ofNat_of_zero_le h
    rw [PySem.W.os_band, Nat.and_two_pow_sub_one_eq_mod]
    exact Int.natCast_emod _ _
  · obtain ⟨t, ht⟩ := Int.eq_ofNat_of_zero_le (a := -x - 1) (by omega)
    have ex : x = -(t : Int) - 1 := by omega
    have en : Builtin.bitNot x = (t : Int) := by show -x - 1 = (t : Int); exact ht
    unfold Builtin.bitAnd
    rw [decide_eq_false h, decide_eq_true (show (0 : Int) ≤ ((2 ^ W - 1 : Nat) : Int) from by omega)]
    show ((2 ^ W - 1 : Nat) : Int) - (((((2 ^ W - 1 : Nat) : Int)).toNat &&& (Builtin.bitNot x).toNat : Nat) : Int) = _
    rw [en, Int.toNat_natCast, Int.toNat_natCast, Nat.and_comm, Nat.and_two_pow_sub_one_eq_mod, ex, mod_neg t hp]
    omega
def lv (B : Int) : List Int → Int
  | [] => 0
  | d :: r => d + B * lv B r
theorem lv_bound {B : Int} (hB : 0 < B) : ∀ {r : List Int}, (∀ x ∈ r, 0 ≤ x ∧ x < B) → 0 ≤ lv B r ∧ lv B r < B ^ r.length
  | [], _ => ⟨Int.le_refl _, by show (0 : Int) < B ^ 0; rw [Int.pow_zero]; decide⟩
  | d :: r, h => by
    obtain ⟨i0, i1⟩ := lv_bound hB (r := r) fun x hx => h x (List.mem_cons_of_mem _ hx)
    obtain ⟨d0, d1⟩ := h d List.mem_cons_self
    have h0 : 0 ≤ B * lv B r := Int.mul_nonneg (by omega) i0
    have h1 : B * (lv B r + 1) ≤ B * B ^ r.length := Int.mul_le_mul_of_nonneg_left (by omega) (by omega)
    rw [Int.mul_add, Int.mul_one] at h1
    show 0 ≤ d + B * lv B r ∧ d + B * lv B r < B ^ (r.length + 1)
    rw [Int.pow_succ, Int.mul_comm (B ^ r.length) B]
    omega
end VL

set_option Elab.async false
set_option linter.all false
/-! sizes; rows of so many digits; differences -/
namespace VL
open PySem L2
theorem intBits_abs (n : Int) : Builtin.Int.intBits n = bl n.natAbs := by
  rw [← intBits_nat]
  unfold Builtin.Int.intBits
  rw [Int.natAbs_natCast]
  by_cases h : n = 0
  · subst h; rfl
  · rw [if_neg (by simpa using h), if_neg (by simpa using h)]
theorem bl_lt (a : Nat) : a < 2 ^ bl a := by
  unfold bl
  by_cases h : a = 0
  · subst h; decide
  · rw [if_neg h]; exact Nat.lt_log2_self
theorem bl_le {a k : Nat} : bl a ≤ k ↔ a < 2 ^ k := by
  constructor
  · intro h
    exact Nat.lt_of_lt_of_le (bl_lt a) (Nat.pow_le_pow_right (by decide) h)
  · intro h
    unfold bl
    by_cases e : a = 0
    · rw [if_pos e]; exact Nat.zero_le _
    · rw [if_neg e]
      have := (Nat.log2_lt e).mpr h
      omega
/-- how many digits -/
def sz (W a : Nat) : Nat := (bl a + W - 1) / W
theorem sz_le {W : Nat} (hw : W ≠ 0) {a k : Nat} : sz W a ≤ k ↔ a < 2 ^ (W * k) := by
  rw [← bl_le]
  unfold sz
  constructor
  · intro h
    have h1 := Nat.div_add_mod (bl a + W - 1) W
    have h2 := Nat.mod_lt (bl a + W - 1) (Nat.pos_of_ne_zero hw)
    have h3 : W * ((bl a + W - 1) / W) ≤ W * k := Nat.mul_le_mul_left W h
    omega
  · intro h
    have : bl a + W - 1 < W * (k + 1) := by rw [Nat.mul_succ]; omega
    have := (Nat.div_lt_iff_lt_mul (Nat.pos_of_ne_zero hw)).mpr (by rw [Nat.mul_comm]; exact this : bl a + W - 1 < (k + 1) * W)
    omega
theorem eq_of_le {x y : Nat} (h : ∀ k, x ≤ k ↔ y ≤ k) : x = y := by
  have h1 := (h y).mpr (Nat.le_refl _)
  have h2 := (h x).mp (Nat.le_refl _)
  omega
theorem dg_size {W : Nat} (hw : W ≠ 0) (a : Nat) : (dg W a).length = sz W a := eq_of_le fun k => by
  rw [sz_le hw]
  exact ⟨fun h => Nat.lt_of_lt_of_le (dg_bound hw a) (Nat.pow_le_pow_right (by decide) (Nat.mul_le_mul_left W h)), fun h => dg_len hw a k h⟩
theorem sz_zero {W : Nat} (hw : W ≠ 0) {a : Nat} : sz W a = 0 ↔ a = 0 := by
  have h := sz_le hw (a := a) (k := 0)
  rw [Nat.mul_zero, Nat.pow_zero] at h
  omega
theorem sz0 {W : Nat} (hw : W ≠ 0) : sz W 0 = 0 := (sz_zero hw).mpr rfl
theorem sz_one {W : Nat} (hw : W ≠ 0) {a : Nat} : sz W a ≤ 1 ↔ bl a ≤ W := by
  rw [sz_le hw, Nat.mul_one, ← bl_le]
theorem xor_zero {a b : Nat} : a ^^^ b = 0 ↔ a = b := by
  constructor
  · intro h
    apply Nat.eq_of_testBit_eq
    intro i
    have := congrArg (fun x => x.testBit i) h
    simp only [Nat.testBit_xor, Nat.zero_testBit] at this
    revert this
    cases a.testBit i <;> cases b.testBit i <;> decide
  · intro h; subst h; exact Nat.xor_self a
/-! rows of so many digits -/
def rw_ (W : Nat) (n : Int) : Nat → List Int
  | 0 => []
  | k + 1 => (n % 2 ^ W) :: rw_ W (n / 2 ^ W) k
theorem pp (W k : Nat) : (2 : Int) ^ (W * k) = ((2 ^ (W * k) : Nat) : Int) := by rw [Int.natCast_pow]; rfl
theorem p2 (k : Nat) : (2 : Int) ^ k = ((2 ^ k : Nat) : Int) := by rw [Int.natCast_pow]; rfl
theorem ppos (k : Nat) : (0 : Int) < 2 ^ k := Int.pow_pos (by decide)
theorem rw_len (W : Nat) : ∀ (k : Nat) (n : Int), (rw_ W n k).length = k
  | 0, _ => rfl
  | k + 1, n => by show (rw_ W (n / 2 ^ W) k).length + 1 = _; rw [rw_len W k]
theorem ediv_pow (n : Int) (a b : Nat) : n / 2 ^ a / 2 ^ b = n / 2 ^ (a + b) := by
  rw [Int.pow_add, Int.ediv_ediv_of_nonneg (Int.le_of_lt (ppos a))]
theorem rw_app (W : Nat) : ∀ (k : Nat) (n : Int) (m : Nat), rw_ W n (k + m) = rw_ W n k ++ rw_ W (n / 2 ^ (k * W)) m
  | 0, n, m => by rw [Nat.zero_mul, Int.pow_zero, Int.ediv_one, Nat.zero_add]; rfl
  | k + 1, n, m => by
    rw [show k + 1 + m = (k + m) + 1 from by omega]
    show (n % 2 ^ W) :: rw_ W (n / 2 ^ W) (k + m) = _
    rw [rw_app W k, ediv_pow, show W + k * W = (k + 1) * W from by rw [Nat.succ_mul]; omega]
    rfl
theorem mod_div_pow (n : Int) (a b : Nat) : n % 2 ^ (a + b) / 2 ^ a = n / 2 ^ a % 2 ^ b := by
  have ha := ppos a
  have hb := ppos b
  have e : n % 2 ^ (a + b) = n - 2 ^ (a + b) * (n / 2 ^ (a + b)) := Int.emod_def ..
  rw [e, ← ediv_pow, Int.pow_add, Int.mul_assoc, Int.sub_eq_add_neg, ← Int.mul_neg, Int.add_mul_ediv_left _ _ (by omega), Int.emod_def]
  omega
theorem mod_mod_pow (n : Int) (a b : Nat) : n % 2 ^ (a + b) % 2 ^ a = n % 2 ^ a := by
  rw [Int.pow_add]
  exact Int.emod_emod_of_dvd n (Int.dvd_mul_right _ _)
theorem rw_mod (W : Nat) : ∀ (k : Nat) (n : Int), rw_ W (n % 2 ^ (k * W)) k = rw_ W n k
  | 0, _ => rfl
  | k + 1, n => by
    show ((n % 2 ^ ((k + 1) * W)) % 2 ^ W) :: rw_ W (n % 2 ^ ((k + 1) * W) / 2 ^ W) k = (n % 2 ^ W) :: rw_ W (n / 2 ^ W) k
    rw [show (k + 1) * W = W + k * W from by rw [Nat.succ_mul]; omega, mod_mod_pow, mod_div_pow, rw_mod W k]
theorem rw_dg {W : Nat} (hw : W ≠ 0) (a : Nat) : rw_ W (a : Int) (sz W a) = dg W a := by
  rw [← dg_size hw]
  revert a
  refine dg_ind hw (by rw [dg_zero]; rfl) fun a h ih => ?_
  rw [dg_pos hw h]
  show ((a : Int) % 2 ^ W) :: rw_ W ((a : Int) / 2 ^ W) (dg W (a / 2 ^ W)).length = _
  rw [p2, ← Int.natCast_emod, ← Int.natCast_ediv, ih]
theorem nat_of {n : Int} {k : Nat} (h0 : 0 ≤ n) (h : n < 2 ^ k) : n.natAbs < 2 ^ k := by
  rw [p2] at h
  omega
theorem int_of {n : Int} {k : Nat} (h : n.natAbs < 2 ^ k) : -(2 ^ k) < n ∧ n < 2 ^ k := by
  rw [p2]
  omega
theorem shl_ok {n i : Int} {k : Nat} (h : n.natAbs < 2 ^ k) (h0 : 0 ≤ i) (h2 : (k : Int) + i ≤ 2 ^ 27) : CShl n i := ⟨h0, by
  rw [intBits_abs]
  have := bl_le.mpr h
  omega⟩
theorem mul_small {a b : Int} (h : a.natAbs < 2 ^ 64) : IntMulOk a b := by
  have h := int_of h
  exact .of_left (PySem.intBits_le_64 h.1 h.2)
theorem mul_small' {a b : Int} (h : b.natAbs < 2 ^ 64) : IntMulOk a b := by
  have h := int_of h
  exact .of_right (PySem.intBits_le_64 h.1 h.2)
end VL
/-! ### a value that is there, and of which something holds -/
namespace VL
open PySem L2
def Sat {α : Type} (o : Option α) (P : α → Prop) : Prop := ∃ r, o = some r ∧ P r
section
variable {α β S ρ : Type} {o : Option α} {P : α → Prop} {Q : β → Prop} {f : α → Option β} {a : α}
theorem sat_bind (h : Sat o P) (k : ∀ r, P r → Sat (f r) Q) : Sat (o.bind f) Q := by
  obtain ⟨r, e, p⟩ := h
  rw [e]
  exact k r p
theorem sat_eq (h : o = some a) (k : Sat (f a) Q) : Sat (o.bind f) Q := by rw [h]; exact k
theorem sat_let (k : Sat (f a) Q) : Sat ((some a).bind f) Q := k
theorem sat_chk {p : Prop} {f : Unit → Option β} (h : p) (k : Sat (f ()) Q) : Sat ((chkP p).bind f) Q := by rw [chkP_eq h]; exact k
theorem sat_some {a : β} (h : Q a) : Sat (some a) Q := ⟨a, rfl, h⟩
theorem sat_ite {c : Bool} {x y : Option β} (h1 : c = true → Sat x Q) (h2 : c = false → Sat y Q) : Sat (if c = true then x else y) Q := by
  cases c with
  | true => rw [if_pos rfl]; exact h1 rfl
  | false => rw [if_neg Bool.false_ne_true]; exact h2 rfl
theorem sat_get (h : Sat o (fun r => r = a)) : o = some a := by
  obtain ⟨r, e, p⟩ := h
  rw [e, p]
variable {γ : Type}
theorem sat_for {b : γ → S → Option (Stp S ρ)} {xs : List γ} {s0 : S} {g : Stp S ρ → Option β} (I : Nat → S → Prop)
    (h : ∀ i x s, xs[i]? = some x → I i s → Sat (b x s) (fun st => ∃ s', st = .nx s' ∧ I (i + 1) s')) (h0 : I 0 s0) (k : ∀ s, I xs.length s → Sat (g (.nx s)) Q) : Sat ((forM' b xs s0).bind g) Q := by
  obtain ⟨s', e, i⟩ := forM_ind (b := b) I xs 0 s0 (fun i x s hx hi => by
    rw [Nat.zero_add] at hi
    obtain ⟨st, e, s', e2, q⟩ := h i x s hx hi
    exact ⟨s', by rw [e, e2], by rw [Nat.zero_add]; exact q⟩) h0
  rw [e]
  rw [Nat.zero_add] at i
  exact k s' i
theorem sat_forA {b : γ → S → Option (Stp S ρ)} {xs : List γ} {s0 : S} {g : Stp S ρ → Option β} (I : S → Prop)
    (h : ∀ x ∈ xs, ∀ s, I s → Sat (b x s) (fun st => ∃ s', st = .nx s' ∧ I s')) (h0 : I s0) (k : ∀ s, I s → Sat (g (.nx s)) Q) : Sat ((forM' b xs s0).bind g) Q :=
  sat_for (fun _ => I) (fun i x s hx hi => h x (List.mem_of_getElem? hx) s hi) h0 fun s hi => k s hi
theorem sat_nx {s : S} {g : S → Option β} (k : Sat (g s) Q) : Sat ((nxt (Stp.nx (ρ := ρ) s)).bind g) Q := k
theorem sat_end {s : S} {I : S → Prop} (h : I s) : Sat (some (Stp.nx (ρ := ρ) s)) (fun st => ∃ s', st = .nx s' ∧ I s') := ⟨_, rfl, s, rfl, h⟩
end
theorem rng_len (lo : Int) (n : Nat) : (rng lo n).length = n := by unfold rng; rw [List.length_map, List.length_range]
theorem rng_get {lo : Int} {n i : Nat} {x : Int} (h : (rng lo n)[i]? = some x) : i < n ∧ x = lo + (i : Int) := by
  have lt := getlt h
  rw [rng_len] at lt
  unfold rng at h
  rw [List.getElem?_map, List.getElem?_range lt] at h
  exact ⟨lt, (Option.some.inj h).symm⟩
theorem sat_atI {α β : Type} {Q : β → Prop} {l : List α} {i : Int} {f : α → Option β} (h0 : 0 ≤ i) (h : i < (l.length : Int)) (k : ∀ x ∈ l, Sat (f x) Q) : Sat ((atI l i).bind f) Q := by
  obtain ⟨n, rfl⟩ := Int.eq_ofNat_of_zero_le h0
  have lt : n < l.length := by omega
  rw [atI_nat (List.getElem?_eq_getElem lt)]
  exact k _ (List.getElem_mem lt)
theorem cdiv_s {i j : Int} (h : 0 < j) (h2 : j < 2 ^ 64) : CDivW i j := ⟨h, by
  have : j.natAbs < 2 ^ 64 := by omega
  have h0 : j.natAbs ≠ 0 := by omega
  have := (Nat.log2_lt h0 (k := 64)).mpr this
  omega⟩
theorem size_lt {n m : Nat} (h : n ≤ m) (hm : m < 16777216) : n < sizeLine := Nat.lt_of_le_of_lt h (by show m < 2 ^ 24; exact hm)
theorem size_le {n m : Nat} (h : n ≤ m) (hm : m ≤ 16777216) : n ≤ sizeLine := Nat.le_trans h (by show m ≤ 2 ^ 24; exact hm)
/-! ### what a machine has counted -/
theorem nd_le {α : Type} [DecidableEq α] : ∀ {l m : List α}, l.Nodup → (∀ x ∈ l, x ∈ m) → l.length ≤ m.length
  | [], _, _, _ => Nat.zero_le _
  | x :: r, m, h, s => by
    obtain ⟨h1, h2⟩ := List.nodup_cons.mp h
    have hx := s x List.mem_cons_self
    have := nd_le (l := r) (m := m.erase x) h2 fun y hy => (List.mem_erase_of_ne (fun e => h1 (by rw [← e]; exact hy))).mpr (s y (List.mem_cons_of_mem _ hy))
    rw [List.length_erase_of_mem hx] at this
    have := List.length_pos_of_mem hx
    rw [List.length_cons]
    omega
/-- the words with numbers above 0 -/
def posL (l : List (Str × Int)) : List (Str × Int) := l.filter fun p => decide (0 < p.2)
theorem lookup_of {l : List (Str × Int)} (hd : (l.map (·.1)).Nodup) {x : Str × Int} (h : x ∈ l) : l.lookup x.1 = some x.2 := by
  induction l with
  | nil => cases h
  | cons a r ih =>
    rw [List.map_cons] at hd
    obtain ⟨h1, h2⟩ := List.nodup_cons.mp hd
    rw [show (a :: r) = ((a.1, a.2) :: r) from rfl, List.lookup_cons]
    rcases List.mem_cons.mp h with e | e
    · subst e; rw [beq_self_eq_true]
    · have ne : (x.1 == a.1) = false := by
        cases q : x.1 == a.1 with
        | false => rfl
        | true => exact absurd (List.mem_map.mpr ⟨x, e, by rw [beq_iff_eq.mp q]⟩) h1
      rw [ne]
      exact ih h2 e
theorem mem_lookup {l : List (Str × Int)} {k : Str} {v : Int} (h : l.lookup k = some v) : (k, v) ∈ l := by
  induction l with
  | nil => cases h
  | cons a r ih =>
    rw [show (a :: r) = ((a.1, a.2) :: r) from rfl, List.lookup_cons] at h
    cases q : k == a.1 with
    | true =>
      rw [q] at h
      have h := Option.some.inj h
      rw [beq_iff_eq.mp q, ← h]
      exact List.mem_cons_self
    | false => rw [q] at h; exact List.mem_cons_of_mem _ (ih h)
theorem same_of {l m : List (Str × Int)} (h1 : (l.map (·.1)).Nodup) (h2 : (m.map (·.1)).Nodup) (h : ∀ x, x ∈ l ↔ x ∈ m) : sameD l m := by
  have nd : ∀ {l : List (Str × Int)}, (l.map (·.1)).Nodup → l.Nodup := fun {l} h => by
    induction l with
    | nil => exact List.nodup_nil
    | cons a r ih =>
      rw [List.map_cons] at h
      obtain ⟨q1, q2⟩ := List.nodup_cons.mp h
      exact List.nodup_cons.mpr ⟨fun z => q1 (List.mem_map.mpr ⟨a, z, rfl⟩), ih q2⟩
  refine ⟨Nat.le_antisymm (nd_le (nd h1) fun x hx => (h x).mp hx) (nd_le (nd h2) fun x hx => (h x).mpr hx), fun x hx => lookup_of h2 ((h x).mp hx)⟩
theorem tally_keys (S : MS) : (S.tally.map (·.1)).Nodup := by
  have : S.tally.map (·.1) = mwords := by
    unfold MS.tally
    rw [List.map_map]
    exact List.map_id _
  rw [this]
  exact mwords_nd
theorem mem_tally {S : MS} {x : Str × Int} : x ∈ S.tally ↔ x.1 ∈ mwords ∧ x.2 = S.cnt x.1 := by
  unfold MS.tally
  constructor
  · intro h
    obtain ⟨w, hw, rfl⟩ := List.mem_map.mp h
    exact ⟨hw, rfl⟩
  · rintro ⟨h1, h2⟩
    exact List.mem_map.mpr ⟨x.1, h1, by rw [← h2]⟩
/-- the same above 0 -/
def Cnt (S : MS) (l : List (Str × Int)) : Prop := (l.map (·.1)).Nodup ∧ (∀ x ∈ l, x.1 ∈ mwords) ∧ ∀ w ∈ mwords, (∀ n, l.lookup w = some n → 0 < n → S.cnt w = n) ∧ (0 < S.cnt w → l.lookup w = some (S.cnt w))
theorem lcM_filter {γ : Type} {b : γ → Unit → Option (Option γ × Unit)} {p : γ → Bool} : ∀ {l : List γ}, (∀ x ∈ l, b x () = some (if p x = true then some x else none, ())) → lcM b l () = some (l.filter p, ())
  | [], _ => rfl
  | x :: r, h => by
    show (b x ()).bind _ = _
    rw [h x List.mem_cons_self, List.filter_cons]
    show (lcM b r ()).bind _ = _
    rw [lcM_filter fun y hy => h y (List.mem_cons_of_mem _ hy)]
    cases p x <;> rfl
end VL
namespace VL
open PySem L2
theorem bxor_nat (a b : Nat) : Builtin.bitXor (a : Int) (b : Int) = ((a ^^^ b : Nat) : Int) := by
  rw [Bits.bitXor_pp (Int.natCast_nonneg a) (Int.natCast_nonneg b), Int.toNat_natCast, Int.toNat_natCast]
end VL
namespace VL
open PySem L2
theorem lookup_app {l m : List (Str × Int)} {k : Str} : (l ++ m).lookup k = (l.lookup k).or (m.lookup k) := by
  induction l with
  | nil => show m.lookup k = (none : Option Int).or (m.lookup k); cases m.lookup k <;> rfl
  | cons a r ih =>
    rw [show (a :: r) ++ m = (a.1, a.2) :: (r ++ m) from rfl, show (a :: r) = (a.1, a.2) :: r from rfl, List.lookup_cons, List.lookup_cons, ih]
    cases k == a.1 <;> rfl
theorem lookup_out {l : List (Str × Int)} {k : Str} (h : k ∉ l.map (·.1)) : l.lookup k = none := by
  cases q : l.lookup k with
  | none => rfl
  | some v => exact absurd (List.mem_map.mpr ⟨_, mem_lookup q, rfl⟩) h
theorem lookup_self {k : Str} {n : Int} {r : List (Str × Int)} : ((k, n) :: r).lookup k = some n := by rw [List.lookup_cons, beq_self_eq_true]
theorem lookup_skip {k j : Str} {n : Int} {r : List (Str × Int)} (h : j ≠ k) : ((k, n) :: r).lookup j = r.lookup j := by
  rw [List.lookup_cons]
  have : (j == k) = false := by
    cases q : j == k with
    | false => rfl
    | true => exact absurd (beq_iff_eq.mp q) h
  rw [this]
end VL
namespace VL
open PySem L2
def WkOk (l : List (T3 Str Int Int)) : Prop := ∀ x ∈ l, (PyData.str x.a).canLay0 = true
theorem wkok_dat {l : List (T3 Str Int Int)} (h : WkOk l) : Dat.ok (LF.mk l) := fun x hx => ⟨h x hx, trivial, trivial⟩
theorem wkok_nil : WkOk [] := fun x h => (by cases h)
theorem wkok_enter {S : MS} {w : Str} {m n : Int} (h : WkOk S.wk) (hw : (PyData.str w).canLay0 = true := by decide +kernel) : WkOk (S.enter w m n).wk := by
  unfold MS.enter
  show WkOk (if S.wk.length < 1000 then S.wk ++ [T3.mk w m n] else S.wk)
  split
  · intro x hx
    rcases List.mem_append.mp hx with z | z
    · exact h x z
    · rw [List.mem_singleton.mp z]; exact hw
  · exact h
end VL
namespace VL
open PySem L2
theorem nab_mul {a b : Int} {j k : Nat} (ha : a.natAbs < 2 ^ j) (hb : b.natAbs < 2 ^ k) : (a * b).natAbs < 2 ^ (j + k) := by
  rw [Int.natAbs_mul, Nat.pow_add]
  exact Nat.mul_lt_mul'' ha hb
end VL

set_option Elab.async false
set_option linter.all false
/-! bits of any integers -/
namespace VL
open PySem L2 PyProof.Rows
abbrev band := Builtin.bitAnd
theorem half (x y : Int) : band x y = 2 * band (x / 2) (y / 2) + (if x % 2 = 1 ∧ y % 2 = 1 then 1 else 0) := PySem.W.kbt_halves x y
theorem hl_div (h l : Int) (k : Nat) (h0 : 0 ≤ l) (h1 : l < 2 ^ (k + 1)) : (h * 2 ^ (k + 1) + l) / 2 = h * 2 ^ k + l / 2 ∧ (h * 2 ^ (k + 1) + l) % 2 = l % 2 ∧ 0 ≤ l / 2 ∧ l / 2 < 2 ^ k := by
  rw [Int.pow_succ] at h1 ⊢
  have e : h * (2 ^ k * 2) = 2 * (h * 2 ^ k) := by rw [← Int.mul_assoc, Int.mul_comm (h * 2 ^ k) 2]
  rw [e]
  omega
/-- both parts join by themselves -/
theorem band_split : ∀ (k : Nat) (h g l m : Int), 0 ≤ l → l < 2 ^ k → 0 ≤ m → m < 2 ^ k → band (h * 2 ^ k + l) (g * 2 ^ k + m) = band h g * 2 ^ k + band l m
  | 0, h, g, l, m, l0, l1, m0, m1 => by
    rw [Int.pow_zero] at l1 m1 ⊢
    have e1 : l = 0 := by omega
    have e2 : m = 0 := by omega
    subst e1 e2
    rw [show band 0 0 = 0 from rfl, Int.mul_one, Int.mul_one, Int.mul_one, Int.add_zero, Int.add_zero, Int.add_zero]
  | k + 1, h, g, l, m, l0, l1, m0, m1 => by
    obtain ⟨a1, a2, a3, a4⟩ := hl_div h l k l0 l1
    obtain ⟨b1, b2, b3, b4⟩ := hl_div g m k m0 m1
    rw [half (h * 2 ^ (k + 1) + l), a1, a2, b1, b2, band_split k h g _ _ a3 a4 b3 b4, half l m, Int.pow_succ, ← Int.mul_assoc, Int.mul_add, Int.mul_comm (band h g * 2 ^ k) 2]
    omega
theorem bxor_eq (x y : Int) : Builtin.bitXor x y = x + y - 2 * band x y := bitXor_and x y
/-! one bit -/
def bit (x : Int) (i : Nat) : Int := x / 2 ^ i % 2
theorem bit_or (x : Int) (i : Nat) : bit x i = 0 ∨ bit x i = 1 := by unfold bit; omega
theorem bit_zero (x : Int) : bit x 0 = x % 2 := by unfold bit; rw [Int.pow_zero, Int.ediv_one]
theorem bit_succ (x : Int) (i : Nat) : bit x (i + 1) = bit (x / 2) i := by
  unfold bit
  rw [show (i + 1) = 1 + i from by omega, ← ediv_pow, show (2 : Int) ^ 1 = 2 from rfl]
theorem bit_band : ∀ (i : Nat) (x y : Int), bit (band x y) i = bit x i * bit y i
  | 0, x, y => by
    rw [bit_zero, bit_zero, bit_zero, half]
    rcases (show x % 2 = 0 ∨ x % 2 = 1 by omega) with a | a <;> rcases (show y % 2 = 0 ∨ y % 2 = 1 by omega) with b | b <;> rw [a, b] <;> simp <;> omega
  | i + 1, x, y => by
    rw [bit_succ, bit_succ, bit_succ, ← bit_band i]
    congr 1
    rw [half x y]
    split <;> omega
theorem bit_ext {x y : Int} (h : ∀ i, bit x i = bit y i) : x = y := by
  have key : ∀ (n : Nat) (x y : Int), x.natAbs + y.natAbs ≤ n → (∀ i, bit x i = bit y i) → x = y := by
    intro n
    induction n with
    | zero => intro x y hn _; omega
    | succ n ih =>
      intro x y hn h
      have h0 := h 0
      rw [bit_zero, bit_zero] at h0
      by_cases sm : (x / 2).natAbs + (y / 2).natAbs ≤ n
      · have := ih (x / 2) (y / 2) sm fun i => by rw [← bit_succ, ← bit_succ]; exact h (i + 1)
        omega
      · have hx : x = 0 ∨ x = -1 := by omega
        have hy : y = 0 ∨ y = -1 := by omega
        rcases hx with e | e <;> rcases hy with f | f <;> subst e f <;> first | rfl | (exfalso; revert h0; decide)
  exact key _ x y (Nat.le_refl _) h
end VL

set_option Elab.async false
set_option linter.all false
set_option maxRecDepth 100000
/-! VD: long division digit by digit, by numbers: the guess, how often it is corrected, what each place finds. -/
namespace VL
open PySem L2
section
variable {B E b r : Nat}
variable {h v1 v2 : Nat}
end
/-! ### the steps, by the two numbers that are divided: b has all its digits, E stands behind its last two -/
/-- what is divided at place i: the rest so far and the next digit -/
def dvR (B A b i : Nat) : Nat := A / B ^ (i + 1) % b * B + A / B ^ i % B
def dvS (B E A b i : Nat) : T4 Int Int Bool Int :=
  ⟨((dvR B A b i / E / B / (b / E / B) : Nat) : Int), ((dvR B A b i / E / B / (b / E / B) : Nat) : Int) - ((dvR B A b i / E / (b / E) : Nat) : Int), decide (dvR B A b i / b < dvR B A b i / E / (b / E)), ((dvR B A b i / b : Nat) : Int)⟩
/-- the steps of k places, from the top -/
def dvSteps (B E A b : Nat) : Nat → List (T4 Int Int Bool Int)
  | 0 => []
  | k + 1 => dvS B E A b k :: dvSteps B E A b k
end VL

set_option Elab.async false
set_option linter.all false
set_option maxRecDepth 100000
set_option maxHeartbeats 4000000
namespace P
open PySem L2 VL
section
variable {P : Program} {w : World} {mg : Str → Option Value} {base : Heap} {T : TC}

noncomputable def M_is_integer (x0 : Int) : Option Bool :=
  some (true && (!false))
def Pre_is_integer (T : TC) : PreT := fun As Ω R => ∃ (x0 : Int) (r : Bool), As = [va T x0] ∧ M_is_integer x0 = some r ∧ R = RV (va T r) (stt Ω [] [])
theorem sc_is_integer : FnScope ["value"] ["value"] (defScope s_is_integer) := ⟨rfl, rfl, rfl, by decide +kernel, rfl, by decide +kernel, by decide +kernel⟩
theorem ok_is_integer {f : Addr} {fd : FuncData} (F : Fun T.K "is_integer" "is_integer" s_is_integer f fd) (z_isinstance : mg "isinstance" = none) (z_int : mg "int" = none) (z_bool : mg "bool" = none) : FnOk P w T.K mg base CX0 1 f fd ["value"] (mkSp (Pre_is_integer T)) := by
  refine fn_ok F sc_is_integer (fun As Ω R h => ?_) (fun cdv A outer s H E hr As Ω R F0 h => ?_)
  · obtain ⟨x0, r, rfl, _⟩ := h
    rfl
  obtain ⟨x0, r, rfl, hm, rfl⟩ := h
  refine ⟨_, (pss_one (ps_ret (pe_and (pe_callB (cr_isiK (K := T.K) rfl) (by rfl) z_isinstance (by decide +kernel) (pa_cons (pv 0) (pa_cons (pe_bltn (v := .ty "int") (by rfl) z_int (by decide +kernel) rfl) pa_nil))) (pe_one (pe_not (pe_callB (cr_isiK (K := T.K) rfl) (by rfl) z_isinstance (by decide +kernel) (pa_cons (pv 0) (pa_cons (pe_bltn (v := .ty "bool") (by rfl) z_bool (by decide +kernel) rfl) pa_nil)))))))), fun D hrt hnx => ?_⟩
  have ok : Okk Ω [] := okk0
  suffices hx : XS _ D F0 [some (va T x0)] (stt Ω [] []) by
    rw [show (stt Ω [] []) = Ω from stt_self (by simp)] at hx
    exact hx
  unfold M_is_integer at hm
  obtain rfl := Option.some.inj hm
  refine xs_ret (xe_andV (xe_isi (xe_var (i := 0) rfl) xe_vx (.ty _) (fun F H v hh a => ty_int hh a) (kit_ty (by decide +kernel))) (fun _ => (xe_notV (xe_isi (xe_var (i := 0) rfl) xe_vx (.ty _) (fun F H v hh a => ty_int hh a) (kit_ty (by decide +kernel)))))) hrt.all
noncomputable def M_is_between (x0 : Int) (x1 : Int) (x2 : Int) : Option Bool :=
  (M_is_integer x0).bind fun z1 => some (z1 && (decide (x1 ≤ x0) && decide (x0 ≤ x2)))
def Pre_is_between (T : TC) : PreT := fun As Ω R => ∃ (x0 : Int) (x1 : Int) (x2 : Int) (r : Bool), As = [va T x0, va T x1, va T x2] ∧ M_is_between x0 x1 x2 = some r ∧ R = RV (va T r) (stt Ω [] [])
theorem sc_is_between : FnScope ["value", "low", "high"] ["value", "low", "high"] (defScope s_is_between) := ⟨rfl, rfl, rfl, by decide +kernel, rfl, by decide +kernel, by decide +kernel⟩
theorem ok_is_between {f : Addr} {fd : FuncData} (F : Fun T.K "is_between" "is_between" s_is_between f fd) (c_is_integer : Cal P w T.K mg base 1 "is_integer" ["value"] (mkSp (Pre_is_integer T))) : FnOk P w T.K mg base CX0 2 f fd ["value", "low", "high"] (mkSp (Pre_is_between T)) := by
  refine fn_ok F sc_is_between (fun As Ω R h => ?_) (fun cdv A outer s H E hr As Ω R F0 h => ?_)
  · obtain ⟨x0, x1, x2, r, rfl, _⟩ := h
    rfl
  obtain ⟨x0, x1, x2, r, rfl, hm, rfl⟩ := h
  refine ⟨_, (pss_one (ps_ret (pe_and (pe_cal c_is_integer (hr.mono (by decide)) (by rfl) (pa_cons (pv 0) pa_nil)) (pe_one (pe_chain op_le op_le (pv 1) (pv 0) (pv 2)))))), fun D hrt hnx => ?_⟩
  have ok : Okk Ω [] := okk0
  suffices hx : XS _ D F0 [some (va T x0), some (va T x1), some (va T x2)] (stt Ω [] []) by
    rw [show (stt Ω [] []) = Ω from stt_self (by simp)] at hx
    exact hx
  unfold M_is_between at hm
  obtain ⟨z1, hz1, hm⟩ := bnd_some hm
  obtain rfl := Option.some.inj hm
  refine xs_ret (xe_andV (xe_call (xa_cons (xe_var (i := 0) rfl) xa_nil) ⟨x0, z1, rfl, hz1, rfl⟩ cal0) (fun _ => (xe_chain (xe_var (i := 1) rfl) (xe_var (i := 0) rfl) ro_bl (fun _ => (xe_var (i := 2) rfl)) (fun _ => ro_bl)))) hrt.all
theorem sc_Mach_step : FnScope ["self", "word", "many"] ["self", "word", "many"] (defScope s_Mach_step) := ⟨rfl, rfl, rfl, by decide +kernel, rfl, by decide +kernel, by decide +kernel⟩
theorem ok_Mach_step {f : Addr} {fd : FuncData} (F : Fun T.K "step" "Machine.step" s_Mach_step f fd) (mc : MCls T.K (T.C 0))  : FnOk P w T.K mg base CX0 1 f fd ["self", "word", "many"] (mkSp (Pre_Mach_step T)) := by
  refine fn_ok F sc_Mach_step (fun As Ω R h => ?_) (fun cdv A outer s H E hr As Ω R F0 h => ?_)
  · obtain ⟨k, p, x, wd, n, rfl, _⟩ := h; rfl
  obtain ⟨k, p, x, wd, n, rfl, hk, hw, rfl⟩ := h
  refine ⟨_, pss_one (ps_daug (hu_of hr) (pe_fld (pv 0) (by rfl)) (pv 1) (pv 2) in_add (fun _ _ _ => rfl)), fun D hrt hnx => ?_⟩
  exact xs_step mc rfl rfl rfl hk hw fun σ H ⟨F, f0, e, hh⟩ => hnx F σ H _ f0 hh ⟨rfl, stt_one.symm⟩
theorem sc_Mach_enter : FnScope ["self", "word", "m", "n"] ["self", "word", "m", "n"] (defScope s_Mach_enter) := ⟨rfl, rfl, rfl, by decide +kernel, rfl, by decide +kernel, by decide +kernel⟩
theorem ok_Mach_enter {f : Addr} {fd : FuncData} (F : Fun T.K "enter" "Machine.enter" s_Mach_enter f fd) (mc : MCls T.K (T.C 0)) (z_len : mg "len" = none) (g_LONGEST_WALK : ∃ u, mg "LONGEST_WALK" = some u ∧ RelV (.int 1000) u) : FnOk P w T.K mg base CX0 1 f fd ["self", "word", "m", "n"] (mkSp (Pre_Mach_enter T)) := by
  refine fn_ok F sc_Mach_enter (fun As Ω R h => ?_) (fun cdv A outer s H E hr As Ω R F0 h => ?_)
  · obtain ⟨k, p, x, wd, m, n, rfl, _⟩ := h; rfl
  obtain ⟨k, p, x, wd, m, n, rfl, hk, rfl⟩ := h
  refine ⟨_, pss_one (ps_if (pt_cmpR op_lt (pe_callB cr_len (by rfl) z_len PySem.boot_len (pa_cons (pe_fld (pv 0) (by rfl)) pa_nil)) (pe_gl rfl g_LONGEST_WALK) (nomark _)) (pss_one (ps_expr (pe_bm PySem.F.plainAttrs_list PySem.F.slot_list_append PySem.F.type_list_append mt_append (pe_fld (pv 0) (by rfl)) (pa_cons (pe_tup (pa_cons (pv 1) (pa_cons (pv 2) (pa_cons (pv 3) pa_nil)))) pa_nil)))) pss_nil), fun D hrt hnx => ?_⟩
  exact xs_enter mc rfl rfl rfl rfl hk fun σ H ⟨F, f0, e, hh⟩ => hnx F σ H _ f0 hh ⟨rfl, stt_one.symm⟩
theorem sc_Mach_reset : FnScope ["self", "word"] ["self"] (defScope s_Mach_reset) := ⟨rfl, rfl, rfl, by decide +kernel, rfl, by decide +kernel, by decide +kernel⟩
theorem ok_Mach_reset {f : Addr} {fd : FuncData} (F : Fun T.K "reset" "Machine.reset" s_Mach_reset f fd) (mc : MCls T.K (T.C 0)) {aW : Addr} (g_WORDS : ∃ u, mg "WORDS" = some u ∧ RelV (.ref aW) u) (hW : ∀ H, SqT T.K H aW (mwords.map V.str)) : FnOk P w T.K mg base CX0 1 f fd ["self"] (mkSp (Pre_Mach_reset T)) := by
  refine fn_ok F sc_Mach_reset (fun As Ω R h => ?_) (fun cdv A outer s H E hr As Ω R F0 h => ?_)
  · obtain ⟨k, p, x, rfl, _⟩ := h; rfl
  obtain ⟨k, p, x, rfl, hk, rfl⟩ := h
  refine ⟨_, pss_cons (ps_fld (pv 0) (pe_dc (own := [("word", 1)]) rfl sc_Mach_reset.nd (pi_tup (pe_gl rfl g_WORDS)) (blkOk_by (N := ["self", "word"]) (sc := defScope s_Mach_reset) (by decide +kernel)) (fun _ _ _ _ _ => pg_name (i := 1) sc_Mach_reset.nd rfl (.inl rfl)) (fun _ _ _ _ _ => pts_nil) (fun _ _ _ _ _ => pv 1) (fun _ _ _ _ _ => pe_int)) rfl) (pss_one (ps_fld (pv 0) (pe_lst pa_nil) rfl)), fun D hrt hnx => ?_⟩
  exact xs_mreset mc hW (by simp) (by simp) rfl hk fun σ H ⟨F, f0, e, hh⟩ => hnx F σ H _ f0 hh ⟨rfl, stt_one.symm⟩
theorem sc_Mach_tally : FnScope ["self", "word"] ["self"] (defScope s_Mach_tally) := ⟨rfl, rfl, rfl, by decide +kernel, rfl, by decide +kernel, by decide +kernel⟩
theorem ok_Mach_tally {f : Addr} {fd : FuncData} (F : Fun T.K "tally" "Machine.tally" s_Mach_tally f fd) (mc : MCls T.K (T.C 0)) {aW : Addr} (g_WORDS : ∃ u, mg "WORDS" = some u ∧ RelV (.ref aW) u) (hW : ∀ H, SqT T.K H aW (mwords.map V.str)) : FnOk P w T.K mg base CX0 1 f fd ["self"] (mkSp (Pre_Mach_tally T)) := by
  refine fn_ok F sc_Mach_tally (fun As Ω R h => ?_) (fun cdv A outer s H E hr As Ω R F0 h => ?_)
  · obtain ⟨k, p, x, rfl, _⟩ := h; rfl
  obtain ⟨k, p, x, rfl, hk, rfl⟩ := h
  refine ⟨_, pss_one (ps_ret (pe_lc (own := [("word", 1)]) rfl sc_Mach_tally.nd (pi_tup (pe_gl rfl g_WORDS)) (blkOk_by (N := ["self", "word"]) (sc := defScope s_Mach_tally) (by decide +kernel)) (fun _ _ _ _ _ => pg_name (i := 1) sc_Mach_tally.nd rfl (.inl rfl)) (fun _ _ _ _ _ => pts_nil) (fun _ _ _ _ _ => pe_tup (pa_cons (pv 1) (pa_cons (pe_dget (by exact hu_of hr) (pe_fldK (K := T.K) (pv 0) (by rfl) rfl) (pv 1) (by intro _ _; rfl)) pa_nil))))), fun D hrt hnx => ?_⟩
  exact xs_ret (xe_tally mc hW (by simp) rfl (by simp [wip]) hk) hrt
theorem sc_Mach_walk : FnScope ["self"] ["self"] (defScope s_Mach_walk) := ⟨rfl, rfl, rfl, by decide +kernel, rfl, by decide +kernel, by decide +kernel⟩
theorem ok_Mach_walk {f : Addr} {fd : FuncData} (F : Fun T.K "walk" "Machine.walk" s_Mach_walk f fd) (mc : MCls T.K (T.C 0)) (z_list : mg "list" = none) : FnOk P w T.K mg base CX0 1 f fd ["self"] (mkSp (Pre_Mach_walk T)) := by
  refine fn_ok F sc_Mach_walk (fun As Ω R h => ?_) (fun cdv A outer s H E hr As Ω R F0 h => ?_)
  · obtain ⟨k, p, x, rfl, _⟩ := h; rfl
  obtain ⟨k, p, x, rfl, hk, rfl⟩ := h
  refine ⟨_, pss_one (ps_ret (pe_callTy cr_list (by rfl) z_list (by decide +kernel) (pa_cons (pe_fld (pv 0) (by rfl)) pa_nil))), fun D hrt hnx => ?_⟩
  exact xs_ret (xe_walk mc rfl hk) hrt
theorem sc_Mach_parts : FnScope ["self"] ["self"] (defScope s_Mach_parts) := ⟨rfl, rfl, rfl, by decide +kernel, rfl, by decide +kernel, by decide +kernel⟩
theorem ok_Mach_parts {f : Addr} {fd : FuncData} (F : Fun T.K "parts" "Machine.parts" s_Mach_parts f fd) (mc : MCls T.K (T.C 0))  : FnOk P w T.K mg base CX0 1 f fd ["self"] (mkSp (Pre_Mach_parts T)) := by
  refine fn_ok F sc_Mach_parts (fun As Ω R h => ?_) (fun cdv A outer s H E hr As Ω R F0 h => ?_)
  · obtain ⟨k, p, x, rfl, _⟩ := h; rfl
  obtain ⟨k, p, x, rfl, hk, rfl⟩ := h
  refine ⟨_, pss_one (ps_ret (pe_tup (pa_cons (pe_fld (pv 0) (by rfl)) (pa_cons (pe_fld (pv 0) (by rfl)) pa_nil)))), fun D hrt hnx => ?_⟩
  exact xs_ret (xe_tup2 (xa_cons (xe_mw mc.cl mc.nw (xe_var (i := 0) rfl) hk) (xa_cons (xe_mc mc.cl mc.nc (xe_var (i := 0) rfl) hk) xa_nil))) hrt
theorem sc_Mach_init : FnScope ["self", "bits", "cutoff", "word"] ["self", "bits", "cutoff"] (defScope s_Mach_init) := ⟨rfl, rfl, rfl, by decide +kernel, rfl, by decide +kernel, by decide +kernel⟩
theorem ok_Mach_init {f : Addr} {fd : FuncData} (F : FunD T.K "__init__" "Machine.__init__" (defArgs s_Mach_init) (defBody s_Mach_init) (defScope s_Mach_init) [.int 30, .int 70] [] f fd) (mc : MCls T.K (T.C 0)) {aW : Addr} (g_WORDS : ∃ u, mg "WORDS" = some u ∧ RelV (.ref aW) u) (hW : ∀ H, SqT T.K H aW (mwords.map V.str)) (c_is_between : Cal P w T.K mg base 2 "is_between" ["value", "low", "high"] (mkSp (Pre_is_between T))) : FnOk P w T.K mg base CX0 3 f fd ["self", "bits", "cutoff"] (mkSp (Pre_Machine T)) := by
  refine fn_okD F sc_Mach_init (fun As Ω R h => ?_) (fun cdv A outer s H E hr As Ω R F0 h => ?_)
  · obtain ⟨Ω0, p, w, c, rfl, _⟩ := h; rfl
  obtain ⟨Ω0, p, w, c, rfl, hc, rfl, rfl⟩ := h
  refine ⟨_, pss_cons (ps_if (pt_not (pt_val (pe_cal c_is_between (hr.mono (by decide)) (by rfl) (pa_cons (pv 1) (pa_cons pe_int (pa_cons pe_int pa_nil)))))) pss_never pss_nil) (pss_cons (ps_if (pt_not (pt_val (pe_cal c_is_between (hr.mono (by decide)) (by rfl) (pa_cons (pv 2) (pa_cons pe_int (pa_cons pe_int pa_nil)))))) pss_never pss_nil) (pss_cons (ps_fld (pv 0) (pv 1) rfl) (pss_cons (ps_fld (pv 0) (pv 2) rfl) (pss_cons (ps_fld (pv 0) (pe_dc (own := [("word", 3)]) rfl sc_Mach_init.nd (pi_tup (pe_gl rfl g_WORDS)) (blkOk_by (N := ["self", "bits", "cutoff", "word"]) (sc := defScope s_Mach_init) (by decide +kernel)) (fun _ _ _ _ _ => pg_name (i := 3) sc_Mach_init.nd rfl (.inl rfl)) (fun _ _ _ _ _ => pts_nil) (fun _ _ _ _ _ => pv 3) (fun _ _ _ _ _ => pe_int)) rfl) (pss_one (ps_fld (pv 0) (pe_lst pa_nil) rfl)))))), fun D hrt hnx => ?_⟩
  have m1 : M_is_between w 8 30 = some true := by simp [M_is_between, M_is_integer, hc.1.1, hc.1.2]
  have m2 : M_is_between c 2 1000 = some true := by simp [M_is_between, M_is_integer, hc.2.1, hc.2.2]
  show XS _ D F0 [some (vr p), some (va T w), some (va T c), none] _
  refine xs_ifN (xt_notF (xt_tB (T := T) (xe_call (xa_cons (xe_var (i := 1) rfl) (xa_cons xe_int (xa_cons xe_int xa_nil))) ⟨w, 8, 30, true, rfl, m1, rfl⟩ (List.append_nil _)))) ?_
  show XS _ D F0 [some (vr p), some (va T w), some (va T c), none] _
  refine xs_ifN (xt_notF (xt_tB (T := T) (xe_call (xa_cons (xe_var (i := 2) rfl) (xa_cons xe_int (xa_cons xe_int xa_nil))) ⟨c, 2, 1000, true, rfl, m2, rfl⟩ (List.append_nil _)))) ?_
  show XS _ D F0 [some (vr p), some (va T w), some (va T c), none] _
  exact xs_minit (k := Ω0.length) mc hW (by simp) (by simp) rfl rfl rfl app_at fun σ H ⟨F, f0, e, hh⟩ => hnx F σ H _ f0 hh ⟨rfl, set_last⟩
noncomputable def M_Big_eq (x0 : Bg) (x1 : Bg) : Option Bool :=
  some (true && ((decide (x0.w = x1.w)) && (decide (x0.v = x1.v))))
def Pre_Big_eq (T : TC) : PreT := fun As Ω R => ∃ (x0 : Bg) (x1 : Bg) (r : Bool), As = [va T x0, va T x1] ∧ M_Big_eq x0 x1 = some r ∧ R = RV (va T r) (stt Ω [] [])
theorem sc_Big_eq : FnScope ["self", "other"] ["self", "other"] (defScope s_Big_eq) := ⟨rfl, rfl, rfl, by decide +kernel, rfl, by decide +kernel, by decide +kernel⟩
theorem ok_Big_eq {f : Addr} {fd : FuncData} (F : Fun T.K "__eq__" "Big.__eq__" s_Big_eq f fd) (z_isinstance : mg "isinstance" = none) (icb : ICls T.K (T.C 1)) (g_Big : ∃ u, mg "Big" = some u ∧ RelV (.ref (T.C 1)) u) (bc : BCls T.K (T.C 1)) : FnOk P w T.K mg base CX0 1 f fd ["self", "other"] (mkSp (Pre_Big_eq T)) := by
  refine fn_ok F sc_Big_eq (fun As Ω R h => ?_) (fun cdv A outer s H E hr As Ω R F0 h => ?_)
  · obtain ⟨x0, x1, r, rfl, _⟩ := h
    rfl
  obtain ⟨x0, x1, r, rfl, hm, rfl⟩ := h
  refine ⟨_, (pss_one (ps_ret (pe_and (pe_callB (cr_isiK (K := T.K) rfl) (by rfl) z_isinstance (by decide +kernel) (pa_cons (pv 1) (pa_cons (pe_gl rfl g_Big) pa_nil))) (pe_and (pe_cmpR (op_eqXK (K := T.K) (by exact hr.units) rfl) (pe_fldK (K := T.K) (pv 0) (by rfl) rfl) (pe_fldK (K := T.K) (pv 1) (by rfl) rfl) (nomark _)) (pe_one (pe_cmpR (op_eqXK (K := T.K) (by exact hr.units) rfl) (pe_fldK (K := T.K) (pv 0) (by rfl) rfl) (pe_fldK (K := T.K) (pv 1) (by rfl) rfl) (nomark _))))))), fun D hrt hnx => ?_⟩
  have ok : Okk Ω [] := okk0
  suffices hx : XS _ D F0 [some (va T x0), some (va T x1)] (stt Ω [] []) by
    rw [show (stt Ω [] []) = Ω from stt_self (by simp)] at hx
    exact hx
  unfold M_Big_eq at hm
  obtain rfl := Option.some.inj hm
  refine xs_ret (xe_andV (xe_isi (xe_var (i := 1) rfl) xe_vx (.own _) (fun F H v hh a => ty_big icb hh a) icb.kit) (fun _ => (xe_andV (xe_eqI (xe_bw bc.cl bc.nw (xe_var (i := 0) rfl)) (xe_bw bc.cl bc.nw (xe_var (i := 1) rfl))) (fun _ => (xe_eqI (xe_bv bc.cl bc.nv (xe_var (i := 0) rfl)) (xe_bv bc.cl bc.nv (xe_var (i := 1) rfl))))))) hrt.all
noncomputable def M_Big_digits (x0 : Bg) : Option (List Int) :=
  some x0.row
def Pre_Big_digits (T : TC) : PreT := fun As Ω R => ∃ (x0 : Bg) (r : List Int), As = [va T x0] ∧ M_Big_digits x0 = some r ∧ R = RV (va T (LF.mk r)) (stt Ω [] [])
theorem sc_Big_digits : FnScope ["self"] ["self"] (defScope s_Big_digits) := ⟨rfl, rfl, rfl, by decide +kernel, rfl, by decide +kernel, by decide +kernel⟩
theorem ok_Big_digits {f : Addr} {fd : FuncData} (F : Fun T.K "digits" "Big.digits" s_Big_digits f fd) (bc : BCls T.K (T.C 1)) (z_list : mg "list" = none) : FnOk P w T.K mg base CX0 1 f fd ["self"] (mkSp (Pre_Big_digits T)) := by
  refine fn_ok F sc_Big_digits (fun As Ω R h => ?_) (fun cdv A outer s H E hr As Ω R F0 h => ?_)
  · obtain ⟨x0, r, rfl, _⟩ := h
    rfl
  obtain ⟨x0, r, rfl, hm, rfl⟩ := h
  refine ⟨_, (pss_one (ps_ret (pe_callTy (cr_listK (K := T.K) rfl) (by rfl) z_list (by decide +kernel) (pa_cons (pe_fldK (K := T.K) (pv 0) (by rfl) rfl) pa_nil)))), fun D hrt hnx => ?_⟩
  have ok : Okk Ω [] := okk0
  suffices hx : XS _ D F0 [some (va T x0)] (stt Ω [] []) by
    rw [show (stt Ω [] []) = Ω from stt_self (by simp)] at hx
    exact hx
  unfold M_Big_digits at hm
  obtain rfl := Option.some.inj hm
  refine xs_ret (xe_listT (xe_br bc.cl bc.nr (xe_var (i := 0) rfl)) isT_TF) hrt.all
noncomputable def M_Big_sign (x0 : Bg) : Option Int :=
  some (sgn x0.v)
def Pre_Big_sign (T : TC) : PreT := fun As Ω R => ∃ (x0 : Bg) (r : Int), As = [va T x0] ∧ M_Big_sign x0 = some r ∧ R = RV (va T r) (stt Ω [] [])
theorem sc_Big_sign : FnScope ["self"] ["self"] (defScope s_Big_sign) := ⟨rfl, rfl, rfl, by decide +kernel, rfl, by decide +kernel, by decide +kernel⟩
theorem ok_Big_sign {f : Addr} {fd : FuncData} (F : Fun T.K "sign" "Big.sign" s_Big_sign f fd) (bc : BCls T.K (T.C 1)) : FnOk P w T.K mg base CX0 1 f fd ["self"] (mkSp (Pre_Big_sign T)) := by
  refine fn_ok F sc_Big_sign (fun As Ω R h => ?_) (fun cdv A outer s H E hr As Ω R F0 h => ?_)
  · obtain ⟨x0, r, rfl, _⟩ := h
    rfl
  obtain ⟨x0, r, rfl, hm, rfl⟩ := h
  refine ⟨_, (pss_one (ps_ret (pe_fldK (K := T.K) (pv 0) (by rfl) rfl))), fun D hrt hnx => ?_⟩
  have ok : Okk Ω [] := okk0
  suffices hx : XS _ D F0 [some (va T x0)] (stt Ω [] []) by
    rw [show (stt Ω [] []) = Ω from stt_self (by simp)] at hx
    exact hx
  unfold M_Big_sign at hm
  obtain rfl := Option.some.inj hm
  refine xs_ret (xe_bs bc.cl bc.ns (xe_var (i := 0) rfl)) hrt.all
noncomputable def M_Big_bits (x0 : Bg) : Option Int :=
  some x0.w
def Pre_Big_bits (T : TC) : PreT := fun As Ω R => ∃ (x0 : Bg) (r : Int), As = [va T x0] ∧ M_Big_bits x0 = some r ∧ R = RV (va T r) (stt Ω [] [])
theorem sc_Big_bits : FnScope ["self"] ["self"] (defScope s_Big_bits) := ⟨rfl, rfl, rfl, by decide +kernel, rfl, by decide +kernel, by decide +kernel⟩
theorem ok_Big_bits {f : Addr} {fd : FuncData} (F : Fun T.K "bits" "Big.bits" s_Big_bits f fd) (bc : BCls T.K (T.C 1)) : FnOk P w T.K mg base CX0 1 f fd ["self"] (mkSp (Pre_Big_bits T)) := by
  refine fn_ok F sc_Big_bits (fun As Ω R h => ?_) (fun cdv A outer s H E hr As Ω R F0 h => ?_)
  · obtain ⟨x0, r, rfl, _⟩ := h
    rfl
  obtain ⟨x0, r, rfl, hm, rfl⟩ := h
  refine ⟨_, (pss_one (ps_ret (pe_fldK (K := T.K) (pv 0) (by rfl) rfl))), fun D hrt hnx => ?_⟩
  have ok : Okk Ω [] := okk0
  suffices hx : XS _ D F0 [some (va T x0)] (stt Ω [] []) by
    rw [show (stt Ω [] []) = Ω from stt_self (by simp)] at hx
    exact hx
  unfold M_Big_bits at hm
  obtain rfl := Option.some.inj hm
  refine xs_ret (xe_bw bc.cl bc.nw (xe_var (i := 0) rfl)) hrt.all
noncomputable def M_order_of (x0 : Int) (x1 : Int) : Option Int :=
  if (decide (x0 < x1)) = true then some (-(1 : Int)) else some (if (decide (x0 = x1)) = true then (0 : Int) else (1 : Int))
def Pre_order_of (T : TC) : PreT := fun As Ω R => ∃ (x0 : Int) (x1 : Int) (r : Int), As = [va T x0, va T x1] ∧ M_order_of x0 x1 = some r ∧ R = RV (va T r) (stt Ω [] [])
theorem sc_order_of : FnScope ["a", "b"] ["a", "b"] (defScope s_order_of) := ⟨rfl, rfl, rfl, by decide +kernel, rfl, by decide +kernel, by decide +kernel⟩
theorem ok_order_of {f : Addr} {fd : FuncData} (F : Fun T.K "order_of" "order_of" s_order_of f fd)  : FnOk P w T.K mg base CX0 1 f fd ["a", "b"] (mkSp (Pre_order_of T)) := by
  refine fn_ok F sc_order_of (fun As Ω R h => ?_) (fun cdv A outer s H E hr As Ω R F0 h => ?_)
  · obtain ⟨x0, x1, r, rfl, _⟩ := h
    rfl
  obtain ⟨x0, x1, r, rfl, hm, rfl⟩ := h
  refine ⟨_, (pss_cons (ps_if (pt_cmpR op_lt (pv 0) (pv 1) (nomark _)) (pss_one (ps_ret (pe_un un_neg pe_int))) pss_nil) (pss_one (ps_ret (pe_ifExp (pt_cmpR (op_eqXK (K := T.K) (by exact hr.units) rfl) (pv 0) (pv 1) (nomark _)) pe_int pe_int)))), fun D hrt hnx => ?_⟩
  have ok : Okk Ω [] := okk0
  suffices hx : XS _ D F0 [some (va T x0), some (va T x1)] (stt Ω [] []) by
    rw [show (stt Ω [] []) = Ω from stt_self (by simp)] at hx
    exact hx
  unfold M_order_of at hm
  by_cases hc : (decide (x0 < x1)) = true
  · rw [if_pos hc] at hm
    refine xs_ifT (xt_eq (xt_test (T := T) (xe_lt (xe_var (i := 0) rfl) (xe_var (i := 1) rfl))) hc) ?_
    obtain rfl := Option.some.inj hm
    refine xs_ret (xe_neg xe_int) hrt.all
  · rw [if_neg hc] at hm
    refine xs_ifN (xt_eq (xt_test (T := T) (xe_lt (xe_var (i := 0) rfl) (xe_var (i := 1) rfl))) (nt hc)) ?_
    show XS (tRet _) _ _ [some (va T x0), some (va T x1)] (stt Ω [] [])
    obtain rfl := Option.some.inj hm
    refine xs_ret (xe_ite (xt_test (T := T) (xe_eqI (xe_var (i := 0) rfl) (xe_var (i := 1) rfl))) xe_int xe_int) hrt.all
theorem sc_Big_init : FnScope ["self", "width", "value", "row"] ["self", "width", "value", "row"] (defScope s_Big_init) := ⟨rfl, rfl, rfl, by decide +kernel, rfl, by decide +kernel, by decide +kernel⟩
theorem order_sgn (v : Int) : M_order_of v 0 = some (sgn v) := by
  unfold M_order_of sgn
  by_cases h : v < 0
  · rw [if_pos (decide_eq_true h), if_pos h]
  · rw [if_neg (by simpa using h), if_neg h]
    by_cases e : v = 0
    · rw [if_pos (decide_eq_true e), if_pos e]
    · rw [if_neg (by simpa using e), if_neg e]
theorem ok_Big_init {f : Addr} {fd : FuncData} (F : Fun T.K "__init__" "Big.__init__" s_Big_init f fd) (bc : BCls T.K (T.C 1)) (z_tuple : mg "tuple" = none) (c_order_of : Cal P w T.K mg base 1 "order_of" ["a", "b"] (mkSp (Pre_order_of T))) : FnOk P w T.K mg base CX0 2 f fd ["self", "width", "value", "row"] (mkSp (Pre_Big T)) := by
  refine fn_ok F sc_Big_init (fun As Ω R h => ?_) (fun cdv A outer s H E hr As Ω R F0 h => ?_)
  · obtain ⟨Ω0, p, w, sd, row, B, _, rfl, _⟩ := h; rfl
  obtain ⟨Ω0, p, w, sd, row, B, hB, rfl, rfl, rfl⟩ := h
  refine ⟨_, pss_cons (ps_fld (pv 0) (pv 1) rfl) (pss_cons (ps_fld (pv 0) (pe_cal c_order_of (hr.mono (by decide)) (by rfl) (pa_cons (pv 2) (pa_cons pe_int pa_nil))) rfl) (pss_cons (ps_fld (pv 0) (pe_callTy cr_tuple (by rfl) z_tuple (by decide +kernel) (pa_cons (pv 3) pa_nil)) rfl) (pss_one (ps_fld (pv 0) (pv 2) rfl)))), fun D hrt hnx => ?_⟩
  show XS _ D F0 [some (vr p), some (va T w), some (va T sd), some B] _
  refine xs_binit (k := Ω0.length) (row := row) bc rfl rfl rfl (fun Ω' => xe_call (xa_cons (xe_var (i := 2) rfl) (xa_cons xe_int xa_nil)) ⟨sd, 0, sgn sd, rfl, order_sgn sd, rfl⟩ cal0') (fun Ω' => ?_) app_at fun σ H ⟨F, f0, e, hh⟩ => hnx F σ H _ f0 hh ⟨rfl, set_last⟩
  rcases hB with rfl | rfl
  · exact xe_tupleL (xe_var (i := 3) rfl) isL_LF
  · exact xe_tupleT (xe_var (i := 3) rfl)
noncomputable def M_check_machine (x0 : MS) : Option Unit :=
  (chkP (true = true)).bind fun z1 => some ()
def Pre_check_machine (T : TC) : PreT := fun As Ω R => ∃ (k0 : Nat) (p0 : Addr) (x0 : MS) (r : Unit), As = [vr p0] ∧ Ω[k0]? = some (machA T p0 x0) ∧ M_check_machine x0 = some r ∧ R = RV (va T r) (stt Ω [] [])
theorem sc_check_machine : FnScope ["machine"] ["machine"] (defScope s_check_machine) := ⟨rfl, rfl, rfl, by decide +kernel, rfl, by decide +kernel, by decide +kernel⟩
theorem ok_check_machine {f : Addr} {fd : FuncData} (F : Fun T.K "check_machine" "check_machine" s_check_machine f fd) (z_isinstance : mg "isinstance" = none) (icm : ICls T.K (T.C 0)) (g_Machine : ∃ u, mg "Machine" = some u ∧ RelV (.ref (T.C 0)) u) : FnOk P w T.K mg base CX0 1 f fd ["machine"] (mkSp (Pre_check_machine T)) := by
  refine fn_ok F sc_check_machine (fun As Ω R h => ?_) (fun cdv A outer s H E hr As Ω R F0 h => ?_)
  · obtain ⟨k0, p0, x0, r, rfl, _⟩ := h
    rfl
  obtain ⟨k0, p0, x0, r, rfl, hk0, hm, rfl⟩ := h
  refine ⟨_, (pss_one (ps_if (pt_not (pt_val (pe_callB (cr_isiK (K := T.K) rfl) (by rfl) z_isinstance (by decide +kernel) (pa_cons (pv 0) (pa_cons (pe_gl rfl g_Machine) pa_nil))))) pss_never pss_nil)), fun D hrt hnx => ?_⟩
  have ok : Okk Ω [] := okk0
  suffices hx : XS _ D F0 [some (vr p0)] (stt Ω [] []) by
    rw [show (stt Ω [] []) = Ω from stt_self (by simp)] at hx
    exact hx
  unfold M_check_machine at hm
  obtain ⟨z1, hz1, hm⟩ := bnd_some hm
  refine xs_ifF1 (xt_notF (xt_eq (xt_tB (T := T) (xe_isi (xe_var (i := 0) rfl) xe_vx (.own _) (fun F H v hh a => ty_mach icm (stt_getU hk0) hh a) icm.kit)) (chkP_some hz1))) ?_
  obtain rfl := Option.some.inj hm
  exact fun σ H ⟨F, f0, e, hh⟩ => hnx F σ H _ f0 hh.all ⟨rfl, rfl⟩
noncomputable def M_top_digit (x0 : Int) : Option Int :=
  (chkP (CShl (1 : Int) x0)).bind fun z1 => some (((1 : Int) * 2 ^ (x0).toNat) - (1 : Int))
def Pre_top_digit (T : TC) : PreT := fun As Ω R => ∃ (x0 : Int) (r : Int), As = [va T x0] ∧ M_top_digit x0 = some r ∧ R = RV (va T r) (stt Ω [] [])
theorem sc_top_digit : FnScope ["width"] ["width"] (defScope s_top_digit) := ⟨rfl, rfl, rfl, by decide +kernel, rfl, by decide +kernel, by decide +kernel⟩
theorem ok_top_digit {f : Addr} {fd : FuncData} (F : Fun T.K "top_digit" "top_digit" s_top_digit f fd)  : FnOk P w T.K mg base CX0 1 f fd ["width"] (mkSp (Pre_top_digit T)) := by
  refine fn_ok F sc_top_digit (fun As Ω R h => ?_) (fun cdv A outer s H E hr As Ω R F0 h => ?_)
  · obtain ⟨x0, r, rfl, _⟩ := h
    rfl
  obtain ⟨x0, r, rfl, hm, rfl⟩ := h
  refine ⟨_, (pss_one (ps_ret (pe_op op_sub (pe_op op_shlW pe_int (pv 0)) pe_int))), fun D hrt hnx => ?_⟩
  have ok : Okk Ω [] := okk0
  suffices hx : XS _ D F0 [some (va T x0)] (stt Ω [] []) by
    rw [show (stt Ω [] []) = Ω from stt_self (by simp)] at hx
    exact hx
  unfold M_top_digit at hm
  obtain ⟨z1, hz1, hm⟩ := bnd_some hm
  obtain rfl := Option.some.inj hm
  refine xs_ret (xe_sub (xe_shl (chkP_some hz1) xe_int (xe_var (i := 0) rfl)) xe_int) hrt.all
noncomputable def M_size_of (x0 : Int) (x1 : Int) : Option Int :=
  (chkP (CDivW ((((Builtin.Int.intBits x1 : Nat) : Int) + x0) - (1 : Int)) x0)).bind fun z1 => some (((((Builtin.Int.intBits x1 : Nat) : Int) + x0) - (1 : Int)) / x0)
def Pre_size_of (T : TC) : PreT := fun As Ω R => ∃ (x0 : Int) (x1 : Int) (r : Int), As = [va T x0, va T x1] ∧ M_size_of x0 x1 = some r ∧ R = RV (va T r) (stt Ω [] [])
theorem sc_size_of : FnScope ["width", "n"] ["width", "n"] (defScope s_size_of) := ⟨rfl, rfl, rfl, by decide +kernel, rfl, by decide +kernel, by decide +kernel⟩
theorem ok_size_of {f : Addr} {fd : FuncData} (F : Fun T.K "size_of" "size_of" s_size_of f fd)  : FnOk P w T.K mg base CX0 2 f fd ["width", "n"] (mkSp (Pre_size_of T)) := by
  refine fn_ok F sc_size_of (fun As Ω R h => ?_) (fun cdv A outer s H E hr As Ω R F0 h => ?_)
  · obtain ⟨x0, x1, r, rfl, _⟩ := h
    rfl
  obtain ⟨x0, x1, r, rfl, hm, rfl⟩ := h
  refine ⟨_, (pss_one (ps_ret (pe_op op_fdivW (pe_op op_sub (pe_op op_addQ (pe_bits (pv 1)) (pv 0)) pe_int) (pv 0)))), fun D hrt hnx => ?_⟩
  have ok : Okk Ω [] := okk0
  suffices hx : XS _ D F0 [some (va T x0), some (va T x1)] (stt Ω [] []) by
    rw [show (stt Ω [] []) = Ω from stt_self (by simp)] at hx
    exact hx
  unfold M_size_of at hm
  obtain ⟨z1, hz1, hm⟩ := bnd_some hm
  obtain rfl := Option.some.inj hm
  refine xs_ret (xe_fdiv (chkP_some hz1) (xe_sub (xe_add (xe_bits (xe_var (i := 1) rfl)) (xe_var (i := 0) rfl)) xe_int) (xe_var (i := 0) rfl)) hrt.all
noncomputable def M_low_part (x0 : Int) (x1 : Int) (x2 : Int) : Option Int :=
  (chkP (IntMulOk x2 x0)).bind fun z1 => (chkP (CShl (1 : Int) (x2 * x0))).bind fun z2 => some (Builtin.bitAnd x1 (((1 : Int) * 2 ^ ((x2 * x0)).toNat) - (1 : Int)))
def Pre_low_part (T : TC) : PreT := fun As Ω R => ∃ (x0 : Int) (x1 : Int) (x2 : Int) (r : Int), As = [va T x0, va T x1, va T x2] ∧ M_low_part x0 x1 x2 = some r ∧ R = RV (va T r) (stt Ω [] [])
theorem sc_low_part : FnScope ["width", "n", "size"] ["width", "n", "size"] (defScope s_low_part) := ⟨rfl, rfl, rfl, by decide +kernel, rfl, by decide +kernel, by decide +kernel⟩
theorem ok_low_part {f : Addr} {fd : FuncData} (F : Fun T.K "low_part" "low_part" s_low_part f fd)  : FnOk P w T.K mg base CX0 1 f fd ["width", "n", "size"] (mkSp (Pre_low_part T)) := by
  refine fn_ok F sc_low_part (fun As Ω R h => ?_) (fun cdv A outer s H E hr As Ω R F0 h => ?_)
  · obtain ⟨x0, x1, x2, r, rfl, _⟩ := h
    rfl
  obtain ⟨x0, x1, x2, r, rfl, hm, rfl⟩ := h
  refine ⟨_, (pss_one (ps_ret (pe_op op_and (pv 1) (pe_op op_sub (pe_op op_shlW pe_int (pe_op op_mulQ (pv 2) (pv 0))) pe_int)))), fun D hrt hnx => ?_⟩
  have ok : Okk Ω [] := okk0
  suffices hx : XS _ D F0 [some (va T x0), some (va T x1), some (va T x2)] (stt Ω [] []) by
    rw [show (stt Ω [] []) = Ω from stt_self (by simp)] at hx
    exact hx
  unfold M_low_part at hm
  obtain ⟨z1, hz1, hm⟩ := bnd_some hm
  obtain ⟨z2, hz2, hm⟩ := bnd_some hm
  obtain rfl := Option.some.inj hm
  refine xs_ret (xe_band (xe_var (i := 1) rfl) (xe_sub (xe_shl (chkP_some hz2) xe_int (xe_mul (chkP_some hz1) (xe_var (i := 2) rfl) (xe_var (i := 0) rfl))) xe_int)) hrt.all
noncomputable def M_row_of : Nat → Int → Int → Int → Option (List Int)
  | 0, _, _, _ => none
  | kf + 1, x0, x1, x2 => if (decide ((32 : Int) < x2)) = true then (chkP (CDivW x2 (2 : Int))).bind fun z1 => (some (x2 / (2 : Int))).bind fun y2 => (M_low_part x0 x1 y2).bind fun z3 => (M_row_of kf x0 z3 y2).bind fun z4 => (chkP (IntMulOk y2 x0)).bind fun z5 => (chkP (0 ≤ (y2 * x0))).bind fun z6 => (M_row_of kf x0 (x1 / 2 ^ ((y2 * x0)).toNat) (x2 - y2)).bind fun z7 => (chkP (z4.length + z7.length ≤ sizeLine)).bind fun z8 => some (z4 ++ z7) else (M_top_digit x0).bind fun z9 => (some ([] : List Int)).bind fun y10 => (chkP (-(2 ^ 62) ≤ x2 ∧ x2 < 2 ^ 62)).bind fun z13 => (forM' (ρ := Unit) (fun (a15 : Int) (s14 : Int × (List Int)) => (chkP (s14.2.length < sizeLine)).bind fun z16 => (chkP (0 ≤ x0)).bind fun z17 => (some (s14.1 / 2 ^ (x0).toNat)).bind fun y18 => some (Stp.nx (y18, (s14.2 ++ [(Builtin.bitAnd s14.1 z9)])))) (rng 0 (x2).toNat) (x1, y10)).bind fun z19 => (nxt z19).bind fun s20 => some s20.2
theorem M_row_of_succ (kf : Nat) (x0 : Int) (x1 : Int) (x2 : Int) : M_row_of (kf + 1) x0 x1 x2 = (if (decide ((32 : Int) < x2)) = true then (chkP (CDivW x2 (2 : Int))).bind fun z1 => (some (x2 / (2 : Int))).bind fun y2 => (M_low_part x0 x1 y2).bind fun z3 => (M_row_of kf x0 z3 y2).bind fun z4 => (chkP (IntMulOk y2 x0)).bind fun z5 => (chkP (0 ≤ (y2 * x0))).bind fun z6 => (M_row_of kf x0 (x1 / 2 ^ ((y2 * x0)).toNat) (x2 - y2)).bind fun z7 => (chkP (z4.length + z7.length ≤ sizeLine)).bind fun z8 => some (z4 ++ z7) else (M_top_digit x0).bind fun z9 => (some ([] : List Int)).bind fun y10 => (chkP (-(2 ^ 62) ≤ x2 ∧ x2 < 2 ^ 62)).bind fun z13 => (forM' (ρ := Unit) (fun (a15 : Int) (s14 : Int × (List Int)) => (chkP (s14.2.length < sizeLine)).bind fun z16 => (chkP (0 ≤ x0)).bind fun z17 => (some (s14.1 / 2 ^ (x0).toNat)).bind fun y18 => some (Stp.nx (y18, (s14.2 ++ [(Builtin.bitAnd s14.1 z9)])))) (rng 0 (x2).toNat) (x1, y10)).bind fun z19 => (nxt z19).bind fun s20 => some s20.2) := by rw [M_row_of]
theorem M_row_of_zero (x0 : Int) (x1 : Int) (x2 : Int) : M_row_of 0 x0 x1 x2 = none := by rw [M_row_of]
def Pre_row_of (kf : Nat) (T : TC) : PreT := fun As Ω R => ∃ (x0 : Int) (x1 : Int) (x2 : Int) (r : List Int), As = [va T x0, va T x1, va T x2] ∧ M_row_of kf x0 x1 x2 = some r ∧ R = RV (va T (LF.mk r)) (stt Ω [] [])
theorem sc_row_of : FnScope ["width", "n", "size", "half", "top", "row", "place"] ["width", "n", "size"] (defScope s_row_of) := ⟨rfl, rfl, rfl, by decide +kernel, rfl, by decide +kernel, by decide +kernel⟩
theorem ok0_row_of {f : Addr} {fd : FuncData} (F : Fun T.K "row_of" "row_of" s_row_of f fd) : FnOk P w T.K mg base CX0 1 f fd ["width", "n", "size"] (mkSp (Pre_row_of 0 T)) := by
  refine fn_ok (k := 0) F sc_row_of (fun As Ω R h => ?_) (fun cdv A outer s H E hr As Ω R F0 h => ?_)
  · obtain ⟨x0, x1, x2, r, rfl, _⟩ := h
    rfl
  obtain ⟨x0, x1, x2, r, rfl, hm, rfl⟩ := h
  rw [M_row_of_zero] at hm
  cases hm
theorem ok_row_of (kf : Nat) {f : Addr} {fd : FuncData} (F : Fun T.K "row_of" "row_of" s_row_of f fd) (g_LONGEST_LOOP : ∃ u, mg "LONGEST_LOOP" = some u ∧ RelV (.int 32) u) (c_low_part : Cal P w T.K mg base 1 "low_part" ["width", "n", "size"] (mkSp (Pre_low_part T))) (c_row_of : Cal P w T.K mg base (1 + kf) "row_of" ["width", "n", "size"] (mkSp (Pre_row_of kf T))) (c_top_digit : Cal P w T.K mg base 1 "top_digit" ["width"] (mkSp (Pre_top_digit T))) (z_range : mg "range" = none) : FnOk P w T.K mg base CX0 (1 + kf + 1) f fd ["width", "n", "size"] (mkSp (Pre_row_of (kf + 1) T)) := by
  refine fn_ok F sc_row_of (fun As Ω R h => ?_) (fun cdv A outer s H E hr As Ω R F0 h => ?_)
  · obtain ⟨x0, x1, x2, r, rfl, _⟩ := h
    rfl
  obtain ⟨x0, x1, x2, r, rfl, hm, rfl⟩ := h
  refine ⟨_, (pss_cons (ps_if (pt_cmpR op_gt (pv 2) (pe_gl rfl g_LONGEST_LOOP) (nomark _)) (pss_cons (ps_set (i := 3) sc_row_of.nd rfl (.inl rfl) (pe_op op_fdivW (pv 2) pe_int)) (pss_one (ps_ret (pe_op op_addQ (pe_cal c_row_of (hr.mono (by omega)) (by rfl) (pa_cons (pv 0) (pa_cons (pe_cal c_low_part (hr.mono (by omega)) (by rfl) (pa_cons (pv 0) (pa_cons (pv 1) (pa_cons (pv 3) pa_nil)))) (pa_cons (pv 3) pa_nil)))) (pe_cal c_row_of (hr.mono (by omega)) (by rfl) (pa_cons (pv 0) (pa_cons (pe_op op_shr (pv 1) (pe_op op_mulQ (pv 3) (pv 0))) (pa_cons (pe_op op_sub (pv 2) (pv 3)) pa_nil)))))))) pss_nil) (pss_cons (ps_set (i := 4) sc_row_of.nd rfl (.inl rfl) (pe_cal c_top_digit (hr.mono (by omega)) (by rfl) (pa_cons (pv 0) pa_nil))) (pss_cons (ps_set (i := 5) sc_row_of.nd rfl (.inl rfl) (pe_lst pa_nil)) (pss_cons (ps_for PassesOwn.never rfl (pi_range1 rfl z_range (pa_cons (pv 2) pa_nil)) (pg_name (i := 6) sc_row_of.nd rfl (.inl rfl)) (pss_cons (ps_expr (pe_bm PySem.F.plainAttrs_list PySem.F.slot_list_append PySem.F.type_list_append mt_append (pv 5) (pa_cons (pe_op op_and (pv 1) (pv 4)) pa_nil))) (pss_one (ps_aug (i := 1) sc_row_of.nd rfl (.inl rfl) (pv 0) (ip_of iop_shr))))) (pss_one (ps_ret (pv 5))))))), fun D hrt hnx => ?_⟩
  have ok : Okk Ω [] := okk0
  suffices hx : XS _ D F0 [some (va T x0), some (va T x1), some (va T x2), none, none, none, none] (stt Ω [] []) by
    rw [show (stt Ω [] []) = Ω from stt_self (by simp)] at hx
    exact hx
  rw [M_row_of_succ] at hm
  by_cases hc : (decide ((32 : Int) < x2)) = true
  · rw [if_pos hc] at hm
    refine xs_ifT (xt_eq (xt_test (T := T) (xe_gt (xe_var (i := 2) rfl) xe_int)) hc) ?_
    obtain ⟨z1, hz1, hm⟩ := bnd_some hm
    obtain ⟨y2, hy2, hm⟩ := bnd_some hm
    refine xs_set (A := va T y2) (xe_eq (xe_fdiv (chkP_some hz1) (xe_var (i := 2) rfl) xe_int) (Option.some.inj hy2)) ?_
    show XS (tRet _) _ _ [some (va T x0), some (va T x1), some (va T x2), some (va T y2), none, none, none] (stt Ω [] [])
    obtain ⟨z3, hz3, hm⟩ := bnd_some hm
    obtain ⟨z4, hz4, hm⟩ := bnd_some hm
    obtain ⟨z5, hz5, hm⟩ := bnd_some hm
    obtain ⟨z6, hz6, hm⟩ := bnd_some hm
    obtain ⟨z7, hz7, hm⟩ := bnd_some hm
    obtain ⟨z8, hz8, hm⟩ := bnd_some hm
    obtain rfl := Option.some.inj hm
    refine xs_ret (xe_cat (xe_call (xa_cons (xe_var (i := 0) rfl) (xa_cons (xe_call (xa_cons (xe_var (i := 0) rfl) (xa_cons (xe_var (i := 1) rfl) (xa_cons (xe_var (i := 3) rfl) xa_nil))) ⟨x0, x1, y2, z3, rfl, hz3, rfl⟩ cal0) (xa_cons (xe_var (i := 3) rfl) xa_nil))) ⟨x0, z3, y2, z4, rfl, hz4, rfl⟩ cal0) (xe_call (xa_cons (xe_var (i := 0) rfl) (xa_cons (xe_shr (chkP_some hz6) (xe_var (i := 1) rfl) (xe_mul (chkP_some hz5) (xe_var (i := 3) rfl) (xe_var (i := 0) rfl))) (xa_cons (xe_sub (xe_var (i := 2) rfl) (xe_var (i := 3) rfl)) xa_nil))) ⟨x0, (x1 / 2 ^ ((y2 * x0)).toNat), (x2 - y2), z7, rfl, hz7, rfl⟩ cal0) isLs_LF isLs_LF (chkP_some hz8)) hrt.all
  · rw [if_neg hc] at hm
    refine xs_ifN (xt_eq (xt_test (T := T) (xe_gt (xe_var (i := 2) rfl) xe_int)) (nt hc)) ?_
    show XS (tSeq _ _) _ _ [some (va T x0), some (va T x1), some (va T x2), none, none, none, none] (stt Ω [] [])
    obtain ⟨z9, hz9, hm⟩ := bnd_some hm
    refine xs_set (A := va T z9) (xe_call (xa_cons (xe_var (i := 0) rfl) xa_nil) ⟨x0, z9, rfl, hz9, rfl⟩ cal0) ?_
    show XS (tSeq _ _) _ _ [some (va T x0), some (va T x1), some (va T x2), none, some (va T z9), none, none] (stt Ω [] [])
    obtain ⟨y10, hy10, hm⟩ := bnd_some hm
    obtain rfl := Option.some.inj hy10
    refine xs_setO ((xn_lst (T := T) (l := ([] : List Int)) xa_nil (Nat.zero_le _))) (fun pp11 => ?_)
    show XS (tSeq _ _) _ _ [some (va T x0), some (va T x1), some (va T x2), none, some (va T z9), some (vr pp11), none] (stt Ω [] [lstA T pp11 (([] : List Int) : List Int)])
    obtain ⟨z13, hz13, hm⟩ := bnd_some hm
    obtain ⟨z19, hz19, hm⟩ := bnd_some hm
    refine xs_forS (fun (s14 : Int × (List Int)) => [some (va T x0), some (va T s14.1), some (va T x2), none, some (va T z9), some (vr pp11), none]) (fun (s14 : Int × (List Int)) => (stt Ω [] [lstA T pp11 (s14.2 : List Int)])) (fun (_ : Unit) _ _ _ => False) hz19 (xi_range1 (T := T) (xa_cons (xe_var (i := 2) rfl) xa_nil) (chkP_some hz13).1 (chkP_some hz13).2) (fun _ => tgt_name) (fun a15 s14 s' ha hm F1 D1 e1 hD => ?_) (fun s20 es => ?_) (fun r1 es => ?_)
    · show XS (tSeq _ _) _ _ [some (va T x0), some (va T s14.1), some (va T x2), none, some (va T z9), some (vr pp11), some (va T a15)] (stt Ω [] [lstA T pp11 (s14.2 : List Int)])
      obtain ⟨z16, hz16, hm⟩ := bnd_some hm
      refine xs_drop (xe_appE (stt_getL (j := 0) rfl) (stt_getL (j := 0) rfl) (xe_var (i := 5) rfl) (xe_band (xe_var (i := 1) rfl) (xe_var (i := 4) rfl)) (chkP_some hz16) (stt_setL (j := 0))) ?_
      show XS (tAug _ _ _) _ _ [some (va T x0), some (va T s14.1), some (va T x2), none, some (va T z9), some (vr pp11), some (va T a15)] (stt Ω [] [lstA T pp11 ((s14.2 ++ [(Builtin.bitAnd s14.1 z9)]) : List Int)])
      obtain ⟨z17, hz17, hm⟩ := bnd_some hm
      obtain ⟨y18, hy18, hm⟩ := bnd_some hm
      refine xs_augD1 (T := T) rfl (chkP_some hz17) (xe_var (i := 0) rfl) (Option.some.inj hy18) ?_
      obtain rfl := Option.some.inj hm
      exact fun σ H n => hD.nx _ rfl σ H (n.forget 6)
    · subst es
      obtain ⟨s2, hs2, hm⟩ := bnd_some hm
      cases hs2
      show XS (tRet _) _ _ [some (va T x0), some (va T s20.1), some (va T x2), none, some (va T z9), some (vr pp11), none] (stt Ω [] [lstA T pp11 (s20.2 : List Int)])
      obtain rfl := Option.some.inj hm
      refine xs_fzJ (k := 5) (j := 0) rfl rfl ?_
      show XS _ _ _ [some (va T x0), some (va T s20.1), some (va T x2), none, some (va T z9), some (va T (LF.mk s20.2)), none] (stt Ω [] [nilA])
      exact xs_ret (xe_var (i := 5) rfl) hrt.all
    · subst es
      cases hm
noncomputable def M_check_big (x0 : Bg) (x1 : Str) : Option Unit :=
  (chkP (true = true)).bind fun z1 => some ()
def Pre_check_big (T : TC) : PreT := fun As Ω R => ∃ (x0 : Bg) (x1 : Str) (r : Unit), As = [va T x0, va T x1] ∧ M_check_big x0 x1 = some r ∧ R = RV (va T r) (stt Ω [] [])
theorem sc_check_big : FnScope ["value", "name"] ["value", "name"] (defScope s_check_big) := ⟨rfl, rfl, rfl, by decide +kernel, rfl, by decide +kernel, by decide +kernel⟩
theorem ok_check_big {f : Addr} {fd : FuncData} (F : Fun T.K "check_big" "check_big" s_check_big f fd) (z_isinstance : mg "isinstance" = none) (icb : ICls T.K (T.C 1)) (g_Big : ∃ u, mg "Big" = some u ∧ RelV (.ref (T.C 1)) u) : FnOk P w T.K mg base CX0 1 f fd ["value", "name"] (mkSp (Pre_check_big T)) := by
  refine fn_ok F sc_check_big (fun As Ω R h => ?_) (fun cdv A outer s H E hr As Ω R F0 h => ?_)
  · obtain ⟨x0, x1, r, rfl, _⟩ := h
    rfl
  obtain ⟨x0, x1, r, rfl, hm, rfl⟩ := h
  refine ⟨_, (pss_one (ps_if (pt_not (pt_val (pe_callB (cr_isiK (K := T.K) rfl) (by rfl) z_isinstance (by decide +kernel) (pa_cons (pv 0) (pa_cons (pe_gl rfl g_Big) pa_nil))))) pss_never pss_nil)), fun D hrt hnx => ?_⟩
  have ok : Okk Ω [] := okk0
  suffices hx : XS _ D F0 [some (va T x0), some (va T x1)] (stt Ω [] []) by
    rw [show (stt Ω [] []) = Ω from stt_self (by simp)] at hx
    exact hx
  unfold M_check_big at hm
  obtain ⟨z1, hz1, hm⟩ := bnd_some hm
  refine xs_ifF1 (xt_notF (xt_eq (xt_tB (T := T) (xe_isi (xe_var (i := 0) rfl) xe_vx (.own _) (fun F H v hh a => ty_big icb hh a) icb.kit)) (chkP_some hz1))) ?_
  obtain rfl := Option.some.inj hm
  exact fun σ H ⟨F, f0, e, hh⟩ => hnx F σ H _ f0 hh.all ⟨rfl, rfl⟩
noncomputable def M_check_fit (x0 : MS) (x1 : Bg) (x2 : Str) : Option Unit :=
  (M_check_big x1 x2).bind fun z1 => (chkP (x1.w = x0.w)).bind fun z2 => some ()
def Pre_check_fit (T : TC) : PreT := fun As Ω R => ∃ (k0 : Nat) (p0 : Addr) (x0 : MS) (x1 : Bg) (x2 : Str) (r : Unit), As = [vr p0, va T x1, va T x2] ∧ Ω[k0]? = some (machA T p0 x0) ∧ M_check_fit x0 x1 x2 = some r ∧ R = RV (va T r) (stt Ω [] [])
theorem sc_check_fit : FnScope ["machine", "value", "name"] ["machine", "value", "name"] (defScope s_check_fit) := ⟨rfl, rfl, rfl, by decide +kernel, rfl, by decide +kernel, by decide +kernel⟩
theorem ok_check_fit {f : Addr} {fd : FuncData} (F : Fun T.K "check_fit" "check_fit" s_check_fit f fd) (c_check_big : Cal P w T.K mg base 1 "check_big" ["value", "name"] (mkSp (Pre_check_big T))) (bc : BCls T.K (T.C 1)) (mc : MCls T.K (T.C 0)) : FnOk P w T.K mg base CX0 2 f fd ["machine", "value", "name"] (mkSp (Pre_check_fit T)) := by
  refine fn_ok F sc_check_fit (fun As Ω R h => ?_) (fun cdv A outer s H E hr As Ω R F0 h => ?_)
  · obtain ⟨k0, p0, x0, x1, x2, r, rfl, _⟩ := h
    rfl
  obtain ⟨k0, p0, x0, x1, x2, r, rfl, hk0, hm, rfl⟩ := h
  refine ⟨_, (pss_cons (ps_expr (pe_cal c_check_big (hr.mono (by decide)) (by rfl) (pa_cons (pv 1) (pa_cons (pv 2) pa_nil)))) (pss_one (ps_if (pt_cmpR (op_neXK (K := T.K) (by exact hr.units) rfl) (pe_fldK (K := T.K) (pv 1) (by rfl) rfl) (pe_fldK (K := T.K) (pv 0) (by rfl) rfl) (nomark _)) pss_never pss_nil))), fun D hrt hnx => ?_⟩
  have ok : Okk Ω [] := okk0
  suffices hx : XS _ D F0 [some (vr p0), some (va T x1), some (va T x2)] (stt Ω [] []) by
    rw [show (stt Ω [] []) = Ω from stt_self (by simp)] at hx
    exact hx
  unfold M_check_fit at hm
  obtain ⟨z1, hz1, hm⟩ := bnd_some hm
  refine xs_drop (xe_call (xa_cons (xe_var (i := 1) rfl) (xa_cons (xe_var (i := 2) rfl) xa_nil)) ⟨x1, x2, z1, rfl, hz1, rfl⟩ cal0) ?_
  show XS (tIfS _ _ _) _ _ [some (vr p0), some (va T x1), some (va T x2)] (stt Ω [] [])
  obtain ⟨z2, hz2, hm⟩ := bnd_some hm
  refine xs_ifF1 (xt_test (T := T) (xe_eq (xe_neI (xe_bw bc.cl bc.nw (xe_var (i := 1) rfl)) (xe_mw mc.cl mc.nw (xe_var (i := 0) rfl) (stt_getU hk0))) (neK_ (chkP_some hz2)))) ?_
  obtain rfl := Option.some.inj hm
  exact fun σ H ⟨F, f0, e, hh⟩ => hnx F σ H _ f0 hh.all ⟨rfl, rfl⟩
noncomputable def M_check_one (x0 : MS) (x1 : Bg) : Option Unit :=
  (M_check_machine x0).bind fun z1 => (M_check_fit x0 x1 ("x" : Str)).bind fun z2 => some ()
def Pre_check_one (T : TC) : PreT := fun As Ω R => ∃ (k0 : Nat) (p0 : Addr) (x0 : MS) (x1 : Bg) (r : Unit), As = [vr p0, va T x1] ∧ Ω[k0]? = some (machA T p0 x0) ∧ M_check_one x0 x1 = some r ∧ R = RV (va T r) (stt Ω [] [])
theorem sc_check_one : FnScope ["machine", "x"] ["machine", "x"] (defScope s_check_one) := ⟨rfl, rfl, rfl, by decide +kernel, rfl, by decide +kernel, by decide +kernel⟩
theorem ok_check_one {f : Addr} {fd : FuncData} (F : Fun T.K "check_one" "check_one" s_check_one f fd) (c_check_machine : Cal P w T.K mg base 1 "check_machine" ["machine"] (mkSp (Pre_check_machine T))) (c_check_fit : Cal P w T.K mg base 2 "check_fit" ["machine", "value", "name"] (mkSp (Pre_check_fit T))) : FnOk P w T.K mg base CX0 3 f fd ["machine", "x"] (mkSp (Pre_check_one T)) := by
  refine fn_ok F sc_check_one (fun As Ω R h => ?_) (fun cdv A outer s H E hr As Ω R F0 h => ?_)
  · obtain ⟨k0, p0, x0, x1, r, rfl, _⟩ := h
    rfl
  obtain ⟨k0, p0, x0, x1, r, rfl, hk0, hm, rfl⟩ := h
  refine ⟨_, (pss_cons (ps_expr (pe_cal c_check_machine (hr.mono (by decide)) (by rfl) (pa_cons (pv 0) pa_nil))) (pss_one (ps_expr (pe_cal c_check_fit (hr.mono (by decide)) (by rfl) (pa_cons (pv 0) (pa_cons (pv 1) (pa_cons pe_str pa_nil))))))), fun D hrt hnx => ?_⟩
  have ok : Okk Ω [] := okk0
  suffices hx : XS _ D F0 [some (vr p0), some (va T x1)] (stt Ω [] []) by
    rw [show (stt Ω [] []) = Ω from stt_self (by simp)] at hx
    exact hx
  unfold M_check_one at hm
  obtain ⟨z1, hz1, hm⟩ := bnd_some hm
  refine xs_drop (xe_call (xa_cons (xe_var (i := 0) rfl) xa_nil) ⟨k0, p0, x0, z1, rfl, (stt_getU hk0), hz1, rfl⟩ cal0) ?_
  show XS (tDrop _) _ _ [some (vr p0), some (va T x1)] (stt Ω [] [])
  obtain ⟨z2, hz2, hm⟩ := bnd_some hm
  refine xs_drop1 (xe_call (xa_cons (xe_var (i := 0) rfl) (xa_cons (xe_var (i := 1) rfl) (xa_cons xe_str xa_nil))) ⟨k0, p0, x0, x1, ("x" : Str), z2, rfl, (stt_getU hk0), hz2, rfl⟩ cal0) ?_
  obtain rfl := Option.some.inj hm
  exact fun σ H ⟨F, f0, e, hh⟩ => hnx F σ H _ f0 hh.all ⟨rfl, rfl⟩
noncomputable def M_check_two (x0 : MS) (x1 : Bg) (x2 : Bg) : Option Unit :=
  (M_check_one x0 x1).bind fun z1 => (M_check_fit x0 x2 ("y" : Str)).bind fun z2 => some ()
def Pre_check_two (T : TC) : PreT := fun As Ω R => ∃ (k0 : Nat) (p0 : Addr) (x0 : MS) (x1 : Bg) (x2 : Bg) (r : Unit), As = [vr p0, va T x1, va T x2] ∧ Ω[k0]? = some (machA T p0 x0) ∧ M_check_two x0 x1 x2 = some r ∧ R = RV (va T r) (stt Ω [] [])
theorem sc_check_two : FnScope ["machine", "x", "y"] ["machine", "x", "y"] (defScope s_check_two) := ⟨rfl, rfl, rfl, by decide +kernel, rfl, by decide +kernel, by decide +kernel⟩
theorem ok_check_two {f : Addr} {fd : FuncData} (F : Fun T.K "check_two" "check_two" s_check_two f fd) (c_check_one : Cal P w T.K mg base 3 "check_one" ["machine", "x"] (mkSp (Pre_check_one T))) (c_check_fit : Cal P w T.K mg base 2 "check_fit" ["machine", "value", "name"] (mkSp (Pre_check_fit T))) : FnOk P w T.K mg base CX0 4 f fd ["machine", "x", "y"] (mkSp (Pre_check_two T)) := by
  refine fn_ok F sc_check_two (fun As Ω R h => ?_) (fun cdv A outer s H E hr As Ω R F0 h => ?_)
  · obtain ⟨k0, p0, x0, x1, x2, r, rfl, _⟩ := h
    rfl
  obtain ⟨k0, p0, x0, x1, x2, r, rfl, hk0, hm, rfl⟩ := h
  refine ⟨_, (pss_cons (ps_expr (pe_cal c_check_one (hr.mono (by decide)) (by rfl) (pa_cons (pv 0) (pa_cons (pv 1) pa_nil)))) (pss_one (ps_expr (pe_cal c_check_fit (hr.mono (by decide)) (by rfl) (pa_cons (pv 0) (pa_cons (pv 2) (pa_cons pe_str pa_nil))))))), fun D hrt hnx => ?_⟩
  have ok : Okk Ω [] := okk0
  suffices hx : XS _ D F0 [some (vr p0), some (va T x1), some (va T x2)] (stt Ω [] []) by
    rw [show (stt Ω [] []) = Ω from stt_self (by simp)] at hx
    exact hx
  unfold M_check_two at hm
  obtain ⟨z1, hz1, hm⟩ := bnd_some hm
  refine xs_drop (xe_call (xa_cons (xe_var (i := 0) rfl) (xa_cons (xe_var (i := 1) rfl) xa_nil)) ⟨k0, p0, x0, x1, z1, rfl, (stt_getU hk0), hz1, rfl⟩ cal0) ?_
  show XS (tDrop _) _ _ [some (vr p0), some (va T x1), some (va T x2)] (stt Ω [] [])
  obtain ⟨z2, hz2, hm⟩ := bnd_some hm
  refine xs_drop1 (xe_call (xa_cons (xe_var (i := 0) rfl) (xa_cons (xe_var (i := 2) rfl) (xa_cons xe_str xa_nil))) ⟨k0, p0, x0, x2, ("y" : Str), z2, rfl, (stt_getU hk0), hz2, rfl⟩ cal0) ?_
  obtain rfl := Option.some.inj hm
  exact fun σ H ⟨F, f0, e, hh⟩ => hnx F σ H _ f0 hh.all ⟨rfl, rfl⟩
noncomputable def M_big_of (x0 : MS) (x1 : Int) : Option Bg :=
  (M_size_of x0.w x1).bind fun z1 => (M_row_of 20 x0.w ((x1.natAbs : Nat) : Int) z1).bind fun z2 => some (Bg.mk x0.w z2 x1)
def Pre_big_of (T : TC) : PreT := fun As Ω R => ∃ (k0 : Nat) (p0 : Addr) (x0 : MS) (x1 : Int) (r : Bg), As = [vr p0, va T x1] ∧ Ω[k0]? = some (machA T p0 x0) ∧ M_big_of x0 x1 = some r ∧ R = RV (va T r) (stt Ω [] [])
theorem sc_big_of : FnScope ["machine", "value"] ["machine", "value"] (defScope s_big_of) := ⟨rfl, rfl, rfl, by decide +kernel, rfl, by decide +kernel, by decide +kernel⟩
theorem ok_big_of {f : Addr} {fd : FuncData} (F : Fun T.K "big_of" "big_of" s_big_of f fd) (mc : MCls T.K (T.C 0)) (z_abs : mg "abs" = none) (c_size_of : Cal P w T.K mg base 2 "size_of" ["width", "n"] (mkSp (Pre_size_of T))) (c_row_of : Cal P w T.K mg base 21 "row_of" ["width", "n", "size"] (mkSp (Pre_row_of 20 T))) (c_Big : CalC P w T.K mg base 2 "Big" (T.C 1) ["self", "width", "value", "row"] [] (mkSp (Pre_Big T))) : FnOk P w T.K mg base CX0 22 f fd ["machine", "value"] (mkSp (Pre_big_of T)) := by
  refine fn_ok F sc_big_of (fun As Ω R h => ?_) (fun cdv A outer s H E hr As Ω R F0 h => ?_)
  · obtain ⟨k0, p0, x0, x1, r, rfl, _⟩ := h
    rfl
  obtain ⟨k0, p0, x0, x1, r, rfl, hk0, hm, rfl⟩ := h
  refine ⟨_, (pss_one (ps_ret (pe_calC c_Big (hr.mono (by decide)) (by rfl) (pa_cons (pe_fldK (K := T.K) (pv 0) (by rfl) rfl) (pa_cons (pv 1) (pa_cons (pe_cal c_row_of (hr.mono (by decide)) (by rfl) (pa_cons (pe_fldK (K := T.K) (pv 0) (by rfl) rfl) (pa_cons (pe_callB cr_abs (by rfl) z_abs (by decide +kernel) (pa_cons (pv 1) pa_nil)) (pa_cons (pe_cal c_size_of (hr.mono (by decide)) (by rfl) (pa_cons (pe_fldK (K := T.K) (pv 0) (by rfl) rfl) (pa_cons (pv 1) pa_nil))) pa_nil)))) pa_nil)))))), fun D hrt hnx => ?_⟩
  have ok : Okk Ω [] := okk0
  suffices hx : XS _ D F0 [some (vr p0), some (va T x1)] (stt Ω [] []) by
    rw [show (stt Ω [] []) = Ω from stt_self (by simp)] at hx
    exact hx
  unfold M_big_of at hm
  obtain ⟨z1, hz1, hm⟩ := bnd_some hm
  obtain ⟨z2, hz2, hm⟩ := bnd_some hm
  obtain rfl := Option.some.inj hm
  refine xs_ret (xe_fzB (xn_make (Ds := []) (xa_cons (xe_mw mc.cl mc.nw (xe_var (i := 0) rfl) (stt_getU hk0)) (xa_cons (xe_var (i := 1) rfl) (xa_cons (xe_call (xa_cons (xe_mw mc.cl mc.nw (xe_var (i := 0) rfl) (stt_getU hk0)) (xa_cons (xe_abs (xe_var (i := 1) rfl)) (xa_cons (xe_call (xa_cons (xe_mw mc.cl mc.nw (xe_var (i := 0) rfl) (stt_getU hk0)) (xa_cons (xe_var (i := 1) rfl) xa_nil)) ⟨x0.w, x1, z1, rfl, hz1, rfl⟩ cal0) xa_nil))) ⟨x0.w, ((x1.natAbs : Nat) : Int), z1, z2, rfl, hz2, rfl⟩ cal0) xa_nil))) (fun _ => .nil) (fun q => ⟨_, q, x0.w, x1, z2, _, .inl rfl, rfl, rfl, rfl⟩))) hrt.all
noncomputable def M_are_compact (x0 : MS) (x1 : Int) (x2 : Int) : Option Bool :=
  some ((decide (((Builtin.Int.intBits x1 : Nat) : Int) ≤ x0.w)) && (decide (((Builtin.Int.intBits x2 : Nat) : Int) ≤ x0.w)))
def Pre_are_compact (T : TC) : PreT := fun As Ω R => ∃ (k0 : Nat) (p0 : Addr) (x0 : MS) (x1 : Int) (x2 : Int) (r : Bool), As = [vr p0, va T x1, va T x2] ∧ Ω[k0]? = some (machA T p0 x0) ∧ M_are_compact x0 x1 x2 = some r ∧ R = RV (va T r) (stt Ω [] [])
theorem sc_are_compact : FnScope ["machine", "x", "y"] ["machine", "x", "y"] (defScope s_are_compact) := ⟨rfl, rfl, rfl, by decide +kernel, rfl, by decide +kernel, by decide +kernel⟩
theorem ok_are_compact {f : Addr} {fd : FuncData} (F : Fun T.K "are_compact" "are_compact" s_are_compact f fd) (mc : MCls T.K (T.C 0)) : FnOk P w T.K mg base CX0 2 f fd ["machine", "x", "y"] (mkSp (Pre_are_compact T)) := by
  refine fn_ok F sc_are_compact (fun As Ω R h => ?_) (fun cdv A outer s H E hr As Ω R F0 h => ?_)
  · obtain ⟨k0, p0, x0, x1, x2, r, rfl, _⟩ := h
    rfl
  obtain ⟨k0, p0, x0, x1, x2, r, rfl, hk0, hm, rfl⟩ := h
  refine ⟨_, (pss_one (ps_ret (pe_and (pe_cmpR op_le (pe_bits (pv 1)) (pe_fldK (K := T.K) (pv 0) (by rfl) rfl) (nomark _)) (pe_one (pe_cmpR op_le (pe_bits (pv 2)) (pe_fldK (K := T.K) (pv 0) (by rfl) rfl) (nomark _)))))), fun D hrt hnx => ?_⟩
  have ok : Okk Ω [] := okk0
  suffices hx : XS _ D F0 [some (vr p0), some (va T x1), some (va T x2)] (stt Ω [] []) by
    rw [show (stt Ω [] []) = Ω from stt_self (by simp)] at hx
    exact hx
  unfold M_are_compact at hm
  obtain rfl := Option.some.inj hm
  refine xs_ret (xe_andV (xe_le (xe_bits (xe_var (i := 1) rfl)) (xe_mw mc.cl mc.nw (xe_var (i := 0) rfl) (stt_getU hk0))) (fun _ => (xe_le (xe_bits (xe_var (i := 2) rfl)) (xe_mw mc.cl mc.nw (xe_var (i := 0) rfl) (stt_getU hk0))))) hrt.all
noncomputable def M_big (x0 : MS) (x1 : Int) : Option Bg :=
  (M_check_machine x0).bind fun z1 => (M_is_integer x1).bind fun z2 => (chkP (z2 = true)).bind fun z3 => (M_big_of x0 x1).bind fun z4 => some z4
def Pre_big (T : TC) : PreT := fun As Ω R => ∃ (k0 : Nat) (p0 : Addr) (x0 : MS) (x1 : Int) (r : Bg), As = [vr p0, va T x1] ∧ Ω[k0]? = some (machA T p0 x0) ∧ M_big x0 x1 = some r ∧ R = RV (va T r) (stt Ω [] [])
theorem sc_big : FnScope ["machine", "n"] ["machine", "n"] (defScope s_big) := ⟨rfl, rfl, rfl, by decide +kernel, rfl, by decide +kernel, by decide +kernel⟩
theorem ok_big {f : Addr} {fd : FuncData} (F : Fun T.K "big" "big" s_big f fd) (c_check_machine : Cal P w T.K mg base 1 "check_machine" ["machine"] (mkSp (Pre_check_machine T))) (c_is_integer : Cal P w T.K mg base 1 "is_integer" ["value"] (mkSp (Pre_is_integer T))) (c_big_of : Cal P w T.K mg base 22 "big_of" ["machine", "value"] (mkSp (Pre_big_of T))) : FnOk P w T.K mg base CX0 23 f fd ["machine", "n"] (mkSp (Pre_big T)) := by
  refine fn_ok F sc_big (fun As Ω R h => ?_) (fun cdv A outer s H E hr As Ω R F0 h => ?_)
  · obtain ⟨k0, p0, x0, x1, r, rfl, _⟩ := h
    rfl
  obtain ⟨k0, p0, x0, x1, r, rfl, hk0, hm, rfl⟩ := h
  refine ⟨_, (pss_cons (ps_expr (pe_cal c_check_machine (hr.mono (by decide)) (by rfl) (pa_cons (pv 0) pa_nil))) (pss_cons (ps_if (pt_not (pt_val (pe_cal c_is_integer (hr.mono (by decide)) (by rfl) (pa_cons (pv 1) pa_nil)))) pss_never pss_nil) (pss_one (ps_ret (pe_cal c_big_of (hr.mono (by decide)) (by rfl) (pa_cons (pv 0) (pa_cons (pv 1) pa_nil))))))), fun D hrt hnx => ?_⟩
  have ok : Okk Ω [] := okk0
  suffices hx : XS _ D F0 [some (vr p0), some (va T x1)] (stt Ω [] []) by
    rw [show (stt Ω [] []) = Ω from stt_self (by simp)] at hx
    exact hx
  unfold M_big at hm
  obtain ⟨z1, hz1, hm⟩ := bnd_some hm
  refine xs_drop (xe_call (xa_cons (xe_var (i := 0) rfl) xa_nil) ⟨k0, p0, x0, z1, rfl, (stt_getU hk0), hz1, rfl⟩ cal0) ?_
  show XS (tSeq _ _) _ _ [some (vr p0), some (va T x1)] (stt Ω [] [])
  obtain ⟨z2, hz2, hm⟩ := bnd_some hm
  obtain ⟨z3, hz3, hm⟩ := bnd_some hm
  refine xs_ifN (xt_notF (xt_eq (xt_tB (T := T) (xe_call (xa_cons (xe_var (i := 1) rfl) xa_nil) ⟨x1, z2, rfl, hz2, rfl⟩ cal0)) (chkP_some hz3))) ?_
  show XS (tRet _) _ _ [some (vr p0), some (va T x1)] (stt Ω [] [])
  obtain ⟨z4, hz4, hm⟩ := bnd_some hm
  obtain rfl := Option.some.inj hm
  refine xs_ret (xe_call (xa_cons (xe_var (i := 0) rfl) (xa_cons (xe_var (i := 1) rfl) xa_nil)) ⟨k0, p0, x0, x1, z4, rfl, (stt_getU hk0), hz4, rfl⟩ cal0) hrt.all
noncomputable def M_plain (x0 : Bg) : Option Int :=
  (M_check_big x0 ("x" : Str)).bind fun z1 => some x0.v
def Pre_plain (T : TC) : PreT := fun As Ω R => ∃ (x0 : Bg) (r : Int), As = [va T x0] ∧ M_plain x0 = some r ∧ R = RV (va T r) (stt Ω [] [])
theorem sc_plain : FnScope ["x"] ["x"] (defScope s_plain) := ⟨rfl, rfl, rfl, by decide +kernel, rfl, by decide +kernel, by decide +kernel⟩
theorem ok_plain {f : Addr} {fd : FuncData} (F : Fun T.K "plain" "plain" s_plain f fd) (c_check_big : Cal P w T.K mg base 1 "check_big" ["value", "name"] (mkSp (Pre_check_big T))) (bc : BCls T.K (T.C 1)) : FnOk P w T.K mg base CX0 2 f fd ["x"] (mkSp (Pre_plain T)) := by
  refine fn_ok F sc_plain (fun As Ω R h => ?_) (fun cdv A outer s H E hr As Ω R F0 h => ?_)
  · obtain ⟨x0, r, rfl, _⟩ := h
    rfl
  obtain ⟨x0, r, rfl, hm, rfl⟩ := h
  refine ⟨_, (pss_cons (ps_expr (pe_cal c_check_big (hr.mono (by decide)) (by rfl) (pa_cons (pv 0) (pa_cons pe_str pa_nil)))) (pss_one (ps_ret (pe_fldK (K := T.K) (pv 0) (by rfl) rfl)))), fun D hrt hnx => ?_⟩
  have ok : Okk Ω [] := okk0
  suffices hx : XS _ D F0 [some (va T x0)] (stt Ω [] []) by
    rw [show (stt Ω [] []) = Ω from stt_self (by simp)] at hx
    exact hx
  unfold M_plain at hm
  obtain ⟨z1, hz1, hm⟩ := bnd_some hm
  refine xs_drop (xe_call (xa_cons (xe_var (i := 0) rfl) (xa_cons xe_str xa_nil)) ⟨x0, ("x" : Str), z1, rfl, hz1, rfl⟩ cal0) ?_
  show XS (tRet _) _ _ [some (va T x0)] (stt Ω [] [])
  obtain rfl := Option.some.inj hm
  refine xs_ret (xe_bv bc.cl bc.nv (xe_var (i := 0) rfl)) hrt.all
noncomputable def M_product_by_rows (x0 : MS) (x1 : Int) (x2 : Int) (x3 : Int) (x4 : Int) : Option (Int × MS) :=
  (chkP (IntMulOk x2 x4)).bind fun z1 => (chkP (("product" : Str) ∈ mwords)).bind fun z2 => (chkP (IntMulOk x1 x3)).bind fun z3 => some ((x1 * x3), ((x0.enter ("rows" : Str) x2 x4).step ("product" : Str) (x2 * x4)))
def Pre_product_by_rows (T : TC) : PreT := fun As Ω R => ∃ (k0 : Nat) (p0 : Addr) (x0 : MS) (x1 : Int) (x2 : Int) (x3 : Int) (x4 : Int) (r : Int × MS), As = [vr p0, va T x1, va T x2, va T x3, va T x4] ∧ Ω[k0]? = some (machA T p0 x0) ∧ M_product_by_rows x0 x1 x2 x3 x4 = some r ∧ R = RV (va T r.1) (stt Ω [(k0, machA T p0 r.2)] [])
theorem sc_product_by_rows : FnScope ["machine", "a", "m", "b", "n"] ["machine", "a", "m", "b", "n"] (defScope s_product_by_rows) := ⟨rfl, rfl, rfl, by decide +kernel, rfl, by decide +kernel, by decide +kernel⟩
theorem ok_product_by_rows {f : Addr} {fd : FuncData} (F : Fun T.K "product_by_rows" "product_by_rows" s_product_by_rows f fd) (mc : MCls T.K (T.C 0)) (c_Mach_enter : CalM P w T.K mg base 1 (T.C 0) "enter" ["self", "word", "m", "n"] (mkSp (Pre_Mach_enter T))) (c_Mach_step : CalM P w T.K mg base 1 (T.C 0) "step" ["self", "word", "many"] (mkSp (Pre_Mach_step T))) : FnOk P w T.K mg base CX0 2 f fd ["machine", "a", "m", "b", "n"] (mkSp (Pre_product_by_rows T)) := by
  refine fn_ok F sc_product_by_rows (fun As Ω R h => ?_) (fun cdv A outer s H E hr As Ω R F0 h => ?_)
  · obtain ⟨k0, p0, x0, x1, x2, x3, x4, r, rfl, _⟩ := h
    rfl
  obtain ⟨k0, p0, x0, x1, x2, x3, x4, r, rfl, hk0, hm, rfl⟩ := h
  refine ⟨_, (pss_cons (ps_expr (pe_calM (pv 0) c_Mach_enter (hr.mono (by decide)) (pa_cons pe_str (pa_cons (pv 2) (pa_cons (pv 4) pa_nil))))) (pss_cons (ps_expr (pe_calM (pv 0) c_Mach_step (hr.mono (by decide)) (pa_cons pe_str (pa_cons (pe_op op_mulQ (pv 2) (pv 4)) pa_nil)))) (pss_one (ps_ret (pe_op op_mulQ (pv 1) (pv 3)))))), fun D hrt hnx => ?_⟩
  have ok := okk1 hk0
  suffices hx : XS _ D F0 [some (vr p0), some (va T x1), some (va T x2), some (va T x3), some (va T x4)] (stt Ω [(k0, machA T p0 x0)] []) by
    rw [show (stt Ω [(k0, machA T p0 x0)] []) = Ω from stt_self (by simp [hk0])] at hx
    exact hx
  unfold M_product_by_rows at hm
  refine xs_drop (xe_mcall (xe_var (i := 0) rfl) (stt_get ok (i := 0) rfl) (xa_cons xe_str (xa_cons (xe_var (i := 2) rfl) (xa_cons (xe_var (i := 4) rfl) xa_nil))) ⟨k0, p0, x0, ("rows" : Str), x2, x4, rfl, (stt_get ok (i := 0) rfl), rfl⟩ (cal1 ok (i := 0) rfl)) ?_
  show XS (tSeq _ _) _ _ [some (vr p0), some (va T x1), some (va T x2), some (va T x3), some (va T x4)] (stt Ω [(k0, machA T p0 (x0.enter ("rows" : Str) x2 x4))] [])
  obtain ⟨z1, hz1, hm⟩ := bnd_some hm
  obtain ⟨z2, hz2, hm⟩ := bnd_some hm
  refine xs_drop (xe_mcall (xe_var (i := 0) rfl) (stt_get ok (i := 0) rfl) (xa_cons xe_str (xa_cons (xe_mul (chkP_some hz1) (xe_var (i := 2) rfl) (xe_var (i := 4) rfl)) xa_nil)) ⟨k0, p0, (x0.enter ("rows" : Str) x2 x4), ("product" : Str), (x2 * x4), rfl, (stt_get ok (i := 0) rfl), chkP_some hz2, rfl⟩ (cal1 ok (i := 0) rfl)) ?_
  show XS (tRet _) _ _ [some (vr p0), some (va T x1), some (va T x2), some (va T x3), some (va T x4)] (stt Ω [(k0, machA T p0 ((x0.enter ("rows" : Str) x2 x4).step ("product" : Str) (x2 * x4)))] [])
  obtain ⟨z3, hz3, hm⟩ := bnd_some hm
  obtain rfl := Option.some.inj hm
  refine xs_ret (xe_mul (chkP_some hz3) (xe_var (i := 1) rfl) (xe_var (i := 3) rfl)) hrt.all
noncomputable def M_square_of_row (x0 : MS) (x1 : Int) (x2 : Int) : Option (Int × MS) :=
  (chkP (IntMulOk x2 (x2 + (1 : Int)))).bind fun z1 => (chkP (CDivW (x2 * (x2 + (1 : Int))) (2 : Int))).bind fun z2 => (chkP (("product" : Str) ∈ mwords)).bind fun z3 => (chkP (IntMulOk x1 x1)).bind fun z4 => some ((x1 * x1), ((x0.enter ("square" : Str) x2 x2).step ("product" : Str) ((x2 * (x2 + (1 : Int))) / (2 : Int))))
def Pre_square_of_row (T : TC) : PreT := fun As Ω R => ∃ (k0 : Nat) (p0 : Addr) (x0 : MS) (x1 : Int) (x2 : Int) (r : Int × MS), As = [vr p0, va T x1, va T x2] ∧ Ω[k0]? = some (machA T p0 x0) ∧ M_square_of_row x0 x1 x2 = some r ∧ R = RV (va T r.1) (stt Ω [(k0, machA T p0 r.2)] [])
theorem sc_square_of_row : FnScope ["machine", "a", "m"] ["machine", "a", "m"] (defScope s_square_of_row) := ⟨rfl, rfl, rfl, by decide +kernel, rfl, by decide +kernel, by decide +kernel⟩
theorem ok_square_of_row {f : Addr} {fd : FuncData} (F : Fun T.K "square_of_row" "square_of_row" s_square_of_row f fd) (mc : MCls T.K (T.C 0)) (c_Mach_enter : CalM P w T.K mg base 1 (T.C 0) "enter" ["self", "word", "m", "n"] (mkSp (Pre_Mach_enter T))) (c_Mach_step : CalM P w T.K mg base 1 (T.C 0) "step" ["self", "word", "many"] (mkSp (Pre_Mach_step T))) : FnOk P w T.K mg base CX0 2 f fd ["machine", "a", "m"] (mkSp (Pre_square_of_row T)) := by
  refine fn_ok F sc_square_of_row (fun As Ω R h => ?_) (fun cdv A outer s H E hr As Ω R F0 h => ?_)
  · obtain ⟨k0, p0, x0, x1, x2, r, rfl, _⟩ := h
    rfl
  obtain ⟨k0, p0, x0, x1, x2, r, rfl, hk0, hm, rfl⟩ := h
  refine ⟨_, (pss_cons (ps_expr (pe_calM (pv 0) c_Mach_enter (hr.mono (by decide)) (pa_cons pe_str (pa_cons (pv 2) (pa_cons (pv 2) pa_nil))))) (pss_cons (ps_expr (pe_calM (pv 0) c_Mach_step (hr.mono (by decide)) (pa_cons pe_str (pa_cons (pe_op op_fdivW (pe_op op_mulQ (pv 2) (pe_op op_addQ (pv 2) pe_int)) pe_int) pa_nil)))) (pss_one (ps_ret (pe_op op_mulQ (pv 1) (pv 1)))))), fun D hrt hnx => ?_⟩
  have ok := okk1 hk0
  suffices hx : XS _ D F0 [some (vr p0), some (va T x1), some (va T x2)] (stt Ω [(k0, machA T p0 x0)] []) by
    rw [show (stt Ω [(k0, machA T p0 x0)] []) = Ω from stt_self (by simp [hk0])] at hx
    exact hx
  unfold M_square_of_row at hm
  refine xs_drop (xe_mcall (xe_var (i := 0) rfl) (stt_get ok (i := 0) rfl) (xa_cons xe_str (xa_cons (xe_var (i := 2) rfl) (xa_cons (xe_var (i := 2) rfl) xa_nil))) ⟨k0, p0, x0, ("square" : Str), x2, x2, rfl, (stt_get ok (i := 0) rfl), rfl⟩ (cal1 ok (i := 0) rfl)) ?_
  show XS (tSeq _ _) _ _ [some (vr p0), some (va T x1), some (va T x2)] (stt Ω [(k0, machA T p0 (x0.enter ("square" : Str) x2 x2))] [])
  obtain ⟨z1, hz1, hm⟩ := bnd_some hm
  obtain ⟨z2, hz2, hm⟩ := bnd_some hm
  obtain ⟨z3, hz3, hm⟩ := bnd_some hm
  refine xs_drop (xe_mcall (xe_var (i := 0) rfl) (stt_get ok (i := 0) rfl) (xa_cons xe_str (xa_cons (xe_fdiv (chkP_some hz2) (xe_mul (chkP_some hz1) (xe_var (i := 2) rfl) (xe_add (xe_var (i := 2) rfl) xe_int)) xe_int) xa_nil)) ⟨k0, p0, (x0.enter ("square" : Str) x2 x2), ("product" : Str), ((x2 * (x2 + (1 : Int))) / (2 : Int)), rfl, (stt_get ok (i := 0) rfl), chkP_some hz3, rfl⟩ (cal1 ok (i := 0) rfl)) ?_
  show XS (tRet _) _ _ [some (vr p0), some (va T x1), some (va T x2)] (stt Ω [(k0, machA T p0 ((x0.enter ("square" : Str) x2 x2).step ("product" : Str) ((x2 * (x2 + (1 : Int))) / (2 : Int))))] [])
  obtain ⟨z4, hz4, hm⟩ := bnd_some hm
  obtain rfl := Option.some.inj hm
  refine xs_ret (xe_mul (chkP_some hz4) (xe_var (i := 1) rfl) (xe_var (i := 1) rfl)) hrt.all
noncomputable def M_added (x0 : MS) (x1 : Int) (x2 : Int) (x3 : Int) (x4 : Int) : Option (Int × MS) :=
  (chkP (("sum" : Str) ∈ mwords)).bind fun z1 => some ((x1 + x3), ((x0.enter ("add" : Str) x2 x4).step ("sum" : Str) (max x2 x4)))
def Pre_added (T : TC) : PreT := fun As Ω R => ∃ (k0 : Nat) (p0 : Addr) (x0 : MS) (x1 : Int) (x2 : Int) (x3 : Int) (x4 : Int) (r : Int × MS), As = [vr p0, va T x1, va T x2, va T x3, va T x4] ∧ Ω[k0]? = some (machA T p0 x0) ∧ M_added x0 x1 x2 x3 x4 = some r ∧ R = RV (va T r.1) (stt Ω [(k0, machA T p0 r.2)] [])
theorem sc_added : FnScope ["machine", "a", "m", "b", "n"] ["machine", "a", "m", "b", "n"] (defScope s_added) := ⟨rfl, rfl, rfl, by decide +kernel, rfl, by decide +kernel, by decide +kernel⟩
theorem ok_added {f : Addr} {fd : FuncData} (F : Fun T.K "added" "added" s_added f fd) (mc : MCls T.K (T.C 0)) (c_Mach_enter : CalM P w T.K mg base 1 (T.C 0) "enter" ["self", "word", "m", "n"] (mkSp (Pre_Mach_enter T))) (z_max : mg "max" = none) (c_Mach_step : CalM P w T.K mg base 1 (T.C 0) "step" ["self", "word", "many"] (mkSp (Pre_Mach_step T))) : FnOk P w T.K mg base CX0 2 f fd ["machine", "a", "m", "b", "n"] (mkSp (Pre_added T)) := by
  refine fn_ok F sc_added (fun As Ω R h => ?_) (fun cdv A outer s H E hr As Ω R F0 h => ?_)
  · obtain ⟨k0, p0, x0, x1, x2, x3, x4, r, rfl, _⟩ := h
    rfl
  obtain ⟨k0, p0, x0, x1, x2, x3, x4, r, rfl, hk0, hm, rfl⟩ := h
  refine ⟨_, (pss_cons (ps_expr (pe_calM (pv 0) c_Mach_enter (hr.mono (by decide)) (pa_cons pe_str (pa_cons (pv 2) (pa_cons (pv 4) pa_nil))))) (pss_cons (ps_expr (pe_calM (pv 0) c_Mach_step (hr.mono (by decide)) (pa_cons pe_str (pa_cons (pe_callB (cr_max2 rfl) (by rfl) z_max (by decide +kernel) (pa_cons (pv 2) (pa_cons (pv 4) pa_nil))) pa_nil)))) (pss_one (ps_ret (pe_op op_addQ (pv 1) (pv 3)))))), fun D hrt hnx => ?_⟩
  have ok := okk1 hk0
  suffices hx : XS _ D F0 [some (vr p0), some (va T x1), some (va T x2), some (va T x3), some (va T x4)] (stt Ω [(k0, machA T p0 x0)] []) by
    rw [show (stt Ω [(k0, machA T p0 x0)] []) = Ω from stt_self (by simp [hk0])] at hx
    exact hx
  unfold M_added at hm
  refine xs_drop (xe_mcall (xe_var (i := 0) rfl) (stt_get ok (i := 0) rfl) (xa_cons xe_str (xa_cons (xe_var (i := 2) rfl) (xa_cons (xe_var (i := 4) rfl) xa_nil))) ⟨k0, p0, x0, ("add" : Str), x2, x4, rfl, (stt_get ok (i := 0) rfl), rfl⟩ (cal1 ok (i := 0) rfl)) ?_
  show XS (tSeq _ _) _ _ [some (vr p0), some (va T x1), some (va T x2), some (va T x3), some (va T x4)] (stt Ω [(k0, machA T p0 (x0.enter ("add" : Str) x2 x4))] [])
  obtain ⟨z1, hz1, hm⟩ := bnd_some hm
  refine xs_drop (xe_mcall (xe_var (i := 0) rfl) (stt_get ok (i := 0) rfl) (xa_cons xe_str (xa_cons (xe_max2 (xe_var (i := 2) rfl) (xe_var (i := 4) rfl)) xa_nil)) ⟨k0, p0, (x0.enter ("add" : Str) x2 x4), ("sum" : Str), (max x2 x4), rfl, (stt_get ok (i := 0) rfl), chkP_some hz1, rfl⟩ (cal1 ok (i := 0) rfl)) ?_
  show XS (tRet _) _ _ [some (vr p0), some (va T x1), some (va T x2), some (va T x3), some (va T x4)] (stt Ω [(k0, machA T p0 ((x0.enter ("add" : Str) x2 x4).step ("sum" : Str) (max x2 x4)))] [])
  obtain rfl := Option.some.inj hm
  refine xs_ret (xe_add (xe_var (i := 1) rfl) (xe_var (i := 3) rfl)) hrt.all
noncomputable def M_joined_room (x0 : MS) (x1 : Int) (x2 : Int) (x3 : Int) (x4 : Int) (x5 : Int) : Option (Int × MS) :=
  (chkP (IntMulOk x5 x3)).bind fun z1 => (some (x1 + (x5 * x3))).bind fun y2 => (chkP (IntMulOk x4 ((x0.enter (if (decide (x5 = (1 : Int))) = true then ("add into" : Str) else ("take from" : Str)) x2 x4).w))).bind fun z3 => (chkP (0 ≤ (x4 * ((x0.enter (if (decide (x5 = (1 : Int))) = true then ("add into" : Str) else ("take from" : Str)) x2 x4).w)))).bind fun z4 => (some ((Builtin.bitXor y2 x1) / 2 ^ ((x4 * ((x0.enter (if (decide (x5 = (1 : Int))) = true then ("add into" : Str) else ("take from" : Str)) x2 x4).w))).toNat)).bind fun y5 => (if (!decide (y5 = (0 : Int))) = true then (M_low_part ((x0.enter (if (decide (x5 = (1 : Int))) = true then ("add into" : Str) else ("take from" : Str)) x2 x4).w) y5 (x2 - x4)).bind fun z6 => (M_size_of ((x0.enter (if (decide (x5 = (1 : Int))) = true then ("add into" : Str) else ("take from" : Str)) x2 x4).w) z6).bind fun z7 => (some (x4 + z7)).bind fun y8 => some y8 else some x4).bind fun z11 => (chkP (("sum" : Str) ∈ mwords)).bind fun z12 => some (y2, ((x0.enter (if (decide (x5 = (1 : Int))) = true then ("add into" : Str) else ("take from" : Str)) x2 x4).step ("sum" : Str) z11))
def Pre_joined_room (T : TC) : PreT := fun As Ω R => ∃ (k0 : Nat) (p0 : Addr) (x0 : MS) (x1 : Int) (x2 : Int) (x3 : Int) (x4 : Int) (x5 : Int) (r : Int × MS), As = [vr p0, va T x1, va T x2, va T x3, va T x4, va T x5] ∧ Ω[k0]? = some (machA T p0 x0) ∧ M_joined_room x0 x1 x2 x3 x4 x5 = some r ∧ R = RV (va T r.1) (stt Ω [(k0, machA T p0 r.2)] [])
theorem sc_joined_room : FnScope ["machine", "room", "r", "more", "p", "turn", "total", "changed"] ["machine", "room", "r", "more", "p", "turn"] (defScope s_joined_room) := ⟨rfl, rfl, rfl, by decide +kernel, rfl, by decide +kernel, by decide +kernel⟩
theorem ok_joined_room {f : Addr} {fd : FuncData} (F : Fun T.K "joined_room" "joined_room" s_joined_room f fd) (mc : MCls T.K (T.C 0)) (c_Mach_enter : CalM P w T.K mg base 1 (T.C 0) "enter" ["self", "word", "m", "n"] (mkSp (Pre_Mach_enter T))) (c_low_part : Cal P w T.K mg base 1 "low_part" ["width", "n", "size"] (mkSp (Pre_low_part T))) (c_size_of : Cal P w T.K mg base 2 "size_of" ["width", "n"] (mkSp (Pre_size_of T))) (c_Mach_step : CalM P w T.K mg base 1 (T.C 0) "step" ["self", "word", "many"] (mkSp (Pre_Mach_step T))) : FnOk P w T.K mg base CX0 3 f fd ["machine", "room", "r", "more", "p", "turn"] (mkSp (Pre_joined_room T)) := by
  refine fn_ok F sc_joined_room (fun As Ω R h => ?_) (fun cdv A outer s H E hr As Ω R F0 h => ?_)
  · obtain ⟨k0, p0, x0, x1, x2, x3, x4, x5, r, rfl, _⟩ := h
    rfl
  obtain ⟨k0, p0, x0, x1, x2, x3, x4, x5, r, rfl, hk0, hm, rfl⟩ := h
  refine ⟨_, (pss_cons (ps_expr (pe_calM (pv 0) c_Mach_enter (hr.mono (by decide)) (pa_cons (pe_ifExp (pt_cmpR (op_eqXK (K := T.K) (by exact hr.units) rfl) (pv 5) pe_int (nomark _)) pe_str pe_str) (pa_cons (pv 2) (pa_cons (pv 4) pa_nil))))) (pss_cons (ps_set (i := 6) sc_joined_room.nd rfl (.inl rfl) (pe_op op_addQ (pv 1) (pe_op op_mulQ (pv 5) (pv 3)))) (pss_cons (ps_set (i := 7) sc_joined_room.nd rfl (.inl rfl) (pe_op op_shr (pe_op op_xor (pv 6) (pv 1)) (pe_op op_mulQ (pv 4) (pe_fldK (K := T.K) (pv 0) (by rfl) rfl)))) (Evl.pss_cut (ps_if (pt_cmpR (op_neXK (K := T.K) (by exact hr.units) rfl) (pv 7) pe_int (nomark _)) (pss_one (ps_aug (i := 4) sc_joined_room.nd rfl (.inl rfl) (pe_cal c_size_of (hr.mono (by decide)) (by rfl) (pa_cons (pe_fldK (K := T.K) (pv 0) (by rfl) rfl) (pa_cons (pe_cal c_low_part (hr.mono (by decide)) (by rfl) (pa_cons (pe_fldK (K := T.K) (pv 0) (by rfl) rfl) (pa_cons (pv 7) (pa_cons (pe_op op_sub (pv 2) (pv 4)) pa_nil)))) pa_nil))) (ip_of iop_add))) pss_nil) (pss_cons (ps_expr (pe_calM (pv 0) c_Mach_step (hr.mono (by decide)) (pa_cons pe_str (pa_cons (pv 4) pa_nil)))) (pss_one (ps_ret (pv 6)))))))), fun D hrt hnx => ?_⟩
  have ok := okk1 hk0
  suffices hx : XS _ D F0 [some (vr p0), some (va T x1), some (va T x2), some (va T x3), some (va T x4), some (va T x5), none, none] (stt Ω [(k0, machA T p0 x0)] []) by
    rw [show (stt Ω [(k0, machA T p0 x0)] []) = Ω from stt_self (by simp [hk0])] at hx
    exact hx
  unfold M_joined_room at hm
  refine xs_drop (xe_mcall (xe_var (i := 0) rfl) (stt_get ok (i := 0) rfl) (xa_cons (xe_ite (xt_test (T := T) (xe_eqI (xe_var (i := 5) rfl) xe_int)) xe_str xe_str) (xa_cons (xe_var (i := 2) rfl) (xa_cons (xe_var (i := 4) rfl) xa_nil))) ⟨k0, p0, x0, (if (decide (x5 = (1 : Int))) = true then ("add into" : Str) else ("take from" : Str)), x2, x4, rfl, (stt_get ok (i := 0) rfl), rfl⟩ (cal1 ok (i := 0) rfl)) ?_
  show XS (tSeq _ _) _ _ [some (vr p0), some (va T x1), some (va T x2), some (va T x3), some (va T x4), some (va T x5), none, none] (stt Ω [(k0, machA T p0 (x0.enter (if (decide (x5 = (1 : Int))) = true then ("add into" : Str) else ("take from" : Str)) x2 x4))] [])
  obtain ⟨z1, hz1, hm⟩ := bnd_some hm
  obtain ⟨y2, hy2, hm⟩ := bnd_some hm
  refine xs_set (A := va T y2) (xe_eq (xe_add (xe_var (i := 1) rfl) (xe_mul (chkP_some hz1) (xe_var (i := 5) rfl) (xe_var (i := 3) rfl))) (Option.some.inj hy2)) ?_
  show XS (tSeq _ _) _ _ [some (vr p0), some (va T x1), some (va T x2), some (va T x3), some (va T x4), some (va T x5), some (va T y2), none] (stt Ω [(k0, machA T p0 (x0.enter (if (decide (x5 = (1 : Int))) = true then ("add into" : Str) else ("take from" : Str)) x2 x4))] [])
  obtain ⟨z3, hz3, hm⟩ := bnd_some hm
  obtain ⟨z4, hz4, hm⟩ := bnd_some hm
  obtain ⟨y5, hy5, hm⟩ := bnd_some hm
  refine xs_set (A := va T y5) (xe_eq (xe_shr (chkP_some hz4) (xe_bxor (xe_var (i := 6) rfl) (xe_var (i := 1) rfl)) (xe_mul (chkP_some hz3) (xe_var (i := 4) rfl) (xe_mw mc.cl mc.nw (xe_var (i := 0) rfl) (stt_get ok (i := 0) rfl)))) (Option.some.inj hy5)) ?_
  show XS (Evl.tCut _ _) _ _ [some (vr p0), some (va T x1), some (va T x2), some (va T x3), some (va T x4), some (va T x5), some (va T y2), some (va T y5)] (stt Ω [(k0, machA T p0 (x0.enter (if (decide (x5 = (1 : Int))) = true then ("add into" : Str) else ("take from" : Str)) x2 x4))] [])
  obtain ⟨z11, hz11, hm⟩ := bnd_some hm
  refine xs_cut (Γ' := [some (vr p0), some (va T x1), some (va T x2), some (va T x3), some (va T z11), some (va T x5), some (va T y2), some (va T y5)]) (Ω' := (stt Ω [(k0, machA T p0 (x0.enter (if (decide (x5 = (1 : Int))) = true then ("add into" : Str) else ("take from" : Str)) x2 x4))] [])) ?_ ?_
  · clear hm
    have hm := hz11
    clear hz11
    by_cases hc : (!decide (y5 = (0 : Int))) = true
    · rw [if_pos hc] at hm
      refine xs_ifT1 (xt_eq (xt_test (T := T) (xe_neI (xe_var (i := 7) rfl) xe_int)) hc) ?_
      obtain ⟨z6, hz6, hm⟩ := bnd_some hm
      obtain ⟨z7, hz7, hm⟩ := bnd_some hm
      obtain ⟨y8, hy8, hm⟩ := bnd_some hm
      refine xs_augI1 (T := T) rfl (xe_call (xa_cons (xe_mw mc.cl mc.nw (xe_var (i := 0) rfl) (stt_get ok (i := 0) rfl)) (xa_cons (xe_call (xa_cons (xe_mw mc.cl mc.nw (xe_var (i := 0) rfl) (stt_get ok (i := 0) rfl)) (xa_cons (xe_var (i := 7) rfl) (xa_cons (xe_sub (xe_var (i := 2) rfl) (xe_var (i := 4) rfl)) xa_nil))) ⟨(x0.enter (if (decide (x5 = (1 : Int))) = true then ("add into" : Str) else ("take from" : Str)) x2 x4).w, y5, (x2 - x4), z6, rfl, hz6, rfl⟩ cal0) xa_nil)) ⟨(x0.enter (if (decide (x5 = (1 : Int))) = true then ("add into" : Str) else ("take from" : Str)) x2 x4).w, z6, z7, rfl, hz7, rfl⟩ cal0) (Option.some.inj hy8) ?_
      obtain rfl := Option.some.inj hm
      exact fun σ H n => n
    · rw [if_neg hc] at hm
      refine xs_ifF1 (xt_eq (xt_test (T := T) (xe_neI (xe_var (i := 7) rfl) xe_int)) (nt hc)) ?_
      obtain rfl := Option.some.inj hm
      exact fun σ H n => n
  · obtain ⟨z12, hz12, hm⟩ := bnd_some hm
    refine xs_drop (xe_mcall (xe_var (i := 0) rfl) (stt_get ok (i := 0) rfl) (xa_cons xe_str (xa_cons (xe_var (i := 4) rfl) xa_nil)) ⟨k0, p0, (x0.enter (if (decide (x5 = (1 : Int))) = true then ("add into" : Str) else ("take from" : Str)) x2 x4), ("sum" : Str), z11, rfl, (stt_get ok (i := 0) rfl), chkP_some hz12, rfl⟩ (cal1 ok (i := 0) rfl)) ?_
    show XS (tRet _) _ _ [some (vr p0), some (va T x1), some (va T x2), some (va T x3), some (va T z11), some (va T x5), some (va T y2), some (va T y5)] (stt Ω [(k0, machA T p0 ((x0.enter (if (decide (x5 = (1 : Int))) = true then ("add into" : Str) else ("take from" : Str)) x2 x4).step ("sum" : Str) z11))] [])
    obtain rfl := Option.some.inj hm
    refine xs_ret (xe_var (i := 6) rfl) hrt.all
noncomputable def M_parts_of (x0 : MS) (x1 : Int) (x2 : Int) : Option (T4 Int Int Int Int) :=
  (M_low_part x0.w x1 x2).bind fun z1 => (chkP (IntMulOk x2 x0.w)).bind fun z2 => (chkP (0 ≤ (x2 * x0.w))).bind fun z3 => (some (x1 / 2 ^ ((x2 * x0.w)).toNat)).bind fun y4 => (M_size_of x0.w z1).bind fun z5 => (M_size_of x0.w y4).bind fun z6 => some (T4.mk z1 z5 y4 z6)
def Pre_parts_of (T : TC) : PreT := fun As Ω R => ∃ (k0 : Nat) (p0 : Addr) (x0 : MS) (x1 : Int) (x2 : Int) (r : (T4 Int Int Int Int)), As = [vr p0, va T x1, va T x2] ∧ Ω[k0]? = some (machA T p0 x0) ∧ M_parts_of x0 x1 x2 = some r ∧ R = RV (va T r) (stt Ω [] [])
theorem sc_parts_of : FnScope ["machine", "a", "cut", "low", "high"] ["machine", "a", "cut"] (defScope s_parts_of) := ⟨rfl, rfl, rfl, by decide +kernel, rfl, by decide +kernel, by decide +kernel⟩
theorem ok_parts_of {f : Addr} {fd : FuncData} (F : Fun T.K "parts_of" "parts_of" s_parts_of f fd) (mc : MCls T.K (T.C 0)) (c_low_part : Cal P w T.K mg base 1 "low_part" ["width", "n", "size"] (mkSp (Pre_low_part T))) (c_size_of : Cal P w T.K mg base 2 "size_of" ["width", "n"] (mkSp (Pre_size_of T))) : FnOk P w T.K mg base CX0 3 f fd ["machine", "a", "cut"] (mkSp (Pre_parts_of T)) := by
  refine fn_ok F sc_parts_of (fun As Ω R h => ?_) (fun cdv A outer s H E hr As Ω R F0 h => ?_)
  · obtain ⟨k0, p0, x0, x1, x2, r, rfl, _⟩ := h
    rfl
  obtain ⟨k0, p0, x0, x1, x2, r, rfl, hk0, hm, rfl⟩ := h
  refine ⟨_, (pss_cons (ps_set (i := 3) sc_parts_of.nd rfl (.inl rfl) (pe_cal c_low_part (hr.mono (by decide)) (by rfl) (pa_cons (pe_fldK (K := T.K) (pv 0) (by rfl) rfl) (pa_cons (pv 1) (pa_cons (pv 2) pa_nil))))) (pss_cons (ps_set (i := 4) sc_parts_of.nd rfl (.inl rfl) (pe_op op_shr (pv 1) (pe_op op_mulQ (pv 2) (pe_fldK (K := T.K) (pv 0) (by rfl) rfl)))) (pss_one (ps_ret (pe_tup (pa_cons (pv 3) (pa_cons (pe_cal c_size_of (hr.mono (by decide)) (by rfl) (pa_cons (pe_fldK (K := T.K) (pv 0) (by rfl) rfl) (pa_cons (pv 3) pa_nil))) (pa_cons (pv 4) (pa_cons (pe_cal c_size_of (hr.mono (by decide)) (by rfl) (pa_cons (pe_fldK (K := T.K) (pv 0) (by rfl) rfl) (pa_cons (pv 4) pa_nil))) pa_nil))))))))), fun D hrt hnx => ?_⟩
  have ok : Okk Ω [] := okk0
  suffices hx : XS _ D F0 [some (vr p0), some (va T x1), some (va T x2), none, none] (stt Ω [] []) by
    rw [show (stt Ω [] []) = Ω from stt_self (by simp)] at hx
    exact hx
  unfold M_parts_of at hm
  obtain ⟨z1, hz1, hm⟩ := bnd_some hm
  refine xs_set (A := va T z1) (xe_call (xa_cons (xe_mw mc.cl mc.nw (xe_var (i := 0) rfl) (stt_getU hk0)) (xa_cons (xe_var (i := 1) rfl) (xa_cons (xe_var (i := 2) rfl) xa_nil))) ⟨x0.w, x1, x2, z1, rfl, hz1, rfl⟩ cal0) ?_
  show XS (tSeq _ _) _ _ [some (vr p0), some (va T x1), some (va T x2), some (va T z1), none] (stt Ω [] [])
  obtain ⟨z2, hz2, hm⟩ := bnd_some hm
  obtain ⟨z3, hz3, hm⟩ := bnd_some hm
  obtain ⟨y4, hy4, hm⟩ := bnd_some hm
  refine xs_set (A := va T y4) (xe_eq (xe_shr (chkP_some hz3) (xe_var (i := 1) rfl) (xe_mul (chkP_some hz2) (xe_var (i := 2) rfl) (xe_mw mc.cl mc.nw (xe_var (i := 0) rfl) (stt_getU hk0)))) (Option.some.inj hy4)) ?_
  show XS (tRet _) _ _ [some (vr p0), some (va T x1), some (va T x2), some (va T z1), some (va T y4)] (stt Ω [] [])
  obtain ⟨z5, hz5, hm⟩ := bnd_some hm
  obtain ⟨z6, hz6, hm⟩ := bnd_some hm
  obtain rfl := Option.some.inj hm
  refine xs_ret (xe_tup4 (xa_cons (xe_var (i := 3) rfl) (xa_cons (xe_call (xa_cons (xe_mw mc.cl mc.nw (xe_var (i := 0) rfl) (stt_getU hk0)) (xa_cons (xe_var (i := 3) rfl) xa_nil)) ⟨x0.w, z1, z5, rfl, hz5, rfl⟩ cal0) (xa_cons (xe_var (i := 4) rfl) (xa_cons (xe_call (xa_cons (xe_mw mc.cl mc.nw (xe_var (i := 0) rfl) (stt_getU hk0)) (xa_cons (xe_var (i := 4) rfl) xa_nil)) ⟨x0.w, y4, z6, rfl, hz6, rfl⟩ cal0) xa_nil))))) hrt.all
noncomputable def M_room_above (x0 : MS) (x1 : Int) (x2 : Int) (x3 : Int) (x4 : Int) : Option (Int × MS) :=
  (chkP (IntMulOk x2 x0.w)).bind fun z1 => (chkP (0 ≤ (x2 * x0.w))).bind fun z2 => (chkP (IntMulOk x2 x0.w)).bind fun z3 => (chkP (CShl x4 (x2 * x0.w))).bind fun z4 => (some ((x3 / 2 ^ ((x2 * x0.w)).toNat) + (x4 * 2 ^ ((x2 * x0.w)).toNat))).bind fun y5 => (M_size_of x0.w x3).bind fun z6 => (M_joined_room x0 y5 x1 x3 z6 (-(1 : Int))).bind fun z7 => (M_size_of z7.2.w x4).bind fun z8 => (M_joined_room z7.2 z7.1 x1 x4 z8 (-(1 : Int))).bind fun z9 => some (z9.1, z9.2)
def Pre_room_above (T : TC) : PreT := fun As Ω R => ∃ (k0 : Nat) (p0 : Addr) (x0 : MS) (x1 : Int) (x2 : Int) (x3 : Int) (x4 : Int) (r : Int × MS), As = [vr p0, va T x1, va T x2, va T x3, va T x4] ∧ Ω[k0]? = some (machA T p0 x0) ∧ M_room_above x0 x1 x2 x3 x4 = some r ∧ R = RV (va T r.1) (stt Ω [(k0, machA T p0 r.2)] [])
theorem sc_room_above : FnScope ["machine", "size", "cut", "low", "high", "width", "above"] ["machine", "size", "cut", "low", "high"] (defScope s_room_above) := ⟨rfl, rfl, rfl, by decide +kernel, rfl, by decide +kernel, by decide +kernel⟩
theorem ok_room_above {f : Addr} {fd : FuncData} (F : Fun T.K "room_above" "room_above" s_room_above f fd) (mc : MCls T.K (T.C 0)) (c_size_of : Cal P w T.K mg base 2 "size_of" ["width", "n"] (mkSp (Pre_size_of T))) (c_joined_room : Cal P w T.K mg base 3 "joined_room" ["machine", "room", "r", "more", "p", "turn"] (mkSp (Pre_joined_room T))) : FnOk P w T.K mg base CX0 4 f fd ["machine", "size", "cut", "low", "high"] (mkSp (Pre_room_above T)) := by
  refine fn_ok F sc_room_above (fun As Ω R h => ?_) (fun cdv A outer s H E hr As Ω R F0 h => ?_)
  · obtain ⟨k0, p0, x0, x1, x2, x3, x4, r, rfl, _⟩ := h
    rfl
  obtain ⟨k0, p0, x0, x1, x2, x3, x4, r, rfl, hk0, hm, rfl⟩ := h
  refine ⟨_, (pss_cons (ps_set (i := 5) sc_room_above.nd rfl (.inl rfl) (pe_fldK (K := T.K) (pv 0) (by rfl) rfl)) (pss_cons (ps_set (i := 6) sc_room_above.nd rfl (.inl rfl) (pe_op op_addQ (pe_op op_shr (pv 3) (pe_op op_mulQ (pv 2) (pv 5))) (pe_op op_shlW (pv 4) (pe_op op_mulQ (pv 2) (pv 5))))) (pss_cons (ps_set (i := 6) sc_room_above.nd rfl (.inl rfl) (pe_cal c_joined_room (hr.mono (by decide)) (by rfl) (pa_cons (pv 0) (pa_cons (pv 6) (pa_cons (pv 1) (pa_cons (pv 3) (pa_cons (pe_cal c_size_of (hr.mono (by decide)) (by rfl) (pa_cons (pe_fldK (K := T.K) (pv 0) (by rfl) rfl) (pa_cons (pv 3) pa_nil))) (pa_cons (pe_un un_neg pe_int) pa_nil)))))))) (pss_one (ps_ret (pe_cal c_joined_room (hr.mono (by decide)) (by rfl) (pa_cons (pv 0) (pa_cons (pv 6) (pa_cons (pv 1) (pa_cons (pv 4) (pa_cons (pe_cal c_size_of (hr.mono (by decide)) (by rfl) (pa_cons (pe_fldK (K := T.K) (pv 0) (by rfl) rfl) (pa_cons (pv 4) pa_nil))) (pa_cons (pe_un un_neg pe_int) pa_nil)))))))))))), fun D hrt hnx => ?_⟩
  have ok := okk1 hk0
  suffices hx : XS _ D F0 [some (vr p0), some (va T x1), some (va T x2), some (va T x3), some (va T x4), none, none] (stt Ω [(k0, machA T p0 x0)] []) by
    rw [show (stt Ω [(k0, machA T p0 x0)] []) = Ω from stt_self (by simp [hk0])] at hx
    exact hx
  unfold M_room_above at hm
  refine xs_set (A := va T x0.w) (xe_mw mc.cl mc.nw (xe_var (i := 0) rfl) (stt_get ok (i := 0) rfl)) ?_
  show XS (tSeq _ _) _ _ [some (vr p0), some (va T x1), some (va T x2), some (va T x3), some (va T x4), some (va T x0.w), none] (stt Ω [(k0, machA T p0 x0)] [])
  obtain ⟨z1, hz1, hm⟩ := bnd_some hm
  obtain ⟨z2, hz2, hm⟩ := bnd_some hm
  obtain ⟨z3, hz3, hm⟩ := bnd_some hm
  obtain ⟨z4, hz4, hm⟩ := bnd_some hm
  obtain ⟨y5, hy5, hm⟩ := bnd_some hm
  refine xs_set (A := va T y5) (xe_eq (xe_add (xe_shr (chkP_some hz2) (xe_var (i := 3) rfl) (xe_mul (chkP_some hz1) (xe_var (i := 2) rfl) (xe_var (i := 5) rfl))) (xe_shl (chkP_some hz4) (xe_var (i := 4) rfl) (xe_mul (chkP_some hz3) (xe_var (i := 2) rfl) (xe_var (i := 5) rfl)))) (Option.some.inj hy5)) ?_
  show XS (tSeq _ _) _ _ [some (vr p0), some (va T x1), some (va T x2), some (va T x3), some (va T x4), some (va T x0.w), some (va T y5)] (stt Ω [(k0, machA T p0 x0)] [])
  obtain ⟨z6, hz6, hm⟩ := bnd_some hm
  obtain ⟨z7, hz7, hm⟩ := bnd_some hm
  refine xs_set (A := va T z7.1) (xe_call (xa_cons (xe_var (i := 0) rfl) (xa_cons (xe_var (i := 6) rfl) (xa_cons (xe_var (i := 1) rfl) (xa_cons (xe_var (i := 3) rfl) (xa_cons (xe_call (xa_cons (xe_mw mc.cl mc.nw (xe_var (i := 0) rfl) (stt_get ok (i := 0) rfl)) (xa_cons (xe_var (i := 3) rfl) xa_nil)) ⟨x0.w, x3, z6, rfl, hz6, rfl⟩ cal0) (xa_cons (xe_neg xe_int) xa_nil)))))) ⟨k0, p0, x0, y5, x1, x3, z6, (-(1 : Int)), z7, rfl, (stt_get ok (i := 0) rfl), hz7, rfl⟩ (cal1 ok (i := 0) rfl)) ?_
  show XS (tRet _) _ _ [some (vr p0), some (va T x1), some (va T x2), some (va T x3), some (va T x4), some (va T x0.w), some (va T z7.1)] (stt Ω [(k0, machA T p0 z7.2)] [])
  obtain ⟨z8, hz8, hm⟩ := bnd_some hm
  obtain ⟨z9, hz9, hm⟩ := bnd_some hm
  obtain rfl := Option.some.inj hm
  refine xs_ret (xe_call (xa_cons (xe_var (i := 0) rfl) (xa_cons (xe_var (i := 6) rfl) (xa_cons (xe_var (i := 1) rfl) (xa_cons (xe_var (i := 4) rfl) (xa_cons (xe_call (xa_cons (xe_mw mc.cl mc.nw (xe_var (i := 0) rfl) (stt_get ok (i := 0) rfl)) (xa_cons (xe_var (i := 4) rfl) xa_nil)) ⟨z7.2.w, x4, z8, rfl, hz8, rfl⟩ cal0) (xa_cons (xe_neg xe_int) xa_nil)))))) ⟨k0, p0, z7.2, z7.1, x1, x4, z8, (-(1 : Int)), z9, rfl, (stt_get ok (i := 0) rfl), hz9, rfl⟩ (cal1 ok (i := 0) rfl)) hrt.all
noncomputable def M_whole_room (x0 : MS) (x1 : Int) (x2 : Int) (x3 : Int) (x4 : Int) (x5 : Int) : Option (Int × MS) :=
  (M_size_of x0.w x5).bind fun z1 => (M_joined_room x0 x4 x1 x5 z1 (1 : Int)).bind fun z2 => (M_low_part z2.2.w x3 x2).bind fun z3 => (chkP (IntMulOk x2 z2.2.w)).bind fun z4 => (chkP (CShl z2.1 (x2 * z2.2.w))).bind fun z5 => some ((z3 + (z2.1 * 2 ^ ((x2 * z2.2.w)).toNat)), z2.2)
def Pre_whole_room (T : TC) : PreT := fun As Ω R => ∃ (k0 : Nat) (p0 : Addr) (x0 : MS) (x1 : Int) (x2 : Int) (x3 : Int) (x4 : Int) (x5 : Int) (r : Int × MS), As = [vr p0, va T x1, va T x2, va T x3, va T x4, va T x5] ∧ Ω[k0]? = some (machA T p0 x0) ∧ M_whole_room x0 x1 x2 x3 x4 x5 = some r ∧ R = RV (va T r.1) (stt Ω [(k0, machA T p0 r.2)] [])
theorem sc_whole_room : FnScope ["machine", "size", "cut", "low", "above", "middle"] ["machine", "size", "cut", "low", "above", "middle"] (defScope s_whole_room) := ⟨rfl, rfl, rfl, by decide +kernel, rfl, by decide +kernel, by decide +kernel⟩
theorem ok_whole_room {f : Addr} {fd : FuncData} (F : Fun T.K "whole_room" "whole_room" s_whole_room f fd) (mc : MCls T.K (T.C 0)) (c_size_of : Cal P w T.K mg base 2 "size_of" ["width", "n"] (mkSp (Pre_size_of T))) (c_joined_room : Cal P w T.K mg base 3 "joined_room" ["machine", "room", "r", "more", "p", "turn"] (mkSp (Pre_joined_room T))) (c_low_part : Cal P w T.K mg base 1 "low_part" ["width", "n", "size"] (mkSp (Pre_low_part T))) : FnOk P w T.K mg base CX0 4 f fd ["machine", "size", "cut", "low", "above", "middle"] (mkSp (Pre_whole_room T)) := by
  refine fn_ok F sc_whole_room (fun As Ω R h => ?_) (fun cdv A outer s H E hr As Ω R F0 h => ?_)
  · obtain ⟨k0, p0, x0, x1, x2, x3, x4, x5, r, rfl, _⟩ := h
    rfl
  obtain ⟨k0, p0, x0, x1, x2, x3, x4, x5, r, rfl, hk0, hm, rfl⟩ := h
  refine ⟨_, (pss_cons (ps_set (i := 4) sc_whole_room.nd rfl (.inl rfl) (pe_cal c_joined_room (hr.mono (by decide)) (by rfl) (pa_cons (pv 0) (pa_cons (pv 4) (pa_cons (pv 1) (pa_cons (pv 5) (pa_cons (pe_cal c_size_of (hr.mono (by decide)) (by rfl) (pa_cons (pe_fldK (K := T.K) (pv 0) (by rfl) rfl) (pa_cons (pv 5) pa_nil))) (pa_cons pe_int pa_nil)))))))) (pss_one (ps_ret (pe_op op_addQ (pe_cal c_low_part (hr.mono (by decide)) (by rfl) (pa_cons (pe_fldK (K := T.K) (pv 0) (by rfl) rfl) (pa_cons (pv 3) (pa_cons (pv 2) pa_nil)))) (pe_op op_shlW (pv 4) (pe_op op_mulQ (pv 2) (pe_fldK (K := T.K) (pv 0) (by rfl) rfl))))))), fun D hrt hnx => ?_⟩
  have ok := okk1 hk0
  suffices hx : XS _ D F0 [some (vr p0), some (va T x1), some (va T x2), some (va T x3), some (va T x4), some (va T x5)] (stt Ω [(k0, machA T p0 x0)] []) by
    rw [show (stt Ω [(k0, machA T p0 x0)] []) = Ω from stt_self (by simp [hk0])] at hx
    exact hx
  unfold M_whole_room at hm
  obtain ⟨z1, hz1, hm⟩ := bnd_some hm
  obtain ⟨z2, hz2, hm⟩ := bnd_some hm
  refine xs_set (A := va T z2.1) (xe_call (xa_cons (xe_var (i := 0) rfl) (xa_cons (xe_var (i := 4) rfl) (xa_cons (xe_var (i := 1) rfl) (xa_cons (xe_var (i := 5) rfl) (xa_cons (xe_call (xa_cons (xe_mw mc.cl mc.nw (xe_var (i := 0) rfl) (stt_get ok (i := 0) rfl)) (xa_cons (xe_var (i := 5) rfl) xa_nil)) ⟨x0.w, x5, z1, rfl, hz1, rfl⟩ cal0) (xa_cons xe_int xa_nil)))))) ⟨k0, p0, x0, x4, x1, x5, z1, (1 : Int), z2, rfl, (stt_get ok (i := 0) rfl), hz2, rfl⟩ (cal1 ok (i := 0) rfl)) ?_
  show XS (tRet _) _ _ [some (vr p0), some (va T x1), some (va T x2), some (va T x3), some (va T z2.1), some (va T x5)] (stt Ω [(k0, machA T p0 z2.2)] [])
  obtain ⟨z3, hz3, hm⟩ := bnd_some hm
  obtain ⟨z4, hz4, hm⟩ := bnd_some hm
  obtain ⟨z5, hz5, hm⟩ := bnd_some hm
  obtain rfl := Option.some.inj hm
  refine xs_ret (xe_add (xe_call (xa_cons (xe_mw mc.cl mc.nw (xe_var (i := 0) rfl) (stt_get ok (i := 0) rfl)) (xa_cons (xe_var (i := 3) rfl) (xa_cons (xe_var (i := 2) rfl) xa_nil))) ⟨z2.2.w, x3, x2, z3, rfl, hz3, rfl⟩ cal0) (xe_shl (chkP_some hz5) (xe_var (i := 4) rfl) (xe_mul (chkP_some hz4) (xe_var (i := 2) rfl) (xe_mw mc.cl mc.nw (xe_var (i := 0) rfl) (stt_get ok (i := 0) rfl))))) hrt.all
mutual
noncomputable def M_multiplied : Nat → MS → Int → Int → Int → Int → Option (Int × MS)
  | 0, _, _, _, _, _ => none
  | kf + 1, x0, x1, x2, x3, x4 => (if (decide (x4 < x2)) = true then (some (T4.mk x3 x4 x1 x2)).bind fun y1 => some (y1.a, y1.b, y1.c, y1.d) else some (x1, x2, x3, x4)).bind fun z4 => if (decide (z4.2.1 = (0 : Int))) = true then some ((0 : Int), x0) else if (decide (z4.2.1 ≤ x0.c)) = true then (M_product_by_rows x0 z4.1 z4.2.1 z4.2.2.1 z4.2.2.2).bind fun z5 => some (z5.1, z5.2) else (chkP (IntMulOk (2 : Int) z4.2.1)).bind fun z6 => if (decide (((2 : Int) * z4.2.1) ≤ z4.2.2.2)) = true then (M_lopsided_product kf x0 z4.1 z4.2.1 z4.2.2.1 z4.2.2.2).bind fun z7 => some (z7.1, z7.2) else (M_karatsuba_product kf x0 z4.1 z4.2.1 z4.2.2.1 z4.2.2.2).bind fun z8 => some (z8.1, z8.2)
noncomputable def M_lopsided_product : Nat → MS → Int → Int → Int → Int → Option (Int × MS)
  | 0, _, _, _, _, _ => none
  | kf + 1, x0, x1, x2, x3, x4 => (some ((x0.enter ("lopsided" : Str) x2 x4).w)).bind fun y1 => (chkP (CRg x4 x2)).bind fun z2 => (forM' (ρ := Unit) (fun (a4 : Int) (s3 : Int × Int × MS) => (M_low_part y1 s3.1 x2).bind fun z5 => (M_multiplied kf s3.2.2 x1 x2 z5 (min x2 (x4 - a4))).bind fun z6 => (chkP (IntMulOk x2 y1)).bind fun z7 => (chkP (0 ≤ (x2 * y1))).bind fun z8 => (some (s3.1 / 2 ^ ((x2 * y1)).toNat)).bind fun y9 => (chkP (IntMulOk a4 y1)).bind fun z10 => (chkP (0 ≤ (a4 * y1))).bind fun z11 => (M_size_of z6.2.w z6.1).bind fun z12 => (M_joined_room z6.2 (s3.2.1 / 2 ^ ((a4 * y1)).toNat) ((x2 + x4) - a4) z6.1 z12 (1 : Int)).bind fun z13 => (M_low_part y1 s3.2.1 a4).bind fun z14 => (chkP (IntMulOk a4 y1)).bind fun z15 => (chkP (CShl z13.1 (a4 * y1))).bind fun z16 => (some (z14 + (z13.1 * 2 ^ ((a4 * y1)).toNat))).bind fun y17 => some (Stp.nx (y9, y17, z13.2))) (rngS x2 ((x4 + x2 - 1) / x2).toNat) (x3, (0 : Int), (x0.enter ("lopsided" : Str) x2 x4))).bind fun z18 => (nxt z18).bind fun s19 => some (s19.2.1, s19.2.2)
noncomputable def M_karatsuba_product : Nat → MS → Int → Int → Int → Int → Option (Int × MS)
  | 0, _, _, _, _, _ => none
  | kf + 1, x0, x1, x2, x3, x4 => (chkP (CDivW x4 (2 : Int))).bind fun z1 => (some (x4 / (2 : Int))).bind fun y2 => (M_parts_of (x0.enter ("karatsuba" : Str) x2 x4) x1 y2).bind fun z3 => (M_parts_of (x0.enter ("karatsuba" : Str) x2 x4) x3 y2).bind fun z4 => (M_multiplied kf (x0.enter ("karatsuba" : Str) x2 x4) z3.c z3.d z4.c z4.d).bind fun z5 => (M_multiplied kf z5.2 z3.a z3.b z4.a z4.b).bind fun z6 => (M_room_above z6.2 ((x2 + x4) - y2) y2 z6.1 z5.1).bind fun z7 => (M_added z7.2 z3.c z3.d z3.a z3.b).bind fun z8 => (M_added z8.2 z4.c z4.d z4.a z4.b).bind fun z9 => (M_size_of z9.2.w z8.1).bind fun z10 => (M_size_of z9.2.w z9.1).bind fun z11 => (M_multiplied kf z9.2 z8.1 z10 z9.1 z11).bind fun z12 => (M_whole_room z12.2 ((x2 + x4) - y2) y2 z6.1 z7.1 z12.1).bind fun z13 => some (z13.1, z13.2)
end
theorem M_multiplied_succ (kf : Nat) (x0 : MS) (x1 : Int) (x2 : Int) (x3 : Int) (x4 : Int) : M_multiplied (kf + 1) x0 x1 x2 x3 x4 = ((if (decide (x4 < x2)) = true then (some (T4.mk x3 x4 x1 x2)).bind fun y1 => some (y1.a, y1.b, y1.c, y1.d) else some (x1, x2, x3, x4)).bind fun z4 => if (decide (z4.2.1 = (0 : Int))) = true then some ((0 : Int), x0) else if (decide (z4.2.1 ≤ x0.c)) = true then (M_product_by_rows x0 z4.1 z4.2.1 z4.2.2.1 z4.2.2.2).bind fun z5 => some (z5.1, z5.2) else (chkP (IntMulOk (2 : Int) z4.2.1)).bind fun z6 => if (decide (((2 : Int) * z4.2.1) ≤ z4.2.2.2)) = true then (M_lopsided_product kf x0 z4.1 z4.2.1 z4.2.2.1 z4.2.2.2).bind fun z7 => some (z7.1, z7.2) else (M_karatsuba_product kf x0 z4.1 z4.2.1 z4.2.2.1 z4.2.2.2).bind fun z8 => some (z8.1, z8.2)) := by rw [M_multiplied]
theorem M_multiplied_zero (x0 : MS) (x1 : Int) (x2 : Int) (x3 : Int) (x4 : Int) : M_multiplied 0 x0 x1 x2 x3 x4 = none := by rw [M_multiplied]
theorem M_lopsided_product_succ (kf : Nat) (x0 : MS) (x1 : Int) (x2 : Int) (x3 : Int) (x4 : Int) : M_lopsided_product (kf + 1) x0 x1 x2 x3 x4 = ((some ((x0.enter ("lopsided" : Str) x2 x4).w)).bind fun y1 => (chkP (CRg x4 x2)).bind fun z2 => (forM' (ρ := Unit) (fun (a4 : Int) (s3 : Int × Int × MS) => (M_low_part y1 s3.1 x2).bind fun z5 => (M_multiplied kf s3.2.2 x1 x2 z5 (min x2 (x4 - a4))).bind fun z6 => (chkP (IntMulOk x2 y1)).bind fun z7 => (chkP (0 ≤ (x2 * y1))).bind fun z8 => (some (s3.1 / 2 ^ ((x2 * y1)).toNat)).bind fun y9 => (chkP (IntMulOk a4 y1)).bind fun z10 => (chkP (0 ≤ (a4 * y1))).bind fun z11 => (M_size_of z6.2.w z6.1).bind fun z12 => (M_joined_room z6.2 (s3.2.1 / 2 ^ ((a4 * y1)).toNat) ((x2 + x4) - a4) z6.1 z12 (1 : Int)).bind fun z13 => (M_low_part y1 s3.2.1 a4).bind fun z14 => (chkP (IntMulOk a4 y1)).bind fun z15 => (chkP (CShl z13.1 (a4 * y1))).bind fun z16 => (some (z14 + (z13.1 * 2 ^ ((a4 * y1)).toNat))).bind fun y17 => some (Stp.nx (y9, y17, z13.2))) (rngS x2 ((x4 + x2 - 1) / x2).toNat) (x3, (0 : Int), (x0.enter ("lopsided" : Str) x2 x4))).bind fun z18 => (nxt z18).bind fun s19 => some (s19.2.1, s19.2.2)) := by rw [M_lopsided_product]
theorem M_lopsided_product_zero (x0 : MS) (x1 : Int) (x2 : Int) (x3 : Int) (x4 : Int) : M_lopsided_product 0 x0 x1 x2 x3 x4 = none := by rw [M_lopsided_product]
theorem M_karatsuba_product_succ (kf : Nat) (x0 : MS) (x1 : Int) (x2 : Int) (x3 : Int) (x4 : Int) : M_karatsuba_product (kf + 1) x0 x1 x2 x3 x4 = ((chkP (CDivW x4 (2 : Int))).bind fun z1 => (some (x4 / (2 : Int))).bind fun y2 => (M_parts_of (x0.enter ("karatsuba" : Str) x2 x4) x1 y2).bind fun z3 => (M_parts_of (x0.enter ("karatsuba" : Str) x2 x4) x3 y2).bind fun z4 => (M_multiplied kf (x0.enter ("karatsuba" : Str) x2 x4) z3.c z3.d z4.c z4.d).bind fun z5 => (M_multiplied kf z5.2 z3.a z3.b z4.a z4.b).bind fun z6 => (M_room_above z6.2 ((x2 + x4) - y2) y2 z6.1 z5.1).bind fun z7 => (M_added z7.2 z3.c z3.d z3.a z3.b).bind fun z8 => (M_added z8.2 z4.c z4.d z4.a z4.b).bind fun z9 => (M_size_of z9.2.w z8.1).bind fun z10 => (M_size_of z9.2.w z9.1).bind fun z11 => (M_multiplied kf z9.2 z8.1 z10 z9.1 z11).bind fun z12 => (M_whole_room z12.2 ((x2 + x4) - y2) y2 z6.1 z7.1 z12.1).bind fun z13 => some (z13.1, z13.2)) := by rw [M_karatsuba_product]
theorem M_karatsuba_product_zero (x0 : MS) (x1 : Int) (x2 : Int) (x3 : Int) (x4 : Int) : M_karatsuba_product 0 x0 x1 x2 x3 x4 = none := by rw [M_karatsuba_product]
def Pre_multiplied (kf : Nat) (T : TC) : PreT := fun As Ω R => ∃ (k0 : Nat) (p0 : Addr) (x0 : MS) (x1 : Int) (x2 : Int) (x3 : Int) (x4 : Int) (r : Int × MS), As = [vr p0, va T x1, va T x2, va T x3, va T x4] ∧ Ω[k0]? = some (machA T p0 x0) ∧ M_multiplied kf x0 x1 x2 x3 x4 = some r ∧ R = RV (va T r.1) (stt Ω [(k0, machA T p0 r.2)] [])
def Pre_lopsided_product (kf : Nat) (T : TC) : PreT := fun As Ω R => ∃ (k0 : Nat) (p0 : Addr) (x0 : MS) (x1 : Int) (x2 : Int) (x3 : Int) (x4 : Int) (r : Int × MS), As = [vr p0, va T x1, va T x2, va T x3, va T x4] ∧ Ω[k0]? = some (machA T p0 x0) ∧ M_lopsided_product kf x0 x1 x2 x3 x4 = some r ∧ R = RV (va T r.1) (stt Ω [(k0, machA T p0 r.2)] [])
def Pre_karatsuba_product (kf : Nat) (T : TC) : PreT := fun As Ω R => ∃ (k0 : Nat) (p0 : Addr) (x0 : MS) (x1 : Int) (x2 : Int) (x3 : Int) (x4 : Int) (r : Int × MS), As = [vr p0, va T x1, va T x2, va T x3, va T x4] ∧ Ω[k0]? = some (machA T p0 x0) ∧ M_karatsuba_product kf x0 x1 x2 x3 x4 = some r ∧ R = RV (va T r.1) (stt Ω [(k0, machA T p0 r.2)] [])
theorem sc_multiplied : FnScope ["machine", "a", "m", "b", "n"] ["machine", "a", "m", "b", "n"] (defScope s_multiplied) := ⟨rfl, rfl, rfl, by decide +kernel, rfl, by decide +kernel, by decide +kernel⟩
theorem ok0_multiplied {f : Addr} {fd : FuncData} (F : Fun T.K "multiplied" "multiplied" s_multiplied f fd) : FnOk P w T.K mg base CX0 4 f fd ["machine", "a", "m", "b", "n"] (mkSp (Pre_multiplied 0 T)) := by
  refine fn_ok (k := 3) F sc_multiplied (fun As Ω R h => ?_) (fun cdv A outer s H E hr As Ω R F0 h => ?_)
  · obtain ⟨k0, p0, x0, x1, x2, x3, x4, r, rfl, _⟩ := h
    rfl
  obtain ⟨k0, p0, x0, x1, x2, x3, x4, r, rfl, hk0, hm, rfl⟩ := h
  rw [M_multiplied_zero] at hm
  cases hm
theorem ok_multiplied (kf : Nat) {f : Addr} {fd : FuncData} (F : Fun T.K "multiplied" "multiplied" s_multiplied f fd) (mc : MCls T.K (T.C 0)) (c_product_by_rows : Cal P w T.K mg base 2 "product_by_rows" ["machine", "a", "m", "b", "n"] (mkSp (Pre_product_by_rows T))) (c_lopsided_product : Cal P w T.K mg base (4 + kf) "lopsided_product" ["machine", "a", "m", "b", "n"] (mkSp (Pre_lopsided_product kf T))) (c_karatsuba_product : Cal P w T.K mg base (4 + kf) "karatsuba_product" ["machine", "a", "m", "b", "n"] (mkSp (Pre_karatsuba_product kf T))) : FnOk P w T.K mg base CX0 (4 + kf + 1) f fd ["machine", "a", "m", "b", "n"] (mkSp (Pre_multiplied (kf + 1) T)) := by
  refine fn_ok F sc_multiplied (fun As Ω R h => ?_) (fun cdv A outer s H E hr As Ω R F0 h => ?_)
  · obtain ⟨k0, p0, x0, x1, x2, x3, x4, r, rfl, _⟩ := h
    rfl
  obtain ⟨k0, p0, x0, x1, x2, x3, x4, r, rfl, hk0, hm, rfl⟩ := h
  refine ⟨_, (Evl.pss_cut (ps_if (pt_cmpR op_lt (pv 4) (pv 2) (nomark _)) (pss_one (ps_asg (pe_tup (pa_cons (pv 3) (pa_cons (pv 4) (pa_cons (pv 1) (pa_cons (pv 2) pa_nil))))) (pg_tupK (K := T.K) (n := 4) rfl rfl (pgs_cons (pg_name (i := 1) sc_multiplied.nd rfl (.inl rfl)) (pgs_cons (pg_name (i := 2) sc_multiplied.nd rfl (.inl rfl)) (pgs_cons (pg_name (i := 3) sc_multiplied.nd rfl (.inl rfl)) (pgs_cons (pg_name (i := 4) sc_multiplied.nd rfl (.inl rfl)) pgs_nil))))))) pss_nil) (pss_cons (ps_if (pt_cmpR (op_eqXK (K := T.K) (by exact hr.units) rfl) (pv 2) pe_int (nomark _)) (pss_one (ps_ret pe_int)) pss_nil) (pss_cons (ps_if (pt_cmpR op_le (pv 2) (pe_fldK (K := T.K) (pv 0) (by rfl) rfl) (nomark _)) (pss_one (ps_ret (pe_cal c_product_by_rows (hr.mono (by omega)) (by rfl) (pa_cons (pv 0) (pa_cons (pv 1) (pa_cons (pv 2) (pa_cons (pv 3) (pa_cons (pv 4) pa_nil)))))))) pss_nil) (pss_cons (ps_if (pt_cmpR op_le (pe_op op_mulQ pe_int (pv 2)) (pv 4) (nomark _)) (pss_one (ps_ret (pe_cal c_lopsided_product (hr.mono (by omega)) (by rfl) (pa_cons (pv 0) (pa_cons (pv 1) (pa_cons (pv 2) (pa_cons (pv 3) (pa_cons (pv 4) pa_nil)))))))) pss_nil) (pss_one (ps_ret (pe_cal c_karatsuba_product (hr.mono (by omega)) (by rfl) (pa_cons (pv 0) (pa_cons (pv 1) (pa_cons (pv 2) (pa_cons (pv 3) (pa_cons (pv 4) pa_nil)))))))))))), fun D hrt hnx => ?_⟩
  have ok := okk1 hk0
  suffices hx : XS _ D F0 [some (vr p0), some (va T x1), some (va T x2), some (va T x3), some (va T x4)] (stt Ω [(k0, machA T p0 x0)] []) by
    rw [show (stt Ω [(k0, machA T p0 x0)] []) = Ω from stt_self (by simp [hk0])] at hx
    exact hx
  rw [M_multiplied_succ] at hm
  obtain ⟨z4, hz4, hm⟩ := bnd_some hm
  refine xs_cut (Γ' := [some (vr p0), some (va T z4.1), some (va T z4.2.1), some (va T z4.2.2.1), some (va T z4.2.2.2)]) (Ω' := (stt Ω [(k0, machA T p0 x0)] [])) ?_ ?_
  · clear hm
    have hm := hz4
    clear hz4
    by_cases hc : (decide (x4 < x2)) = true
    · rw [if_pos hc] at hm
      refine xs_ifT1 (xt_eq (xt_test (T := T) (xe_lt (xe_var (i := 4) rfl) (xe_var (i := 2) rfl))) hc) ?_
      obtain ⟨y1, hy1, hm⟩ := bnd_some hm
      refine xs_asgG1 (xe_eq (xe_tup4 (xa_cons (xe_var (i := 3) rfl) (xa_cons (xe_var (i := 4) rfl) (xa_cons (xe_var (i := 1) rfl) (xa_cons (xe_var (i := 2) rfl) xa_nil))))) (Option.some.inj hy1)) tgt_quad ?_
      obtain rfl := Option.some.inj hm
      exact fun σ H n => n
    · rw [if_neg hc] at hm
      refine xs_ifF1 (xt_eq (xt_test (T := T) (xe_lt (xe_var (i := 4) rfl) (xe_var (i := 2) rfl))) (nt hc)) ?_
      obtain rfl := Option.some.inj hm
      exact fun σ H n => n
  · by_cases hc : (decide (z4.2.1 = (0 : Int))) = true
    · rw [if_pos hc] at hm
      refine xs_ifT (xt_eq (xt_test (T := T) (xe_eqI (xe_var (i := 2) rfl) xe_int)) hc) ?_
      obtain rfl := Option.some.inj hm
      refine xs_ret xe_int hrt.all
    · rw [if_neg hc] at hm
      refine xs_ifN (xt_eq (xt_test (T := T) (xe_eqI (xe_var (i := 2) rfl) xe_int)) (nt hc)) ?_
      show XS (tSeq _ _) _ _ [some (vr p0), some (va T z4.1), some (va T z4.2.1), some (va T z4.2.2.1), some (va T z4.2.2.2)] (stt Ω [(k0, machA T p0 x0)] [])
      by_cases hc : (decide (z4.2.1 ≤ x0.c)) = true
      · rw [if_pos hc] at hm
        refine xs_ifT (xt_eq (xt_test (T := T) (xe_le (xe_var (i := 2) rfl) (xe_mc mc.cl mc.nc (xe_var (i := 0) rfl) (stt_get ok (i := 0) rfl)))) hc) ?_
        obtain ⟨z5, hz5, hm⟩ := bnd_some hm
        obtain rfl := Option.some.inj hm
        refine xs_ret (xe_call (xa_cons (xe_var (i := 0) rfl) (xa_cons (xe_var (i := 1) rfl) (xa_cons (xe_var (i := 2) rfl) (xa_cons (xe_var (i := 3) rfl) (xa_cons (xe_var (i := 4) rfl) xa_nil))))) ⟨k0, p0, x0, z4.1, z4.2.1, z4.2.2.1, z4.2.2.2, z5, rfl, (stt_get ok (i := 0) rfl), hz5, rfl⟩ (cal1 ok (i := 0) rfl)) hrt.all
      · rw [if_neg hc] at hm
        refine xs_ifN (xt_eq (xt_test (T := T) (xe_le (xe_var (i := 2) rfl) (xe_mc mc.cl mc.nc (xe_var (i := 0) rfl) (stt_get ok (i := 0) rfl)))) (nt hc)) ?_
        show XS (tSeq _ _) _ _ [some (vr p0), some (va T z4.1), some (va T z4.2.1), some (va T z4.2.2.1), some (va T z4.2.2.2)] (stt Ω [(k0, machA T p0 x0)] [])
        obtain ⟨z6, hz6, hm⟩ := bnd_some hm
        by_cases hc : (decide (((2 : Int) * z4.2.1) ≤ z4.2.2.2)) = true
        · rw [if_pos hc] at hm
          refine xs_ifT (xt_eq (xt_test (T := T) (xe_le (xe_mul (chkP_some hz6) xe_int (xe_var (i := 2) rfl)) (xe_var (i := 4) rfl))) hc) ?_
          obtain ⟨z7, hz7, hm⟩ := bnd_some hm
          obtain rfl := Option.some.inj hm
          refine xs_ret (xe_call (xa_cons (xe_var (i := 0) rfl) (xa_cons (xe_var (i := 1) rfl) (xa_cons (xe_var (i := 2) rfl) (xa_cons (xe_var (i := 3) rfl) (xa_cons (xe_var (i := 4) rfl) xa_nil))))) ⟨k0, p0, x0, z4.1, z4.2.1, z4.2.2.1, z4.2.2.2, z7, rfl, (stt_get ok (i := 0) rfl), hz7, rfl⟩ (cal1 ok (i := 0) rfl)) hrt.all
        · rw [if_neg hc] at hm
          refine xs_ifN (xt_eq (xt_test (T := T) (xe_le (xe_mul (chkP_some hz6) xe_int (xe_var (i := 2) rfl)) (xe_var (i := 4) rfl))) (nt hc)) ?_
          show XS (tRet _) _ _ [some (vr p0), some (va T z4.1), some (va T z4.2.1), some (va T z4.2.2.1), some (va T z4.2.2.2)] (stt Ω [(k0, machA T p0 x0)] [])
          obtain ⟨z8, hz8, hm⟩ := bnd_some hm
          obtain rfl := Option.some.inj hm
          refine xs_ret (xe_call (xa_cons (xe_var (i := 0) rfl) (xa_cons (xe_var (i := 1) rfl) (xa_cons (xe_var (i := 2) rfl) (xa_cons (xe_var (i := 3) rfl) (xa_cons (xe_var (i := 4) rfl) xa_nil))))) ⟨k0, p0, x0, z4.1, z4.2.1, z4.2.2.1, z4.2.2.2, z8, rfl, (stt_get ok (i := 0) rfl), hz8, rfl⟩ (cal1 ok (i := 0) rfl)) hrt.all
theorem sc_lopsided_product : FnScope ["machine", "a", "m", "b", "n", "width", "room", "first", "part", "above"] ["machine", "a", "m", "b", "n"] (defScope s_lopsided_product) := ⟨rfl, rfl, rfl, by decide +kernel, rfl, by decide +kernel, by decide +kernel⟩
theorem ok0_lopsided_product {f : Addr} {fd : FuncData} (F : Fun T.K "lopsided_product" "lopsided_product" s_lopsided_product f fd) : FnOk P w T.K mg base CX0 4 f fd ["machine", "a", "m", "b", "n"] (mkSp (Pre_lopsided_product 0 T)) := by
  refine fn_ok (k := 3) F sc_lopsided_product (fun As Ω R h => ?_) (fun cdv A outer s H E hr As Ω R F0 h => ?_)
  · obtain ⟨k0, p0, x0, x1, x2, x3, x4, r, rfl, _⟩ := h
    rfl
  obtain ⟨k0, p0, x0, x1, x2, x3, x4, r, rfl, hk0, hm, rfl⟩ := h
  rw [M_lopsided_product_zero] at hm
  cases hm
theorem ok_lopsided_product (kf : Nat) {f : Addr} {fd : FuncData} (F : Fun T.K "lopsided_product" "lopsided_product" s_lopsided_product f fd) (mc : MCls T.K (T.C 0)) (c_Mach_enter : CalM P w T.K mg base 1 (T.C 0) "enter" ["self", "word", "m", "n"] (mkSp (Pre_Mach_enter T))) (z_range : mg "range" = none) (c_low_part : Cal P w T.K mg base 1 "low_part" ["width", "n", "size"] (mkSp (Pre_low_part T))) (z_min : mg "min" = none) (c_multiplied : Cal P w T.K mg base (4 + kf) "multiplied" ["machine", "a", "m", "b", "n"] (mkSp (Pre_multiplied kf T))) (c_size_of : Cal P w T.K mg base 2 "size_of" ["width", "n"] (mkSp (Pre_size_of T))) (c_joined_room : Cal P w T.K mg base 3 "joined_room" ["machine", "room", "r", "more", "p", "turn"] (mkSp (Pre_joined_room T))) : FnOk P w T.K mg base CX0 (4 + kf + 1) f fd ["machine", "a", "m", "b", "n"] (mkSp (Pre_lopsided_product (kf + 1) T)) := by
  refine fn_ok F sc_lopsided_product (fun As Ω R h => ?_) (fun cdv A outer s H E hr As Ω R F0 h => ?_)
  · obtain ⟨k0, p0, x0, x1, x2, x3, x4, r, rfl, _⟩ := h
    rfl
  obtain ⟨k0, p0, x0, x1, x2, x3, x4, r, rfl, hk0, hm, rfl⟩ := h
  refine ⟨_, (pss_cons (ps_expr (pe_calM (pv 0) c_Mach_enter (hr.mono (by omega)) (pa_cons pe_str (pa_cons (pv 2) (pa_cons (pv 4) pa_nil))))) (pss_cons (ps_set (i := 5) sc_lopsided_product.nd rfl (.inl rfl) (pe_fldK (K := T.K) (pv 0) (by rfl) rfl)) (pss_cons (ps_set (i := 6) sc_lopsided_product.nd rfl (.inl rfl) pe_int) (pss_cons (ps_for PassesOwn.never rfl (pi_range3 rfl z_range (pa_cons pe_int (pa_cons (pv 4) (pa_cons (pv 2) pa_nil)))) (pg_name (i := 7) sc_lopsided_product.nd rfl (.inl rfl)) (pss_cons (ps_set (i := 8) sc_lopsided_product.nd rfl (.inl rfl) (pe_cal c_multiplied (hr.mono (by omega)) (by rfl) (pa_cons (pv 0) (pa_cons (pv 1) (pa_cons (pv 2) (pa_cons (pe_cal c_low_part (hr.mono (by omega)) (by rfl) (pa_cons (pv 5) (pa_cons (pv 3) (pa_cons (pv 2) pa_nil)))) (pa_cons (pe_callB (cr_min2 rfl) (by rfl) z_min (by decide +kernel) (pa_cons (pv 2) (pa_cons (pe_op op_sub (pv 4) (pv 7)) pa_nil))) pa_nil))))))) (pss_cons (ps_aug (i := 3) sc_lopsided_product.nd rfl (.inl rfl) (pe_op op_mulQ (pv 2) (pv 5)) (ip_of iop_shr)) (pss_cons (ps_set (i := 9) sc_lopsided_product.nd rfl (.inl rfl) (pe_cal c_joined_room (hr.mono (by omega)) (by rfl) (pa_cons (pv 0) (pa_cons (pe_op op_shr (pv 6) (pe_op op_mulQ (pv 7) (pv 5))) (pa_cons (pe_op op_sub (pe_op op_addQ (pv 2) (pv 4)) (pv 7)) (pa_cons (pv 8) (pa_cons (pe_cal c_size_of (hr.mono (by omega)) (by rfl) (pa_cons (pe_fldK (K := T.K) (pv 0) (by rfl) rfl) (pa_cons (pv 8) pa_nil))) (pa_cons pe_int pa_nil)))))))) (pss_one (ps_set (i := 6) sc_lopsided_product.nd rfl (.inl rfl) (pe_op op_addQ (pe_cal c_low_part (hr.mono (by omega)) (by rfl) (pa_cons (pv 5) (pa_cons (pv 6) (pa_cons (pv 7) pa_nil)))) (pe_op op_shlW (pv 9) (pe_op op_mulQ (pv 7) (pv 5)))))))))) (pss_one (ps_ret (pv 6))))))), fun D hrt hnx => ?_⟩
  have ok := okk1 hk0
  suffices hx : XS _ D F0 [some (vr p0), some (va T x1), some (va T x2), some (va T x3), some (va T x4), none, none, none, none, none] (stt Ω [(k0, machA T p0 x0)] []) by
    rw [show (stt Ω [(k0, machA T p0 x0)] []) = Ω from stt_self (by simp [hk0])] at hx
    exact hx
  rw [M_lopsided_product_succ] at hm
  refine xs_drop (xe_mcall (xe_var (i := 0) rfl) (stt_get ok (i := 0) rfl) (xa_cons xe_str (xa_cons (xe_var (i := 2) rfl) (xa_cons (xe_var (i := 4) rfl) xa_nil))) ⟨k0, p0, x0, ("lopsided" : Str), x2, x4, rfl, (stt_get ok (i := 0) rfl), rfl⟩ (cal1 ok (i := 0) rfl)) ?_
  show XS (tSeq _ _) _ _ [some (vr p0), some (va T x1), some (va T x2), some (va T x3), some (va T x4), none, none, none, none, none] (stt Ω [(k0, machA T p0 (x0.enter ("lopsided" : Str) x2 x4))] [])
  obtain ⟨y1, hy1, hm⟩ := bnd_some hm
  refine xs_set (A := va T y1) (xe_eq (xe_mw mc.cl mc.nw (xe_var (i := 0) rfl) (stt_get ok (i := 0) rfl)) (Option.some.inj hy1)) ?_
  show XS (tSeq _ _) _ _ [some (vr p0), some (va T x1), some (va T x2), some (va T x3), some (va T x4), some (va T y1), none, none, none, none] (stt Ω [(k0, machA T p0 (x0.enter ("lopsided" : Str) x2 x4))] [])
  refine xs_set (A := va T (0 : Int)) xe_int ?_
  show XS (tSeq _ _) _ _ [some (vr p0), some (va T x1), some (va T x2), some (va T x3), some (va T x4), some (va T y1), some (va T (0 : Int)), none, none, none] (stt Ω [(k0, machA T p0 (x0.enter ("lopsided" : Str) x2 x4))] [])
  obtain ⟨z2, hz2, hm⟩ := bnd_some hm
  obtain ⟨z18, hz18, hm⟩ := bnd_some hm
  refine xs_forS (fun (s3 : Int × Int × MS) => [some (vr p0), some (va T x1), some (va T x2), some (va T s3.1), some (va T x4), some (va T y1), some (va T s3.2.1), none, none, none]) (fun (s3 : Int × Int × MS) => (stt Ω [(k0, machA T p0 s3.2.2)] [])) (fun (_ : Unit) _ _ _ => False) hz18 (xi_rangeS (T := T) (xa_cons xe_int (xa_cons (xe_var (i := 4) rfl) (xa_cons (xe_var (i := 2) rfl) xa_nil))) (chkP_some hz2)) (fun _ => tgt_name) (fun a4 s3 s' ha hm F1 D1 e1 hD => ?_) (fun s19 es => ?_) (fun r1 es => ?_)
  · show XS (tSeq _ _) _ _ [some (vr p0), some (va T x1), some (va T x2), some (va T s3.1), some (va T x4), some (va T y1), some (va T s3.2.1), some (va T a4), none, none] (stt Ω [(k0, machA T p0 s3.2.2)] [])
    obtain ⟨z5, hz5, hm⟩ := bnd_some hm
    obtain ⟨z6, hz6, hm⟩ := bnd_some hm
    refine xs_set (A := va T z6.1) (xe_call (xa_cons (xe_var (i := 0) rfl) (xa_cons (xe_var (i := 1) rfl) (xa_cons (xe_var (i := 2) rfl) (xa_cons (xe_call (xa_cons (xe_var (i := 5) rfl) (xa_cons (xe_var (i := 3) rfl) (xa_cons (xe_var (i := 2) rfl) xa_nil))) ⟨y1, s3.1, x2, z5, rfl, hz5, rfl⟩ cal0) (xa_cons (xe_min2 (xe_var (i := 2) rfl) (xe_sub (xe_var (i := 4) rfl) (xe_var (i := 7) rfl))) xa_nil))))) ⟨k0, p0, s3.2.2, x1, x2, z5, (min x2 (x4 - a4)), z6, rfl, (stt_get ok (i := 0) rfl), hz6, rfl⟩ (cal1 ok (i := 0) rfl)) ?_
    show XS (tSeq _ _) _ _ [some (vr p0), some (va T x1), some (va T x2), some (va T s3.1), some (va T x4), some (va T y1), some (va T s3.2.1), some (va T a4), some (va T z6.1), none] (stt Ω [(k0, machA T p0 z6.2)] [])
    obtain ⟨z7, hz7, hm⟩ := bnd_some hm
    obtain ⟨z8, hz8, hm⟩ := bnd_some hm
    obtain ⟨y9, hy9, hm⟩ := bnd_some hm
    refine xs_augD (T := T) rfl (chkP_some hz8) (xe_mul (chkP_some hz7) (xe_var (i := 2) rfl) (xe_var (i := 5) rfl)) (Option.some.inj hy9) ?_
    show XS (tSeq _ _) _ _ [some (vr p0), some (va T x1), some (va T x2), some (va T y9), some (va T x4), some (va T y1), some (va T s3.2.1), some (va T a4), some (va T z6.1), none] (stt Ω [(k0, machA T p0 z6.2)] [])
    obtain ⟨z10, hz10, hm⟩ := bnd_some hm
    obtain ⟨z11, hz11, hm⟩ := bnd_some hm
    obtain ⟨z12, hz12, hm⟩ := bnd_some hm
    obtain ⟨z13, hz13, hm⟩ := bnd_some hm
    refine xs_set (A := va T z13.1) (xe_call (xa_cons (xe_var (i := 0) rfl) (xa_cons (xe_shr (chkP_some hz11) (xe_var (i := 6) rfl) (xe_mul (chkP_some hz10) (xe_var (i := 7) rfl) (xe_var (i := 5) rfl))) (xa_cons (xe_sub (xe_add (xe_var (i := 2) rfl) (xe_var (i := 4) rfl)) (xe_var (i := 7) rfl)) (xa_cons (xe_var (i := 8) rfl) (xa_cons (xe_call (xa_cons (xe_mw mc.cl mc.nw (xe_var (i := 0) rfl) (stt_get ok (i := 0) rfl)) (xa_cons (xe_var (i := 8) rfl) xa_nil)) ⟨z6.2.w, z6.1, z12, rfl, hz12, rfl⟩ cal0) (xa_cons xe_int xa_nil)))))) ⟨k0, p0, z6.2, (s3.2.1 / 2 ^ ((a4 * y1)).toNat), ((x2 + x4) - a4), z6.1, z12, (1 : Int), z13, rfl, (stt_get ok (i := 0) rfl), hz13, rfl⟩ (cal1 ok (i := 0) rfl)) ?_
    show XS (tAsg _ _) _ _ [some (vr p0), some (va T x1), some (va T x2), some (va T y9), some (va T x4), some (va T y1), some (va T s3.2.1), some (va T a4), some (va T z6.1), some (va T z13.1)] (stt Ω [(k0, machA T p0 z13.2)] [])
    obtain ⟨z14, hz14, hm⟩ := bnd_some hm
    obtain ⟨z15, hz15, hm⟩ := bnd_some hm
    obtain ⟨z16, hz16, hm⟩ := bnd_some hm
    obtain ⟨y17, hy17, hm⟩ := bnd_some hm
    refine xs_set1 (A := va T y17) (xe_eq (xe_add (xe_call (xa_cons (xe_var (i := 5) rfl) (xa_cons (xe_var (i := 6) rfl) (xa_cons (xe_var (i := 7) rfl) xa_nil))) ⟨y1, s3.2.1, a4, z14, rfl, hz14, rfl⟩ cal0) (xe_shl (chkP_some hz16) (xe_var (i := 9) rfl) (xe_mul (chkP_some hz15) (xe_var (i := 7) rfl) (xe_var (i := 5) rfl)))) (Option.some.inj hy17)) ?_
    obtain rfl := Option.some.inj hm
    exact fun σ H n => hD.nx _ rfl σ H (((n.forget 8).forget 9).forget 7)
  · subst es
    obtain ⟨s2, hs2, hm⟩ := bnd_some hm
    cases hs2
    show XS (tRet _) _ _ [some (vr p0), some (va T x1), some (va T x2), some (va T s19.1), some (va T x4), some (va T y1), some (va T s19.2.1), none, none, none] (stt Ω [(k0, machA T p0 s19.2.2)] [])
    obtain rfl := Option.some.inj hm
    refine xs_ret (xe_var (i := 6) rfl) hrt.all
  · subst es
    cases hm
theorem sc_karatsuba_product : FnScope ["machine", "a", "m", "b", "n", "cut", "a_low", "low_m", "a_high", "high_m", "b_low", "low_n", "b_high", "high_n", "high", "low", "above", "a_sum", "b_sum", "middle"] ["machine", "a", "m", "b", "n"] (defScope s_karatsuba_product) := ⟨rfl, rfl, rfl, by decide +kernel, rfl, by decide +kernel, by decide +kernel⟩
theorem ok0_karatsuba_product {f : Addr} {fd : FuncData} (F : Fun T.K "karatsuba_product" "karatsuba_product" s_karatsuba_product f fd) : FnOk P w T.K mg base CX0 4 f fd ["machine", "a", "m", "b", "n"] (mkSp (Pre_karatsuba_product 0 T)) := by
  refine fn_ok (k := 3) F sc_karatsuba_product (fun As Ω R h => ?_) (fun cdv A outer s H E hr As Ω R F0 h => ?_)
  · obtain ⟨k0, p0, x0, x1, x2, x3, x4, r, rfl, _⟩ := h
    rfl
  obtain ⟨k0, p0, x0, x1, x2, x3, x4, r, rfl, hk0, hm, rfl⟩ := h
  rw [M_karatsuba_product_zero] at hm
  cases hm
theorem ok_karatsuba_product (kf : Nat) {f : Addr} {fd : FuncData} (F : Fun T.K "karatsuba_product" "karatsuba_product" s_karatsuba_product f fd) (mc : MCls T.K (T.C 0)) (c_Mach_enter : CalM P w T.K mg base 1 (T.C 0) "enter" ["self", "word", "m", "n"] (mkSp (Pre_Mach_enter T))) (c_parts_of : Cal P w T.K mg base 3 "parts_of" ["machine", "a", "cut"] (mkSp (Pre_parts_of T))) (c_multiplied : Cal P w T.K mg base (4 + kf) "multiplied" ["machine", "a", "m", "b", "n"] (mkSp (Pre_multiplied kf T))) (c_room_above : Cal P w T.K mg base 4 "room_above" ["machine", "size", "cut", "low", "high"] (mkSp (Pre_room_above T))) (c_added : Cal P w T.K mg base 2 "added" ["machine", "a", "m", "b", "n"] (mkSp (Pre_added T))) (c_size_of : Cal P w T.K mg base 2 "size_of" ["width", "n"] (mkSp (Pre_size_of T))) (c_whole_room : Cal P w T.K mg base 4 "whole_room" ["machine", "size", "cut", "low", "above", "middle"] (mkSp (Pre_whole_room T))) : FnOk P w T.K mg base CX0 (4 + kf + 1) f fd ["machine", "a", "m", "b", "n"] (mkSp (Pre_karatsuba_product (kf + 1) T)) := by
  refine fn_ok F sc_karatsuba_product (fun As Ω R h => ?_) (fun cdv A outer s H E hr As Ω R F0 h => ?_)
  · obtain ⟨k0, p0, x0, x1, x2, x3, x4, r, rfl, _⟩ := h
    rfl
  obtain ⟨k0, p0, x0, x1, x2, x3, x4, r, rfl, hk0, hm, rfl⟩ := h
  refine ⟨_, (pss_cons (ps_expr (pe_calM (pv 0) c_Mach_enter (hr.mono (by omega)) (pa_cons pe_str (pa_cons (pv 2) (pa_cons (pv 4) pa_nil))))) (pss_cons (ps_set (i := 5) sc_karatsuba_product.nd rfl (.inl rfl) (pe_op op_fdivW (pv 4) pe_int)) (pss_cons (ps_asg (pe_cal c_parts_of (hr.mono (by omega)) (by rfl) (pa_cons (pv 0) (pa_cons (pv 1) (pa_cons (pv 5) pa_nil)))) (pg_tupK (K := T.K) (n := 4) rfl rfl (pgs_cons (pg_name (i := 6) sc_karatsuba_product.nd rfl (.inl rfl)) (pgs_cons (pg_name (i := 7) sc_karatsuba_product.nd rfl (.inl rfl)) (pgs_cons (pg_name (i := 8) sc_karatsuba_product.nd rfl (.inl rfl)) (pgs_cons (pg_name (i := 9) sc_karatsuba_product.nd rfl (.inl rfl)) pgs_nil)))))) (pss_cons (ps_asg (pe_cal c_parts_of (hr.mono (by omega)) (by rfl) (pa_cons (pv 0) (pa_cons (pv 3) (pa_cons (pv 5) pa_nil)))) (pg_tupK (K := T.K) (n := 4) rfl rfl (pgs_cons (pg_name (i := 10) sc_karatsuba_product.nd rfl (.inl rfl)) (pgs_cons (pg_name (i := 11) sc_karatsuba_product.nd rfl (.inl rfl)) (pgs_cons (pg_name (i := 12) sc_karatsuba_product.nd rfl (.inl rfl)) (pgs_cons (pg_name (i := 13) sc_karatsuba_product.nd rfl (.inl rfl)) pgs_nil)))))) (pss_cons (ps_set (i := 14) sc_karatsuba_product.nd rfl (.inl rfl) (pe_cal c_multiplied (hr.mono (by omega)) (by rfl) (pa_cons (pv 0) (pa_cons (pv 8) (pa_cons (pv 9) (pa_cons (pv 12) (pa_cons (pv 13) pa_nil))))))) (pss_cons (ps_set (i := 15) sc_karatsuba_product.nd rfl (.inl rfl) (pe_cal c_multiplied (hr.mono (by omega)) (by rfl) (pa_cons (pv 0) (pa_cons (pv 6) (pa_cons (pv 7) (pa_cons (pv 10) (pa_cons (pv 11) pa_nil))))))) (pss_cons (ps_set (i := 16) sc_karatsuba_product.nd rfl (.inl rfl) (pe_cal c_room_above (hr.mono (by omega)) (by rfl) (pa_cons (pv 0) (pa_cons (pe_op op_sub (pe_op op_addQ (pv 2) (pv 4)) (pv 5)) (pa_cons (pv 5) (pa_cons (pv 15) (pa_cons (pv 14) pa_nil))))))) (pss_cons (ps_set (i := 17) sc_karatsuba_product.nd rfl (.inl rfl) (pe_cal c_added (hr.mono (by omega)) (by rfl) (pa_cons (pv 0) (pa_cons (pv 8) (pa_cons (pv 9) (pa_cons (pv 6) (pa_cons (pv 7) pa_nil))))))) (pss_cons (ps_set (i := 18) sc_karatsuba_product.nd rfl (.inl rfl) (pe_cal c_added (hr.mono (by omega)) (by rfl) (pa_cons (pv 0) (pa_cons (pv 12) (pa_cons (pv 13) (pa_cons (pv 10) (pa_cons (pv 11) pa_nil))))))) (pss_cons (ps_set (i := 19) sc_karatsuba_product.nd rfl (.inl rfl) (pe_cal c_multiplied (hr.mono (by omega)) (by rfl) (pa_cons (pv 0) (pa_cons (pv 17) (pa_cons (pe_cal c_size_of (hr.mono (by omega)) (by rfl) (pa_cons (pe_fldK (K := T.K) (pv 0) (by rfl) rfl) (pa_cons (pv 17) pa_nil))) (pa_cons (pv 18) (pa_cons (pe_cal c_size_of (hr.mono (by omega)) (by rfl) (pa_cons (pe_fldK (K := T.K) (pv 0) (by rfl) rfl) (pa_cons (pv 18) pa_nil))) pa_nil))))))) (pss_one (ps_ret (pe_cal c_whole_room (hr.mono (by omega)) (by rfl) (pa_cons (pv 0) (pa_cons (pe_op op_sub (pe_op op_addQ (pv 2) (pv 4)) (pv 5)) (pa_cons (pv 5) (pa_cons (pv 15) (pa_cons (pv 16) (pa_cons (pv 19) pa_nil))))))))))))))))))), fun D hrt hnx => ?_⟩
  have ok := okk1 hk0
  suffices hx : XS _ D F0 [some (vr p0), some (va T x1), some (va T x2), some (va T x3), some (va T x4), none, none, none, none, none, none, none, none, none, none, none, none, none, none, none] (stt Ω [(k0, machA T p0 x0)] []) by
    rw [show (stt Ω [(k0, machA T p0 x0)] []) = Ω from stt_self (by simp [hk0])] at hx
    exact hx
  rw [M_karatsuba_product_succ] at hm
  refine xs_drop (xe_mcall (xe_var (i := 0) rfl) (stt_get ok (i := 0) rfl) (xa_cons xe_str (xa_cons (xe_var (i := 2) rfl) (xa_cons (xe_var (i := 4) rfl) xa_nil))) ⟨k0, p0, x0, ("karatsuba" : Str), x2, x4, rfl, (stt_get ok (i := 0) rfl), rfl⟩ (cal1 ok (i := 0) rfl)) ?_
  show XS (tSeq _ _) _ _ [some (vr p0), some (va T x1), some (va T x2), some (va T x3), some (va T x4), none, none, none, none, none, none, none, none, none, none, none, none, none, none, none] (stt Ω [(k0, machA T p0 (x0.enter ("karatsuba" : Str) x2 x4))] [])
  obtain ⟨z1, hz1, hm⟩ := bnd_some hm
  obtain ⟨y2, hy2, hm⟩ := bnd_some hm
  refine xs_set (A := va T y2) (xe_eq (xe_fdiv (chkP_some hz1) (xe_var (i := 4) rfl) xe_int) (Option.some.inj hy2)) ?_
  show XS (tSeq _ _) _ _ [some (vr p0), some (va T x1), some (va T x2), some (va T x3), some (va T x4), some (va T y2), none, none, none, none, none, none, none, none, none, none, none, none, none, none] (stt Ω [(k0, machA T p0 (x0.enter ("karatsuba" : Str) x2 x4))] [])
  obtain ⟨z3, hz3, hm⟩ := bnd_some hm
  refine xs_asgG (xe_call (xa_cons (xe_var (i := 0) rfl) (xa_cons (xe_var (i := 1) rfl) (xa_cons (xe_var (i := 5) rfl) xa_nil))) ⟨k0, p0, (x0.enter ("karatsuba" : Str) x2 x4), x1, y2, z3, rfl, (stt_get ok (i := 0) rfl), hz3, rfl⟩ cal0) tgt_quad ?_
  show XS (tSeq _ _) _ _ [some (vr p0), some (va T x1), some (va T x2), some (va T x3), some (va T x4), some (va T y2), some (va T z3.a), some (va T z3.b), some (va T z3.c), some (va T z3.d), none, none, none, none, none, none, none, none, none, none] (stt Ω [(k0, machA T p0 (x0.enter ("karatsuba" : Str) x2 x4))] [])
  obtain ⟨z4, hz4, hm⟩ := bnd_some hm
  refine xs_asgG (xe_call (xa_cons (xe_var (i := 0) rfl) (xa_cons (xe_var (i := 3) rfl) (xa_cons (xe_var (i := 5) rfl) xa_nil))) ⟨k0, p0, (x0.enter ("karatsuba" : Str) x2 x4), x3, y2, z4, rfl, (stt_get ok (i := 0) rfl), hz4, rfl⟩ cal0) tgt_quad ?_
  show XS (tSeq _ _) _ _ [some (vr p0), some (va T x1), some (va T x2), some (va T x3), some (va T x4), some (va T y2), some (va T z3.a), some (va T z3.b), some (va T z3.c), some (va T z3.d), some (va T z4.a), some (va T z4.b), some (va T z4.c), some (va T z4.d), none, none, none, none, none, none] (stt Ω [(k0, machA T p0 (x0.enter ("karatsuba" : Str) x2 x4))] [])
  obtain ⟨z5, hz5, hm⟩ := bnd_some hm
  refine xs_set (A := va T z5.1) (xe_call (xa_cons (xe_var (i := 0) rfl) (xa_cons (xe_var (i := 8) rfl) (xa_cons (xe_var (i := 9) rfl) (xa_cons (xe_var (i := 12) rfl) (xa_cons (xe_var (i := 13) rfl) xa_nil))))) ⟨k0, p0, (x0.enter ("karatsuba" : Str) x2 x4), z3.c, z3.d, z4.c, z4.d, z5, rfl, (stt_get ok (i := 0) rfl), hz5, rfl⟩ (cal1 ok (i := 0) rfl)) ?_
  show XS (tSeq _ _) _ _ [some (vr p0), some (va T x1), some (va T x2), some (va T x3), some (va T x4), some (va T y2), some (va T z3.a), some (va T z3.b), some (va T z3.c), some (va T z3.d), some (va T z4.a), some (va T z4.b), some (va T z4.c), some (va T z4.d), some (va T z5.1), none, none, none, none, none] (stt Ω [(k0, machA T p0 z5.2)] [])
  obtain ⟨z6, hz6, hm⟩ := bnd_some hm
  refine xs_set (A := va T z6.1) (xe_call (xa_cons (xe_var (i := 0) rfl) (xa_cons (xe_var (i := 6) rfl) (xa_cons (xe_var (i := 7) rfl) (xa_cons (xe_var (i := 10) rfl) (xa_cons (xe_var (i := 11) rfl) xa_nil))))) ⟨k0, p0, z5.2, z3.a, z3.b, z4.a, z4.b, z6, rfl, (stt_get ok (i := 0) rfl), hz6, rfl⟩ (cal1 ok (i := 0) rfl)) ?_
  show XS (tSeq _ _) _ _ [some (vr p0), some (va T x1), some (va T x2), some (va T x3), some (va T x4), some (va T y2), some (va T z3.a), some (va T z3.b), some (va T z3.c), some (va T z3.d), some (va T z4.a), some (va T z4.b), some (va T z4.c), some (va T z4.d), some (va T z5.1), some (va T z6.1), none, none, none, none] (stt Ω [(k0, machA T p0 z6.2)] [])
  obtain ⟨z7, hz7, hm⟩ := bnd_some hm
  refine xs_set (A := va T z7.1) (xe_call (xa_cons (xe_var (i := 0) rfl) (xa_cons (xe_sub (xe_add (xe_var (i := 2) rfl) (xe_var (i := 4) rfl)) (xe_var (i := 5) rfl)) (xa_cons (xe_var (i := 5) rfl) (xa_cons (xe_var (i := 15) rfl) (xa_cons (xe_var (i := 14) rfl) xa_nil))))) ⟨k0, p0, z6.2, ((x2 + x4) - y2), y2, z6.1, z5.1, z7, rfl, (stt_get ok (i := 0) rfl), hz7, rfl⟩ (cal1 ok (i := 0) rfl)) ?_
  show XS (tSeq _ _) _ _ [some (vr p0), some (va T x1), some (va T x2), some (va T x3), some (va T x4), some (va T y2), some (va T z3.a), some (va T z3.b), some (va T z3.c), some (va T z3.d), some (va T z4.a), some (va T z4.b), some (va T z4.c), some (va T z4.d), some (va T z5.1), some (va T z6.1), some (va T z7.1), none, none, none] (stt Ω [(k0, machA T p0 z7.2)] [])
  obtain ⟨z8, hz8, hm⟩ := bnd_some hm
  refine xs_set (A := va T z8.1) (xe_call (xa_cons (xe_var (i := 0) rfl) (xa_cons (xe_var (i := 8) rfl) (xa_cons (xe_var (i := 9) rfl) (xa_cons (xe_var (i := 6) rfl) (xa_cons (xe_var (i := 7) rfl) xa_nil))))) ⟨k0, p0, z7.2, z3.c, z3.d, z3.a, z3.b, z8, rfl, (stt_get ok (i := 0) rfl), hz8, rfl⟩ (cal1 ok (i := 0) rfl)) ?_
  show XS (tSeq _ _) _ _ [some (vr p0), some (va T x1), some (va T x2), some (va T x3), some (va T x4), some (va T y2), some (va T z3.a), some (va T z3.b), some (va T z3.c), some (va T z3.d), some (va T z4.a), some (va T z4.b), some (va T z4.c), some (va T z4.d), some (va T z5.1), some (va T z6.1), some (va T z7.1), some (va T z8.1), none, none] (stt Ω [(k0, machA T p0 z8.2)] [])
  obtain ⟨z9, hz9, hm⟩ := bnd_some hm
  refine xs_set (A := va T z9.1) (xe_call (xa_cons (xe_var (i := 0) rfl) (xa_cons (xe_var (i := 12) rfl) (xa_cons (xe_var (i := 13) rfl) (xa_cons (xe_var (i := 10) rfl) (xa_cons (xe_var (i := 11) rfl) xa_nil))))) ⟨k0, p0, z8.2, z4.c, z4.d, z4.a, z4.b, z9, rfl, (stt_get ok (i := 0) rfl), hz9, rfl⟩ (cal1 ok (i := 0) rfl)) ?_
  show XS (tSeq _ _) _ _ [some (vr p0), some (va T x1), some (va T x2), some (va T x3), some (va T x4), some (va T y2), some (va T z3.a), some (va T z3.b), some (va T z3.c), some (va T z3.d), some (va T z4.a), some (va T z4.b), some (va T z4.c), some (va T z4.d), some (va T z5.1), some (va T z6.1), some (va T z7.1), some (va T z8.1), some (va T z9.1), none] (stt Ω [(k0, machA T p0 z9.2)] [])
  obtain ⟨z10, hz10, hm⟩ := bnd_some hm
  obtain ⟨z11, hz11, hm⟩ := bnd_some hm
  obtain ⟨z12, hz12, hm⟩ := bnd_some hm
  refine xs_set (A := va T z12.1) (xe_call (xa_cons (xe_var (i := 0) rfl) (xa_cons (xe_var (i := 17) rfl) (xa_cons (xe_call (xa_cons (xe_mw mc.cl mc.nw (xe_var (i := 0) rfl) (stt_get ok (i := 0) rfl)) (xa_cons (xe_var (i := 17) rfl) xa_nil)) ⟨z9.2.w, z8.1, z10, rfl, hz10, rfl⟩ cal0) (xa_cons (xe_var (i := 18) rfl) (xa_cons (xe_call (xa_cons (xe_mw mc.cl mc.nw (xe_var (i := 0) rfl) (stt_get ok (i := 0) rfl)) (xa_cons (xe_var (i := 18) rfl) xa_nil)) ⟨z9.2.w, z9.1, z11, rfl, hz11, rfl⟩ cal0) xa_nil))))) ⟨k0, p0, z9.2, z8.1, z10, z9.1, z11, z12, rfl, (stt_get ok (i := 0) rfl), hz12, rfl⟩ (cal1 ok (i := 0) rfl)) ?_
  show XS (tRet _) _ _ [some (vr p0), some (va T x1), some (va T x2), some (va T x3), some (va T x4), some (va T y2), some (va T z3.a), some (va T z3.b), some (va T z3.c), some (va T z3.d), some (va T z4.a), some (va T z4.b), some (va T z4.c), some (va T z4.d), some (va T z5.1), some (va T z6.1), some (va T z7.1), some (va T z8.1), some (va T z9.1), some (va T z12.1)] (stt Ω [(k0, machA T p0 z12.2)] [])
  obtain ⟨z13, hz13, hm⟩ := bnd_some hm
  obtain rfl := Option.some.inj hm
  refine xs_ret (xe_call (xa_cons (xe_var (i := 0) rfl) (xa_cons (xe_sub (xe_add (xe_var (i := 2) rfl) (xe_var (i := 4) rfl)) (xe_var (i := 5) rfl)) (xa_cons (xe_var (i := 5) rfl) (xa_cons (xe_var (i := 15) rfl) (xa_cons (xe_var (i := 16) rfl) (xa_cons (xe_var (i := 19) rfl) xa_nil)))))) ⟨k0, p0, z12.2, ((x2 + x4) - y2), y2, z6.1, z7.1, z12.1, z13, rfl, (stt_get ok (i := 0) rfl), hz13, rfl⟩ (cal1 ok (i := 0) rfl)) hrt.all
noncomputable def M_product_of (x0 : MS) (x1 : Int) (x2 : Int) : Option (Int × MS) :=
  (M_are_compact x0 x1 x2).bind fun z1 => if z1 = true then (chkP (("short" : Str) ∈ mwords)).bind fun z2 => (chkP (IntMulOk x1 x2)).bind fun z3 => some ((x1 * x2), (x0.step ("short" : Str) (1 : Int))) else (M_size_of x0.w x1).bind fun z4 => (M_size_of x0.w x2).bind fun z5 => (M_multiplied 40 x0 ((x1.natAbs : Nat) : Int) z4 ((x2.natAbs : Nat) : Int) z5).bind fun z6 => some ((if (decide ((decide (x1 < (0 : Int))) = (decide (x2 < (0 : Int))))) = true then z6.1 else (-z6.1)), z6.2)
def Pre_product_of (T : TC) : PreT := fun As Ω R => ∃ (k0 : Nat) (p0 : Addr) (x0 : MS) (x1 : Int) (x2 : Int) (r : Int × MS), As = [vr p0, va T x1, va T x2] ∧ Ω[k0]? = some (machA T p0 x0) ∧ M_product_of x0 x1 x2 = some r ∧ R = RV (va T r.1) (stt Ω [(k0, machA T p0 r.2)] [])
theorem sc_product_of : FnScope ["machine", "x", "y", "number"] ["machine", "x", "y"] (defScope s_product_of) := ⟨rfl, rfl, rfl, by decide +kernel, rfl, by decide +kernel, by decide +kernel⟩
theorem ok_product_of {f : Addr} {fd : FuncData} (F : Fun T.K "product_of" "product_of" s_product_of f fd) (c_are_compact : Cal P w T.K mg base 2 "are_compact" ["machine", "x", "y"] (mkSp (Pre_are_compact T))) (mc : MCls T.K (T.C 0)) (c_Mach_step : CalM P w T.K mg base 1 (T.C 0) "step" ["self", "word", "many"] (mkSp (Pre_Mach_step T))) (z_abs : mg "abs" = none) (c_size_of : Cal P w T.K mg base 2 "size_of" ["width", "n"] (mkSp (Pre_size_of T))) (c_multiplied : Cal P w T.K mg base 44 "multiplied" ["machine", "a", "m", "b", "n"] (mkSp (Pre_multiplied 40 T))) : FnOk P w T.K mg base CX0 45 f fd ["machine", "x", "y"] (mkSp (Pre_product_of T)) := by
  refine fn_ok F sc_product_of (fun As Ω R h => ?_) (fun cdv A outer s H E hr As Ω R F0 h => ?_)
  · obtain ⟨k0, p0, x0, x1, x2, r, rfl, _⟩ := h
    rfl
  obtain ⟨k0, p0, x0, x1, x2, r, rfl, hk0, hm, rfl⟩ := h
  refine ⟨_, (pss_cons (ps_if (pt_val (pe_cal c_are_compact (hr.mono (by decide)) (by rfl) (pa_cons (pv 0) (pa_cons (pv 1) (pa_cons (pv 2) pa_nil))))) (pss_cons (ps_expr (pe_calM (pv 0) c_Mach_step (hr.mono (by decide)) (pa_cons pe_str (pa_cons pe_int pa_nil)))) (pss_one (ps_ret (pe_op op_mulQ (pv 1) (pv 2))))) pss_nil) (pss_cons (ps_set (i := 3) sc_product_of.nd rfl (.inl rfl) (pe_cal c_multiplied (hr.mono (by decide)) (by rfl) (pa_cons (pv 0) (pa_cons (pe_callB cr_abs (by rfl) z_abs (by decide +kernel) (pa_cons (pv 1) pa_nil)) (pa_cons (pe_cal c_size_of (hr.mono (by decide)) (by rfl) (pa_cons (pe_fldK (K := T.K) (pv 0) (by rfl) rfl) (pa_cons (pv 1) pa_nil))) (pa_cons (pe_callB cr_abs (by rfl) z_abs (by decide +kernel) (pa_cons (pv 2) pa_nil)) (pa_cons (pe_cal c_size_of (hr.mono (by decide)) (by rfl) (pa_cons (pe_fldK (K := T.K) (pv 0) (by rfl) rfl) (pa_cons (pv 2) pa_nil))) pa_nil))))))) (pss_one (ps_ret (pe_ifExp (pt_cmpR (op_eqXK (K := T.K) (by exact hr.units) rfl) (pe_cmpR op_lt (pv 1) pe_int (nomark _)) (pe_cmpR op_lt (pv 2) pe_int (nomark _)) (nomark _)) (pv 3) (pe_un un_neg (pv 3))))))), fun D hrt hnx => ?_⟩
  have ok := okk1 hk0
  suffices hx : XS _ D F0 [some (vr p0), some (va T x1), some (va T x2), none] (stt Ω [(k0, machA T p0 x0)] []) by
    rw [show (stt Ω [(k0, machA T p0 x0)] []) = Ω from stt_self (by simp [hk0])] at hx
    exact hx
  unfold M_product_of at hm
  obtain ⟨z1, hz1, hm⟩ := bnd_some hm
  by_cases hc : z1 = true
  · rw [if_pos hc] at hm
    refine xs_ifT (xt_eq (xt_tB (T := T) (xe_call (xa_cons (xe_var (i := 0) rfl) (xa_cons (xe_var (i := 1) rfl) (xa_cons (xe_var (i := 2) rfl) xa_nil))) ⟨k0, p0, x0, x1, x2, z1, rfl, (stt_get ok (i := 0) rfl), hz1, rfl⟩ cal0)) hc) ?_
    obtain ⟨z2, hz2, hm⟩ := bnd_some hm
    refine xs_drop (xe_mcall (xe_var (i := 0) rfl) (stt_get ok (i := 0) rfl) (xa_cons xe_str (xa_cons xe_int xa_nil)) ⟨k0, p0, x0, ("short" : Str), (1 : Int), rfl, (stt_get ok (i := 0) rfl), chkP_some hz2, rfl⟩ (cal1 ok (i := 0) rfl)) ?_
    show XS (tRet _) _ _ [some (vr p0), some (va T x1), some (va T x2), none] (stt Ω [(k0, machA T p0 (x0.step ("short" : Str) (1 : Int)))] [])
    obtain ⟨z3, hz3, hm⟩ := bnd_some hm
    obtain rfl := Option.some.inj hm
    refine xs_ret (xe_mul (chkP_some hz3) (xe_var (i := 1) rfl) (xe_var (i := 2) rfl)) hrt.all
  · rw [if_neg hc] at hm
    refine xs_ifN (xt_eq (xt_tB (T := T) (xe_call (xa_cons (xe_var (i := 0) rfl) (xa_cons (xe_var (i := 1) rfl) (xa_cons (xe_var (i := 2) rfl) xa_nil))) ⟨k0, p0, x0, x1, x2, z1, rfl, (stt_get ok (i := 0) rfl), hz1, rfl⟩ cal0)) (nt hc)) ?_
    show XS (tSeq _ _) _ _ [some (vr p0), some (va T x1), some (va T x2), none] (stt Ω [(k0, machA T p0 x0)] [])
    obtain ⟨z4, hz4, hm⟩ := bnd_some hm
    obtain ⟨z5, hz5, hm⟩ := bnd_some hm
    obtain ⟨z6, hz6, hm⟩ := bnd_some hm
    refine xs_set (A := va T z6.1) (xe_call (xa_cons (xe_var (i := 0) rfl) (xa_cons (xe_abs (xe_var (i := 1) rfl)) (xa_cons (xe_call (xa_cons (xe_mw mc.cl mc.nw (xe_var (i := 0) rfl) (stt_get ok (i := 0) rfl)) (xa_cons (xe_var (i := 1) rfl) xa_nil)) ⟨x0.w, x1, z4, rfl, hz4, rfl⟩ cal0) (xa_cons (xe_abs (xe_var (i := 2) rfl)) (xa_cons (xe_call (xa_cons (xe_mw mc.cl mc.nw (xe_var (i := 0) rfl) (stt_get ok (i := 0) rfl)) (xa_cons (xe_var (i := 2) rfl) xa_nil)) ⟨x0.w, x2, z5, rfl, hz5, rfl⟩ cal0) xa_nil))))) ⟨k0, p0, x0, ((x1.natAbs : Nat) : Int), z4, ((x2.natAbs : Nat) : Int), z5, z6, rfl, (stt_get ok (i := 0) rfl), hz6, rfl⟩ (cal1 ok (i := 0) rfl)) ?_
    show XS (tRet _) _ _ [some (vr p0), some (va T x1), some (va T x2), some (va T z6.1)] (stt Ω [(k0, machA T p0 z6.2)] [])
    obtain rfl := Option.some.inj hm
    refine xs_ret (xe_ite (xt_test (T := T) (xe_eqB (xe_lt (xe_var (i := 1) rfl) xe_int) (xe_lt (xe_var (i := 2) rfl) xe_int))) (xe_var (i := 3) rfl) (xe_neg (xe_var (i := 3) rfl))) hrt.all
noncomputable def M_multiply (x0 : MS) (x1 : Bg) (x2 : Bg) : Option (Bg × MS) :=
  (M_check_two x0 x1 x2).bind fun z1 => (M_product_of x0 x1.v x2.v).bind fun z2 => (M_big_of z2.2 z2.1).bind fun z3 => some (z3, z2.2)
def Pre_multiply (T : TC) : PreT := fun As Ω R => ∃ (k0 : Nat) (p0 : Addr) (x0 : MS) (x1 : Bg) (x2 : Bg) (r : Bg × MS), As = [vr p0, va T x1, va T x2] ∧ Ω[k0]? = some (machA T p0 x0) ∧ M_multiply x0 x1 x2 = some r ∧ R = RV (va T r.1) (stt Ω [(k0, machA T p0 r.2)] [])
theorem sc_multiply : FnScope ["machine", "x", "y"] ["machine", "x", "y"] (defScope s_multiply) := ⟨rfl, rfl, rfl, by decide +kernel, rfl, by decide +kernel, by decide +kernel⟩
theorem ok_multiply {f : Addr} {fd : FuncData} (F : Fun T.K "multiply" "multiply" s_multiply f fd) (c_check_two : Cal P w T.K mg base 4 "check_two" ["machine", "x", "y"] (mkSp (Pre_check_two T))) (bc : BCls T.K (T.C 1)) (c_product_of : Cal P w T.K mg base 45 "product_of" ["machine", "x", "y"] (mkSp (Pre_product_of T))) (c_big_of : Cal P w T.K mg base 22 "big_of" ["machine", "value"] (mkSp (Pre_big_of T))) : FnOk P w T.K mg base CX0 46 f fd ["machine", "x", "y"] (mkSp (Pre_multiply T)) := by
  refine fn_ok F sc_multiply (fun As Ω R h => ?_) (fun cdv A outer s H E hr As Ω R F0 h => ?_)
  · obtain ⟨k0, p0, x0, x1, x2, r, rfl, _⟩ := h
    rfl
  obtain ⟨k0, p0, x0, x1, x2, r, rfl, hk0, hm, rfl⟩ := h
  refine ⟨_, (pss_cons (ps_expr (pe_cal c_check_two (hr.mono (by decide)) (by rfl) (pa_cons (pv 0) (pa_cons (pv 1) (pa_cons (pv 2) pa_nil))))) (pss_one (ps_ret (pe_cal c_big_of (hr.mono (by decide)) (by rfl) (pa_cons (pv 0) (pa_cons (pe_cal c_product_of (hr.mono (by decide)) (by rfl) (pa_cons (pv 0) (pa_cons (pe_fldK (K := T.K) (pv 1) (by rfl) rfl) (pa_cons (pe_fldK (K := T.K) (pv 2) (by rfl) rfl) pa_nil)))) pa_nil)))))), fun D hrt hnx => ?_⟩
  have ok := okk1 hk0
  suffices hx : XS _ D F0 [some (vr p0), some (va T x1), some (va T x2)] (stt Ω [(k0, machA T p0 x0)] []) by
    rw [show (stt Ω [(k0, machA T p0 x0)] []) = Ω from stt_self (by simp [hk0])] at hx
    exact hx
  unfold M_multiply at hm
  obtain ⟨z1, hz1, hm⟩ := bnd_some hm
  refine xs_drop (xe_call (xa_cons (xe_var (i := 0) rfl) (xa_cons (xe_var (i := 1) rfl) (xa_cons (xe_var (i := 2) rfl) xa_nil))) ⟨k0, p0, x0, x1, x2, z1, rfl, (stt_get ok (i := 0) rfl), hz1, rfl⟩ cal0) ?_
  show XS (tRet _) _ _ [some (vr p0), some (va T x1), some (va T x2)] (stt Ω [(k0, machA T p0 x0)] [])
  obtain ⟨z2, hz2, hm⟩ := bnd_some hm
  obtain ⟨z3, hz3, hm⟩ := bnd_some hm
  obtain rfl := Option.some.inj hm
  refine xs_ret (xe_call (xa_cons (xe_var (i := 0) rfl) (xa_cons (xe_call (xa_cons (xe_var (i := 0) rfl) (xa_cons (xe_bv bc.cl bc.nv (xe_var (i := 1) rfl)) (xa_cons (xe_bv bc.cl bc.nv (xe_var (i := 2) rfl)) xa_nil))) ⟨k0, p0, x0, x1.v, x2.v, z2, rfl, (stt_get ok (i := 0) rfl), hz2, rfl⟩ (cal1 ok (i := 0) rfl)) xa_nil)) ⟨k0, p0, z2.2, z2.1, z3, rfl, (stt_get ok (i := 0) rfl), hz3, rfl⟩ cal0) hrt.all
mutual
noncomputable def M_squared : Nat → MS → Int → Int → Option (Int × MS)
  | 0, _, _, _ => none
  | kf + 1, x0, x1, x2 => if (decide (x2 = (0 : Int))) = true then some ((0 : Int), x0) else (chkP (IntMulOk (2 : Int) x0.c)).bind fun z1 => if (decide (x2 ≤ ((2 : Int) * x0.c))) = true then (M_square_of_row x0 x1 x2).bind fun z2 => some (z2.1, z2.2) else (M_karatsuba_square kf x0 x1 x2).bind fun z3 => some (z3.1, z3.2)
noncomputable def M_karatsuba_square : Nat → MS → Int → Int → Option (Int × MS)
  | 0, _, _, _ => none
  | kf + 1, x0, x1, x2 => (chkP (CDivW x2 (2 : Int))).bind fun z1 => (some (x2 / (2 : Int))).bind fun y2 => (M_parts_of (x0.enter ("karatsuba" : Str) x2 x2) x1 y2).bind fun z3 => (M_squared kf (x0.enter ("karatsuba" : Str) x2 x2) z3.c z3.d).bind fun z4 => (M_squared kf z4.2 z3.a z3.b).bind fun z5 => (chkP (IntMulOk (2 : Int) x2)).bind fun z6 => (M_room_above z5.2 (((2 : Int) * x2) - y2) y2 z5.1 z4.1).bind fun z7 => (M_added z7.2 z3.c z3.d z3.a z3.b).bind fun z8 => (M_size_of z8.2.w z8.1).bind fun z9 => (M_squared kf z8.2 z8.1 z9).bind fun z10 => (chkP (IntMulOk (2 : Int) x2)).bind fun z11 => (M_whole_room z10.2 (((2 : Int) * x2) - y2) y2 z5.1 z7.1 z10.1).bind fun z12 => some (z12.1, z12.2)
end
theorem M_squared_succ (kf : Nat) (x0 : MS) (x1 : Int) (x2 : Int) : M_squared (kf + 1) x0 x1 x2 = (if (decide (x2 = (0 : Int))) = true then some ((0 : Int), x0) else (chkP (IntMulOk (2 : Int) x0.c)).bind fun z1 => if (decide (x2 ≤ ((2 : Int) * x0.c))) = true then (M_square_of_row x0 x1 x2).bind fun z2 => some (z2.1, z2.2) else (M_karatsuba_square kf x0 x1 x2).bind fun z3 => some (z3.1, z3.2)) := by rw [M_squared]
theorem M_squared_zero (x0 : MS) (x1 : Int) (x2 : Int) : M_squared 0 x0 x1 x2 = none := by rw [M_squared]
theorem M_karatsuba_square_succ (kf : Nat) (x0 : MS) (x1 : Int) (x2 : Int) : M_karatsuba_square (kf + 1) x0 x1 x2 = ((chkP (CDivW x2 (2 : Int))).bind fun z1 => (some (x2 / (2 : Int))).bind fun y2 => (M_parts_of (x0.enter ("karatsuba" : Str) x2 x2) x1 y2).bind fun z3 => (M_squared kf (x0.enter ("karatsuba" : Str) x2 x2) z3.c z3.d).bind fun z4 => (M_squared kf z4.2 z3.a z3.b).bind fun z5 => (chkP (IntMulOk (2 : Int) x2)).bind fun z6 => (M_room_above z5.2 (((2 : Int) * x2) - y2) y2 z5.1 z4.1).bind fun z7 => (M_added z7.2 z3.c z3.d z3.a z3.b).bind fun z8 => (M_size_of z8.2.w z8.1).bind fun z9 => (M_squared kf z8.2 z8.1 z9).bind fun z10 => (chkP (IntMulOk (2 : Int) x2)).bind fun z11 => (M_whole_room z10.2 (((2 : Int) * x2) - y2) y2 z5.1 z7.1 z10.1).bind fun z12 => some (z12.1, z12.2)) := by rw [M_karatsuba_square]
theorem M_karatsuba_square_zero (x0 : MS) (x1 : Int) (x2 : Int) : M_karatsuba_square 0 x0 x1 x2 = none := by rw [M_karatsuba_square]
def Pre_squared (kf : Nat) (T : TC) : PreT := fun As Ω R => ∃ (k0 : Nat) (p0 : Addr) (x0 : MS) (x1 : Int) (x2 : Int) (r : Int × MS), As = [vr p0, va T x1, va T x2] ∧ Ω[k0]? = some (machA T p0 x0) ∧ M_squared kf x0 x1 x2 = some r ∧ R = RV (va T r.1) (stt Ω [(k0, machA T p0 r.2)] [])
def Pre_karatsuba_square (kf : Nat) (T : TC) : PreT := fun As Ω R => ∃ (k0 : Nat) (p0 : Addr) (x0 : MS) (x1 : Int) (x2 : Int) (r : Int × MS), As = [vr p0, va T x1, va T x2] ∧ Ω[k0]? = some (machA T p0 x0) ∧ M_karatsuba_square kf x0 x1 x2 = some r ∧ R = RV (va T r.1) (stt Ω [(k0, machA T p0 r.2)] [])
theorem sc_squared : FnScope ["machine", "a", "m"] ["machine", "a", "m"] (defScope s_squared) := ⟨rfl, rfl, rfl, by decide +kernel, rfl, by decide +kernel, by decide +kernel⟩
theorem ok0_squared {f : Addr} {fd : FuncData} (F : Fun T.K "squared" "squared" s_squared f fd) : FnOk P w T.K mg base CX0 4 f fd ["machine", "a", "m"] (mkSp (Pre_squared 0 T)) := by
  refine fn_ok (k := 3) F sc_squared (fun As Ω R h => ?_) (fun cdv A outer s H E hr As Ω R F0 h => ?_)
  · obtain ⟨k0, p0, x0, x1, x2, r, rfl, _⟩ := h
    rfl
  obtain ⟨k0, p0, x0, x1, x2, r, rfl, hk0, hm, rfl⟩ := h
  rw [M_squared_zero] at hm
  cases hm
theorem ok_squared (kf : Nat) {f : Addr} {fd : FuncData} (F : Fun T.K "squared" "squared" s_squared f fd) (mc : MCls T.K (T.C 0)) (c_square_of_row : Cal P w T.K mg base 2 "square_of_row" ["machine", "a", "m"] (mkSp (Pre_square_of_row T))) (c_karatsuba_square : Cal P w T.K mg base (4 + kf) "karatsuba_square" ["machine", "a", "m"] (mkSp (Pre_karatsuba_square kf T))) : FnOk P w T.K mg base CX0 (4 + kf + 1) f fd ["machine", "a", "m"] (mkSp (Pre_squared (kf + 1) T)) := by
  refine fn_ok F sc_squared (fun As Ω R h => ?_) (fun cdv A outer s H E hr As Ω R F0 h => ?_)
  · obtain ⟨k0, p0, x0, x1, x2, r, rfl, _⟩ := h
    rfl
  obtain ⟨k0, p0, x0, x1, x2, r, rfl, hk0, hm, rfl⟩ := h
  refine ⟨_, (pss_cons (ps_if (pt_cmpR (op_eqXK (K := T.K) (by exact hr.units) rfl) (pv 2) pe_int (nomark _)) (pss_one (ps_ret pe_int)) pss_nil) (pss_cons (ps_if (pt_cmpR op_le (pv 2) (pe_op op_mulQ pe_int (pe_fldK (K := T.K) (pv 0) (by rfl) rfl)) (nomark _)) (pss_one (ps_ret (pe_cal c_square_of_row (hr.mono (by omega)) (by rfl) (pa_cons (pv 0) (pa_cons (pv 1) (pa_cons (pv 2) pa_nil)))))) pss_nil) (pss_one (ps_ret (pe_cal c_karatsuba_square (hr.mono (by omega)) (by rfl) (pa_cons (pv 0) (pa_cons (pv 1) (pa_cons (pv 2) pa_nil)))))))), fun D hrt hnx => ?_⟩
  have ok := okk1 hk0
  suffices hx : XS _ D F0 [some (vr p0), some (va T x1), some (va T x2)] (stt Ω [(k0, machA T p0 x0)] []) by
    rw [show (stt Ω [(k0, machA T p0 x0)] []) = Ω from stt_self (by simp [hk0])] at hx
    exact hx
  rw [M_squared_succ] at hm
  by_cases hc : (decide (x2 = (0 : Int))) = true
  · rw [if_pos hc] at hm
    refine xs_ifT (xt_eq (xt_test (T := T) (xe_eqI (xe_var (i := 2) rfl) xe_int)) hc) ?_
    obtain rfl := Option.some.inj hm
    refine xs_ret xe_int hrt.all
  · rw [if_neg hc] at hm
    refine xs_ifN (xt_eq (xt_test (T := T) (xe_eqI (xe_var (i := 2) rfl) xe_int)) (nt hc)) ?_
    show XS (tSeq _ _) _ _ [some (vr p0), some (va T x1), some (va T x2)] (stt Ω [(k0, machA T p0 x0)] [])
    obtain ⟨z1, hz1, hm⟩ := bnd_some hm
    by_cases hc : (decide (x2 ≤ ((2 : Int) * x0.c))) = true
    · rw [if_pos hc] at hm
      refine xs_ifT (xt_eq (xt_test (T := T) (xe_le (xe_var (i := 2) rfl) (xe_mul (chkP_some hz1) xe_int (xe_mc mc.cl mc.nc (xe_var (i := 0) rfl) (stt_get ok (i := 0) rfl))))) hc) ?_
      obtain ⟨z2, hz2, hm⟩ := bnd_some hm
      obtain rfl := Option.some.inj hm
      refine xs_ret (xe_call (xa_cons (xe_var (i := 0) rfl) (xa_cons (xe_var (i := 1) rfl) (xa_cons (xe_var (i := 2) rfl) xa_nil))) ⟨k0, p0, x0, x1, x2, z2, rfl, (stt_get ok (i := 0) rfl), hz2, rfl⟩ (cal1 ok (i := 0) rfl)) hrt.all
    · rw [if_neg hc] at hm
      refine xs_ifN (xt_eq (xt_test (T := T) (xe_le (xe_var (i := 2) rfl) (xe_mul (chkP_some hz1) xe_int (xe_mc mc.cl mc.nc (xe_var (i := 0) rfl) (stt_get ok (i := 0) rfl))))) (nt hc)) ?_
      show XS (tRet _) _ _ [some (vr p0), some (va T x1), some (va T x2)] (stt Ω [(k0, machA T p0 x0)] [])
      obtain ⟨z3, hz3, hm⟩ := bnd_some hm
      obtain rfl := Option.some.inj hm
      refine xs_ret (xe_call (xa_cons (xe_var (i := 0) rfl) (xa_cons (xe_var (i := 1) rfl) (xa_cons (xe_var (i := 2) rfl) xa_nil))) ⟨k0, p0, x0, x1, x2, z3, rfl, (stt_get ok (i := 0) rfl), hz3, rfl⟩ (cal1 ok (i := 0) rfl)) hrt.all
theorem sc_karatsuba_square : FnScope ["machine", "a", "m", "cut", "a_low", "low_m", "a_high", "high_m", "high", "low", "above", "a_sum", "middle"] ["machine", "a", "m"] (defScope s_karatsuba_square) := ⟨rfl, rfl, rfl, by decide +kernel, rfl, by decide +kernel, by decide +kernel⟩
theorem ok0_karatsuba_square {f : Addr} {fd : FuncData} (F : Fun T.K "karatsuba_square" "karatsuba_square" s_karatsuba_square f fd) : FnOk P w T.K mg base CX0 4 f fd ["machine", "a", "m"] (mkSp (Pre_karatsuba_square 0 T)) := by
  refine fn_ok (k := 3) F sc_karatsuba_square (fun As Ω R h => ?_) (fun cdv A outer s H E hr As Ω R F0 h => ?_)
  · obtain ⟨k0, p0, x0, x1, x2, r, rfl, _⟩ := h
    rfl
  obtain ⟨k0, p0, x0, x1, x2, r, rfl, hk0, hm, rfl⟩ := h
  rw [M_karatsuba_square_zero] at hm
  cases hm
theorem ok_karatsuba_square (kf : Nat) {f : Addr} {fd : FuncData} (F : Fun T.K "karatsuba_square" "karatsuba_square" s_karatsuba_square f fd) (mc : MCls T.K (T.C 0)) (c_Mach_enter : CalM P w T.K mg base 1 (T.C 0) "enter" ["self", "word", "m", "n"] (mkSp (Pre_Mach_enter T))) (c_parts_of : Cal P w T.K mg base 3 "parts_of" ["machine", "a", "cut"] (mkSp (Pre_parts_of T))) (c_squared : Cal P w T.K mg base (4 + kf) "squared" ["machine", "a", "m"] (mkSp (Pre_squared kf T))) (c_room_above : Cal P w T.K mg base 4 "room_above" ["machine", "size", "cut", "low", "high"] (mkSp (Pre_room_above T))) (c_added : Cal P w T.K mg base 2 "added" ["machine", "a", "m", "b", "n"] (mkSp (Pre_added T))) (c_size_of : Cal P w T.K mg base 2 "size_of" ["width", "n"] (mkSp (Pre_size_of T))) (c_whole_room : Cal P w T.K mg base 4 "whole_room" ["machine", "size", "cut", "low", "above", "middle"] (mkSp (Pre_whole_room T))) : FnOk P w T.K mg base CX0 (4 + kf + 1) f fd ["machine", "a", "m"] (mkSp (Pre_karatsuba_square (kf + 1) T)) := by
  refine fn_ok F sc_karatsuba_square (fun As Ω R h => ?_) (fun cdv A outer s H E hr As Ω R F0 h => ?_)
  · obtain ⟨k0, p0, x0, x1, x2, r, rfl, _⟩ := h
    rfl
  obtain ⟨k0, p0, x0, x1, x2, r, rfl, hk0, hm, rfl⟩ := h
  refine ⟨_, (pss_cons (ps_expr (pe_calM (pv 0) c_Mach_enter (hr.mono (by omega)) (pa_cons pe_str (pa_cons (pv 2) (pa_cons (pv 2) pa_nil))))) (pss_cons (ps_set (i := 3) sc_karatsuba_square.nd rfl (.inl rfl) (pe_op op_fdivW (pv 2) pe_int)) (pss_cons (ps_asg (pe_cal c_parts_of (hr.mono (by omega)) (by rfl) (pa_cons (pv 0) (pa_cons (pv 1) (pa_cons (pv 3) pa_nil)))) (pg_tupK (K := T.K) (n := 4) rfl rfl (pgs_cons (pg_name (i := 4) sc_karatsuba_square.nd rfl (.inl rfl)) (pgs_cons (pg_name (i := 5) sc_karatsuba_square.nd rfl (.inl rfl)) (pgs_cons (pg_name (i := 6) sc_karatsuba_square.nd rfl (.inl rfl)) (pgs_cons (pg_name (i := 7) sc_karatsuba_square.nd rfl (.inl rfl)) pgs_nil)))))) (pss_cons (ps_set (i := 8) sc_karatsuba_square.nd rfl (.inl rfl) (pe_cal c_squared (hr.mono (by omega)) (by rfl) (pa_cons (pv 0) (pa_cons (pv 6) (pa_cons (pv 7) pa_nil))))) (pss_cons (ps_set (i := 9) sc_karatsuba_square.nd rfl (.inl rfl) (pe_cal c_squared (hr.mono (by omega)) (by rfl) (pa_cons (pv 0) (pa_cons (pv 4) (pa_cons (pv 5) pa_nil))))) (pss_cons (ps_set (i := 10) sc_karatsuba_square.nd rfl (.inl rfl) (pe_cal c_room_above (hr.mono (by omega)) (by rfl) (pa_cons (pv 0) (pa_cons (pe_op op_sub (pe_op op_mulQ pe_int (pv 2)) (pv 3)) (pa_cons (pv 3) (pa_cons (pv 9) (pa_cons (pv 8) pa_nil))))))) (pss_cons (ps_set (i := 11) sc_karatsuba_square.nd rfl (.inl rfl) (pe_cal c_added (hr.mono (by omega)) (by rfl) (pa_cons (pv 0) (pa_cons (pv 6) (pa_cons (pv 7) (pa_cons (pv 4) (pa_cons (pv 5) pa_nil))))))) (pss_cons (ps_set (i := 12) sc_karatsuba_square.nd rfl (.inl rfl) (pe_cal c_squared (hr.mono (by omega)) (by rfl) (pa_cons (pv 0) (pa_cons (pv 11) (pa_cons (pe_cal c_size_of (hr.mono (by omega)) (by rfl) (pa_cons (pe_fldK (K := T.K) (pv 0) (by rfl) rfl) (pa_cons (pv 11) pa_nil))) pa_nil))))) (pss_one (ps_ret (pe_cal c_whole_room (hr.mono (by omega)) (by rfl) (pa_cons (pv 0) (pa_cons (pe_op op_sub (pe_op op_mulQ pe_int (pv 2)) (pv 3)) (pa_cons (pv 3) (pa_cons (pv 9) (pa_cons (pv 10) (pa_cons (pv 12) pa_nil))))))))))))))))), fun D hrt hnx => ?_⟩
  have ok := okk1 hk0
  suffices hx : XS _ D F0 [some (vr p0), some (va T x1), some (va T x2), none, none, none, none, none, none, none, none, none, none] (stt Ω [(k0, machA T p0 x0)] []) by
    rw [show (stt Ω [(k0, machA T p0 x0)] []) = Ω from stt_self (by simp [hk0])] at hx
    exact hx
  rw [M_karatsuba_square_succ] at hm
  refine xs_drop (xe_mcall (xe_var (i := 0) rfl) (stt_get ok (i := 0) rfl) (xa_cons xe_str (xa_cons (xe_var (i := 2) rfl) (xa_cons (xe_var (i := 2) rfl) xa_nil))) ⟨k0, p0, x0, ("karatsuba" : Str), x2, x2, rfl, (stt_get ok (i := 0) rfl), rfl⟩ (cal1 ok (i := 0) rfl)) ?_
  show XS (tSeq _ _) _ _ [some (vr p0), some (va T x1), some (va T x2), none, none, none, none, none, none, none, none, none, none] (stt Ω [(k0, machA T p0 (x0.enter ("karatsuba" : Str) x2 x2))] [])
  obtain ⟨z1, hz1, hm⟩ := bnd_some hm
  obtain ⟨y2, hy2, hm⟩ := bnd_some hm
  refine xs_set (A := va T y2) (xe_eq (xe_fdiv (chkP_some hz1) (xe_var (i := 2) rfl) xe_int) (Option.some.inj hy2)) ?_
  show XS (tSeq _ _) _ _ [some (vr p0), some (va T x1), some (va T x2), some (va T y2), none, none, none, none, none, none, none, none, none] (stt Ω [(k0, machA T p0 (x0.enter ("karatsuba" : Str) x2 x2))] [])
  obtain ⟨z3, hz3, hm⟩ := bnd_some hm
  refine xs_asgG (xe_call (xa_cons (xe_var (i := 0) rfl) (xa_cons (xe_var (i := 1) rfl) (xa_cons (xe_var (i := 3) rfl) xa_nil))) ⟨k0, p0, (x0.enter ("karatsuba" : Str) x2 x2), x1, y2, z3, rfl, (stt_get ok (i := 0) rfl), hz3, rfl⟩ cal0) tgt_quad ?_
  show XS (tSeq _ _) _ _ [some (vr p0), some (va T x1), some (va T x2), some (va T y2), some (va T z3.a), some (va T z3.b), some (va T z3.c), some (va T z3.d), none, none, none, none, none] (stt Ω [(k0, machA T p0 (x0.enter ("karatsuba" : Str) x2 x2))] [])
  obtain ⟨z4, hz4, hm⟩ := bnd_some hm
  refine xs_set (A := va T z4.1) (xe_call (xa_cons (xe_var (i := 0) rfl) (xa_cons (xe_var (i := 6) rfl) (xa_cons (xe_var (i := 7) rfl) xa_nil))) ⟨k0, p0, (x0.enter ("karatsuba" : Str) x2 x2), z3.c, z3.d, z4, rfl, (stt_get ok (i := 0) rfl), hz4, rfl⟩ (cal1 ok (i := 0) rfl)) ?_
  show XS (tSeq _ _) _ _ [some (vr p0), some (va T x1), some (va T x2), some (va T y2), some (va T z3.a), some (va T z3.b), some (va T z3.c), some (va T z3.d), some (va T z4.1), none, none, none, none] (stt Ω [(k0, machA T p0 z4.2)] [])
  obtain ⟨z5, hz5, hm⟩ := bnd_some hm
  refine xs_set (A := va T z5.1) (xe_call (xa_cons (xe_var (i := 0) rfl) (xa_cons (xe_var (i := 4) rfl) (xa_cons (xe_var (i := 5) rfl) xa_nil))) ⟨k0, p0, z4.2, z3.a, z3.b, z5, rfl, (stt_get ok (i := 0) rfl), hz5, rfl⟩ (cal1 ok (i := 0) rfl)) ?_
  show XS (tSeq _ _) _ _ [some (vr p0), some (va T x1), some (va T x2), some (va T y2), some (va T z3.a), some (va T z3.b), some (va T z3.c), some (va T z3.d), some (va T z4.1), some (va T z5.1), none, none, none] (stt Ω [(k0, machA T p0 z5.2)] [])
  obtain ⟨z6, hz6, hm⟩ := bnd_some hm
  obtain ⟨z7, hz7, hm⟩ := bnd_some hm
  refine xs_set (A := va T z7.1) (xe_call (xa_cons (xe_var (i := 0) rfl) (xa_cons (xe_sub (xe_mul (chkP_some hz6) xe_int (xe_var (i := 2) rfl)) (xe_var (i := 3) rfl)) (xa_cons (xe_var (i := 3) rfl) (xa_cons (xe_var (i := 9) rfl) (xa_cons (xe_var (i := 8) rfl) xa_nil))))) ⟨k0, p0, z5.2, (((2 : Int) * x2) - y2), y2, z5.1, z4.1, z7, rfl, (stt_get ok (i := 0) rfl), hz7, rfl⟩ (cal1 ok (i := 0) rfl)) ?_
  show XS (tSeq _ _) _ _ [some (vr p0), some (va T x1), some (va T x2), some (va T y2), some (va T z3.a), some (va T z3.b), some (va T z3.c), some (va T z3.d), some (va T z4.1), some (va T z5.1), some (va T z7.1), none, none] (stt Ω [(k0, machA T p0 z7.2)] [])
  obtain ⟨z8, hz8, hm⟩ := bnd_some hm
  refine xs_set (A := va T z8.1) (xe_call (xa_cons (xe_var (i := 0) rfl) (xa_cons (xe_var (i := 6) rfl) (xa_cons (xe_var (i := 7) rfl) (xa_cons (xe_var (i := 4) rfl) (xa_cons (xe_var (i := 5) rfl) xa_nil))))) ⟨k0, p0, z7.2, z3.c, z3.d, z3.a, z3.b, z8, rfl, (stt_get ok (i := 0) rfl), hz8, rfl⟩ (cal1 ok (i := 0) rfl)) ?_
  show XS (tSeq _ _) _ _ [some (vr p0), some (va T x1), some (va T x2), some (va T y2), some (va T z3.a), some (va T z3.b), some (va T z3.c), some (va T z3.d), some (va T z4.1), some (va T z5.1), some (va T z7.1), some (va T z8.1), none] (stt Ω [(k0, machA T p0 z8.2)] [])
  obtain ⟨z9, hz9, hm⟩ := bnd_some hm
  obtain ⟨z10, hz10, hm⟩ := bnd_some hm
  refine xs_set (A := va T z10.1) (xe_call (xa_cons (xe_var (i := 0) rfl) (xa_cons (xe_var (i := 11) rfl) (xa_cons (xe_call (xa_cons (xe_mw mc.cl mc.nw (xe_var (i := 0) rfl) (stt_get ok (i := 0) rfl)) (xa_cons (xe_var (i := 11) rfl) xa_nil)) ⟨z8.2.w, z8.1, z9, rfl, hz9, rfl⟩ cal0) xa_nil))) ⟨k0, p0, z8.2, z8.1, z9, z10, rfl, (stt_get ok (i := 0) rfl), hz10, rfl⟩ (cal1 ok (i := 0) rfl)) ?_
  show XS (tRet _) _ _ [some (vr p0), some (va T x1), some (va T x2), some (va T y2), some (va T z3.a), some (va T z3.b), some (va T z3.c), some (va T z3.d), some (va T z4.1), some (va T z5.1), some (va T z7.1), some (va T z8.1), some (va T z10.1)] (stt Ω [(k0, machA T p0 z10.2)] [])
  obtain ⟨z11, hz11, hm⟩ := bnd_some hm
  obtain ⟨z12, hz12, hm⟩ := bnd_some hm
  obtain rfl := Option.some.inj hm
  refine xs_ret (xe_call (xa_cons (xe_var (i := 0) rfl) (xa_cons (xe_sub (xe_mul (chkP_some hz11) xe_int (xe_var (i := 2) rfl)) (xe_var (i := 3) rfl)) (xa_cons (xe_var (i := 3) rfl) (xa_cons (xe_var (i := 9) rfl) (xa_cons (xe_var (i := 10) rfl) (xa_cons (xe_var (i := 12) rfl) xa_nil)))))) ⟨k0, p0, z10.2, (((2 : Int) * x2) - y2), y2, z5.1, z7.1, z10.1, z12, rfl, (stt_get ok (i := 0) rfl), hz12, rfl⟩ (cal1 ok (i := 0) rfl)) hrt.all
noncomputable def M_square_of (x0 : MS) (x1 : Int) : Option (Int × MS) :=
  (M_are_compact x0 x1 x1).bind fun z1 => if z1 = true then (chkP (("short" : Str) ∈ mwords)).bind fun z2 => (chkP (IntMulOk x1 x1)).bind fun z3 => some ((x1 * x1), (x0.step ("short" : Str) (1 : Int))) else (M_size_of x0.w x1).bind fun z4 => (M_squared 20 x0 ((x1.natAbs : Nat) : Int) z4).bind fun z5 => some (z5.1, z5.2)
def Pre_square_of (T : TC) : PreT := fun As Ω R => ∃ (k0 : Nat) (p0 : Addr) (x0 : MS) (x1 : Int) (r : Int × MS), As = [vr p0, va T x1] ∧ Ω[k0]? = some (machA T p0 x0) ∧ M_square_of x0 x1 = some r ∧ R = RV (va T r.1) (stt Ω [(k0, machA T p0 r.2)] [])
theorem sc_square_of : FnScope ["machine", "x"] ["machine", "x"] (defScope s_square_of) := ⟨rfl, rfl, rfl, by decide +kernel, rfl, by decide +kernel, by decide +kernel⟩
theorem ok_square_of {f : Addr} {fd : FuncData} (F : Fun T.K "square_of" "square_of" s_square_of f fd) (c_are_compact : Cal P w T.K mg base 2 "are_compact" ["machine", "x", "y"] (mkSp (Pre_are_compact T))) (mc : MCls T.K (T.C 0)) (c_Mach_step : CalM P w T.K mg base 1 (T.C 0) "step" ["self", "word", "many"] (mkSp (Pre_Mach_step T))) (z_abs : mg "abs" = none) (c_size_of : Cal P w T.K mg base 2 "size_of" ["width", "n"] (mkSp (Pre_size_of T))) (c_squared : Cal P w T.K mg base 24 "squared" ["machine", "a", "m"] (mkSp (Pre_squared 20 T))) : FnOk P w T.K mg base CX0 25 f fd ["machine", "x"] (mkSp (Pre_square_of T)) := by
  refine fn_ok F sc_square_of (fun As Ω R h => ?_) (fun cdv A outer s H E hr As Ω R F0 h => ?_)
  · obtain ⟨k0, p0, x0, x1, r, rfl, _⟩ := h
    rfl
  obtain ⟨k0, p0, x0, x1, r, rfl, hk0, hm, rfl⟩ := h
  refine ⟨_, (pss_cons (ps_if (pt_val (pe_cal c_are_compact (hr.mono (by decide)) (by rfl) (pa_cons (pv 0) (pa_cons (pv 1) (pa_cons (pv 1) pa_nil))))) (pss_cons (ps_expr (pe_calM (pv 0) c_Mach_step (hr.mono (by decide)) (pa_cons pe_str (pa_cons pe_int pa_nil)))) (pss_one (ps_ret (pe_op op_mulQ (pv 1) (pv 1))))) pss_nil) (pss_one (ps_ret (pe_cal c_squared (hr.mono (by decide)) (by rfl) (pa_cons (pv 0) (pa_cons (pe_callB cr_abs (by rfl) z_abs (by decide +kernel) (pa_cons (pv 1) pa_nil)) (pa_cons (pe_cal c_size_of (hr.mono (by decide)) (by rfl) (pa_cons (pe_fldK (K := T.K) (pv 0) (by rfl) rfl) (pa_cons (pv 1) pa_nil))) pa_nil))))))), fun D hrt hnx => ?_⟩
  have ok := okk1 hk0
  suffices hx : XS _ D F0 [some (vr p0), some (va T x1)] (stt Ω [(k0, machA T p0 x0)] []) by
    rw [show (stt Ω [(k0, machA T p0 x0)] []) = Ω from stt_self (by simp [hk0])] at hx
    exact hx
  unfold M_square_of at hm
  obtain ⟨z1, hz1, hm⟩ := bnd_some hm
  by_cases hc : z1 = true
  · rw [if_pos hc] at hm
    refine xs_ifT (xt_eq (xt_tB (T := T) (xe_call (xa_cons (xe_var (i := 0) rfl) (xa_cons (xe_var (i := 1) rfl) (xa_cons (xe_var (i := 1) rfl) xa_nil))) ⟨k0, p0, x0, x1, x1, z1, rfl, (stt_get ok (i := 0) rfl), hz1, rfl⟩ cal0)) hc) ?_
    obtain ⟨z2, hz2, hm⟩ := bnd_some hm
    refine xs_drop (xe_mcall (xe_var (i := 0) rfl) (stt_get ok (i := 0) rfl) (xa_cons xe_str (xa_cons xe_int xa_nil)) ⟨k0, p0, x0, ("short" : Str), (1 : Int), rfl, (stt_get ok (i := 0) rfl), chkP_some hz2, rfl⟩ (cal1 ok (i := 0) rfl)) ?_
    show XS (tRet _) _ _ [some (vr p0), some (va T x1)] (stt Ω [(k0, machA T p0 (x0.step ("short" : Str) (1 : Int)))] [])
    obtain ⟨z3, hz3, hm⟩ := bnd_some hm
    obtain rfl := Option.some.inj hm
    refine xs_ret (xe_mul (chkP_some hz3) (xe_var (i := 1) rfl) (xe_var (i := 1) rfl)) hrt.all
  · rw [if_neg hc] at hm
    refine xs_ifN (xt_eq (xt_tB (T := T) (xe_call (xa_cons (xe_var (i := 0) rfl) (xa_cons (xe_var (i := 1) rfl) (xa_cons (xe_var (i := 1) rfl) xa_nil))) ⟨k0, p0, x0, x1, x1, z1, rfl, (stt_get ok (i := 0) rfl), hz1, rfl⟩ cal0)) (nt hc)) ?_
    show XS (tRet _) _ _ [some (vr p0), some (va T x1)] (stt Ω [(k0, machA T p0 x0)] [])
    obtain ⟨z4, hz4, hm⟩ := bnd_some hm
    obtain ⟨z5, hz5, hm⟩ := bnd_some hm
    obtain rfl := Option.some.inj hm
    refine xs_ret (xe_call (xa_cons (xe_var (i := 0) rfl) (xa_cons (xe_abs (xe_var (i := 1) rfl)) (xa_cons (xe_call (xa_cons (xe_mw mc.cl mc.nw (xe_var (i := 0) rfl) (stt_get ok (i := 0) rfl)) (xa_cons (xe_var (i := 1) rfl) xa_nil)) ⟨x0.w, x1, z4, rfl, hz4, rfl⟩ cal0) xa_nil))) ⟨k0, p0, x0, ((x1.natAbs : Nat) : Int), z4, z5, rfl, (stt_get ok (i := 0) rfl), hz5, rfl⟩ (cal1 ok (i := 0) rfl)) hrt.all
noncomputable def M_square (x0 : MS) (x1 : Bg) : Option (Bg × MS) :=
  (M_check_one x0 x1).bind fun z1 => (M_square_of x0 x1.v).bind fun z2 => (M_big_of z2.2 z2.1).bind fun z3 => some (z3, z2.2)
def Pre_square (T : TC) : PreT := fun As Ω R => ∃ (k0 : Nat) (p0 : Addr) (x0 : MS) (x1 : Bg) (r : Bg × MS), As = [vr p0, va T x1] ∧ Ω[k0]? = some (machA T p0 x0) ∧ M_square x0 x1 = some r ∧ R = RV (va T r.1) (stt Ω [(k0, machA T p0 r.2)] [])
theorem sc_square : FnScope ["machine", "x"] ["machine", "x"] (defScope s_square) := ⟨rfl, rfl, rfl, by decide +kernel, rfl, by decide +kernel, by decide +kernel⟩
theorem ok_square {f : Addr} {fd : FuncData} (F : Fun T.K "square" "square" s_square f fd) (c_check_one : Cal P w T.K mg base 3 "check_one" ["machine", "x"] (mkSp (Pre_check_one T))) (bc : BCls T.K (T.C 1)) (c_square_of : Cal P w T.K mg base 25 "square_of" ["machine", "x"] (mkSp (Pre_square_of T))) (c_big_of : Cal P w T.K mg base 22 "big_of" ["machine", "value"] (mkSp (Pre_big_of T))) : FnOk P w T.K mg base CX0 26 f fd ["machine", "x"] (mkSp (Pre_square T)) := by
  refine fn_ok F sc_square (fun As Ω R h => ?_) (fun cdv A outer s H E hr As Ω R F0 h => ?_)
  · obtain ⟨k0, p0, x0, x1, r, rfl, _⟩ := h
    rfl
  obtain ⟨k0, p0, x0, x1, r, rfl, hk0, hm, rfl⟩ := h
  refine ⟨_, (pss_cons (ps_expr (pe_cal c_check_one (hr.mono (by decide)) (by rfl) (pa_cons (pv 0) (pa_cons (pv 1) pa_nil)))) (pss_one (ps_ret (pe_cal c_big_of (hr.mono (by decide)) (by rfl) (pa_cons (pv 0) (pa_cons (pe_cal c_square_of (hr.mono (by decide)) (by rfl) (pa_cons (pv 0) (pa_cons (pe_fldK (K := T.K) (pv 1) (by rfl) rfl) pa_nil))) pa_nil)))))), fun D hrt hnx => ?_⟩
  have ok := okk1 hk0
  suffices hx : XS _ D F0 [some (vr p0), some (va T x1)] (stt Ω [(k0, machA T p0 x0)] []) by
    rw [show (stt Ω [(k0, machA T p0 x0)] []) = Ω from stt_self (by simp [hk0])] at hx
    exact hx
  unfold M_square at hm
  obtain ⟨z1, hz1, hm⟩ := bnd_some hm
  refine xs_drop (xe_call (xa_cons (xe_var (i := 0) rfl) (xa_cons (xe_var (i := 1) rfl) xa_nil)) ⟨k0, p0, x0, x1, z1, rfl, (stt_get ok (i := 0) rfl), hz1, rfl⟩ cal0) ?_
  show XS (tRet _) _ _ [some (vr p0), some (va T x1)] (stt Ω [(k0, machA T p0 x0)] [])
  obtain ⟨z2, hz2, hm⟩ := bnd_some hm
  obtain ⟨z3, hz3, hm⟩ := bnd_some hm
  obtain rfl := Option.some.inj hm
  refine xs_ret (xe_call (xa_cons (xe_var (i := 0) rfl) (xa_cons (xe_call (xa_cons (xe_var (i := 0) rfl) (xa_cons (xe_bv bc.cl bc.nv (xe_var (i := 1) rfl)) xa_nil)) ⟨k0, p0, x0, x1.v, z2, rfl, (stt_get ok (i := 0) rfl), hz2, rfl⟩ (cal1 ok (i := 0) rfl)) xa_nil)) ⟨k0, p0, z2.2, z2.1, z3, rfl, (stt_get ok (i := 0) rfl), hz3, rfl⟩ cal0) hrt.all
noncomputable def M__law_purse (x0 : Int) : Option (List Int) :=
  (chkP (CPow (10 : Int) (18 : Int))).bind fun z1 => (chkP (IntMulOk x0 (if (decide (((10 : Int) ^ ((18 : Int)).toNat) ≤ x0)) = true then (1 : Int) else 0))).bind fun z2 => (chkP (0 < (2147483563 : Int))).bind fun z3 => some ([(x0 * (if (decide (((10 : Int) ^ ((18 : Int)).toNat) ≤ x0)) = true then (1 : Int) else 0)), (x0 % (2147483563 : Int)), (7 : Int)] : List Int)
def Pre__law_purse (T : TC) : PreT := fun As Ω R => ∃ (x0 : Int) (r : List Int), As = [va T x0] ∧ M__law_purse x0 = some r ∧ R = RN (stt Ω [] []) (fun q => lstA T q r)
theorem sc__law_purse : FnScope ["_law_cell"] ["_law_cell"] (defScope s__law_purse) := ⟨rfl, rfl, rfl, by decide +kernel, rfl, by decide +kernel, by decide +kernel⟩
theorem ok__law_purse {f : Addr} {fd : FuncData} (F : Fun T.K "_law_purse" "_law_purse" s__law_purse f fd) (z_int : mg "int" = none) : FnOk P w T.K mg base CX0 1 f fd ["_law_cell"] (mkSp (Pre__law_purse T)) := by
  refine fn_ok F sc__law_purse (fun As Ω R h => ?_) (fun cdv A outer s H E hr As Ω R F0 h => ?_)
  · obtain ⟨x0, r, rfl, _⟩ := h
    rfl
  obtain ⟨x0, r, rfl, hm, rfl⟩ := h
  refine ⟨_, (pss_one (ps_ret (pe_lst (pa_cons (pe_op op_mulQ (pv 0) (pe_callTy cr_int (by rfl) z_int (by decide +kernel) (pa_cons (pe_cmpR op_ge (pv 0) (pe_op op_pow pe_int pe_int) (nomark _)) pa_nil))) (pa_cons (pe_op op_mod (pe_callTy cr_int (by rfl) z_int (by decide +kernel) (pa_cons (pv 0) pa_nil)) pe_int) (pa_cons pe_int pa_nil)))))), fun D hrt hnx => ?_⟩
  have ok : Okk Ω [] := okk0
  suffices hx : XS _ D F0 [some (va T x0)] (stt Ω [] []) by
    rw [show (stt Ω [] []) = Ω from stt_self (by simp)] at hx
    exact hx
  unfold M__law_purse at hm
  obtain ⟨z1, hz1, hm⟩ := bnd_some hm
  obtain ⟨z2, hz2, hm⟩ := bnd_some hm
  obtain ⟨z3, hz3, hm⟩ := bnd_some hm
  obtain rfl := Option.some.inj hm
  refine xs_ret (xn_lst (T := T) (l := [(x0 * (if (decide (((10 : Int) ^ ((18 : Int)).toNat) ≤ x0)) = true then (1 : Int) else 0)), (x0 % (2147483563 : Int)), (7 : Int)]) (xa_cons (xe_mul (chkP_some hz2) (xe_var (i := 0) rfl) (xe_intb (xe_ge (xe_var (i := 0) rfl) (xe_pow (chkP_some hz1) xe_int xe_int)))) (xa_cons (xe_mod (chkP_some hz3) (xe_int1 (xe_var (i := 0) rfl)) xe_int) (xa_cons xe_int xa_nil))) (by show 3 ≤ sizeLine; decide)) (RT.allN hrt)
noncomputable def M__law_coin (x0 : List Int) (x1 : Int) : Option (Int × List Int) :=
  (atI x0 (0 : Int)).bind fun z1 => if (decide ((0 : Int) < z1)) = true then (atI x0 (0 : Int)).bind fun z2 => (chkP (0 < x1)).bind fun z3 => (some (z2 % x1)).bind fun y4 => (atI x0 (0 : Int)).bind fun z5 => (chkP (CDivW z5 x1)).bind fun z6 => (some (z5 / x1)).bind fun y7 => (ixN x0.length (0 : Int)).bind fun z8 => some (y4, (x0.set z8 y7)) else (atI x0 (2 : Int)).bind fun z9 => (some (z9 + (1 : Int))).bind fun y10 => (ixN x0.length (2 : Int)).bind fun z11 => (atI (x0.set z11 y10) (1 : Int)).bind fun z12 => (atI (x0.set z11 y10) (2 : Int)).bind fun z13 => (chkP (IntMulOk (80021 : Int) z13)).bind fun z14 => (chkP (CPow ((z12 + ((80021 : Int) * z13)) + (9 : Int)) (3 : Int))).bind fun z15 => (chkP (0 < (2147483587 : Int))).bind fun z16 => (some ((((z12 + ((80021 : Int) * z13)) + (9 : Int)) ^ ((3 : Int)).toNat) % (2147483587 : Int))).bind fun y17 => (atI (x0.set z11 y10) (2 : Int)).bind fun z18 => (chkP (IntMulOk (7 : Int) z18)).bind fun z19 => (chkP (CDivW y17 (1031 : Int))).bind fun z20 => (chkP (IntMulOk (y17 + ((7 : Int) * z18)) ((y17 / (1031 : Int)) + (60089 : Int)))).bind fun z21 => (chkP (0 < (2147483549 : Int))).bind fun z22 => (some (((y17 + ((7 : Int) * z18)) * ((y17 / (1031 : Int)) + (60089 : Int))) % (2147483549 : Int))).bind fun y23 => (chkP (CDivW y23 (2027 : Int))).bind fun z24 => (chkP (IntMulOk y23 ((y23 / (2027 : Int)) + (50069 : Int)))).bind fun z25 => (chkP (0 < (2147483543 : Int))).bind fun z26 => (chkP (CDivW ((y23 * ((y23 / (2027 : Int)) + (50069 : Int))) % (2147483543 : Int)) (3 : Int))).bind fun z27 => (chkP (0 < x1)).bind fun z28 => some (((((y23 * ((y23 / (2027 : Int)) + (50069 : Int))) % (2147483543 : Int)) / (3 : Int)) % x1), (x0.set z11 y10))
def Pre__law_coin (T : TC) : PreT := fun As Ω R => ∃ (k0 : Nat) (p0 : Addr) (x0 : List Int) (x1 : Int) (r : Int × List Int), As = [vr p0, va T x1] ∧ Ω[k0]? = some (lstA T p0 x0) ∧ M__law_coin x0 x1 = some r ∧ R = RV (va T r.1) (stt Ω [(k0, lstA T p0 r.2)] [])
theorem sc__law_coin : FnScope ["_law_purse_here", "_law_amount", "_law_coin_here", "_law_mixed"] ["_law_purse_here", "_law_amount"] (defScope s__law_coin) := ⟨rfl, rfl, rfl, by decide +kernel, rfl, by decide +kernel, by decide +kernel⟩
theorem ok__law_coin {f : Addr} {fd : FuncData} (F : Fun T.K "_law_coin" "_law_coin" s__law_coin f fd) (z_int : mg "int" = none) : FnOk P w T.K mg base CX0 1 f fd ["_law_purse_here", "_law_amount"] (mkSp (Pre__law_coin T)) := by
  refine fn_ok F sc__law_coin (fun As Ω R h => ?_) (fun cdv A outer s H E hr As Ω R F0 h => ?_)
  · obtain ⟨k0, p0, x0, x1, r, rfl, _⟩ := h
    rfl
  obtain ⟨k0, p0, x0, x1, r, rfl, hk0, hm, rfl⟩ := h
  refine ⟨_, (pss_cons (ps_if (pt_cmpR op_gt (pe_ix (ix_seqK (K := T.K) rfl) (pv 0) pe_int (by intro _ _; rfl)) pe_int (nomark _)) (pss_cons (ps_set (i := 2) sc__law_coin.nd rfl (.inl rfl) (pe_op op_mod (pe_callTy cr_int (by rfl) z_int (by decide +kernel) (pa_cons (pe_ix (ix_seqK (K := T.K) rfl) (pv 0) pe_int (by intro _ _; rfl)) pa_nil)) (pv 1))) (pss_cons (ps_asg (pe_op op_fdivW (pe_ix (ix_seqK (K := T.K) rfl) (pv 0) pe_int (by intro _ _; rfl)) (pv 1)) (pg_sub (pv 0) pe_int set_list)) (pss_one (ps_ret (pv 2))))) pss_nil) (pss_cons (ps_asg (pe_op op_addQ (pe_ix (ix_seqK (K := T.K) rfl) (pv 0) pe_int (by intro _ _; rfl)) pe_int) (pg_sub (pv 0) pe_int set_list)) (pss_cons (ps_set (i := 3) sc__law_coin.nd rfl (.inl rfl) (pe_op op_mod (pe_callTy cr_int (by rfl) z_int (by decide +kernel) (pa_cons (pe_op op_pow (pe_op op_addQ (pe_op op_addQ (pe_ix (ix_seqK (K := T.K) rfl) (pv 0) pe_int (by intro _ _; rfl)) (pe_op op_mulQ pe_int (pe_ix (ix_seqK (K := T.K) rfl) (pv 0) pe_int (by intro _ _; rfl)))) pe_int) pe_int) pa_nil)) pe_int)) (pss_cons (ps_set (i := 3) sc__law_coin.nd rfl (.inl rfl) (pe_op op_mod (pe_callTy cr_int (by rfl) z_int (by decide +kernel) (pa_cons (pe_op op_mulQ (pe_op op_addQ (pv 3) (pe_op op_mulQ pe_int (pe_ix (ix_seqK (K := T.K) rfl) (pv 0) pe_int (by intro _ _; rfl)))) (pe_op op_addQ (pe_op op_fdivW (pv 3) pe_int) pe_int)) pa_nil)) pe_int)) (pss_one (ps_ret (pe_op op_mod (pe_callTy cr_int (by rfl) z_int (by decide +kernel) (pa_cons (pe_op op_fdivW (pe_op op_mod (pe_callTy cr_int (by rfl) z_int (by decide +kernel) (pa_cons (pe_op op_mulQ (pv 3) (pe_op op_addQ (pe_op op_fdivW (pv 3) pe_int) pe_int)) pa_nil)) pe_int) pe_int) pa_nil)) (pv 1)))))))), fun D hrt hnx => ?_⟩
  have ok := okk1 hk0
  suffices hx : XS _ D F0 [some (vr p0), some (va T x1), none, none] (stt Ω [(k0, lstA T p0 (x0 : List Int))] []) by
    rw [show (stt Ω [(k0, lstA T p0 (x0 : List Int))] []) = Ω from stt_self (by simp [hk0])] at hx
    exact hx
  unfold M__law_coin at hm
  obtain ⟨z1, hz1, hm⟩ := bnd_some hm
  by_cases hc : (decide ((0 : Int) < z1)) = true
  · rw [if_pos hc] at hm
    refine xs_ifT (xt_eq (xt_test (T := T) (xe_gt (xe_ix (xe_var (i := 0) rfl) xe_int (isL_M (stt_get ok (i := 0) rfl)) hz1) xe_int)) hc) ?_
    obtain ⟨z2, hz2, hm⟩ := bnd_some hm
    obtain ⟨z3, hz3, hm⟩ := bnd_some hm
    obtain ⟨y4, hy4, hm⟩ := bnd_some hm
    refine xs_set (A := va T y4) (xe_eq (xe_mod (chkP_some hz3) (xe_int1 (xe_ix (xe_var (i := 0) rfl) xe_int (isL_M (stt_get ok (i := 0) rfl)) hz2)) (xe_var (i := 1) rfl)) (Option.some.inj hy4)) ?_
    show XS (tSeq _ _) _ _ [some (vr p0), some (va T x1), some (va T y4), none] (stt Ω [(k0, lstA T p0 (x0 : List Int))] [])
    obtain ⟨z5, hz5, hm⟩ := bnd_some hm
    obtain ⟨z6, hz6, hm⟩ := bnd_some hm
    obtain ⟨y7, hy7, hm⟩ := bnd_some hm
    obtain ⟨z8, hz8, hm⟩ := bnd_some hm
    refine xs_setL (xe_eq (xe_fdiv (chkP_some hz6) (xe_ix (xe_var (i := 0) rfl) xe_int (isL_M (stt_get ok (i := 0) rfl)) hz5) (xe_var (i := 1) rfl)) (Option.some.inj hy7)) (xe_var (i := 0) rfl) xe_int (stt_get ok (i := 0) rfl) hz8 ?_
    rw [(stt_set ok (i := 0) rfl)]
    show XS (tRet _) _ _ [some (vr p0), some (va T x1), some (va T y4), none] (stt Ω [(k0, lstA T p0 ((x0.set z8 y7) : List Int))] [])
    obtain rfl := Option.some.inj hm
    refine xs_ret (xe_var (i := 2) rfl) hrt.all
  · rw [if_neg hc] at hm
    refine xs_ifN (xt_eq (xt_test (T := T) (xe_gt (xe_ix (xe_var (i := 0) rfl) xe_int (isL_M (stt_get ok (i := 0) rfl)) hz1) xe_int)) (nt hc)) ?_
    show XS (tSeq _ _) _ _ [some (vr p0), some (va T x1), none, none] (stt Ω [(k0, lstA T p0 (x0 : List Int))] [])
    obtain ⟨z9, hz9, hm⟩ := bnd_some hm
    obtain ⟨y10, hy10, hm⟩ := bnd_some hm
    obtain ⟨z11, hz11, hm⟩ := bnd_some hm
    refine xs_setL (xe_eq (xe_add (xe_ix (xe_var (i := 0) rfl) xe_int (isL_M (stt_get ok (i := 0) rfl)) hz9) xe_int) (Option.some.inj hy10)) (xe_var (i := 0) rfl) xe_int (stt_get ok (i := 0) rfl) hz11 ?_
    rw [(stt_set ok (i := 0) rfl)]
    show XS (tSeq _ _) _ _ [some (vr p0), some (va T x1), none, none] (stt Ω [(k0, lstA T p0 ((x0.set z11 y10) : List Int))] [])
    obtain ⟨z12, hz12, hm⟩ := bnd_some hm
    obtain ⟨z13, hz13, hm⟩ := bnd_some hm
    obtain ⟨z14, hz14, hm⟩ := bnd_some hm
    obtain ⟨z15, hz15, hm⟩ := bnd_some hm
    obtain ⟨z16, hz16, hm⟩ := bnd_some hm
    obtain ⟨y17, hy17, hm⟩ := bnd_some hm
    refine xs_set (A := va T y17) (xe_eq (xe_mod (chkP_some hz16) (xe_int1 (xe_pow (chkP_some hz15) (xe_add (xe_add (xe_ix (xe_var (i := 0) rfl) xe_int (isL_M (stt_get ok (i := 0) rfl)) hz12) (xe_mul (chkP_some hz14) xe_int (xe_ix (xe_var (i := 0) rfl) xe_int (isL_M (stt_get ok (i := 0) rfl)) hz13))) xe_int) xe_int)) xe_int) (Option.some.inj hy17)) ?_
    show XS (tSeq _ _) _ _ [some (vr p0), some (va T x1), none, some (va T y17)] (stt Ω [(k0, lstA T p0 ((x0.set z11 y10) : List Int))] [])
    obtain ⟨z18, hz18, hm⟩ := bnd_some hm
    obtain ⟨z19, hz19, hm⟩ := bnd_some hm
    obtain ⟨z20, hz20, hm⟩ := bnd_some hm
    obtain ⟨z21, hz21, hm⟩ := bnd_some hm
    obtain ⟨z22, hz22, hm⟩ := bnd_some hm
    obtain ⟨y23, hy23, hm⟩ := bnd_some hm
    refine xs_set (A := va T y23) (xe_eq (xe_mod (chkP_some hz22) (xe_int1 (xe_mul (chkP_some hz21) (xe_add (xe_var (i := 3) rfl) (xe_mul (chkP_some hz19) xe_int (xe_ix (xe_var (i := 0) rfl) xe_int (isL_M (stt_get ok (i := 0) rfl)) hz18))) (xe_add (xe_fdiv (chkP_some hz20) (xe_var (i := 3) rfl) xe_int) xe_int))) xe_int) (Option.some.inj hy23)) ?_
    show XS (tRet _) _ _ [some (vr p0), some (va T x1), none, some (va T y23)] (stt Ω [(k0, lstA T p0 ((x0.set z11 y10) : List Int))] [])
    obtain ⟨z24, hz24, hm⟩ := bnd_some hm
    obtain ⟨z25, hz25, hm⟩ := bnd_some hm
    obtain ⟨z26, hz26, hm⟩ := bnd_some hm
    obtain ⟨z27, hz27, hm⟩ := bnd_some hm
    obtain ⟨z28, hz28, hm⟩ := bnd_some hm
    obtain rfl := Option.some.inj hm
    refine xs_ret (xe_mod (chkP_some hz28) (xe_int1 (xe_fdiv (chkP_some hz27) (xe_mod (chkP_some hz26) (xe_int1 (xe_mul (chkP_some hz25) (xe_var (i := 3) rfl) (xe_add (xe_fdiv (chkP_some hz24) (xe_var (i := 3) rfl) xe_int) xe_int))) xe_int) xe_int)) (xe_var (i := 1) rfl)) hrt.all
noncomputable def M__law_pick (x0 : List Int) (x1 : List Int) : Option (Int × List Int) :=
  (M__law_coin x0 (x1.length : Int)).bind fun z1 => (atI x1 z1.1).bind fun z2 => some (z2, z1.2)
def Pre__law_pick (T : TC) : PreT := fun As Ω R => ∃ (k0 : Nat) (p0 : Addr) (x0 : List Int) (x1 : List Int) (r : Int × List Int), As = [vr p0, va T (LF.mk x1)] ∧ Ω[k0]? = some (lstA T p0 x0) ∧ M__law_pick x0 x1 = some r ∧ R = RV (va T r.1) (stt Ω [(k0, lstA T p0 r.2)] [])
theorem sc__law_pick : FnScope ["_law_purse_here", "_law_some"] ["_law_purse_here", "_law_some"] (defScope s__law_pick) := ⟨rfl, rfl, rfl, by decide +kernel, rfl, by decide +kernel, by decide +kernel⟩
theorem ok__law_pick {f : Addr} {fd : FuncData} (F : Fun T.K "_law_pick" "_law_pick" s__law_pick f fd) (z_len : mg "len" = none) (c__law_coin : Cal P w T.K mg base 1 "_law_coin" ["_law_purse_here", "_law_amount"] (mkSp (Pre__law_coin T))) : FnOk P w T.K mg base CX0 2 f fd ["_law_purse_here", "_law_some"] (mkSp (Pre__law_pick T)) := by
  refine fn_ok F sc__law_pick (fun As Ω R h => ?_) (fun cdv A outer s H E hr As Ω R F0 h => ?_)
  · obtain ⟨k0, p0, x0, x1, r, rfl, _⟩ := h
    rfl
  obtain ⟨k0, p0, x0, x1, r, rfl, hk0, hm, rfl⟩ := h
  refine ⟨_, (pss_one (ps_ret (pe_ix (ix_seqK (K := T.K) rfl) (pv 1) (pe_cal c__law_coin (hr.mono (by decide)) (by rfl) (pa_cons (pv 0) (pa_cons (pe_callB (cr_lenK (K := T.K) rfl) (by rfl) z_len PySem.boot_len (pa_cons (pv 1) pa_nil)) pa_nil))) (by intro _ _; rfl)))), fun D hrt hnx => ?_⟩
  have ok := okk1 hk0
  suffices hx : XS _ D F0 [some (vr p0), some (va T (LF.mk x1))] (stt Ω [(k0, lstA T p0 (x0 : List Int))] []) by
    rw [show (stt Ω [(k0, lstA T p0 (x0 : List Int))] []) = Ω from stt_self (by simp [hk0])] at hx
    exact hx
  unfold M__law_pick at hm
  obtain ⟨z1, hz1, hm⟩ := bnd_some hm
  obtain ⟨z2, hz2, hm⟩ := bnd_some hm
  obtain rfl := Option.some.inj hm
  refine xs_ret (xe_ix (xe_var (i := 1) rfl) (xe_call (xa_cons (xe_var (i := 0) rfl) (xa_cons (xe_lenL (xe_var (i := 1) rfl) isL_LF) xa_nil)) ⟨k0, p0, x0, (x1.length : Int), z1, rfl, (stt_get ok (i := 0) rfl), hz1, rfl⟩ (cal1 ok (i := 0) rfl)) isL_LF hz2) hrt.all
noncomputable def M__law_row (x0 : List Int) (x1 : Int) (x2 : Int) : Option (List Int × List Int) :=
  (some ([] : List Int)).bind fun y1 => (chkP (-(2 ^ 62) ≤ x2 ∧ x2 < 2 ^ 62)).bind fun z4 => (forM' (ρ := Unit) (fun (a6 : Int) (s5 : (List Int) × (List Int)) => (chkP (CShl (1 : Int) x1)).bind fun z7 => (M__law_coin s5.1 ((1 : Int) * 2 ^ (x1).toNat)).bind fun z8 => (chkP (CShl (1 : Int) x1)).bind fun z9 => (M__law_coin z8.2 ((1 : Int) * 2 ^ (x1).toNat)).bind fun z10 => (chkP (CShl (1 : Int) x1)).bind fun z11 => (M__law_pick z10.2 ([z8.1, z10.1, (0 : Int), (((1 : Int) * 2 ^ (x1).toNat) - (1 : Int))] : List Int)).bind fun z12 => (chkP (s5.2.length < sizeLine)).bind fun z13 => some (Stp.nx (z12.2, (s5.2 ++ [z12.1])))) (rng 0 (x2).toNat) (x0, y1)).bind fun z14 => (nxt z14).bind fun s15 => (chkP (Dat.ok (LF.mk s15.2) ∧ Dat.ok (LF.mk ([] : List Int)))).bind fun z16 => (if (!eqD (LF.mk s15.2) (LF.mk ([] : List Int))) = true then (atI s15.2 (-(1 : Int))).bind fun z17 => (chkP ((cut s15.2 none (some (-(1 : Int)))).length + ([(max (1 : Int) z17)] : List Int).length ≤ sizeLine)).bind fun z18 => some ((cut s15.2 none (some (-(1 : Int)))) ++ ([(max (1 : Int) z17)] : List Int)) else some ([] : List Int)).bind fun z19 => some (z19, s15.1)
def Pre__law_row (T : TC) : PreT := fun As Ω R => ∃ (k0 : Nat) (p0 : Addr) (x0 : List Int) (x1 : Int) (x2 : Int) (r : List Int × List Int), As = [vr p0, va T x1, va T x2] ∧ Ω[k0]? = some (lstA T p0 x0) ∧ M__law_row x0 x1 x2 = some r ∧ R = RV (va T (LF.mk r.1)) (stt Ω [(k0, lstA T p0 r.2)] [])
theorem sc__law_row : FnScope ["_law_purse_here", "_law_bits", "_law_size_here", "_law_found", "_law_k"] ["_law_purse_here", "_law_bits", "_law_size_here"] (defScope s__law_row) := ⟨rfl, rfl, rfl, by decide +kernel, rfl, by decide +kernel, by decide +kernel⟩
theorem ok__law_row {f : Addr} {fd : FuncData} (F : Fun T.K "_law_row" "_law_row" s__law_row f fd) (z_range : mg "range" = none) (c__law_coin : Cal P w T.K mg base 1 "_law_coin" ["_law_purse_here", "_law_amount"] (mkSp (Pre__law_coin T))) (c__law_pick : Cal P w T.K mg base 2 "_law_pick" ["_law_purse_here", "_law_some"] (mkSp (Pre__law_pick T))) (z_max : mg "max" = none) : FnOk P w T.K mg base CX0 3 f fd ["_law_purse_here", "_law_bits", "_law_size_here"] (mkSp (Pre__law_row T)) := by
  refine fn_ok F sc__law_row (fun As Ω R h => ?_) (fun cdv A outer s H E hr As Ω R F0 h => ?_)
  · obtain ⟨k0, p0, x0, x1, x2, r, rfl, _⟩ := h
    rfl
  obtain ⟨k0, p0, x0, x1, x2, r, rfl, hk0, hm, rfl⟩ := h
  refine ⟨_, (pss_cons (ps_set (i := 3) sc__law_row.nd rfl (.inl rfl) (pe_lst pa_nil)) (pss_cons (ps_for PassesOwn.never rfl (pi_range1 rfl z_range (pa_cons (pv 2) pa_nil)) (pg_name (i := 4) sc__law_row.nd rfl (.inl rfl)) (pss_one (ps_expr (pe_bm PySem.F.plainAttrs_list PySem.F.slot_list_append PySem.F.type_list_append mt_append (pv 3) (pa_cons (pe_cal c__law_pick (hr.mono (by decide)) (by rfl) (pa_cons (pv 0) (pa_cons (pe_lst (pa_cons (pe_cal c__law_coin (hr.mono (by decide)) (by rfl) (pa_cons (pv 0) (pa_cons (pe_op op_shlW pe_int (pv 1)) pa_nil))) (pa_cons (pe_cal c__law_coin (hr.mono (by decide)) (by rfl) (pa_cons (pv 0) (pa_cons (pe_op op_shlW pe_int (pv 1)) pa_nil))) (pa_cons pe_int (pa_cons (pe_op op_sub (pe_op op_shlW pe_int (pv 1)) pe_int) pa_nil))))) pa_nil))) pa_nil))))) (pss_one (ps_ret (pe_ifExp (pt_cmpR (op_neXK (K := T.K) (by exact hr.units) rfl) (pv 3) (pe_lst pa_nil) (nomark _)) (pe_op op_addQ (pe_slice (sl_listK (K := T.K) rfl) (pv 3) po_none (po_some (pe_un un_neg pe_int))) (pe_lst (pa_cons (pe_callB (cr_max2 rfl) (by rfl) z_max (by decide +kernel) (pa_cons pe_int (pa_cons (pe_ix (ix_seqK (K := T.K) rfl) (pv 3) (pe_un un_neg pe_int) (by intro _ _; rfl)) pa_nil))) pa_nil))) (pe_lst pa_nil)))))), fun D hrt hnx => ?_⟩
  have ok := okk1 hk0
  suffices hx : XS _ D F0 [some (vr p0), some (va T x1), some (va T x2), none, none] (stt Ω [(k0, lstA T p0 (x0 : List Int))] []) by
    rw [show (stt Ω [(k0, lstA T p0 (x0 : List Int))] []) = Ω from stt_self (by simp [hk0])] at hx
    exact hx
  unfold M__law_row at hm
  obtain ⟨y1, hy1, hm⟩ := bnd_some hm
  obtain rfl := Option.some.inj hy1
  refine xs_setO ((xn_lst (T := T) (l := ([] : List Int)) xa_nil (Nat.zero_le _))) (fun pp2 => ?_)
  show XS (tSeq _ _) _ _ [some (vr p0), some (va T x1), some (va T x2), some (vr pp2), none] (stt Ω [(k0, lstA T p0 (x0 : List Int))] [lstA T pp2 (([] : List Int) : List Int)])
  obtain ⟨z4, hz4, hm⟩ := bnd_some hm
  obtain ⟨z14, hz14, hm⟩ := bnd_some hm
  refine xs_forS (fun (s5 : (List Int) × (List Int)) => [some (vr p0), some (va T x1), some (va T x2), some (vr pp2), none]) (fun (s5 : (List Int) × (List Int)) => (stt Ω [(k0, lstA T p0 (s5.1 : List Int))] [lstA T pp2 (s5.2 : List Int)])) (fun (_ : Unit) _ _ _ => False) hz14 (xi_range1 (T := T) (xa_cons (xe_var (i := 2) rfl) xa_nil) (chkP_some hz4).1 (chkP_some hz4).2) (fun _ => tgt_name) (fun a6 s5 s' ha hm F1 D1 e1 hD => ?_) (fun s15 es => ?_) (fun r1 es => ?_)
  · show XS (tDrop _) _ _ [some (vr p0), some (va T x1), some (va T x2), some (vr pp2), some (va T a6)] (stt Ω [(k0, lstA T p0 (s5.1 : List Int))] [lstA T pp2 (s5.2 : List Int)])
    obtain ⟨z7, hz7, hm⟩ := bnd_some hm
    obtain ⟨z8, hz8, hm⟩ := bnd_some hm
    obtain ⟨z9, hz9, hm⟩ := bnd_some hm
    obtain ⟨z10, hz10, hm⟩ := bnd_some hm
    obtain ⟨z11, hz11, hm⟩ := bnd_some hm
    obtain ⟨z12, hz12, hm⟩ := bnd_some hm
    obtain ⟨z13, hz13, hm⟩ := bnd_some hm
    refine xs_drop1 (xe_appE (stt_getL (j := 0) rfl) (stt_getL (j := 0) rfl) (xe_var (i := 3) rfl) (xe_call (xa_cons (xe_var (i := 0) rfl) (xa_cons (xe_lst (l := [z8.1, z10.1, (0 : Int), (((1 : Int) * 2 ^ (x1).toNat) - (1 : Int))]) (xa_cons (xe_call (xa_cons (xe_var (i := 0) rfl) (xa_cons (xe_shl (chkP_some hz7) xe_int (xe_var (i := 1) rfl)) xa_nil)) ⟨k0, p0, s5.1, ((1 : Int) * 2 ^ (x1).toNat), z8, rfl, (stt_get ok (i := 0) rfl), hz8, rfl⟩ (cal1 ok (i := 0) rfl)) (xa_cons (xe_call (xa_cons (xe_var (i := 0) rfl) (xa_cons (xe_shl (chkP_some hz9) xe_int (xe_var (i := 1) rfl)) xa_nil)) ⟨k0, p0, z8.2, ((1 : Int) * 2 ^ (x1).toNat), z10, rfl, (stt_get ok (i := 0) rfl), hz10, rfl⟩ (cal1 ok (i := 0) rfl)) (xa_cons xe_int (xa_cons (xe_sub (xe_shl (chkP_some hz11) xe_int (xe_var (i := 1) rfl)) xe_int) xa_nil)))) (by show 4 ≤ sizeLine; decide)) xa_nil)) ⟨k0, p0, z10.2, ([z8.1, z10.1, (0 : Int), (((1 : Int) * 2 ^ (x1).toNat) - (1 : Int))] : List Int), z12, rfl, (stt_get ok (i := 0) rfl), hz12, rfl⟩ (cal1 ok (i := 0) rfl)) (chkP_some hz13) (stt_setL (j := 0))) ?_
    obtain rfl := Option.some.inj hm
    exact fun σ H n => hD.nx _ rfl σ H (n.forget 4)
  · subst es
    obtain ⟨s2, hs2, hm⟩ := bnd_some hm
    cases hs2
    show XS (tRet _) _ _ [some (vr p0), some (va T x1), some (va T x2), some (vr pp2), none] (stt Ω [(k0, lstA T p0 (s15.1 : List Int))] [lstA T pp2 (s15.2 : List Int)])
    refine xs_fzJ (k := 3) (j := 0) rfl rfl ?_
    show XS _ _ _ [some (vr p0), some (va T x1), some (va T x2), some (va T (LF.mk s15.2)), none] (stt Ω [(k0, lstA T p0 (s15.1 : List Int))] [nilA])
    obtain ⟨z16, hz16, hm⟩ := bnd_some hm
    obtain ⟨z19, hz19, hm⟩ := bnd_some hm
    obtain rfl := Option.some.inj hm
    refine xs_ret (show XE _ _ _ (va T (LF.mk z19)) (stt Ω [(k0, lstA T p0 (s15.1 : List Int))] [nilA]) from ?q20) hrt.all
    case q20 =>
      exact (by
        by_cases hc : (!eqD (LF.mk s15.2) (LF.mk ([] : List Int))) = true
        · rw [if_pos hc] at hz19
          obtain ⟨z17, hz17, hz19⟩ := bnd_some hz19
          obtain ⟨z18, hz18, hz19⟩ := bnd_some hz19
          obtain rfl := Option.some.inj hz19
          exact xe_ifT (xt_eq (xt_test (T := T) (xe_neD (chkP_some hz16) (by decide) (xe_var (i := 3) rfl) (xe_lst (T := T) (l := ([] : List Int)) xa_nil (Nat.zero_le _)) isD_va isD_va)) hc) (xe_cat (xe_sliceL (xe_var (i := 3) rfl) xo_none (xo_some (T := T) (xe_neg xe_int)) isL_LF) (xe_lst (l := [(max (1 : Int) z17)]) (xa_cons (xe_max2 xe_int (xe_ix (xe_var (i := 3) rfl) (xe_neg xe_int) isL_LF hz17)) xa_nil) (by show 1 ≤ sizeLine; decide)) isLs_LF isLs_LF (chkP_some hz18))
        · rw [if_neg hc] at hz19
          obtain rfl := Option.some.inj hz19
          exact xe_ifF (xt_eq (xt_test (T := T) (xe_neD (chkP_some hz16) (by decide) (xe_var (i := 3) rfl) (xe_lst (T := T) (l := ([] : List Int)) xa_nil (Nat.zero_le _)) isD_va isD_va)) (nt hc)) (xe_lst (T := T) (l := ([] : List Int)) xa_nil (Nat.zero_le _)))
  · subst es
    cases hm
noncomputable def M__law_worth (x0 : Int) (x1 : List Int) : Option Int :=
  (forM' (ρ := Unit) (fun (a2 : Int) (s1 : Int) => (chkP (CShl s1 x0)).bind fun z3 => (some ((s1 * 2 ^ (x0).toNat) + a2)).bind fun y4 => some (Stp.nx y4)) ((x1).reverse) (0 : Int)).bind fun z5 => (nxt z5).bind fun s6 => some s6
def Pre__law_worth (T : TC) : PreT := fun As Ω R => ∃ (x0 : Int) (x1 : List Int) (r : Int), As = [va T x0, va T (LF.mk x1)] ∧ M__law_worth x0 x1 = some r ∧ R = RV (va T r) (stt Ω [] [])
theorem sc__law_worth : FnScope ["_law_bits", "_law_row_here", "_law_found", "_law_digit"] ["_law_bits", "_law_row_here"] (defScope s__law_worth) := ⟨rfl, rfl, rfl, by decide +kernel, rfl, by decide +kernel, by decide +kernel⟩
theorem ok__law_worth {f : Addr} {fd : FuncData} (F : Fun T.K "_law_worth" "_law_worth" s__law_worth f fd)  : FnOk P w T.K mg base CX0 1 f fd ["_law_bits", "_law_row_here"] (mkSp (Pre__law_worth T)) := by
  refine fn_ok F sc__law_worth (fun As Ω R h => ?_) (fun cdv A outer s H E hr As Ω R F0 h => ?_)
  · obtain ⟨x0, x1, r, rfl, _⟩ := h
    rfl
  obtain ⟨x0, x1, r, rfl, hm, rfl⟩ := h
  refine ⟨_, (pss_cons (ps_set (i := 2) sc__law_worth.nd rfl (.inl rfl) pe_int) (pss_cons (ps_for PassesOwn.never rfl (pi_listK (K := T.K) (pe_revLK (K := T.K) (pv 1) rfl) rfl) (pg_name (i := 3) sc__law_worth.nd rfl (.inl rfl)) (pss_one (ps_set (i := 2) sc__law_worth.nd rfl (.inl rfl) (pe_op op_addQ (pe_op op_shlW (pv 2) (pv 0)) (pv 3))))) (pss_one (ps_ret (pv 2))))), fun D hrt hnx => ?_⟩
  have ok : Okk Ω [] := okk0
  suffices hx : XS _ D F0 [some (va T x0), some (va T (LF.mk x1)), none, none] (stt Ω [] []) by
    rw [show (stt Ω [] []) = Ω from stt_self (by simp)] at hx
    exact hx
  unfold M__law_worth at hm
  refine xs_set (A := va T (0 : Int)) xe_int ?_
  show XS (tSeq _ _) _ _ [some (va T x0), some (va T (LF.mk x1)), some (va T (0 : Int)), none] (stt Ω [] [])
  obtain ⟨z5, hz5, hm⟩ := bnd_some hm
  refine xs_forS (fun (s1 : Int) => [some (va T x0), some (va T (LF.mk x1)), some (va T s1), none]) (fun (s1 : Int) => (stt Ω [] [])) (fun (_ : Unit) _ _ _ => False) hz5 (xi_LF (xe_revL (xe_var (i := 1) rfl) isL_LF)) (fun _ => tgt_name) (fun a2 s1 s' ha hm F1 D1 e1 hD => ?_) (fun s6 es => ?_) (fun r1 es => ?_)
  · show XS (tAsg _ _) _ _ [some (va T x0), some (va T (LF.mk x1)), some (va T s1), some (va T a2)] (stt Ω [] [])
    obtain ⟨z3, hz3, hm⟩ := bnd_some hm
    obtain ⟨y4, hy4, hm⟩ := bnd_some hm
    refine xs_set1 (A := va T y4) (xe_eq (xe_add (xe_shl (chkP_some hz3) (xe_var (i := 2) rfl) (xe_var (i := 0) rfl)) (xe_var (i := 3) rfl)) (Option.some.inj hy4)) ?_
    obtain rfl := Option.some.inj hm
    exact fun σ H n => hD.nx _ rfl σ H (n.forget 3)
  · subst es
    obtain ⟨s2, hs2, hm⟩ := bnd_some hm
    cases hs2
    show XS (tRet _) _ _ [some (va T x0), some (va T (LF.mk x1)), some (va T s6), none] (stt Ω [] [])
    obtain rfl := Option.some.inj hm
    refine xs_ret (xe_var (i := 2) rfl) hrt.all
  · subst es
    cases hm
noncomputable def M__law_digits (x0 : Int) (x1 : Int) : Option (List Int) :=
  (some ([] : List Int)).bind fun y1 => (whileM (ρ := Unit) (fun (s4 : Int × (List Int)) => some (decide ((0 : Int) < s4.1))) (fun (s4 : Int × (List Int)) => (chkP (CShl (1 : Int) x0)).bind fun z5 => (chkP (0 < ((1 : Int) * 2 ^ (x0).toNat))).bind fun z6 => (chkP (s4.2.length < sizeLine)).bind fun z7 => (chkP (0 ≤ x0)).bind fun z8 => (some (s4.1 / 2 ^ (x0).toNat)).bind fun y9 => some (Stp.nx (y9, (s4.2 ++ [(s4.1 % ((1 : Int) * 2 ^ (x0).toNat))])))) ((x1).natAbs + 1) (x1, y1)).bind fun z10 => (nxt z10).bind fun s11 => some s11.2
def Pre__law_digits (T : TC) : PreT := fun As Ω R => ∃ (x0 : Int) (x1 : Int) (r : List Int), As = [va T x0, va T x1] ∧ M__law_digits x0 x1 = some r ∧ R = RV (va T (LF.mk r)) (stt Ω [] [])
theorem sc__law_digits : FnScope ["_law_bits", "_law_n", "_law_found"] ["_law_bits", "_law_n"] (defScope s__law_digits) := ⟨rfl, rfl, rfl, by decide +kernel, rfl, by decide +kernel, by decide +kernel⟩
theorem ok__law_digits {f : Addr} {fd : FuncData} (F : Fun T.K "_law_digits" "_law_digits" s__law_digits f fd) (z_int : mg "int" = none) : FnOk P w T.K mg base CX0 2 f fd ["_law_bits", "_law_n"] (mkSp (Pre__law_digits T)) := by
  refine fn_ok F sc__law_digits (fun As Ω R h => ?_) (fun cdv A outer s H E hr As Ω R F0 h => ?_)
  · obtain ⟨x0, x1, r, rfl, _⟩ := h
    rfl
  obtain ⟨x0, x1, r, rfl, hm, rfl⟩ := h
  refine ⟨_, (pss_cons (ps_set (i := 2) sc__law_digits.nd rfl (.inl rfl) (pe_lst pa_nil)) (pss_cons (ps_while PassesOwn.never (pt_cmpR op_gt (pv 1) pe_int (nomark _)) (pss_cons (ps_expr (pe_bm PySem.F.plainAttrs_list PySem.F.slot_list_append PySem.F.type_list_append mt_append (pv 2) (pa_cons (pe_op op_mod (pe_callTy cr_int (by rfl) z_int (by decide +kernel) (pa_cons (pv 1) pa_nil)) (pe_op op_shlW pe_int (pv 0))) pa_nil))) (pss_one (ps_set (i := 1) sc__law_digits.nd rfl (.inl rfl) (pe_op op_shr (pv 1) (pv 0)))))) (pss_one (ps_ret (pv 2))))), fun D hrt hnx => ?_⟩
  have ok : Okk Ω [] := okk0
  suffices hx : XS _ D F0 [some (va T x0), some (va T x1), none] (stt Ω [] []) by
    rw [show (stt Ω [] []) = Ω from stt_self (by simp)] at hx
    exact hx
  unfold M__law_digits at hm
  obtain ⟨y1, hy1, hm⟩ := bnd_some hm
  obtain rfl := Option.some.inj hy1
  refine xs_setO ((xn_lst (T := T) (l := ([] : List Int)) xa_nil (Nat.zero_le _))) (fun pp2 => ?_)
  show XS (tSeq _ _) _ _ [some (va T x0), some (va T x1), some (vr pp2)] (stt Ω [] [lstA T pp2 (([] : List Int) : List Int)])
  obtain ⟨z10, hz10, hm⟩ := bnd_some hm
  refine xs_whileS (fun (s4 : Int × (List Int)) => [some (va T x0), some (va T s4.1), some (vr pp2)]) (fun (s4 : Int × (List Int)) => (stt Ω [] [lstA T pp2 (s4.2 : List Int)])) (fun (_ : Unit) _ _ _ => False) hz10 (fun s4 v hc => ?_) (fun s4 s' hc0 hm F1 D1 e1 hD => ?_) (fun s11 es => ?_) (fun r1 es => ?_)
  · clear hm
    have hm := hc
    obtain rfl := Option.some.inj hm
    refine (xt_test (T := T) (xe_gt (xe_var (i := 1) rfl) xe_int))
  · clear hc0
    show XS (tSeq _ _) _ _ [some (va T x0), some (va T s4.1), some (vr pp2)] (stt Ω [] [lstA T pp2 (s4.2 : List Int)])
    obtain ⟨z5, hz5, hm⟩ := bnd_some hm
    obtain ⟨z6, hz6, hm⟩ := bnd_some hm
    obtain ⟨z7, hz7, hm⟩ := bnd_some hm
    refine xs_drop (xe_appE (stt_getL (j := 0) rfl) (stt_getL (j := 0) rfl) (xe_var (i := 2) rfl) (xe_mod (chkP_some hz6) (xe_int1 (xe_var (i := 1) rfl)) (xe_shl (chkP_some hz5) xe_int (xe_var (i := 0) rfl))) (chkP_some hz7) (stt_setL (j := 0))) ?_
    show XS (tAsg _ _) _ _ [some (va T x0), some (va T s4.1), some (vr pp2)] (stt Ω [] [lstA T pp2 ((s4.2 ++ [(s4.1 % ((1 : Int) * 2 ^ (x0).toNat))]) : List Int)])
    obtain ⟨z8, hz8, hm⟩ := bnd_some hm
    obtain ⟨y9, hy9, hm⟩ := bnd_some hm
    refine xs_set1 (A := va T y9) (xe_eq (xe_shr (chkP_some hz8) (xe_var (i := 1) rfl) (xe_var (i := 0) rfl)) (Option.some.inj hy9)) ?_
    obtain rfl := Option.some.inj hm
    exact fun σ H n => hD.nx _ rfl σ H n
  · subst es
    obtain ⟨s2, hs2, hm⟩ := bnd_some hm
    cases hs2
    show XS (tRet _) _ _ [some (va T x0), some (va T s11.1), some (vr pp2)] (stt Ω [] [lstA T pp2 (s11.2 : List Int)])
    obtain rfl := Option.some.inj hm
    refine xs_fzJ (k := 2) (j := 0) rfl rfl ?_
    show XS _ _ _ [some (va T x0), some (va T s11.1), some (va T (LF.mk s11.2))] (stt Ω [] [nilA])
    exact xs_ret (xe_var (i := 2) rfl) hrt.all
  · subst es
    cases hm
noncomputable def M__law_is (x0 : Bg) (x1 : Int) (x2 : Int) : Option Bool :=
  (some ((if (decide ((0 : Int) < x2)) = true then (1 : Int) else 0) - (if (decide (x2 < (0 : Int))) = true then (1 : Int) else 0))).bind fun y1 => (M_Big_sign x0).bind fun z2 => (M_Big_digits x0).bind fun z3 => (M_Big_bits x0).bind fun z4 => (M_plain x0).bind fun z5 => (M__law_digits x1 ((x2.natAbs : Nat) : Int)).bind fun z6 => (chkP (Dat.ok (T4.mk z2 (LF.mk z3) z4 z5) ∧ Dat.ok (T4.mk y1 (LF.mk z6) x1 x2))).bind fun z7 => (chkP ((eqD (T4.mk z2 (LF.mk z3) z4 z5) (T4.mk y1 (LF.mk z6) x1 x2)) = true)).bind fun z8 => some true
def Pre__law_is (T : TC) : PreT := fun As Ω R => ∃ (x0 : Bg) (x1 : Int) (x2 : Int) (r : Bool), As = [va T x0, va T x1, va T x2] ∧ M__law_is x0 x1 x2 = some r ∧ R = RV (va T r) (stt Ω [] [])
theorem sc__law_is : FnScope ["_law_held", "_law_bits", "_law_n", "_law_side"] ["_law_held", "_law_bits", "_law_n"] (defScope s__law_is) := ⟨rfl, rfl, rfl, by decide +kernel, rfl, by decide +kernel, by decide +kernel⟩
theorem ok__law_is {f : Addr} {fd : FuncData} (F : Fun T.K "_law_is" "_law_is" s__law_is f fd) (z_int : mg "int" = none) (c_Big_sign : CalM P w T.K mg base 1 (T.C 1) "sign" ["self"] (mkSp (Pre_Big_sign T))) (c_Big_digits : CalM P w T.K mg base 1 (T.C 1) "digits" ["self"] (mkSp (Pre_Big_digits T))) (c_Big_bits : CalM P w T.K mg base 1 (T.C 1) "bits" ["self"] (mkSp (Pre_Big_bits T))) (c_plain : Cal P w T.K mg base 2 "plain" ["x"] (mkSp (Pre_plain T))) (z_abs : mg "abs" = none) (c__law_digits : Cal P w T.K mg base 2 "_law_digits" ["_law_bits", "_law_n"] (mkSp (Pre__law_digits T))) : FnOk P w T.K mg base CX0 3 f fd ["_law_held", "_law_bits", "_law_n"] (mkSp (Pre__law_is T)) := by
  refine fn_ok F sc__law_is (fun As Ω R h => ?_) (fun cdv A outer s H E hr As Ω R F0 h => ?_)
  · obtain ⟨x0, x1, x2, r, rfl, _⟩ := h
    rfl
  obtain ⟨x0, x1, x2, r, rfl, hm, rfl⟩ := h
  refine ⟨_, (pss_cons (ps_set (i := 3) sc__law_is.nd rfl (.inl rfl) (pe_op op_sub (pe_callTy cr_int (by rfl) z_int (by decide +kernel) (pa_cons (pe_cmpR op_gt (pv 2) pe_int (nomark _)) pa_nil)) (pe_callTy cr_int (by rfl) z_int (by decide +kernel) (pa_cons (pe_cmpR op_lt (pv 2) pe_int (nomark _)) pa_nil)))) (pss_one (ps_ret (pe_cmpR (op_eqXK (K := T.K) (by exact hr.units) rfl) (pe_tup (pa_cons (pe_calM0 (pv 0) c_Big_sign (hr.mono (by decide))) (pa_cons (pe_calM0 (pv 0) c_Big_digits (hr.mono (by decide))) (pa_cons (pe_calM0 (pv 0) c_Big_bits (hr.mono (by decide))) (pa_cons (pe_cal c_plain (hr.mono (by decide)) (by rfl) (pa_cons (pv 0) pa_nil)) pa_nil))))) (pe_tup (pa_cons (pv 3) (pa_cons (pe_cal c__law_digits (hr.mono (by decide)) (by rfl) (pa_cons (pv 1) (pa_cons (pe_callB cr_abs (by rfl) z_abs (by decide +kernel) (pa_cons (pv 2) pa_nil)) pa_nil))) (pa_cons (pv 1) (pa_cons (pv 2) pa_nil))))) (nomark _))))), fun D hrt hnx => ?_⟩
  have ok : Okk Ω [] := okk0
  suffices hx : XS _ D F0 [some (va T x0), some (va T x1), some (va T x2), none] (stt Ω [] []) by
    rw [show (stt Ω [] []) = Ω from stt_self (by simp)] at hx
    exact hx
  unfold M__law_is at hm
  obtain ⟨y1, hy1, hm⟩ := bnd_some hm
  refine xs_set (A := va T y1) (xe_eq (xe_sub (xe_intb (xe_gt (xe_var (i := 2) rfl) xe_int)) (xe_intb (xe_lt (xe_var (i := 2) rfl) xe_int))) (Option.some.inj hy1)) ?_
  show XS (tRet _) _ _ [some (va T x0), some (va T x1), some (va T x2), some (va T y1)] (stt Ω [] [])
  obtain ⟨z2, hz2, hm⟩ := bnd_some hm
  obtain ⟨z3, hz3, hm⟩ := bnd_some hm
  obtain ⟨z4, hz4, hm⟩ := bnd_some hm
  obtain ⟨z5, hz5, hm⟩ := bnd_some hm
  obtain ⟨z6, hz6, hm⟩ := bnd_some hm
  obtain ⟨z7, hz7, hm⟩ := bnd_some hm
  obtain ⟨z8, hz8, hm⟩ := bnd_some hm
  obtain rfl := Option.some.inj hm
  refine xs_ret (xe_eq (xe_eqD (chkP_some hz7) (by decide) (xe_tup4 (xa_cons (xe_mcallB (xe_var (i := 0) rfl) xa_nil ⟨x0, z2, rfl, hz2, rfl⟩ cal0) (xa_cons (xe_mcallB (xe_var (i := 0) rfl) xa_nil ⟨x0, z3, rfl, hz3, rfl⟩ cal0) (xa_cons (xe_mcallB (xe_var (i := 0) rfl) xa_nil ⟨x0, z4, rfl, hz4, rfl⟩ cal0) (xa_cons (xe_call (xa_cons (xe_var (i := 0) rfl) xa_nil) ⟨x0, z5, rfl, hz5, rfl⟩ cal0) xa_nil))))) (xe_tup4 (xa_cons (xe_var (i := 3) rfl) (xa_cons (xe_call (xa_cons (xe_var (i := 1) rfl) (xa_cons (xe_abs (xe_var (i := 2) rfl)) xa_nil)) ⟨x1, ((x2.natAbs : Nat) : Int), z6, rfl, hz6, rfl⟩ cal0) (xa_cons (xe_var (i := 1) rfl) (xa_cons (xe_var (i := 2) rfl) xa_nil))))) isD_va isD_va) (chkP_some hz8)) hrt.all
noncomputable def M__law_counted (x0 : MS) : Option ((DF × (LF (T3 Str Int Int))) × MS) :=
  (chkP (x0.tally.length ≤ sizeLine)).bind fun z1 => (lcM (fun (a3 : (Str × Int)) (s2 : Unit) => if (!decide (a3.2 = (0 : Int))) = true then some (some a3, ()) else some (none, ())) x0.tally ()).bind fun z4 => (chkP ((z4.1.map (·.1)).Nodup)).bind fun z6 => (some ((DF.mk z4.1), (LF.mk x0.wk))).bind fun y7 => some (y7, x0.reset)
def Pre__law_counted (T : TC) : PreT := fun As Ω R => ∃ (k0 : Nat) (p0 : Addr) (x0 : MS) (r : (DF × (LF (T3 Str Int Int))) × MS), As = [vr p0] ∧ Ω[k0]? = some (machA T p0 x0) ∧ M__law_counted x0 = some r ∧ R = RV (va T r.1) (stt Ω [(k0, machA T p0 r.2)] [])
theorem sc__law_counted : FnScope ["_law_engine", "_law_found", "_law_row_here"] ["_law_engine"] (defScope s__law_counted) := ⟨rfl, rfl, rfl, by decide +kernel, rfl, by decide +kernel, by decide +kernel⟩
theorem ok__law_counted {f : Addr} {fd : FuncData} (F : Fun T.K "_law_counted" "_law_counted" s__law_counted f fd) (mc : MCls T.K (T.C 0)) (c_Mach_tally : CalM P w T.K mg base 1 (T.C 0) "tally" ["self"] (mkSp (Pre_Mach_tally T))) (z_dict : mg "dict" = none) (c_Mach_walk : CalM P w T.K mg base 1 (T.C 0) "walk" ["self"] (mkSp (Pre_Mach_walk T))) (c_Mach_reset : CalM P w T.K mg base 1 (T.C 0) "reset" ["self"] (mkSp (Pre_Mach_reset T))) : FnOk P w T.K mg base CX0 2 f fd ["_law_engine"] (mkSp (Pre__law_counted T)) := by
  refine fn_ok F sc__law_counted (fun As Ω R h => ?_) (fun cdv A outer s H E hr As Ω R F0 h => ?_)
  · obtain ⟨k0, p0, x0, r, rfl, _⟩ := h
    rfl
  obtain ⟨k0, p0, x0, r, rfl, hk0, hm, rfl⟩ := h
  refine ⟨_, (pss_cons (ps_set (i := 1) sc__law_counted.nd rfl (.inl rfl) (pe_tup (pa_cons (pe_fz (pe_callTy (cr_dictPK (K := T.K) rfl rfl) (by rfl) z_dict (by decide +kernel) (pa_cons (pe_lc (own := [("_law_row_here", 2)]) rfl sc__law_counted.nd (pi_listK (K := T.K) (pe_calM0 (pv 0) c_Mach_tally (hr.mono (by decide))) rfl) (blkOk_by (N := ["_law_engine", "_law_found", "_law_row_here"]) (sc := defScope s__law_counted) (by decide +kernel)) (fun _ _ _ _ _ => (pg_name (i := 2) sc__law_counted.nd rfl (.inl rfl))) (fun _ _ _ _ _ => (pts_one (pt_cmpR (op_neXK (K := T.K) (by exact hr.units) rfl) (pe_ix (ix_seqK (K := T.K) rfl) (pv 2) pe_int (by intro _ _; rfl)) pe_int (nomark _)))) (fun _ _ _ _ _ => (pv 2))) pa_nil))) (pa_cons (pe_calM0 (pv 0) c_Mach_walk (hr.mono (by decide))) pa_nil)))) (pss_cons (ps_expr (pe_calM0 (pv 0) c_Mach_reset (hr.mono (by decide)))) (pss_one (ps_ret (pv 1))))), fun D hrt hnx => ?_⟩
  have ok := okk1 hk0
  suffices hx : XS _ D F0 [some (vr p0), none, none] (stt Ω [(k0, machA T p0 x0)] []) by
    rw [show (stt Ω [(k0, machA T p0 x0)] []) = Ω from stt_self (by simp [hk0])] at hx
    exact hx
  unfold M__law_counted at hm
  obtain ⟨z1, hz1, hm⟩ := bnd_some hm
  obtain ⟨z4, hz4, hm⟩ := bnd_some hm
  obtain ⟨z6, hz6, hm⟩ := bnd_some hm
  obtain ⟨y7, hy7, hm⟩ := bnd_some hm
  refine xs_set (A := va T y7) (xe_eq (xe_tup2 (xa_cons (xe_dictP (xe_fz (xn_lcS (T := T) (fun (s2 : Unit) => [(k0, machA T p0 x0)]) (fun (s2 : Unit) => []) hz4 (xi_LF (xe_mcall (xe_var (i := 0) rfl) (stt_get ok (i := 0) rfl) xa_nil ⟨k0, p0, x0, rfl, (stt_get ok (i := 0) rfl), rfl⟩ rfl)) (fun _ => tgt_name) (by simp) (chkP_some hz1) ?q5)) isL_LF (chkP_some hz6)) (xa_cons (xe_mcall (xe_var (i := 0) rfl) (stt_get ok (i := 0) rfl) xa_nil ⟨k0, p0, x0, rfl, (stt_get ok (i := 0) rfl), rfl⟩ rfl) xa_nil))) (Option.some.inj hy7)) ?_
  case q5 =>
    exact (fun a3 s2 o s2 ha hm X => by
      by_cases hc : (!decide (a3.2 = (0 : Int))) = true
      · rw [if_pos hc] at hm
        obtain ⟨rfl, rfl⟩ := Prod.mk.inj (Option.some.inj hm)
        refine ⟨(fun e => nomatch e), fun y e => ?_⟩
        obtain rfl := Option.some.inj e
        refine ⟨xt_eq (xt_test (T := T) (xe_neI (xe_snd (xe_var (i := 2) rfl)) xe_int)) hc, (xe_var (i := 2) rfl)⟩
      · rw [if_neg hc] at hm
        obtain ⟨rfl, rfl⟩ := Prod.mk.inj (Option.some.inj hm)
        exact ⟨fun _ => xt_eq (xt_test (T := T) (xe_neI (xe_snd (xe_var (i := 2) rfl)) xe_int)) (nt hc), fun y e => nomatch e⟩)
  show XS (tSeq _ _) _ _ [some (vr p0), some (va T y7), none] (stt Ω [(k0, machA T p0 x0)] [])
  refine xs_drop (xe_mcall (xe_var (i := 0) rfl) (stt_get ok (i := 0) rfl) xa_nil ⟨k0, p0, x0, rfl, (stt_get ok (i := 0) rfl), rfl⟩ (cal1 ok (i := 0) rfl)) ?_
  show XS (tRet _) _ _ [some (vr p0), some (va T y7), none] (stt Ω [(k0, machA T p0 x0.reset)] [])
  obtain rfl := Option.some.inj hm
  refine xs_ret (xe_var (i := 1) rfl) hrt.all
noncomputable def M__law_size (x1 : List (Str × Int)) (x2 : List (T3 Str Int Int)) (x3 : Int) (x4 : Int) (x5 : Int) (x6 : Int) : Option Int :=
  (chkP (CDivW ((((Builtin.Int.intBits x6 : Nat) : Int) + x3) - (1 : Int)) x3)).bind fun z1 => some (((((Builtin.Int.intBits x6 : Nat) : Int) + x3) - (1 : Int)) / x3)
def Pre__law_size (T : TC) : PreT := fun As Ω R => ∃ (k0 : Nat) (p0 : Addr) (k1 : Nat) (p1 : Addr) (x1 : List (Str × Int)) (k2 : Nat) (p2 : Addr) (x2 : List (T3 Str Int Int)) (x3 : Int) (x4 : Int) (x5 : Int) (x6 : Int) (r : Int), As = [vr p0, va T x6] ∧ Ω[k0]? = some (rawD p0 (wkv x3 x4 x5 p1 p2)) ∧ Ω[k1]? = some (rawD p1 (dkv x1)) ∧ Ω[k2]? = some (lstA T p2 x2) ∧ k0 ≠ k1 ∧ k0 ≠ k2 ∧ k1 ≠ k2 ∧ M__law_size x1 x2 x3 x4 x5 x6 = some r ∧ R = RV (va T r) (stt Ω [] [])
theorem sc__law_size : FnScope ["_law_world_here", "_law_n"] ["_law_world_here", "_law_n"] (defScope s__law_size) := ⟨rfl, rfl, rfl, by decide +kernel, rfl, by decide +kernel, by decide +kernel⟩
theorem ok__law_size {f : Addr} {fd : FuncData} (F : Fun T.K "_law_size" "_law_size" s__law_size f fd)  : FnOk P w T.K mg base CX0 2 f fd ["_law_world_here", "_law_n"] (mkSp (Pre__law_size T)) := by
  refine fn_ok F sc__law_size (fun As Ω R h => ?_) (fun cdv A outer s H E hr As Ω R F0 h => ?_)
  · obtain ⟨k0, p0, k1, p1, x1, k2, p2, x2, x3, x4, x5, x6, r, rfl, _⟩ := h
    rfl
  obtain ⟨k0, p0, k1, p1, x1, k2, p2, x2, x3, x4, x5, x6, r, rfl, hk0, hk1, hk2, ne01, ne02, ne12, hm, rfl⟩ := h
  refine ⟨_, (pss_one (ps_ret (pe_op op_fdivW (pe_op op_sub (pe_op op_addQ (pe_bits (pv 1)) (pe_dget (by exact hu_of hr) (pv 0) pe_str (by intro _ _; rfl))) pe_int) (pe_dget (by exact hu_of hr) (pv 0) pe_str (by intro _ _; rfl))))), fun D hrt hnx => ?_⟩
  have ok : Okk Ω [] := okk0
  suffices hx : XS _ D F0 [some (vr p0), some (va T x6)] (stt Ω [] []) by
    rw [show (stt Ω [] []) = Ω from stt_self (by simp)] at hx
    exact hx
  unfold M__law_size at hm
  obtain ⟨z1, hz1, hm⟩ := bnd_some hm
  obtain rfl := Option.some.inj hm
  refine xs_ret (xe_fdiv (chkP_some hz1) (xe_sub (xe_add (xe_bits (xe_var (i := 1) rfl)) (xe_wget (T := T) (xe_var (i := 0) rfl) xe_str (stt_getU hk0) wkv_bits (fun _ => rfl))) xe_int) (xe_wget (T := T) (xe_var (i := 0) rfl) xe_str (stt_getU hk0) wkv_bits (fun _ => rfl))) hrt.all
noncomputable def M__law_note (x1 : List (Str × Int)) (x2 : List (T3 Str Int Int)) (x3 : Int) (x4 : Int) (x5 : Int) (x6 : Str) (x7 : Int) (x8 : Int) : Option (Unit × List (Str × Int) × List (T3 Str Int Int)) :=
  (chkP (x2.length < sizeLine)).bind fun z1 => some ((), x1, (x2 ++ [(T3.mk x6 x7 x8)]))
def Pre__law_note (T : TC) : PreT := fun As Ω R => ∃ (k0 : Nat) (p0 : Addr) (k1 : Nat) (p1 : Addr) (x1 : List (Str × Int)) (k2 : Nat) (p2 : Addr) (x2 : List (T3 Str Int Int)) (x3 : Int) (x4 : Int) (x5 : Int) (x6 : Str) (x7 : Int) (x8 : Int) (r : Unit × List (Str × Int) × List (T3 Str Int Int)), As = [vr p0, va T x6, va T x7, va T x8] ∧ Ω[k0]? = some (rawD p0 (wkv x3 x4 x5 p1 p2)) ∧ Ω[k1]? = some (rawD p1 (dkv x1)) ∧ Ω[k2]? = some (lstA T p2 x2) ∧ k0 ≠ k1 ∧ k0 ≠ k2 ∧ k1 ≠ k2 ∧ M__law_note x1 x2 x3 x4 x5 x6 x7 x8 = some r ∧ R = RV (va T r.1) (stt Ω [(k1, rawD p1 (dkv r.2.1)), (k2, lstA T p2 r.2.2)] [])
theorem sc__law_note : FnScope ["_law_world_here", "_law_word", "_law_m", "_law_n"] ["_law_world_here", "_law_word", "_law_m", "_law_n"] (defScope s__law_note) := ⟨rfl, rfl, rfl, by decide +kernel, rfl, by decide +kernel, by decide +kernel⟩
theorem ok__law_note {f : Addr} {fd : FuncData} (F : Fun T.K "_law_note" "_law_note" s__law_note f fd)  : FnOk P w T.K mg base CX0 2 f fd ["_law_world_here", "_law_word", "_law_m", "_law_n"] (mkSp (Pre__law_note T)) := by
  refine fn_ok F sc__law_note (fun As Ω R h => ?_) (fun cdv A outer s H E hr As Ω R F0 h => ?_)
  · obtain ⟨k0, p0, k1, p1, x1, k2, p2, x2, x3, x4, x5, x6, x7, x8, r, rfl, _⟩ := h
    rfl
  obtain ⟨k0, p0, k1, p1, x1, k2, p2, x2, x3, x4, x5, x6, x7, x8, r, rfl, hk0, hk1, hk2, ne01, ne02, ne12, hm, rfl⟩ := h
  refine ⟨_, (pss_one (ps_expr (pe_bm PySem.F.plainAttrs_list PySem.F.slot_list_append PySem.F.type_list_append mt_append (pe_dget (by exact hu_of hr) (pv 0) pe_str (by intro _ _; rfl)) (pa_cons (pe_tup (pa_cons (pv 1) (pa_cons (pv 2) (pa_cons (pv 3) pa_nil)))) pa_nil)))), fun D hrt hnx => ?_⟩
  have ok := okk2 hk1 hk2 ne12
  suffices hx : XS _ D F0 [some (vr p0), some (va T x6), some (va T x7), some (va T x8)] (stt Ω [(k1, rawD p1 (dkv x1)), (k2, lstA T p2 (x2 : List (T3 Str Int Int)))] []) by
    rw [show (stt Ω [(k1, rawD p1 (dkv x1)), (k2, lstA T p2 (x2 : List (T3 Str Int Int)))] []) = Ω from stt_self (by simp [hk1, hk2])] at hx
    exact hx
  unfold M__law_note at hm
  obtain ⟨z1, hz1, hm⟩ := bnd_some hm
  refine xs_drop1 (xe_appE (stt_get ok (i := 1) rfl) (stt_get ok (i := 1) rfl) (xe_wget (T := T) (xe_var (i := 0) rfl) xe_str (stt_getU hk0 (by simp [ne01, ne01.symm, ne02, ne02.symm, ne12, ne12.symm])) wkv_walk (fun _ => rfl)) (xe_tup3 (xa_cons (xe_var (i := 1) rfl) (xa_cons (xe_var (i := 2) rfl) (xa_cons (xe_var (i := 3) rfl) xa_nil)))) (chkP_some hz1) (stt_set ok (i := 1) rfl)) ?_
  obtain rfl := Option.some.inj hm
  exact fun σ H ⟨F, f0, e, hh⟩ => hnx F σ H _ f0 hh.all ⟨rfl, rfl⟩
noncomputable def M__law_count (x1 : List (Str × Int)) (x2 : List (T3 Str Int Int)) (x3 : Int) (x4 : Int) (x5 : Int) (x6 : Str) (x7 : Int) : Option (Unit × List (Str × Int) × List (T3 Str Int Int)) :=
  if (decide ((0 : Int) < x7)) = true then (chkP (x1.length < sizeLine)).bind fun z1 => some ((), (dput x1 x6 (((x1.lookup x6).getD (0 : Int)) + x7)), x2) else some ((), x1, x2)
def Pre__law_count (T : TC) : PreT := fun As Ω R => ∃ (k0 : Nat) (p0 : Addr) (k1 : Nat) (p1 : Addr) (x1 : List (Str × Int)) (k2 : Nat) (p2 : Addr) (x2 : List (T3 Str Int Int)) (x3 : Int) (x4 : Int) (x5 : Int) (x6 : Str) (x7 : Int) (r : Unit × List (Str × Int) × List (T3 Str Int Int)), As = [vr p0, va T x6, va T x7] ∧ Ω[k0]? = some (rawD p0 (wkv x3 x4 x5 p1 p2)) ∧ Ω[k1]? = some (rawD p1 (dkv x1)) ∧ Ω[k2]? = some (lstA T p2 x2) ∧ k0 ≠ k1 ∧ k0 ≠ k2 ∧ k1 ≠ k2 ∧ M__law_count x1 x2 x3 x4 x5 x6 x7 = some r ∧ R = RV (va T r.1) (stt Ω [(k1, rawD p1 (dkv r.2.1)), (k2, lstA T p2 r.2.2)] [])
theorem sc__law_count : FnScope ["_law_world_here", "_law_word", "_law_amount"] ["_law_world_here", "_law_word", "_law_amount"] (defScope s__law_count) := ⟨rfl, rfl, rfl, by decide +kernel, rfl, by decide +kernel, by decide +kernel⟩
theorem ok__law_count {f : Addr} {fd : FuncData} (F : Fun T.K "_law_count" "_law_count" s__law_count f fd)  : FnOk P w T.K mg base CX0 2 f fd ["_law_world_here", "_law_word", "_law_amount"] (mkSp (Pre__law_count T)) := by
  refine fn_ok F sc__law_count (fun As Ω R h => ?_) (fun cdv A outer s H E hr As Ω R F0 h => ?_)
  · obtain ⟨k0, p0, k1, p1, x1, k2, p2, x2, x3, x4, x5, x6, x7, r, rfl, _⟩ := h
    rfl
  obtain ⟨k0, p0, k1, p1, x1, k2, p2, x2, x3, x4, x5, x6, x7, r, rfl, hk0, hk1, hk2, ne01, ne02, ne12, hm, rfl⟩ := h
  refine ⟨_, (pss_one (ps_if (pt_cmpR op_gt (pv 2) pe_int (nomark _)) (pss_one (ps_asg (pe_op op_addQ (pe_dget2 (by exact hu_of hr) (pe_dget (by exact hu_of hr) (pv 0) pe_str (by intro _ _; rfl)) (pv 1) pe_int ⟨by rfl, by rfl, by rfl, by rfl⟩) (pv 2)) (pg_sub (pe_dget (by exact hu_of hr) (pv 0) pe_str (by intro _ _; rfl)) (pv 1) (set_dict (Nat.lt_of_le_of_lt (Nat.add_le_add_left (by decide : 1 ≤ 64) _) (by exact hr.units)))))) pss_nil)), fun D hrt hnx => ?_⟩
  have ok := okk2 hk1 hk2 ne12
  suffices hx : XS _ D F0 [some (vr p0), some (va T x6), some (va T x7)] (stt Ω [(k1, rawD p1 (dkv x1)), (k2, lstA T p2 (x2 : List (T3 Str Int Int)))] []) by
    rw [show (stt Ω [(k1, rawD p1 (dkv x1)), (k2, lstA T p2 (x2 : List (T3 Str Int Int)))] []) = Ω from stt_self (by simp [hk1, hk2])] at hx
    exact hx
  unfold M__law_count at hm
  by_cases hc : (decide ((0 : Int) < x7)) = true
  · rw [if_pos hc] at hm
    refine xs_ifT1 (xt_eq (xt_test (T := T) (xe_gt (xe_var (i := 2) rfl) xe_int)) hc) ?_
    obtain ⟨z1, hz1, hm⟩ := bnd_some hm
    refine xs_asgO1 (xe_add (xe_dget2O (xe_wget (T := T) (xe_var (i := 0) rfl) xe_str (stt_getU hk0 (by simp [ne01, ne01.symm, ne02, ne02.symm, ne12, ne12.symm])) wkv_counts (fun _ => rfl)) (xe_var (i := 1) rfl) xe_int (stt_get ok (i := 0) rfl) (stt_get ok (i := 0) rfl)) (xe_var (i := 2) rfl)) (tgo_dict (T := T) (xe_wget (T := T) (xe_var (i := 0) rfl) xe_str (stt_getU hk0 (by simp [ne01, ne01.symm, ne02, ne02.symm, ne12, ne12.symm])) wkv_counts (fun _ => rfl)) (xe_var (i := 1) rfl) (stt_get ok (i := 0) rfl) (chkP_some hz1) (stt_set ok (i := 0) rfl)) ?_
    obtain rfl := Option.some.inj hm
    exact fun σ H ⟨F, f0, e, hh⟩ => hnx F σ H _ f0 hh.all ⟨rfl, rfl⟩
  · rw [if_neg hc] at hm
    refine xs_ifF1 (xt_eq (xt_test (T := T) (xe_gt (xe_var (i := 2) rfl) xe_int)) (nt hc)) ?_
    obtain rfl := Option.some.inj hm
    exact fun σ H ⟨F, f0, e, hh⟩ => hnx F σ H _ f0 hh.all ⟨rfl, rfl⟩
noncomputable def M__law_into (x1 : List (Str × Int)) (x2 : List (T3 Str Int Int)) (x3 : Int) (x4 : Int) (x5 : Int) (x6 : Int) (x7 : Int) (x8 : Int) (x9 : Int) : Option (Int × List (Str × Int) × List (T3 Str Int Int)) :=
  (M__law_size x1 x2 x3 x4 x5 x8).bind fun z1 => (M__law_note x1 x2 x3 x4 x5 (if (decide ((0 : Int) < x9)) = true then ("add into" : Str) else ("take from" : Str)) x7 z1).bind fun z2 => (chkP (IntMulOk x3 z1)).bind fun z3 => (chkP (CShl (1 : Int) (x3 * z1))).bind fun z4 => (some ((1 : Int) * 2 ^ ((x3 * z1)).toNat)).bind fun y5 => (chkP (0 < y5)).bind fun z6 => (chkP (IntMulOk x9 x8)).bind fun z7 => (chkP (CDivS x6 y5)).bind fun z8 => (some ((x6 % y5) + (x9 * x8))).bind fun y9 => (some (x6 / y5)).bind fun y10 => (some (!(decide ((0 : Int) ≤ y9) && decide (y9 < y5)))).bind fun y11 => (whileM (ρ := Unit) (fun (s12 : Bool × Int × Int) => some (s12.1 && (decide (s12.2.2 < x7)))) (fun (s12 : Bool × Int × Int) => (chkP (0 < x5)).bind fun z13 => (atI ([(0 : Int), (x5 - (1 : Int))] : List Int) (if (decide ((0 : Int) < x9)) = true then (1 : Int) else 0)).bind fun z14 => (some (decide ((s12.2.1 % x5) = z14))).bind fun y15 => (chkP (CDivS s12.2.1 x5)).bind fun z16 => (some (s12.2.1 / x5)).bind fun y17 => (some (s12.2.2 + (1 : Int))).bind fun y18 => some (Stp.nx (y15, y17, y18))) ((x7).toNat + 1) (y11, y10, z1)).bind fun z19 => (nxt z19).bind fun s20 => (M__law_count z2.2.1 z2.2.2 x3 x4 x5 ("sum" : Str) s20.2.2).bind fun z21 => (chkP (IntMulOk x9 x8)).bind fun z22 => (chkP (IntMulOk x3 x7)).bind fun z23 => (chkP (CShl (1 : Int) (x3 * x7))).bind fun z24 => (chkP (0 < ((1 : Int) * 2 ^ ((x3 * x7)).toNat))).bind fun z25 => some (((x6 + (x9 * x8)) % ((1 : Int) * 2 ^ ((x3 * x7)).toNat)), z21.2.1, z21.2.2)
def Pre__law_into (T : TC) : PreT := fun As Ω R => ∃ (k0 : Nat) (p0 : Addr) (k1 : Nat) (p1 : Addr) (x1 : List (Str × Int)) (k2 : Nat) (p2 : Addr) (x2 : List (T3 Str Int Int)) (x3 : Int) (x4 : Int) (x5 : Int) (x6 : Int) (x7 : Int) (x8 : Int) (x9 : Int) (r : Int × List (Str × Int) × List (T3 Str Int Int)), As = [vr p0, va T x6, va T x7, va T x8, va T x9] ∧ Ω[k0]? = some (rawD p0 (wkv x3 x4 x5 p1 p2)) ∧ Ω[k1]? = some (rawD p1 (dkv x1)) ∧ Ω[k2]? = some (lstA T p2 x2) ∧ k0 ≠ k1 ∧ k0 ≠ k2 ∧ k1 ≠ k2 ∧ M__law_into x1 x2 x3 x4 x5 x6 x7 x8 x9 = some r ∧ R = RV (va T r.1) (stt Ω [(k1, rawD p1 (dkv r.2.1)), (k2, lstA T p2 r.2.2)] [])
theorem sc__law_into : FnScope ["_law_world_here", "_law_room", "_law_size_here", "_law_more", "_law_sign", "_law_amount", "_law_part", "_law_steps", "_law_low", "_law_rest", "_law_goes_on"] ["_law_world_here", "_law_room", "_law_size_here", "_law_more", "_law_sign"] (defScope s__law_into) := ⟨rfl, rfl, rfl, by decide +kernel, rfl, by decide +kernel, by decide +kernel⟩
theorem ok__law_into {f : Addr} {fd : FuncData} (F : Fun T.K "_law_into" "_law_into" s__law_into f fd) (c__law_size : Cal P w T.K mg base 2 "_law_size" ["_law_world_here", "_law_n"] (mkSp (Pre__law_size T))) (c__law_note : Cal P w T.K mg base 2 "_law_note" ["_law_world_here", "_law_word", "_law_m", "_law_n"] (mkSp (Pre__law_note T))) (z_int : mg "int" = none) (unseen : Unseen P T.K) (c__law_count : Cal P w T.K mg base 2 "_law_count" ["_law_world_here", "_law_word", "_law_amount"] (mkSp (Pre__law_count T))) : FnOk P w T.K mg base CX0 33 f fd ["_law_world_here", "_law_room", "_law_size_here", "_law_more", "_law_sign"] (mkSp (Pre__law_into T)) := by
  refine fn_ok F sc__law_into (fun As Ω R h => ?_) (fun cdv A outer s H E hr As Ω R F0 h => ?_)
  · obtain ⟨k0, p0, k1, p1, x1, k2, p2, x2, x3, x4, x5, x6, x7, x8, x9, r, rfl, _⟩ := h
    rfl
  obtain ⟨k0, p0, k1, p1, x1, k2, p2, x2, x3, x4, x5, x6, x7, x8, x9, r, rfl, hk0, hk1, hk2, ne01, ne02, ne12, hm, rfl⟩ := h
  refine ⟨_, (pss_cons (ps_set (i := 5) sc__law_into.nd rfl (.inl rfl) (pe_cal c__law_size (hr.mono (by decide)) (by rfl) (pa_cons (pv 0) (pa_cons (pv 3) pa_nil)))) (pss_cons (ps_expr (pe_cal c__law_note (hr.mono (by decide)) (by rfl) (pa_cons (pv 0) (pa_cons (pe_ifExp (pt_cmpR op_gt (pv 4) pe_int (nomark _)) pe_str pe_str) (pa_cons (pv 2) (pa_cons (pv 5) pa_nil)))))) (pss_cons (ps_par (i := 6) (j := 7) rfl sc__law_into.nd rfl rfl (by decide) rfl rfl (pa_cons (pe_op op_shlW pe_int (pe_op op_mulQ (pe_dget (by exact hu_of hr) (pv 0) pe_str (by intro _ _; rfl)) (pv 5))) (pa_cons (pv 5) pa_nil)) (by rfl)) (pss_cons (ps_par (i := 8) (j := 9) rfl sc__law_into.nd rfl rfl (by decide) rfl rfl (pa_cons (pe_op op_addQ (pe_op op_mod (pe_callTy cr_int (by rfl) z_int (by decide +kernel) (pa_cons (pv 1) pa_nil)) (pv 6)) (pe_op op_mulQ (pv 4) (pv 3))) (pa_cons (pe_op (op_fdivS unseen (hr.mono (by decide)) rfl rfl rfl) (pv 1) (pv 6)) pa_nil)) (by rfl)) (pss_cons (ps_set (i := 10) sc__law_into.nd rfl (.inl rfl) (pe_not (pe_chain op_le op_lt pe_int (pv 8) (pv 6)))) (pss_cons (ps_while PassesOwn.never (PW.pt (pw_and (pt_val (pv 10)) (pw_and1 (pt_cmpR op_lt (pv 7) (pv 2) (nomark _))))) (pss_cons (ps_set (i := 10) sc__law_into.nd rfl (.inl rfl) (pe_cmpR (op_eqXK (K := T.K) (by exact hr.units) rfl) (pe_op op_mod (pe_callTy cr_int (by rfl) z_int (by decide +kernel) (pa_cons (pv 9) pa_nil)) (pe_dget (by exact hu_of hr) (pv 0) pe_str (by intro _ _; rfl))) (pe_ix (ix_seqK (K := T.K) rfl) (pe_lst (pa_cons pe_int (pa_cons (pe_op op_sub (pe_dget (by exact hu_of hr) (pv 0) pe_str (by intro _ _; rfl)) pe_int) pa_nil))) (pe_callTy cr_int (by rfl) z_int (by decide +kernel) (pa_cons (pe_cmpR op_gt (pv 4) pe_int (nomark _)) pa_nil)) (by intro _ _; rfl)) (nomark _))) (pss_one (ps_par (i := 9) (j := 7) rfl sc__law_into.nd rfl rfl (by decide) rfl rfl (pa_cons (pe_op (op_fdivS unseen (hr.mono (by decide)) rfl rfl rfl) (pv 9) (pe_dget (by exact hu_of hr) (pv 0) pe_str (by intro _ _; rfl))) (pa_cons (pe_op op_addQ (pv 7) pe_int) pa_nil)) (by rfl))))) (pss_cons (ps_expr (pe_cal c__law_count (hr.mono (by decide)) (by rfl) (pa_cons (pv 0) (pa_cons pe_str (pa_cons (pv 7) pa_nil))))) (pss_one (ps_ret (pe_op op_mod (pe_callTy cr_int (by rfl) z_int (by decide +kernel) (pa_cons (pe_op op_addQ (pv 1) (pe_op op_mulQ (pv 4) (pv 3))) pa_nil)) (pe_op op_shlW pe_int (pe_op op_mulQ (pe_dget (by exact hu_of hr) (pv 0) pe_str (by intro _ _; rfl)) (pv 2))))))))))))), fun D hrt hnx => ?_⟩
  have ok := okk2 hk1 hk2 ne12
  suffices hx : XS _ D F0 [some (vr p0), some (va T x6), some (va T x7), some (va T x8), some (va T x9), none, none, none, none, none, none] (stt Ω [(k1, rawD p1 (dkv x1)), (k2, lstA T p2 (x2 : List (T3 Str Int Int)))] []) by
    rw [show (stt Ω [(k1, rawD p1 (dkv x1)), (k2, lstA T p2 (x2 : List (T3 Str Int Int)))] []) = Ω from stt_self (by simp [hk1, hk2])] at hx
    exact hx
  unfold M__law_into at hm
  obtain ⟨z1, hz1, hm⟩ := bnd_some hm
  refine xs_set (A := va T z1) (xe_call (xa_cons (xe_var (i := 0) rfl) (xa_cons (xe_var (i := 3) rfl) xa_nil)) ⟨k0, p0, k1, p1, x1, k2, p2, x2, x3, x4, x5, x8, z1, rfl, (stt_getU hk0 (by simp [ne01, ne01.symm, ne02, ne02.symm, ne12, ne12.symm])), (stt_get ok (i := 0) rfl), (stt_get ok (i := 1) rfl), (by first | assumption | exact Ne.symm (by assumption)), (by first | assumption | exact Ne.symm (by assumption)), (by first | assumption | exact Ne.symm (by assumption)), hz1, rfl⟩ cal0) ?_
  show XS (tSeq _ _) _ _ [some (vr p0), some (va T x6), some (va T x7), some (va T x8), some (va T x9), some (va T z1), none, none, none, none, none] (stt Ω [(k1, rawD p1 (dkv x1)), (k2, lstA T p2 (x2 : List (T3 Str Int Int)))] [])
  obtain ⟨z2, hz2, hm⟩ := bnd_some hm
  refine xs_drop (xe_call (xa_cons (xe_var (i := 0) rfl) (xa_cons (xe_ite (xt_test (T := T) (xe_gt (xe_var (i := 4) rfl) xe_int)) xe_str xe_str) (xa_cons (xe_var (i := 2) rfl) (xa_cons (xe_var (i := 5) rfl) xa_nil)))) ⟨k0, p0, k1, p1, x1, k2, p2, x2, x3, x4, x5, (if (decide ((0 : Int) < x9)) = true then ("add into" : Str) else ("take from" : Str)), x7, z1, z2, rfl, (stt_getU hk0 (by simp [ne01, ne01.symm, ne02, ne02.symm, ne12, ne12.symm])), (stt_get ok (i := 0) rfl), (stt_get ok (i := 1) rfl), (by first | assumption | exact Ne.symm (by assumption)), (by first | assumption | exact Ne.symm (by assumption)), (by first | assumption | exact Ne.symm (by assumption)), hz2, rfl⟩ ((stt_two.trans (congrArg (fun W => stt W _ []) (cal1 ok (i := 1) rfl))).trans (cal1 ok (i := 0) rfl))) ?_
  show XS (tSeq _ _) _ _ [some (vr p0), some (va T x6), some (va T x7), some (va T x8), some (va T x9), some (va T z1), none, none, none, none, none] (stt Ω [(k1, rawD p1 (dkv z2.2.1)), (k2, lstA T p2 (z2.2.2 : List (T3 Str Int Int)))] [])
  obtain ⟨z3, hz3, hm⟩ := bnd_some hm
  obtain ⟨z4, hz4, hm⟩ := bnd_some hm
  obtain ⟨y5, hy5, hm⟩ := bnd_some hm
  refine xs_par2 (A := va T y5) (B := va T z1) (xa_cons (xe_eq (xe_shl (chkP_some hz4) xe_int (xe_mul (chkP_some hz3) (xe_wget (T := T) (xe_var (i := 0) rfl) xe_str (stt_getU hk0 (by simp [ne01, ne01.symm, ne02, ne02.symm, ne12, ne12.symm])) wkv_bits (fun _ => rfl)) (xe_var (i := 5) rfl))) (Option.some.inj hy5)) (xa_cons (xe_var (i := 5) rfl) xa_nil)) ?_
  show XS (tSeq _ _) _ _ [some (vr p0), some (va T x6), some (va T x7), some (va T x8), some (va T x9), some (va T z1), some (va T y5), some (va T z1), none, none, none] (stt Ω [(k1, rawD p1 (dkv z2.2.1)), (k2, lstA T p2 (z2.2.2 : List (T3 Str Int Int)))] [])
  obtain ⟨z6, hz6, hm⟩ := bnd_some hm
  obtain ⟨z7, hz7, hm⟩ := bnd_some hm
  obtain ⟨z8, hz8, hm⟩ := bnd_some hm
  obtain ⟨y9, hy9, hm⟩ := bnd_some hm
  obtain ⟨y10, hy10, hm⟩ := bnd_some hm
  refine xs_par2 (A := va T y9) (B := va T y10) (xa_cons (xe_eq (xe_add (xe_mod (chkP_some hz6) (xe_int1 (xe_var (i := 1) rfl)) (xe_var (i := 6) rfl)) (xe_mul (chkP_some hz7) (xe_var (i := 4) rfl) (xe_var (i := 3) rfl))) (Option.some.inj hy9)) (xa_cons (xe_eq (xe_fdivS (chkP_some hz8) (xe_var (i := 1) rfl) (xe_var (i := 6) rfl)) (Option.some.inj hy10)) xa_nil)) ?_
  show XS (tSeq _ _) _ _ [some (vr p0), some (va T x6), some (va T x7), some (va T x8), some (va T x9), some (va T z1), some (va T y5), some (va T z1), some (va T y9), some (va T y10), none] (stt Ω [(k1, rawD p1 (dkv z2.2.1)), (k2, lstA T p2 (z2.2.2 : List (T3 Str Int Int)))] [])
  obtain ⟨y11, hy11, hm⟩ := bnd_some hm
  refine xs_set (A := va T y11) (xe_eq (xe_notV (xe_chain xe_int (xe_var (i := 8) rfl) ro_bl (fun _ => (xe_var (i := 6) rfl)) (fun _ => ro_bl))) (Option.some.inj hy11)) ?_
  show XS (tSeq _ _) _ _ [some (vr p0), some (va T x6), some (va T x7), some (va T x8), some (va T x9), some (va T z1), some (va T y5), some (va T z1), some (va T y9), some (va T y10), some (va T y11)] (stt Ω [(k1, rawD p1 (dkv z2.2.1)), (k2, lstA T p2 (z2.2.2 : List (T3 Str Int Int)))] [])
  obtain ⟨z19, hz19, hm⟩ := bnd_some hm
  refine xs_whileS (fun (s12 : Bool × Int × Int) => [some (vr p0), some (va T x6), some (va T x7), some (va T x8), some (va T x9), some (va T z1), some (va T y5), some (va T s12.2.2), some (va T y9), some (va T s12.2.1), some (va T s12.1)]) (fun (s12 : Bool × Int × Int) => (stt Ω [(k1, rawD p1 (dkv z2.2.1)), (k2, lstA T p2 (z2.2.2 : List (T3 Str Int Int)))] [])) (fun (_ : Unit) _ _ _ => False) hz19 (fun s12 v hc => ?_) (fun s12 s' hc0 hm F1 D1 e1 hD => ?_) (fun s20 es => ?_) (fun r1 es => ?_)
  · clear hm
    have hm := hc
    obtain rfl := Option.some.inj hm
    refine (xt_and (xt_tB (T := T) (xe_var (i := 10) rfl)) (fun _ => (xt_test (T := T) (xe_lt (xe_var (i := 7) rfl) (xe_var (i := 2) rfl)))) (fun _ => rfl))
  · clear hc0
    show XS (tSeq _ _) _ _ [some (vr p0), some (va T x6), some (va T x7), some (va T x8), some (va T x9), some (va T z1), some (va T y5), some (va T s12.2.2), some (va T y9), some (va T s12.2.1), some (va T s12.1)] (stt Ω [(k1, rawD p1 (dkv z2.2.1)), (k2, lstA T p2 (z2.2.2 : List (T3 Str Int Int)))] [])
    obtain ⟨z13, hz13, hm⟩ := bnd_some hm
    obtain ⟨z14, hz14, hm⟩ := bnd_some hm
    obtain ⟨y15, hy15, hm⟩ := bnd_some hm
    refine xs_set (A := va T y15) (xe_eq (xe_eqI (xe_mod (chkP_some hz13) (xe_int1 (xe_var (i := 9) rfl)) (xe_wget (T := T) (xe_var (i := 0) rfl) xe_str (stt_getU hk0 (by simp [ne01, ne01.symm, ne02, ne02.symm, ne12, ne12.symm])) wkv_base (fun _ => rfl))) (xe_ix (xe_lst (l := [(0 : Int), (x5 - (1 : Int))]) (xa_cons xe_int (xa_cons (xe_sub (xe_wget (T := T) (xe_var (i := 0) rfl) xe_str (stt_getU hk0 (by simp [ne01, ne01.symm, ne02, ne02.symm, ne12, ne12.symm])) wkv_base (fun _ => rfl)) xe_int) xa_nil)) (by show 2 ≤ sizeLine; decide)) (xe_intb (xe_gt (xe_var (i := 4) rfl) xe_int)) isL_LF hz14)) (Option.some.inj hy15)) ?_
    show XS _ _ _ [some (vr p0), some (va T x6), some (va T x7), some (va T x8), some (va T x9), some (va T z1), some (va T y5), some (va T s12.2.2), some (va T y9), some (va T s12.2.1), some (va T y15)] (stt Ω [(k1, rawD p1 (dkv z2.2.1)), (k2, lstA T p2 (z2.2.2 : List (T3 Str Int Int)))] [])
    obtain ⟨z16, hz16, hm⟩ := bnd_some hm
    obtain ⟨y17, hy17, hm⟩ := bnd_some hm
    obtain ⟨y18, hy18, hm⟩ := bnd_some hm
    refine xs_par21 (A := va T y17) (B := va T y18) (xa_cons (xe_eq (xe_fdivS (chkP_some hz16) (xe_var (i := 9) rfl) (xe_wget (T := T) (xe_var (i := 0) rfl) xe_str (stt_getU hk0 (by simp [ne01, ne01.symm, ne02, ne02.symm, ne12, ne12.symm])) wkv_base (fun _ => rfl))) (Option.some.inj hy17)) (xa_cons (xe_eq (xe_add (xe_var (i := 7) rfl) xe_int) (Option.some.inj hy18)) xa_nil)) ?_
    obtain rfl := Option.some.inj hm
    exact fun σ H n => hD.nx _ rfl σ H n
  · subst es
    obtain ⟨s2, hs2, hm⟩ := bnd_some hm
    cases hs2
    show XS (tSeq _ _) _ _ [some (vr p0), some (va T x6), some (va T x7), some (va T x8), some (va T x9), some (va T z1), some (va T y5), some (va T s20.2.2), some (va T y9), some (va T s20.2.1), some (va T s20.1)] (stt Ω [(k1, rawD p1 (dkv z2.2.1)), (k2, lstA T p2 (z2.2.2 : List (T3 Str Int Int)))] [])
    obtain ⟨z21, hz21, hm⟩ := bnd_some hm
    refine xs_drop (xe_call (xa_cons (xe_var (i := 0) rfl) (xa_cons xe_str (xa_cons (xe_var (i := 7) rfl) xa_nil))) ⟨k0, p0, k1, p1, z2.2.1, k2, p2, z2.2.2, x3, x4, x5, ("sum" : Str), s20.2.2, z21, rfl, (stt_getU hk0 (by simp [ne01, ne01.symm, ne02, ne02.symm, ne12, ne12.symm])), (stt_get ok (i := 0) rfl), (stt_get ok (i := 1) rfl), (by first | assumption | exact Ne.symm (by assumption)), (by first | assumption | exact Ne.symm (by assumption)), (by first | assumption | exact Ne.symm (by assumption)), hz21, rfl⟩ ((stt_two.trans (congrArg (fun W => stt W _ []) (cal1 ok (i := 1) rfl))).trans (cal1 ok (i := 0) rfl))) ?_
    show XS (tRet _) _ _ [some (vr p0), some (va T x6), some (va T x7), some (va T x8), some (va T x9), some (va T z1), some (va T y5), some (va T s20.2.2), some (va T y9), some (va T s20.2.1), some (va T s20.1)] (stt Ω [(k1, rawD p1 (dkv z21.2.1)), (k2, lstA T p2 (z21.2.2 : List (T3 Str Int Int)))] [])
    obtain ⟨z22, hz22, hm⟩ := bnd_some hm
    obtain ⟨z23, hz23, hm⟩ := bnd_some hm
    obtain ⟨z24, hz24, hm⟩ := bnd_some hm
    obtain ⟨z25, hz25, hm⟩ := bnd_some hm
    obtain rfl := Option.some.inj hm
    refine xs_ret (xe_mod (chkP_some hz25) (xe_int1 (xe_add (xe_var (i := 1) rfl) (xe_mul (chkP_some hz22) (xe_var (i := 4) rfl) (xe_var (i := 3) rfl)))) (xe_shl (chkP_some hz24) xe_int (xe_mul (chkP_some hz23) (xe_wget (T := T) (xe_var (i := 0) rfl) xe_str (stt_getU hk0 (by simp [ne01, ne01.symm, ne02, ne02.symm, ne12, ne12.symm])) wkv_bits (fun _ => rfl)) (xe_var (i := 2) rfl)))) hrt.all
  · subst es
    cases hm
noncomputable def M__law_sum (x1 : List (Str × Int)) (x2 : List (T3 Str Int Int)) (x3 : Int) (x4 : Int) (x5 : Int) (x6 : Int) (x7 : Int) : Option (Int × List (Str × Int) × List (T3 Str Int Int)) :=
  (chkP (([x6, x7] : List Int).length ≤ sizeLine)).bind fun z1 => (lcM (fun (a3 : Int) (s2 : Unit) => (M__law_size x1 x2 x3 x4 x5 a3).bind fun z4 => some (some z4, ())) ([x6, x7] : List Int) ()).bind fun z5 => (atI z5.1 (0 : Int)).bind fun z7 => (atI z5.1 (1 : Int)).bind fun z8 => (M__law_note x1 x2 x3 x4 x5 ("add" : Str) z7 z8).bind fun z9 => (chkP (0 < z5.1.length)).bind fun z10 => (M__law_count z9.2.1 z9.2.2 x3 x4 x5 ("sum" : Str) (maxL z5.1)).bind fun z11 => some ((x6 + x7), z11.2.1, z11.2.2)
def Pre__law_sum (T : TC) : PreT := fun As Ω R => ∃ (k0 : Nat) (p0 : Addr) (k1 : Nat) (p1 : Addr) (x1 : List (Str × Int)) (k2 : Nat) (p2 : Addr) (x2 : List (T3 Str Int Int)) (x3 : Int) (x4 : Int) (x5 : Int) (x6 : Int) (x7 : Int) (r : Int × List (Str × Int) × List (T3 Str Int Int)), As = [vr p0, va T x6, va T x7] ∧ Ω[k0]? = some (rawD p0 (wkv x3 x4 x5 p1 p2)) ∧ Ω[k1]? = some (rawD p1 (dkv x1)) ∧ Ω[k2]? = some (lstA T p2 x2) ∧ k0 ≠ k1 ∧ k0 ≠ k2 ∧ k1 ≠ k2 ∧ M__law_sum x1 x2 x3 x4 x5 x6 x7 = some r ∧ R = RV (va T r.1) (stt Ω [(k1, rawD p1 (dkv r.2.1)), (k2, lstA T p2 r.2.2)] [])
theorem sc__law_sum : FnScope ["_law_world_here", "_law_one", "_law_other", "_law_sizes", "_law_part"] ["_law_world_here", "_law_one", "_law_other"] (defScope s__law_sum) := ⟨rfl, rfl, rfl, by decide +kernel, rfl, by decide +kernel, by decide +kernel⟩
theorem ok__law_sum {f : Addr} {fd : FuncData} (F : Fun T.K "_law_sum" "_law_sum" s__law_sum f fd) (c__law_size : Cal P w T.K mg base 2 "_law_size" ["_law_world_here", "_law_n"] (mkSp (Pre__law_size T))) (c__law_note : Cal P w T.K mg base 2 "_law_note" ["_law_world_here", "_law_word", "_law_m", "_law_n"] (mkSp (Pre__law_note T))) (z_max : mg "max" = none) (c__law_count : Cal P w T.K mg base 2 "_law_count" ["_law_world_here", "_law_word", "_law_amount"] (mkSp (Pre__law_count T))) : FnOk P w T.K mg base CX0 3 f fd ["_law_world_here", "_law_one", "_law_other"] (mkSp (Pre__law_sum T)) := by
  refine fn_ok F sc__law_sum (fun As Ω R h => ?_) (fun cdv A outer s H E hr As Ω R F0 h => ?_)
  · obtain ⟨k0, p0, k1, p1, x1, k2, p2, x2, x3, x4, x5, x6, x7, r, rfl, _⟩ := h
    rfl
  obtain ⟨k0, p0, k1, p1, x1, k2, p2, x2, x3, x4, x5, x6, x7, r, rfl, hk0, hk1, hk2, ne01, ne02, ne12, hm, rfl⟩ := h
  refine ⟨_, (pss_cons (ps_setLc (i := 3) (own := [("_law_part", 4)]) rfl sc__law_sum.nd rfl rfl (sw_true rfl rfl rfl (by decide +kernel)) (pi_tupK (K := T.K) (pe_tup (pa_cons (pv 1) (pa_cons (pv 2) pa_nil))) rfl) (blkOk_by (N := ["_law_world_here", "_law_one", "_law_other", "_law_sizes", "_law_part"]) (sc := defScope s__law_sum) (by decide +kernel)) (fun _ _ _ _ _ => (pg_name (i := 4) sc__law_sum.nd rfl (.inl rfl))) (fun _ _ _ _ _ => pts_nil) (fun _ _ _ _ _ => (pe_cal c__law_size (hr.mono (by decide)) (by rfl) (pa_cons (pv 0) (pa_cons (pv 4) pa_nil))))) (pss_cons (ps_expr (pe_cal c__law_note (hr.mono (by decide)) (by rfl) (pa_cons (pv 0) (pa_cons pe_str (pa_cons (pe_ix (ix_seqK (K := T.K) rfl) (pv 3) pe_int (by intro _ _; rfl)) (pa_cons (pe_ix (ix_seqK (K := T.K) rfl) (pv 3) pe_int (by intro _ _; rfl)) pa_nil)))))) (pss_cons (ps_expr (pe_cal c__law_count (hr.mono (by decide)) (by rfl) (pa_cons (pv 0) (pa_cons pe_str (pa_cons (pe_callB (cr_maxK (K := T.K) rfl rfl) (by rfl) z_max (by decide +kernel) (pa_cons (pv 3) pa_nil)) pa_nil))))) (pss_one (ps_ret (pe_op op_addQ (pv 1) (pv 2))))))), fun D hrt hnx => ?_⟩
  have ok := okk2 hk1 hk2 ne12
  suffices hx : XS _ D F0 [some (vr p0), some (va T x6), some (va T x7), none, none] (stt Ω [(k1, rawD p1 (dkv x1)), (k2, lstA T p2 (x2 : List (T3 Str Int Int)))] []) by
    rw [show (stt Ω [(k1, rawD p1 (dkv x1)), (k2, lstA T p2 (x2 : List (T3 Str Int Int)))] []) = Ω from stt_self (by simp [hk1, hk2])] at hx
    exact hx
  unfold M__law_sum at hm
  obtain ⟨z1, hz1, hm⟩ := bnd_some hm
  obtain ⟨z5, hz5, hm⟩ := bnd_some hm
  refine xs_set (A := va T (LF.mk z5.1)) (xe_fz (xn_lcS (T := T) (fun (s2 : Unit) => [(k1, rawD p1 (dkv x1)), (k2, lstA T p2 (x2 : List (T3 Str Int Int)))]) (fun (s2 : Unit) => []) hz5 (xi_TF (xe_tupF (l := [x6, x7]) (xa_cons (xe_var (i := 1) rfl) (xa_cons (xe_var (i := 2) rfl) xa_nil)) (by show 2 ≤ sizeLine; decide))) (fun _ => tgt_name) (by simp) (chkP_some hz1) ?q6)) ?_
  case q6 =>
    exact (fun a3 s2 o s2 ha hm X => by
      obtain ⟨z4, hz4, hm⟩ := bnd_some hm
      obtain ⟨rfl, rfl⟩ := Prod.mk.inj (Option.some.inj hm)
      refine ⟨(fun e => nomatch e), fun y e => ?_⟩
      obtain rfl := Option.some.inj e
      refine ⟨xt_yes, (xe_call (xa_cons (xe_var (i := 0) rfl) (xa_cons (xe_var (i := 4) rfl) xa_nil)) ⟨k0, p0, k1, p1, x1, k2, p2, x2, x3, x4, x5, a3, z4, rfl, (stt_getU hk0 (by simp [ne01, ne01.symm, ne02, ne02.symm, ne12, ne12.symm])), (stt_get ok (i := 0) rfl), (stt_get ok (i := 1) rfl), (by first | assumption | exact Ne.symm (by assumption)), (by first | assumption | exact Ne.symm (by assumption)), (by first | assumption | exact Ne.symm (by assumption)), hz4, rfl⟩ cal0)⟩)
  show XS (tSeq _ _) _ _ [some (vr p0), some (va T x6), some (va T x7), some (va T (LF.mk z5.1)), none] (stt Ω [(k1, rawD p1 (dkv x1)), (k2, lstA T p2 (x2 : List (T3 Str Int Int)))] [])
  obtain ⟨z7, hz7, hm⟩ := bnd_some hm
  obtain ⟨z8, hz8, hm⟩ := bnd_some hm
  obtain ⟨z9, hz9, hm⟩ := bnd_some hm
  refine xs_drop (xe_call (xa_cons (xe_var (i := 0) rfl) (xa_cons xe_str (xa_cons (xe_ix (xe_var (i := 3) rfl) xe_int isL_LF hz7) (xa_cons (xe_ix (xe_var (i := 3) rfl) xe_int isL_LF hz8) xa_nil)))) ⟨k0, p0, k1, p1, x1, k2, p2, x2, x3, x4, x5, ("add" : Str), z7, z8, z9, rfl, (stt_getU hk0 (by simp [ne01, ne01.symm, ne02, ne02.symm, ne12, ne12.symm])), (stt_get ok (i := 0) rfl), (stt_get ok (i := 1) rfl), (by first | assumption | exact Ne.symm (by assumption)), (by first | assumption | exact Ne.symm (by assumption)), (by first | assumption | exact Ne.symm (by assumption)), hz9, rfl⟩ ((stt_two.trans (congrArg (fun W => stt W _ []) (cal1 ok (i := 1) rfl))).trans (cal1 ok (i := 0) rfl))) ?_
  show XS (tSeq _ _) _ _ [some (vr p0), some (va T x6), some (va T x7), some (va T (LF.mk z5.1)), none] (stt Ω [(k1, rawD p1 (dkv z9.2.1)), (k2, lstA T p2 (z9.2.2 : List (T3 Str Int Int)))] [])
  obtain ⟨z10, hz10, hm⟩ := bnd_some hm
  obtain ⟨z11, hz11, hm⟩ := bnd_some hm
  refine xs_drop (xe_call (xa_cons (xe_var (i := 0) rfl) (xa_cons xe_str (xa_cons (xe_maxL (xe_var (i := 3) rfl) isLs_LF (chkP_some hz10)) xa_nil))) ⟨k0, p0, k1, p1, z9.2.1, k2, p2, z9.2.2, x3, x4, x5, ("sum" : Str), (maxL z5.1), z11, rfl, (stt_getU hk0 (by simp [ne01, ne01.symm, ne02, ne02.symm, ne12, ne12.symm])), (stt_get ok (i := 0) rfl), (stt_get ok (i := 1) rfl), (by first | assumption | exact Ne.symm (by assumption)), (by first | assumption | exact Ne.symm (by assumption)), (by first | assumption | exact Ne.symm (by assumption)), hz11, rfl⟩ ((stt_two.trans (congrArg (fun W => stt W _ []) (cal1 ok (i := 1) rfl))).trans (cal1 ok (i := 0) rfl))) ?_
  show XS (tRet _) _ _ [some (vr p0), some (va T x6), some (va T x7), some (va T (LF.mk z5.1)), none] (stt Ω [(k1, rawD p1 (dkv z11.2.1)), (k2, lstA T p2 (z11.2.2 : List (T3 Str Int Int)))] [])
  obtain rfl := Option.some.inj hm
  refine xs_ret (xe_add (xe_var (i := 1) rfl) (xe_var (i := 2) rfl)) hrt.all
mutual
noncomputable def M__law_square : Nat → (List (Str × Int)) → (List (T3 Str Int Int)) → Int → Int → Int → Int → Int → Option (Int × List (Str × Int) × List (T3 Str Int Int))
  | 0, _, _, _, _, _, _, _ => none
  | kf + 1, x1, x2, x3, x4, x5, x6, x7 => if (decide (x7 = (0 : Int))) = true then some ((0 : Int), x1, x2) else (chkP (IntMulOk (2 : Int) x4)).bind fun z1 => if (decide (x7 ≤ ((2 : Int) * x4))) = true then (M__law_note x1 x2 x3 x4 x5 ("square" : Str) x7 x7).bind fun z2 => (chkP (IntMulOk x7 (x7 + (1 : Int)))).bind fun z3 => (chkP (CDivW (x7 * (x7 + (1 : Int))) (2 : Int))).bind fun z4 => (M__law_count z2.2.1 z2.2.2 x3 x4 x5 ("product" : Str) ((x7 * (x7 + (1 : Int))) / (2 : Int))).bind fun z5 => (chkP (IntMulOk x6 x6)).bind fun z6 => some ((x6 * x6), z5.2.1, z5.2.2) else (M__law_halves__o1 kf x1 x2 x3 x4 x5 x6 x7 () x7).bind fun z7 => some (z7.1, z7.2.1, z7.2.2)
noncomputable def M__law_halves__o1 : Nat → (List (Str × Int)) → (List (T3 Str Int Int)) → Int → Int → Int → Int → Int → Unit → Int → Option (Int × List (Str × Int) × List (T3 Str Int Int))
  | 0, _, _, _, _, _, _, _, _, _ => none
  | kf + 1, x1, x2, x3, x4, x5, x6, x7, x8, x9 => (M__law_note x1 x2 x3 x4 x5 ("karatsuba" : Str) x7 x9).bind fun z1 => (chkP (CDivW x9 (2 : Int))).bind fun z2 => (chkP (IntMulOk x3 (x9 / (2 : Int)))).bind fun z3 => (some (x3 * (x9 / (2 : Int)))).bind fun y4 => (chkP (0 ≤ y4)).bind fun z5 => (chkP (CShl (1 : Int) y4)).bind fun z6 => (chkP (0 < ((1 : Int) * 2 ^ (y4).toNat))).bind fun z7 => (some (x6 / 2 ^ (y4).toNat)).bind fun y8 => (some (x6 % ((1 : Int) * 2 ^ (y4).toNat))).bind fun y9 => ((M__law_size z1.2.1 z1.2.2 x3 x4 x5 y8).bind fun z10 => (M__law_square kf z1.2.1 z1.2.2 x3 x4 x5 y8 z10).bind fun z11 => (M__law_size z11.2.1 z11.2.2 x3 x4 x5 y9).bind fun z12 => (M__law_square kf z11.2.1 z11.2.2 x3 x4 x5 y9 z12).bind fun z13 => some (z11.1, z13.1, z13.2.1, z13.2.2)).bind fun z15 => (chkP (IntMulOk (2 : Int) y4)).bind fun z16 => (chkP (CShl z15.1 ((2 : Int) * y4))).bind fun z17 => (chkP (CDivW x9 (2 : Int))).bind fun z18 => (some (z15.2.1 + (z15.1 * 2 ^ (((2 : Int) * y4)).toNat))).bind fun y19 => (some ((x7 + x9) - (x9 / (2 : Int)))).bind fun y20 => (chkP (0 ≤ y4)).bind fun z21 => (M__law_into z15.2.2.1 z15.2.2.2 x3 x4 x5 (y19 / 2 ^ (y4).toNat) y20 z15.2.1 (-(1 : Int))).bind fun z22 => (M__law_into z22.2.1 z22.2.2 x3 x4 x5 z22.1 y20 z15.1 (-(1 : Int))).bind fun z23 => (M__law_sum z23.2.1 z23.2.2 x3 x4 x5 y8 y9).bind fun z24 => ((M__law_size z24.2.1 z24.2.2 x3 x4 x5 z24.1).bind fun z25 => (M__law_square kf z24.2.1 z24.2.2 x3 x4 x5 z24.1 z25).bind fun z26 => some (z26.1, z26.2.1, z26.2.2)).bind fun z28 => (chkP (CShl (1 : Int) y4)).bind fun z29 => (chkP (0 < ((1 : Int) * 2 ^ (y4).toNat))).bind fun z30 => (M__law_into z28.2.1 z28.2.2 x3 x4 x5 z23.1 y20 z28.1 (1 : Int)).bind fun z31 => (chkP (CShl z31.1 y4)).bind fun z32 => some (((y19 % ((1 : Int) * 2 ^ (y4).toNat)) + (z31.1 * 2 ^ (y4).toNat)), z31.2.1, z31.2.2)
end
theorem M__law_square_succ (kf : Nat) (x1 : List (Str × Int)) (x2 : List (T3 Str Int Int)) (x3 : Int) (x4 : Int) (x5 : Int) (x6 : Int) (x7 : Int) : M__law_square (kf + 1) x1 x2 x3 x4 x5 x6 x7 = (if (decide (x7 = (0 : Int))) = true then some ((0 : Int), x1, x2) else (chkP (IntMulOk (2 : Int) x4)).bind fun z1 => if (decide (x7 ≤ ((2 : Int) * x4))) = true then (M__law_note x1 x2 x3 x4 x5 ("square" : Str) x7 x7).bind fun z2 => (chkP (IntMulOk x7 (x7 + (1 : Int)))).bind fun z3 => (chkP (CDivW (x7 * (x7 + (1 : Int))) (2 : Int))).bind fun z4 => (M__law_count z2.2.1 z2.2.2 x3 x4 x5 ("product" : Str) ((x7 * (x7 + (1 : Int))) / (2 : Int))).bind fun z5 => (chkP (IntMulOk x6 x6)).bind fun z6 => some ((x6 * x6), z5.2.1, z5.2.2) else (M__law_halves__o1 kf x1 x2 x3 x4 x5 x6 x7 () x7).bind fun z7 => some (z7.1, z7.2.1, z7.2.2)) := by rw [M__law_square]
theorem M__law_square_zero (x1 : List (Str × Int)) (x2 : List (T3 Str Int Int)) (x3 : Int) (x4 : Int) (x5 : Int) (x6 : Int) (x7 : Int) : M__law_square 0 x1 x2 x3 x4 x5 x6 x7 = none := by rw [M__law_square]
theorem M__law_halves__o1_succ (kf : Nat) (x1 : List (Str × Int)) (x2 : List (T3 Str Int Int)) (x3 : Int) (x4 : Int) (x5 : Int) (x6 : Int) (x7 : Int) (x8 : Unit) (x9 : Int) : M__law_halves__o1 (kf + 1) x1 x2 x3 x4 x5 x6 x7 x8 x9 = ((M__law_note x1 x2 x3 x4 x5 ("karatsuba" : Str) x7 x9).bind fun z1 => (chkP (CDivW x9 (2 : Int))).bind fun z2 => (chkP (IntMulOk x3 (x9 / (2 : Int)))).bind fun z3 => (some (x3 * (x9 / (2 : Int)))).bind fun y4 => (chkP (0 ≤ y4)).bind fun z5 => (chkP (CShl (1 : Int) y4)).bind fun z6 => (chkP (0 < ((1 : Int) * 2 ^ (y4).toNat))).bind fun z7 => (some (x6 / 2 ^ (y4).toNat)).bind fun y8 => (some (x6 % ((1 : Int) * 2 ^ (y4).toNat))).bind fun y9 => ((M__law_size z1.2.1 z1.2.2 x3 x4 x5 y8).bind fun z10 => (M__law_square kf z1.2.1 z1.2.2 x3 x4 x5 y8 z10).bind fun z11 => (M__law_size z11.2.1 z11.2.2 x3 x4 x5 y9).bind fun z12 => (M__law_square kf z11.2.1 z11.2.2 x3 x4 x5 y9 z12).bind fun z13 => some (z11.1, z13.1, z13.2.1, z13.2.2)).bind fun z15 => (chkP (IntMulOk (2 : Int) y4)).bind fun z16 => (chkP (CShl z15.1 ((2 : Int) * y4))).bind fun z17 => (chkP (CDivW x9 (2 : Int))).bind fun z18 => (some (z15.2.1 + (z15.1 * 2 ^ (((2 : Int) * y4)).toNat))).bind fun y19 => (some ((x7 + x9) - (x9 / (2 : Int)))).bind fun y20 => (chkP (0 ≤ y4)).bind fun z21 => (M__law_into z15.2.2.1 z15.2.2.2 x3 x4 x5 (y19 / 2 ^ (y4).toNat) y20 z15.2.1 (-(1 : Int))).bind fun z22 => (M__law_into z22.2.1 z22.2.2 x3 x4 x5 z22.1 y20 z15.1 (-(1 : Int))).bind fun z23 => (M__law_sum z23.2.1 z23.2.2 x3 x4 x5 y8 y9).bind fun z24 => ((M__law_size z24.2.1 z24.2.2 x3 x4 x5 z24.1).bind fun z25 => (M__law_square kf z24.2.1 z24.2.2 x3 x4 x5 z24.1 z25).bind fun z26 => some (z26.1, z26.2.1, z26.2.2)).bind fun z28 => (chkP (CShl (1 : Int) y4)).bind fun z29 => (chkP (0 < ((1 : Int) * 2 ^ (y4).toNat))).bind fun z30 => (M__law_into z28.2.1 z28.2.2 x3 x4 x5 z23.1 y20 z28.1 (1 : Int)).bind fun z31 => (chkP (CShl z31.1 y4)).bind fun z32 => some (((y19 % ((1 : Int) * 2 ^ (y4).toNat)) + (z31.1 * 2 ^ (y4).toNat)), z31.2.1, z31.2.2)) := by rw [M__law_halves__o1]
theorem M__law_halves__o1_zero (x1 : List (Str × Int)) (x2 : List (T3 Str Int Int)) (x3 : Int) (x4 : Int) (x5 : Int) (x6 : Int) (x7 : Int) (x8 : Unit) (x9 : Int) : M__law_halves__o1 0 x1 x2 x3 x4 x5 x6 x7 x8 x9 = none := by rw [M__law_halves__o1]
def Pre__law_square (kf : Nat) (T : TC) : PreT := fun As Ω R => ∃ (k0 : Nat) (p0 : Addr) (k1 : Nat) (p1 : Addr) (x1 : List (Str × Int)) (k2 : Nat) (p2 : Addr) (x2 : List (T3 Str Int Int)) (x3 : Int) (x4 : Int) (x5 : Int) (x6 : Int) (x7 : Int) (r : Int × List (Str × Int) × List (T3 Str Int Int)), As = [vr p0, va T x6, va T x7] ∧ Ω[k0]? = some (rawD p0 (wkv x3 x4 x5 p1 p2)) ∧ Ω[k1]? = some (rawD p1 (dkv x1)) ∧ Ω[k2]? = some (lstA T p2 x2) ∧ k0 ≠ k1 ∧ k0 ≠ k2 ∧ k1 ≠ k2 ∧ M__law_square kf x1 x2 x3 x4 x5 x6 x7 = some r ∧ R = RV (va T r.1) (stt Ω [(k1, rawD p1 (dkv r.2.1)), (k2, lstA T p2 r.2.2)] [])
def Pre__law_halves__o1 (kf : Nat) (T : TC) : PreT := fun As Ω R => ∃ (k0 : Nat) (p0 : Addr) (k1 : Nat) (p1 : Addr) (x1 : List (Str × Int)) (k2 : Nat) (p2 : Addr) (x2 : List (T3 Str Int Int)) (x3 : Int) (x4 : Int) (x5 : Int) (x6 : Int) (x7 : Int) (x8 : Unit) (x9 : Int) (r : Int × List (Str × Int) × List (T3 Str Int Int)), As = [vr p0, va T x6, va T x7, va T x8, va T x9] ∧ Ω[k0]? = some (rawD p0 (wkv x3 x4 x5 p1 p2)) ∧ Ω[k1]? = some (rawD p1 (dkv x1)) ∧ Ω[k2]? = some (lstA T p2 x2) ∧ k0 ≠ k1 ∧ k0 ≠ k2 ∧ k1 ≠ k2 ∧ M__law_halves__o1 kf x1 x2 x3 x4 x5 x6 x7 x8 x9 = some r ∧ R = RV (va T r.1) (stt Ω [(k1, rawD p1 (dkv r.2.1)), (k2, lstA T p2 r.2.2)] [])
theorem sc__law_square : FnScope ["_law_world_here", "_law_a", "_law_m"] ["_law_world_here", "_law_a", "_law_m"] (defScope s__law_square) := ⟨rfl, rfl, rfl, by decide +kernel, rfl, by decide +kernel, by decide +kernel⟩
theorem ok0__law_square {f : Addr} {fd : FuncData} (F : Fun T.K "_law_square" "_law_square" s__law_square f fd) : FnOk P w T.K mg base CX0 73 f fd ["_law_world_here", "_law_a", "_law_m"] (mkSp (Pre__law_square 0 T)) := by
  refine fn_ok (k := 72) F sc__law_square (fun As Ω R h => ?_) (fun cdv A outer s H E hr As Ω R F0 h => ?_)
  · obtain ⟨k0, p0, k1, p1, x1, k2, p2, x2, x3, x4, x5, x6, x7, r, rfl, _⟩ := h
    rfl
  obtain ⟨k0, p0, k1, p1, x1, k2, p2, x2, x3, x4, x5, x6, x7, r, rfl, hk0, hk1, hk2, ne01, ne02, ne12, hm, rfl⟩ := h
  rw [M__law_square_zero] at hm
  cases hm
theorem ok__law_square (kf : Nat) {f : Addr} {fd : FuncData} (F : Fun T.K "_law_square" "_law_square" s__law_square f fd) (c__law_note : Cal P w T.K mg base 2 "_law_note" ["_law_world_here", "_law_word", "_law_m", "_law_n"] (mkSp (Pre__law_note T))) (c__law_count : Cal P w T.K mg base 2 "_law_count" ["_law_world_here", "_law_word", "_law_amount"] (mkSp (Pre__law_count T))) (c__law_halves__o1 : Cal P w T.K mg base (73 + kf) "_law_halves" ["_law_world_here", "_law_a", "_law_m", "_law_b", "_law_n"] (mkSp (Pre__law_halves__o1 kf T))) : FnOk P w T.K mg base CX0 (73 + kf + 1) f fd ["_law_world_here", "_law_a", "_law_m"] (mkSp (Pre__law_square (kf + 1) T)) := by
  refine fn_ok F sc__law_square (fun As Ω R h => ?_) (fun cdv A outer s H E hr As Ω R F0 h => ?_)
  · obtain ⟨k0, p0, k1, p1, x1, k2, p2, x2, x3, x4, x5, x6, x7, r, rfl, _⟩ := h
    rfl
  obtain ⟨k0, p0, k1, p1, x1, k2, p2, x2, x3, x4, x5, x6, x7, r, rfl, hk0, hk1, hk2, ne01, ne02, ne12, hm, rfl⟩ := h
  refine ⟨_, (pss_cons (ps_if (pt_cmpR (op_eqXK (K := T.K) (by exact hr.units) rfl) (pv 2) pe_int (nomark _)) (pss_one (ps_ret pe_int)) pss_nil) (pss_cons (ps_if (pt_cmpR op_le (pv 2) (pe_op op_mulQ pe_int (pe_dget (by exact hu_of hr) (pv 0) pe_str (by intro _ _; rfl))) (nomark _)) (pss_cons (ps_expr (pe_cal c__law_note (hr.mono (by omega)) (by rfl) (pa_cons (pv 0) (pa_cons pe_str (pa_cons (pv 2) (pa_cons (pv 2) pa_nil)))))) (pss_cons (ps_expr (pe_cal c__law_count (hr.mono (by omega)) (by rfl) (pa_cons (pv 0) (pa_cons pe_str (pa_cons (pe_op op_fdivW (pe_op op_mulQ (pv 2) (pe_op op_addQ (pv 2) pe_int)) pe_int) pa_nil))))) (pss_one (ps_ret (pe_op op_mulQ (pv 1) (pv 1)))))) pss_nil) (pss_one (ps_ret (pe_cal c__law_halves__o1 (hr.mono (by omega)) (by rfl) (pa_cons (pv 0) (pa_cons (pv 1) (pa_cons (pv 2) (pa_cons pe_non (pa_cons (pv 2) pa_nil)))))))))), fun D hrt hnx => ?_⟩
  have ok := okk2 hk1 hk2 ne12
  suffices hx : XS _ D F0 [some (vr p0), some (va T x6), some (va T x7)] (stt Ω [(k1, rawD p1 (dkv x1)), (k2, lstA T p2 (x2 : List (T3 Str Int Int)))] []) by
    rw [show (stt Ω [(k1, rawD p1 (dkv x1)), (k2, lstA T p2 (x2 : List (T3 Str Int Int)))] []) = Ω from stt_self (by simp [hk1, hk2])] at hx
    exact hx
  rw [M__law_square_succ] at hm
  by_cases hc : (decide (x7 = (0 : Int))) = true
  · rw [if_pos hc] at hm
    refine xs_ifT (xt_eq (xt_test (T := T) (xe_eqI (xe_var (i := 2) rfl) xe_int)) hc) ?_
    obtain rfl := Option.some.inj hm
    refine xs_ret xe_int hrt.all
  · rw [if_neg hc] at hm
    refine xs_ifN (xt_eq (xt_test (T := T) (xe_eqI (xe_var (i := 2) rfl) xe_int)) (nt hc)) ?_
    show XS (tSeq _ _) _ _ [some (vr p0), some (va T x6), some (va T x7)] (stt Ω [(k1, rawD p1 (dkv x1)), (k2, lstA T p2 (x2 : List (T3 Str Int Int)))] [])
    obtain ⟨z1, hz1, hm⟩ := bnd_some hm
    by_cases hc : (decide (x7 ≤ ((2 : Int) * x4))) = true
    · rw [if_pos hc] at hm
      refine xs_ifT (xt_eq (xt_test (T := T) (xe_le (xe_var (i := 2) rfl) (xe_mul (chkP_some hz1) xe_int (xe_wget (T := T) (xe_var (i := 0) rfl) xe_str (stt_getU hk0 (by simp [ne01, ne01.symm, ne02, ne02.symm, ne12, ne12.symm])) wkv_cutoff (fun _ => rfl))))) hc) ?_
      obtain ⟨z2, hz2, hm⟩ := bnd_some hm
      refine xs_drop (xe_call (xa_cons (xe_var (i := 0) rfl) (xa_cons xe_str (xa_cons (xe_var (i := 2) rfl) (xa_cons (xe_var (i := 2) rfl) xa_nil)))) ⟨k0, p0, k1, p1, x1, k2, p2, x2, x3, x4, x5, ("square" : Str), x7, x7, z2, rfl, (stt_getU hk0 (by simp [ne01, ne01.symm, ne02, ne02.symm, ne12, ne12.symm])), (stt_get ok (i := 0) rfl), (stt_get ok (i := 1) rfl), (by first | assumption | exact Ne.symm (by assumption)), (by first | assumption | exact Ne.symm (by assumption)), (by first | assumption | exact Ne.symm (by assumption)), hz2, rfl⟩ ((stt_two.trans (congrArg (fun W => stt W _ []) (cal1 ok (i := 1) rfl))).trans (cal1 ok (i := 0) rfl))) ?_
      show XS (tSeq _ _) _ _ [some (vr p0), some (va T x6), some (va T x7)] (stt Ω [(k1, rawD p1 (dkv z2.2.1)), (k2, lstA T p2 (z2.2.2 : List (T3 Str Int Int)))] [])
      obtain ⟨z3, hz3, hm⟩ := bnd_some hm
      obtain ⟨z4, hz4, hm⟩ := bnd_some hm
      obtain ⟨z5, hz5, hm⟩ := bnd_some hm
      refine xs_drop (xe_call (xa_cons (xe_var (i := 0) rfl) (xa_cons xe_str (xa_cons (xe_fdiv (chkP_some hz4) (xe_mul (chkP_some hz3) (xe_var (i := 2) rfl) (xe_add (xe_var (i := 2) rfl) xe_int)) xe_int) xa_nil))) ⟨k0, p0, k1, p1, z2.2.1, k2, p2, z2.2.2, x3, x4, x5, ("product" : Str), ((x7 * (x7 + (1 : Int))) / (2 : Int)), z5, rfl, (stt_getU hk0 (by simp [ne01, ne01.symm, ne02, ne02.symm, ne12, ne12.symm])), (stt_get ok (i := 0) rfl), (stt_get ok (i := 1) rfl), (by first | assumption | exact Ne.symm (by assumption)), (by first | assumption | exact Ne.symm (by assumption)), (by first | assumption | exact Ne.symm (by assumption)), hz5, rfl⟩ ((stt_two.trans (congrArg (fun W => stt W _ []) (cal1 ok (i := 1) rfl))).trans (cal1 ok (i := 0) rfl))) ?_
      show XS (tRet _) _ _ [some (vr p0), some (va T x6), some (va T x7)] (stt Ω [(k1, rawD p1 (dkv z5.2.1)), (k2, lstA T p2 (z5.2.2 : List (T3 Str Int Int)))] [])
      obtain ⟨z6, hz6, hm⟩ := bnd_some hm
      obtain rfl := Option.some.inj hm
      refine xs_ret (xe_mul (chkP_some hz6) (xe_var (i := 1) rfl) (xe_var (i := 1) rfl)) hrt.all
    · rw [if_neg hc] at hm
      refine xs_ifN (xt_eq (xt_test (T := T) (xe_le (xe_var (i := 2) rfl) (xe_mul (chkP_some hz1) xe_int (xe_wget (T := T) (xe_var (i := 0) rfl) xe_str (stt_getU hk0 (by simp [ne01, ne01.symm, ne02, ne02.symm, ne12, ne12.symm])) wkv_cutoff (fun _ => rfl))))) (nt hc)) ?_
      show XS (tRet _) _ _ [some (vr p0), some (va T x6), some (va T x7)] (stt Ω [(k1, rawD p1 (dkv x1)), (k2, lstA T p2 (x2 : List (T3 Str Int Int)))] [])
      obtain ⟨z7, hz7, hm⟩ := bnd_some hm
      obtain rfl := Option.some.inj hm
      refine xs_ret (xe_call (xa_cons (xe_var (i := 0) rfl) (xa_cons (xe_var (i := 1) rfl) (xa_cons (xe_var (i := 2) rfl) (xa_cons xe_non (xa_cons (xe_var (i := 2) rfl) xa_nil))))) ⟨k0, p0, k1, p1, x1, k2, p2, x2, x3, x4, x5, x6, x7, (), x7, z7, rfl, (stt_getU hk0 (by simp [ne01, ne01.symm, ne02, ne02.symm, ne12, ne12.symm])), (stt_get ok (i := 0) rfl), (stt_get ok (i := 1) rfl), (by first | assumption | exact Ne.symm (by assumption)), (by first | assumption | exact Ne.symm (by assumption)), (by first | assumption | exact Ne.symm (by assumption)), hz7, rfl⟩ ((stt_two.trans (congrArg (fun W => stt W _ []) (cal1 ok (i := 1) rfl))).trans (cal1 ok (i := 0) rfl))) hrt.all
theorem sc__law_halves__o1 : FnScope ["_law_world_here", "_law_a", "_law_m", "_law_b", "_law_n", "_law_moved", "_law_high", "_law_low", "_law_top", "_law_bottom", "_law_more", "_law_less", "_law_room", "_law_size_here", "_law_part", "_law_one", "_law_middle", "_law_other"] ["_law_world_here", "_law_a", "_law_m", "_law_b", "_law_n"] (defScope s__law_halves__o1) := ⟨rfl, rfl, rfl, by decide +kernel, rfl, by decide +kernel, by decide +kernel⟩
theorem ok0__law_halves__o1 {f : Addr} {fd : FuncData} (F : Fun T.K "_law_halves" "_law_halves" s__law_halves__o1 f fd) : FnOk P w T.K mg base CX0 73 f fd ["_law_world_here", "_law_a", "_law_m", "_law_b", "_law_n"] (mkSp (Pre__law_halves__o1 0 T)) := by
  refine fn_ok (k := 72) F sc__law_halves__o1 (fun As Ω R h => ?_) (fun cdv A outer s H E hr As Ω R F0 h => ?_)
  · obtain ⟨k0, p0, k1, p1, x1, k2, p2, x2, x3, x4, x5, x6, x7, x8, x9, r, rfl, _⟩ := h
    rfl
  obtain ⟨k0, p0, k1, p1, x1, k2, p2, x2, x3, x4, x5, x6, x7, x8, x9, r, rfl, hk0, hk1, hk2, ne01, ne02, ne12, hm, rfl⟩ := h
  rw [M__law_halves__o1_zero] at hm
  cases hm
theorem ok__law_halves__o1 (kf : Nat) {f : Addr} {fd : FuncData} (F : Fun T.K "_law_halves" "_law_halves" s__law_halves__o1 f fd) (c__law_note : Cal P w T.K mg base 2 "_law_note" ["_law_world_here", "_law_word", "_law_m", "_law_n"] (mkSp (Pre__law_note T))) (z_int : mg "int" = none) (c__law_size : Cal P w T.K mg base 2 "_law_size" ["_law_world_here", "_law_n"] (mkSp (Pre__law_size T))) (c__law_square : Cal P w T.K mg base (73 + kf) "_law_square" ["_law_world_here", "_law_a", "_law_m"] (mkSp (Pre__law_square kf T))) (c__law_into : Cal P w T.K mg base 33 "_law_into" ["_law_world_here", "_law_room", "_law_size_here", "_law_more", "_law_sign"] (mkSp (Pre__law_into T))) (c__law_sum : Cal P w T.K mg base 3 "_law_sum" ["_law_world_here", "_law_one", "_law_other"] (mkSp (Pre__law_sum T))) : FnOk P w T.K mg base CX0 (73 + kf + 1) f fd ["_law_world_here", "_law_a", "_law_m", "_law_b", "_law_n"] (mkSp (Pre__law_halves__o1 (kf + 1) T)) := by
  refine fn_ok F sc__law_halves__o1 (fun As Ω R h => ?_) (fun cdv A outer s H E hr As Ω R F0 h => ?_)
  · obtain ⟨k0, p0, k1, p1, x1, k2, p2, x2, x3, x4, x5, x6, x7, x8, x9, r, rfl, _⟩ := h
    rfl
  obtain ⟨k0, p0, k1, p1, x1, k2, p2, x2, x3, x4, x5, x6, x7, x8, x9, r, rfl, hk0, hk1, hk2, ne01, ne02, ne12, hm, rfl⟩ := h
  refine ⟨_, (pss_cons (ps_expr (pe_cal c__law_note (hr.mono (by omega)) (by rfl) (pa_cons (pv 0) (pa_cons pe_str (pa_cons (pv 2) (pa_cons (pv 4) pa_nil)))))) (pss_cons (ps_set (i := 5) sc__law_halves__o1.nd rfl (.inl rfl) (pe_op op_mulQ (pe_dget (by exact hu_of hr) (pv 0) pe_str (by intro _ _; rfl)) (pe_op op_fdivW (pv 4) pe_int))) (pss_cons (ps_par (i := 6) (j := 7) rfl sc__law_halves__o1.nd rfl rfl (by decide) rfl rfl (pa_cons (pe_op op_shr (pv 1) (pv 5)) (pa_cons (pe_op op_mod (pe_callTy cr_int (by rfl) z_int (by decide +kernel) (pa_cons (pv 1) pa_nil)) (pe_op op_shlW pe_int (pv 5))) pa_nil)) (by rfl)) (Evl.pss_cut (ps_if (pt_cmpR op_isNo (pv 3) pe_non (nomark _)) (pss_cons (ps_set (i := 8) sc__law_halves__o1.nd rfl (.inl rfl) (pe_cal c__law_square (hr.mono (by omega)) (by rfl) (pa_cons (pv 0) (pa_cons (pv 6) (pa_cons (pe_cal c__law_size (hr.mono (by omega)) (by rfl) (pa_cons (pv 0) (pa_cons (pv 6) pa_nil))) pa_nil))))) (pss_one (ps_set (i := 9) sc__law_halves__o1.nd rfl (.inl rfl) (pe_cal c__law_square (hr.mono (by omega)) (by rfl) (pa_cons (pv 0) (pa_cons (pv 7) (pa_cons (pe_cal c__law_size (hr.mono (by omega)) (by rfl) (pa_cons (pv 0) (pa_cons (pv 7) pa_nil))) pa_nil))))))) pss_never) (pss_cons (ps_par (i := 12) (j := 13) rfl sc__law_halves__o1.nd rfl rfl (by decide) rfl rfl (pa_cons (pe_op op_addQ (pv 9) (pe_op op_shlW (pv 8) (pe_op op_mulQ pe_int (pv 5)))) (pa_cons (pe_op op_sub (pe_op op_addQ (pv 2) (pv 4)) (pe_op op_fdivW (pv 4) pe_int)) pa_nil)) (by rfl)) (pss_cons (ps_set (i := 14) sc__law_halves__o1.nd rfl (.inl rfl) (pe_cal c__law_into (hr.mono (by omega)) (by rfl) (pa_cons (pv 0) (pa_cons (pe_op op_shr (pv 12) (pv 5)) (pa_cons (pv 13) (pa_cons (pv 9) (pa_cons (pe_un un_neg pe_int) pa_nil))))))) (pss_cons (ps_set (i := 14) sc__law_halves__o1.nd rfl (.inl rfl) (pe_cal c__law_into (hr.mono (by omega)) (by rfl) (pa_cons (pv 0) (pa_cons (pv 14) (pa_cons (pv 13) (pa_cons (pv 8) (pa_cons (pe_un un_neg pe_int) pa_nil))))))) (pss_cons (ps_set (i := 15) sc__law_halves__o1.nd rfl (.inl rfl) (pe_cal c__law_sum (hr.mono (by omega)) (by rfl) (pa_cons (pv 0) (pa_cons (pv 6) (pa_cons (pv 7) pa_nil))))) (Evl.pss_cut (ps_if (pt_cmpR op_isNo (pv 3) pe_non (nomark _)) (pss_one (ps_set (i := 16) sc__law_halves__o1.nd rfl (.inl rfl) (pe_cal c__law_square (hr.mono (by omega)) (by rfl) (pa_cons (pv 0) (pa_cons (pv 15) (pa_cons (pe_cal c__law_size (hr.mono (by omega)) (by rfl) (pa_cons (pv 0) (pa_cons (pv 15) pa_nil))) pa_nil)))))) pss_never) (pss_one (ps_ret (pe_op op_addQ (pe_op op_mod (pe_callTy cr_int (by rfl) z_int (by decide +kernel) (pa_cons (pv 12) pa_nil)) (pe_op op_shlW pe_int (pv 5))) (pe_op op_shlW (pe_cal c__law_into (hr.mono (by omega)) (by rfl) (pa_cons (pv 0) (pa_cons (pv 14) (pa_cons (pv 13) (pa_cons (pv 16) (pa_cons pe_int pa_nil)))))) (pv 5)))))))))))))), fun D hrt hnx => ?_⟩
  have ok := okk2 hk1 hk2 ne12
  suffices hx : XS _ D F0 [some (vr p0), some (va T x6), some (va T x7), some (va T x8), some (va T x9), none, none, none, none, none, none, none, none, none, none, none, none, none] (stt Ω [(k1, rawD p1 (dkv x1)), (k2, lstA T p2 (x2 : List (T3 Str Int Int)))] []) by
    rw [show (stt Ω [(k1, rawD p1 (dkv x1)), (k2, lstA T p2 (x2 : List (T3 Str Int Int)))] []) = Ω from stt_self (by simp [hk1, hk2])] at hx
    exact hx
  rw [M__law_halves__o1_succ] at hm
  obtain ⟨z1, hz1, hm⟩ := bnd_some hm
  refine xs_drop (xe_call (xa_cons (xe_var (i := 0) rfl) (xa_cons xe_str (xa_cons (xe_var (i := 2) rfl) (xa_cons (xe_var (i := 4) rfl) xa_nil)))) ⟨k0, p0, k1, p1, x1, k2, p2, x2, x3, x4, x5, ("karatsuba" : Str), x7, x9, z1, rfl, (stt_getU hk0 (by simp [ne01, ne01.symm, ne02, ne02.symm, ne12, ne12.symm])), (stt_get ok (i := 0) rfl), (stt_get ok (i := 1) rfl), (by first | assumption | exact Ne.symm (by assumption)), (by first | assumption | exact Ne.symm (by assumption)), (by first | assumption | exact Ne.symm (by assumption)), hz1, rfl⟩ ((stt_two.trans (congrArg (fun W => stt W _ []) (cal1 ok (i := 1) rfl))).trans (cal1 ok (i := 0) rfl))) ?_
  show XS (tSeq _ _) _ _ [some (vr p0), some (va T x6), some (va T x7), some (va T x8), some (va T x9), none, none, none, none, none, none, none, none, none, none, none, none, none] (stt Ω [(k1, rawD p1 (dkv z1.2.1)), (k2, lstA T p2 (z1.2.2 : List (T3 Str Int Int)))] [])
  obtain ⟨z2, hz2, hm⟩ := bnd_some hm
  obtain ⟨z3, hz3, hm⟩ := bnd_some hm
  obtain ⟨y4, hy4, hm⟩ := bnd_some hm
  refine xs_set (A := va T y4) (xe_eq (xe_mul (chkP_some hz3) (xe_wget (T := T) (xe_var (i := 0) rfl) xe_str (stt_getU hk0 (by simp [ne01, ne01.symm, ne02, ne02.symm, ne12, ne12.symm])) wkv_bits (fun _ => rfl)) (xe_fdiv (chkP_some hz2) (xe_var (i := 4) rfl) xe_int)) (Option.some.inj hy4)) ?_
  show XS (tSeq _ _) _ _ [some (vr p0), some (va T x6), some (va T x7), some (va T x8), some (va T x9), some (va T y4), none, none, none, none, none, none, none, none, none, none, none, none] (stt Ω [(k1, rawD p1 (dkv z1.2.1)), (k2, lstA T p2 (z1.2.2 : List (T3 Str Int Int)))] [])
  obtain ⟨z5, hz5, hm⟩ := bnd_some hm
  obtain ⟨z6, hz6, hm⟩ := bnd_some hm
  obtain ⟨z7, hz7, hm⟩ := bnd_some hm
  obtain ⟨y8, hy8, hm⟩ := bnd_some hm
  obtain ⟨y9, hy9, hm⟩ := bnd_some hm
  refine xs_par2 (A := va T y8) (B := va T y9) (xa_cons (xe_eq (xe_shr (chkP_some hz5) (xe_var (i := 1) rfl) (xe_var (i := 5) rfl)) (Option.some.inj hy8)) (xa_cons (xe_eq (xe_mod (chkP_some hz7) (xe_int1 (xe_var (i := 1) rfl)) (xe_shl (chkP_some hz6) xe_int (xe_var (i := 5) rfl))) (Option.some.inj hy9)) xa_nil)) ?_
  show XS (Evl.tCut _ _) _ _ [some (vr p0), some (va T x6), some (va T x7), some (va T x8), some (va T x9), some (va T y4), some (va T y8), some (va T y9), none, none, none, none, none, none, none, none, none, none] (stt Ω [(k1, rawD p1 (dkv z1.2.1)), (k2, lstA T p2 (z1.2.2 : List (T3 Str Int Int)))] [])
  obtain ⟨z15, hz15, hm⟩ := bnd_some hm
  refine xs_cut (Γ' := [some (vr p0), some (va T x6), some (va T x7), some (va T x8), some (va T x9), some (va T y4), some (va T y8), some (va T y9), some (va T z15.1), some (va T z15.2.1), none, none, none, none, none, none, none, none]) (Ω' := (stt Ω [(k1, rawD p1 (dkv z15.2.2.1)), (k2, lstA T p2 (z15.2.2.2 : List (T3 Str Int Int)))] [])) ?_ ?_
  · clear hm
    have hm := hz15
    clear hz15
    refine xs_ifT1 (xt_test (T := T) (xe_isNU (xe_var (i := 3) rfl) xe_non)) ?_
    obtain ⟨z10, hz10, hm⟩ := bnd_some hm
    obtain ⟨z11, hz11, hm⟩ := bnd_some hm
    refine xs_set (A := va T z11.1) (xe_call (xa_cons (xe_var (i := 0) rfl) (xa_cons (xe_var (i := 6) rfl) (xa_cons (xe_call (xa_cons (xe_var (i := 0) rfl) (xa_cons (xe_var (i := 6) rfl) xa_nil)) ⟨k0, p0, k1, p1, z1.2.1, k2, p2, z1.2.2, x3, x4, x5, y8, z10, rfl, (stt_getU hk0 (by simp [ne01, ne01.symm, ne02, ne02.symm, ne12, ne12.symm])), (stt_get ok (i := 0) rfl), (stt_get ok (i := 1) rfl), (by first | assumption | exact Ne.symm (by assumption)), (by first | assumption | exact Ne.symm (by assumption)), (by first | assumption | exact Ne.symm (by assumption)), hz10, rfl⟩ cal0) xa_nil))) ⟨k0, p0, k1, p1, z1.2.1, k2, p2, z1.2.2, x3, x4, x5, y8, z10, z11, rfl, (stt_getU hk0 (by simp [ne01, ne01.symm, ne02, ne02.symm, ne12, ne12.symm])), (stt_get ok (i := 0) rfl), (stt_get ok (i := 1) rfl), (by first | assumption | exact Ne.symm (by assumption)), (by first | assumption | exact Ne.symm (by assumption)), (by first | assumption | exact Ne.symm (by assumption)), hz11, rfl⟩ ((stt_two.trans (congrArg (fun W => stt W _ []) (cal1 ok (i := 1) rfl))).trans (cal1 ok (i := 0) rfl))) ?_
    show XS (tAsg _ _) _ _ [some (vr p0), some (va T x6), some (va T x7), some (va T x8), some (va T x9), some (va T y4), some (va T y8), some (va T y9), some (va T z11.1), none, none, none, none, none, none, none, none, none] (stt Ω [(k1, rawD p1 (dkv z11.2.1)), (k2, lstA T p2 (z11.2.2 : List (T3 Str Int Int)))] [])
    obtain ⟨z12, hz12, hm⟩ := bnd_some hm
    obtain ⟨z13, hz13, hm⟩ := bnd_some hm
    refine xs_set1 (A := va T z13.1) (xe_call (xa_cons (xe_var (i := 0) rfl) (xa_cons (xe_var (i := 7) rfl) (xa_cons (xe_call (xa_cons (xe_var (i := 0) rfl) (xa_cons (xe_var (i := 7) rfl) xa_nil)) ⟨k0, p0, k1, p1, z11.2.1, k2, p2, z11.2.2, x3, x4, x5, y9, z12, rfl, (stt_getU hk0 (by simp [ne01, ne01.symm, ne02, ne02.symm, ne12, ne12.symm])), (stt_get ok (i := 0) rfl), (stt_get ok (i := 1) rfl), (by first | assumption | exact Ne.symm (by assumption)), (by first | assumption | exact Ne.symm (by assumption)), (by first | assumption | exact Ne.symm (by assumption)), hz12, rfl⟩ cal0) xa_nil))) ⟨k0, p0, k1, p1, z11.2.1, k2, p2, z11.2.2, x3, x4, x5, y9, z12, z13, rfl, (stt_getU hk0 (by simp [ne01, ne01.symm, ne02, ne02.symm, ne12, ne12.symm])), (stt_get ok (i := 0) rfl), (stt_get ok (i := 1) rfl), (by first | assumption | exact Ne.symm (by assumption)), (by first | assumption | exact Ne.symm (by assumption)), (by first | assumption | exact Ne.symm (by assumption)), hz13, rfl⟩ ((stt_two.trans (congrArg (fun W => stt W _ []) (cal1 ok (i := 1) rfl))).trans (cal1 ok (i := 0) rfl))) ?_
    obtain rfl := Option.some.inj hm
    exact fun σ H n => n
  · obtain ⟨z16, hz16, hm⟩ := bnd_some hm
    obtain ⟨z17, hz17, hm⟩ := bnd_some hm
    obtain ⟨z18, hz18, hm⟩ := bnd_some hm
    obtain ⟨y19, hy19, hm⟩ := bnd_some hm
    obtain ⟨y20, hy20, hm⟩ := bnd_some hm
    refine xs_par2 (A := va T y19) (B := va T y20) (xa_cons (xe_eq (xe_add (xe_var (i := 9) rfl) (xe_shl (chkP_some hz17) (xe_var (i := 8) rfl) (xe_mul (chkP_some hz16) xe_int (xe_var (i := 5) rfl)))) (Option.some.inj hy19)) (xa_cons (xe_eq (xe_sub (xe_add (xe_var (i := 2) rfl) (xe_var (i := 4) rfl)) (xe_fdiv (chkP_some hz18) (xe_var (i := 4) rfl) xe_int)) (Option.some.inj hy20)) xa_nil)) ?_
    show XS (tSeq _ _) _ _ [some (vr p0), some (va T x6), some (va T x7), some (va T x8), some (va T x9), some (va T y4), some (va T y8), some (va T y9), some (va T z15.1), some (va T z15.2.1), none, none, some (va T y19), some (va T y20), none, none, none, none] (stt Ω [(k1, rawD p1 (dkv z15.2.2.1)), (k2, lstA T p2 (z15.2.2.2 : List (T3 Str Int Int)))] [])
    obtain ⟨z21, hz21, hm⟩ := bnd_some hm
    obtain ⟨z22, hz22, hm⟩ := bnd_some hm
    refine xs_set (A := va T z22.1) (xe_call (xa_cons (xe_var (i := 0) rfl) (xa_cons (xe_shr (chkP_some hz21) (xe_var (i := 12) rfl) (xe_var (i := 5) rfl)) (xa_cons (xe_var (i := 13) rfl) (xa_cons (xe_var (i := 9) rfl) (xa_cons (xe_neg xe_int) xa_nil))))) ⟨k0, p0, k1, p1, z15.2.2.1, k2, p2, z15.2.2.2, x3, x4, x5, (y19 / 2 ^ (y4).toNat), y20, z15.2.1, (-(1 : Int)), z22, rfl, (stt_getU hk0 (by simp [ne01, ne01.symm, ne02, ne02.symm, ne12, ne12.symm])), (stt_get ok (i := 0) rfl), (stt_get ok (i := 1) rfl), (by first | assumption | exact Ne.symm (by assumption)), (by first | assumption | exact Ne.symm (by assumption)), (by first | assumption | exact Ne.symm (by assumption)), hz22, rfl⟩ ((stt_two.trans (congrArg (fun W => stt W _ []) (cal1 ok (i := 1) rfl))).trans (cal1 ok (i := 0) rfl))) ?_
    show XS (tSeq _ _) _ _ [some (vr p0), some (va T x6), some (va T x7), some (va T x8), some (va T x9), some (va T y4), some (va T y8), some (va T y9), some (va T z15.1), some (va T z15.2.1), none, none, some (va T y19), some (va T y20), some (va T z22.1), none, none, none] (stt Ω [(k1, rawD p1 (dkv z22.2.1)), (k2, lstA T p2 (z22.2.2 : List (T3 Str Int Int)))] [])
    obtain ⟨z23, hz23, hm⟩ := bnd_some hm
    refine xs_set (A := va T z23.1) (xe_call (xa_cons (xe_var (i := 0) rfl) (xa_cons (xe_var (i := 14) rfl) (xa_cons (xe_var (i := 13) rfl) (xa_cons (xe_var (i := 8) rfl) (xa_cons (xe_neg xe_int) xa_nil))))) ⟨k0, p0, k1, p1, z22.2.1, k2, p2, z22.2.2, x3, x4, x5, z22.1, y20, z15.1, (-(1 : Int)), z23, rfl, (stt_getU hk0 (by simp [ne01, ne01.symm, ne02, ne02.symm, ne12, ne12.symm])), (stt_get ok (i := 0) rfl), (stt_get ok (i := 1) rfl), (by first | assumption | exact Ne.symm (by assumption)), (by first | assumption | exact Ne.symm (by assumption)), (by first | assumption | exact Ne.symm (by assumption)), hz23, rfl⟩ ((stt_two.trans (congrArg (fun W => stt W _ []) (cal1 ok (i := 1) rfl))).trans (cal1 ok (i := 0) rfl))) ?_
    show XS (tSeq _ _) _ _ [some (vr p0), some (va T x6), some (va T x7), some (va T x8), some (va T x9), some (va T y4), some (va T y8), some (va T y9), some (va T z15.1), some (va T z15.2.1), none, none, some (va T y19), some (va T y20), some (va T z23.1), none, none, none] (stt Ω [(k1, rawD p1 (dkv z23.2.1)), (k2, lstA T p2 (z23.2.2 : List (T3 Str Int Int)))] [])
    obtain ⟨z24, hz24, hm⟩ := bnd_some hm
    refine xs_set (A := va T z24.1) (xe_call (xa_cons (xe_var (i := 0) rfl) (xa_cons (xe_var (i := 6) rfl) (xa_cons (xe_var (i := 7) rfl) xa_nil))) ⟨k0, p0, k1, p1, z23.2.1, k2, p2, z23.2.2, x3, x4, x5, y8, y9, z24, rfl, (stt_getU hk0 (by simp [ne01, ne01.symm, ne02, ne02.symm, ne12, ne12.symm])), (stt_get ok (i := 0) rfl), (stt_get ok (i := 1) rfl), (by first | assumption | exact Ne.symm (by assumption)), (by first | assumption | exact Ne.symm (by assumption)), (by first | assumption | exact Ne.symm (by assumption)), hz24, rfl⟩ ((stt_two.trans (congrArg (fun W => stt W _ []) (cal1 ok (i := 1) rfl))).trans (cal1 ok (i := 0) rfl))) ?_
    show XS (Evl.tCut _ _) _ _ [some (vr p0), some (va T x6), some (va T x7), some (va T x8), some (va T x9), some (va T y4), some (va T y8), some (va T y9), some (va T z15.1), some (va T z15.2.1), none, none, some (va T y19), some (va T y20), some (va T z23.1), some (va T z24.1), none, none] (stt Ω [(k1, rawD p1 (dkv z24.2.1)), (k2, lstA T p2 (z24.2.2 : List (T3 Str Int Int)))] [])
    obtain ⟨z28, hz28, hm⟩ := bnd_some hm
    refine xs_cut (Γ' := [some (vr p0), some (va T x6), some (va T x7), some (va T x8), some (va T x9), some (va T y4), some (va T y8), some (va T y9), some (va T z15.1), some (va T z15.2.1), none, none, some (va T y19), some (va T y20), some (va T z23.1), some (va T z24.1), some (va T z28.1), none]) (Ω' := (stt Ω [(k1, rawD p1 (dkv z28.2.1)), (k2, lstA T p2 (z28.2.2 : List (T3 Str Int Int)))] [])) ?_ ?_
    · clear hm
      have hm := hz28
      clear hz28
      refine xs_ifT1 (xt_test (T := T) (xe_isNU (xe_var (i := 3) rfl) xe_non)) ?_
      obtain ⟨z25, hz25, hm⟩ := bnd_some hm
      obtain ⟨z26, hz26, hm⟩ := bnd_some hm
      refine xs_set1 (A := va T z26.1) (xe_call (xa_cons (xe_var (i := 0) rfl) (xa_cons (xe_var (i := 15) rfl) (xa_cons (xe_call (xa_cons (xe_var (i := 0) rfl) (xa_cons (xe_var (i := 15) rfl) xa_nil)) ⟨k0, p0, k1, p1, z24.2.1, k2, p2, z24.2.2, x3, x4, x5, z24.1, z25, rfl, (stt_getU hk0 (by simp [ne01, ne01.symm, ne02, ne02.symm, ne12, ne12.symm])), (stt_get ok (i := 0) rfl), (stt_get ok (i := 1) rfl), (by first | assumption | exact Ne.symm (by assumption)), (by first | assumption | exact Ne.symm (by assumption)), (by first | assumption | exact Ne.symm (by assumption)), hz25, rfl⟩ cal0) xa_nil))) ⟨k0, p0, k1, p1, z24.2.1, k2, p2, z24.2.2, x3, x4, x5, z24.1, z25, z26, rfl, (stt_getU hk0 (by simp [ne01, ne01.symm, ne02, ne02.symm, ne12, ne12.symm])), (stt_get ok (i := 0) rfl), (stt_get ok (i := 1) rfl), (by first | assumption | exact Ne.symm (by assumption)), (by first | assumption | exact Ne.symm (by assumption)), (by first | assumption | exact Ne.symm (by assumption)), hz26, rfl⟩ ((stt_two.trans (congrArg (fun W => stt W _ []) (cal1 ok (i := 1) rfl))).trans (cal1 ok (i := 0) rfl))) ?_
      obtain rfl := Option.some.inj hm
      exact fun σ H n => n
    · obtain ⟨z29, hz29, hm⟩ := bnd_some hm
      obtain ⟨z30, hz30, hm⟩ := bnd_some hm
      obtain ⟨z31, hz31, hm⟩ := bnd_some hm
      obtain ⟨z32, hz32, hm⟩ := bnd_some hm
      obtain rfl := Option.some.inj hm
      refine xs_ret (xe_add (xe_mod (chkP_some hz30) (xe_int1 (xe_var (i := 12) rfl)) (xe_shl (chkP_some hz29) xe_int (xe_var (i := 5) rfl))) (xe_shl (chkP_some hz32) (xe_call (xa_cons (xe_var (i := 0) rfl) (xa_cons (xe_var (i := 14) rfl) (xa_cons (xe_var (i := 13) rfl) (xa_cons (xe_var (i := 16) rfl) (xa_cons xe_int xa_nil))))) ⟨k0, p0, k1, p1, z28.2.1, k2, p2, z28.2.2, x3, x4, x5, z23.1, y20, z28.1, (1 : Int), z31, rfl, (stt_getU hk0 (by simp [ne01, ne01.symm, ne02, ne02.symm, ne12, ne12.symm])), (stt_get ok (i := 0) rfl), (stt_get ok (i := 1) rfl), (by first | assumption | exact Ne.symm (by assumption)), (by first | assumption | exact Ne.symm (by assumption)), (by first | assumption | exact Ne.symm (by assumption)), hz31, rfl⟩ ((stt_two.trans (congrArg (fun W => stt W _ []) (cal1 ok (i := 1) rfl))).trans (cal1 ok (i := 0) rfl))) (xe_var (i := 5) rfl))) hrt.all
mutual
noncomputable def M__law_product : Nat → (List (Str × Int)) → (List (T3 Str Int Int)) → Int → Int → Int → Int → Int → Int → Int → Option (Int × List (Str × Int) × List (T3 Str Int Int))
  | 0, _, _, _, _, _, _, _, _, _ => none
  | kf + 1, x1, x2, x3, x4, x5, x6, x7, x8, x9 => (if (decide (x9 < x7)) = true then (some (T4.mk x8 x9 x6 x7)).bind fun y1 => some (y1.a, y1.b, y1.c, y1.d) else some (x6, x7, x8, x9)).bind fun z4 => if (decide (z4.2.1 = (0 : Int))) = true then some ((0 : Int), x1, x2) else if (decide (z4.2.1 ≤ x4)) = true then (M__law_note x1 x2 x3 x4 x5 ("rows" : Str) z4.2.1 z4.2.2.2).bind fun z5 => (chkP (IntMulOk z4.2.1 z4.2.2.2)).bind fun z6 => (M__law_count z5.2.1 z5.2.2 x3 x4 x5 ("product" : Str) (z4.2.1 * z4.2.2.2)).bind fun z7 => (chkP (IntMulOk z4.1 z4.2.2.1)).bind fun z8 => some ((z4.1 * z4.2.2.1), z7.2.1, z7.2.2) else (chkP (IntMulOk (2 : Int) z4.2.1)).bind fun z9 => (if (decide (((2 : Int) * z4.2.1) ≤ z4.2.2.2)) = true then (M__law_slices kf x1 x2 x3 x4 x5 z4.1 z4.2.1 z4.2.2.1 z4.2.2.2).bind fun z10 => some (z10.1, z10.2.1, z10.2.2) else (M__law_halves kf x1 x2 x3 x4 x5 z4.1 z4.2.1 z4.2.2.1 z4.2.2.2).bind fun z11 => some (z11.1, z11.2.1, z11.2.2)).bind fun z12 => some (z12.1, z12.2.1, z12.2.2)
noncomputable def M__law_slices : Nat → (List (Str × Int)) → (List (T3 Str Int Int)) → Int → Int → Int → Int → Int → Int → Int → Option (Int × List (Str × Int) × List (T3 Str Int Int))
  | 0, _, _, _, _, _, _, _, _, _ => none
  | kf + 1, x1, x2, x3, x4, x5, x6, x7, x8, x9 => (M__law_note x1 x2 x3 x4 x5 ("lopsided" : Str) x7 x9).bind fun z1 => (chkP (IntMulOk x3 x7)).bind fun z2 => (chkP (CShl (1 : Int) (x3 * x7))).bind fun z3 => (some ((1 : Int) * 2 ^ ((x3 * x7)).toNat)).bind fun y4 => (chkP (CRg x9 x7)).bind fun z5 => (forM' (ρ := Unit) (fun (a7 : Int) (s6 : Int × (List (Str × Int)) × (List (T3 Str Int Int))) => (chkP (IntMulOk x3 a7)).bind fun z8 => (chkP (0 ≤ (x3 * a7))).bind fun z9 => (chkP (0 < y4)).bind fun z10 => (M__law_product kf s6.2.1 s6.2.2 x3 x4 x5 x6 x7 ((x8 / 2 ^ ((x3 * a7)).toNat) % y4) (min x7 (x9 - a7))).bind fun z11 => (chkP (IntMulOk x3 a7)).bind fun z12 => (some (x3 * a7)).bind fun y13 => (chkP (0 ≤ y13)).bind fun z14 => (M__law_into z11.2.1 z11.2.2 x3 x4 x5 (s6.1 / 2 ^ (y13).toNat) ((x7 + x9) - a7) z11.1 (1 : Int)).bind fun z15 => (chkP (CShl (1 : Int) y13)).bind fun z16 => (chkP (0 < ((1 : Int) * 2 ^ (y13).toNat))).bind fun z17 => (chkP (CShl z15.1 y13)).bind fun z18 => (some ((s6.1 % ((1 : Int) * 2 ^ (y13).toNat)) + (z15.1 * 2 ^ (y13).toNat))).bind fun y19 => some (Stp.nx (y19, z15.2.1, z15.2.2))) (rngS x7 ((x9 + x7 - 1) / x7).toNat) ((0 : Int), z1.2.1, z1.2.2)).bind fun z20 => (nxt z20).bind fun s21 => some (s21.1, s21.2.1, s21.2.2)
noncomputable def M__law_halves : Nat → (List (Str × Int)) → (List (T3 Str Int Int)) → Int → Int → Int → Int → Int → Int → Int → Option (Int × List (Str × Int) × List (T3 Str Int Int))
  | 0, _, _, _, _, _, _, _, _, _ => none
  | kf + 1, x1, x2, x3, x4, x5, x6, x7, x8, x9 => (M__law_note x1 x2 x3 x4 x5 ("karatsuba" : Str) x7 x9).bind fun z1 => (chkP (CDivW x9 (2 : Int))).bind fun z2 => (chkP (IntMulOk x3 (x9 / (2 : Int)))).bind fun z3 => (some (x3 * (x9 / (2 : Int)))).bind fun y4 => (chkP (0 ≤ y4)).bind fun z5 => (chkP (CShl (1 : Int) y4)).bind fun z6 => (chkP (0 < ((1 : Int) * 2 ^ (y4).toNat))).bind fun z7 => (some (x6 / 2 ^ (y4).toNat)).bind fun y8 => (some (x6 % ((1 : Int) * 2 ^ (y4).toNat))).bind fun y9 => ((chkP (0 ≤ y4)).bind fun z10 => (chkP (CShl (1 : Int) y4)).bind fun z11 => (chkP (0 < ((1 : Int) * 2 ^ (y4).toNat))).bind fun z12 => (some (x8 / 2 ^ (y4).toNat)).bind fun y13 => (some (x8 % ((1 : Int) * 2 ^ (y4).toNat))).bind fun y14 => (M__law_size z1.2.1 z1.2.2 x3 x4 x5 y8).bind fun z15 => (M__law_size z1.2.1 z1.2.2 x3 x4 x5 y13).bind fun z16 => (M__law_product kf z1.2.1 z1.2.2 x3 x4 x5 y8 z15 y13 z16).bind fun z17 => (M__law_size z17.2.1 z17.2.2 x3 x4 x5 y9).bind fun z18 => (M__law_size z17.2.1 z17.2.2 x3 x4 x5 y14).bind fun z19 => (M__law_product kf z17.2.1 z17.2.2 x3 x4 x5 y9 z18 y14 z19).bind fun z20 => some (y13, y14, z17.1, z20.1, z20.2.1, z20.2.2)).bind fun z22 => (chkP (IntMulOk (2 : Int) y4)).bind fun z23 => (chkP (CShl z22.2.2.1 ((2 : Int) * y4))).bind fun z24 => (chkP (CDivW x9 (2 : Int))).bind fun z25 => (some (z22.2.2.2.1 + (z22.2.2.1 * 2 ^ (((2 : Int) * y4)).toNat))).bind fun y26 => (some ((x7 + x9) - (x9 / (2 : Int)))).bind fun y27 => (chkP (0 ≤ y4)).bind fun z28 => (M__law_into z22.2.2.2.2.1 z22.2.2.2.2.2 x3 x4 x5 (y26 / 2 ^ (y4).toNat) y27 z22.2.2.2.1 (-(1 : Int))).bind fun z29 => (M__law_into z29.2.1 z29.2.2 x3 x4 x5 z29.1 y27 z22.2.2.1 (-(1 : Int))).bind fun z30 => (M__law_sum z30.2.1 z30.2.2 x3 x4 x5 y8 y9).bind fun z31 => ((M__law_sum z31.2.1 z31.2.2 x3 x4 x5 z22.1 z22.2.1).bind fun z32 => (M__law_size z32.2.1 z32.2.2 x3 x4 x5 z31.1).bind fun z33 => (M__law_size z32.2.1 z32.2.2 x3 x4 x5 z32.1).bind fun z34 => (M__law_product kf z32.2.1 z32.2.2 x3 x4 x5 z31.1 z33 z32.1 z34).bind fun z35 => some (z32.1, z35.1, z35.2.1, z35.2.2)).bind fun z37 => (chkP (CShl (1 : Int) y4)).bind fun z38 => (chkP (0 < ((1 : Int) * 2 ^ (y4).toNat))).bind fun z39 => (M__law_into z37.2.2.1 z37.2.2.2 x3 x4 x5 z30.1 y27 z37.2.1 (1 : Int)).bind fun z40 => (chkP (CShl z40.1 y4)).bind fun z41 => some (((y26 % ((1 : Int) * 2 ^ (y4).toNat)) + (z40.1 * 2 ^ (y4).toNat)), z40.2.1, z40.2.2)
end
theorem M__law_product_succ (kf : Nat) (x1 : List (Str × Int)) (x2 : List (T3 Str Int Int)) (x3 : Int) (x4 : Int) (x5 : Int) (x6 : Int) (x7 : Int) (x8 : Int) (x9 : Int) : M__law_product (kf + 1) x1 x2 x3 x4 x5 x6 x7 x8 x9 = ((if (decide (x9 < x7)) = true then (some (T4.mk x8 x9 x6 x7)).bind fun y1 => some (y1.a, y1.b, y1.c, y1.d) else some (x6, x7, x8, x9)).bind fun z4 => if (decide (z4.2.1 = (0 : Int))) = true then some ((0 : Int), x1, x2) else if (decide (z4.2.1 ≤ x4)) = true then (M__law_note x1 x2 x3 x4 x5 ("rows" : Str) z4.2.1 z4.2.2.2).bind fun z5 => (chkP (IntMulOk z4.2.1 z4.2.2.2)).bind fun z6 => (M__law_count z5.2.1 z5.2.2 x3 x4 x5 ("product" : Str) (z4.2.1 * z4.2.2.2)).bind fun z7 => (chkP (IntMulOk z4.1 z4.2.2.1)).bind fun z8 => some ((z4.1 * z4.2.2.1), z7.2.1, z7.2.2) else (chkP (IntMulOk (2 : Int) z4.2.1)).bind fun z9 => (if (decide (((2 : Int) * z4.2.1) ≤ z4.2.2.2)) = true then (M__law_slices kf x1 x2 x3 x4 x5 z4.1 z4.2.1 z4.2.2.1 z4.2.2.2).bind fun z10 => some (z10.1, z10.2.1, z10.2.2) else (M__law_halves kf x1 x2 x3 x4 x5 z4.1 z4.2.1 z4.2.2.1 z4.2.2.2).bind fun z11 => some (z11.1, z11.2.1, z11.2.2)).bind fun z12 => some (z12.1, z12.2.1, z12.2.2)) := by rw [M__law_product]
theorem M__law_product_zero (x1 : List (Str × Int)) (x2 : List (T3 Str Int Int)) (x3 : Int) (x4 : Int) (x5 : Int) (x6 : Int) (x7 : Int) (x8 : Int) (x9 : Int) : M__law_product 0 x1 x2 x3 x4 x5 x6 x7 x8 x9 = none := by rw [M__law_product]
theorem M__law_slices_succ (kf : Nat) (x1 : List (Str × Int)) (x2 : List (T3 Str Int Int)) (x3 : Int) (x4 : Int) (x5 : Int) (x6 : Int) (x7 : Int) (x8 : Int) (x9 : Int) : M__law_slices (kf + 1) x1 x2 x3 x4 x5 x6 x7 x8 x9 = ((M__law_note x1 x2 x3 x4 x5 ("lopsided" : Str) x7 x9).bind fun z1 => (chkP (IntMulOk x3 x7)).bind fun z2 => (chkP (CShl (1 : Int) (x3 * x7))).bind fun z3 => (some ((1 : Int) * 2 ^ ((x3 * x7)).toNat)).bind fun y4 => (chkP (CRg x9 x7)).bind fun z5 => (forM' (ρ := Unit) (fun (a7 : Int) (s6 : Int × (List (Str × Int)) × (List (T3 Str Int Int))) => (chkP (IntMulOk x3 a7)).bind fun z8 => (chkP (0 ≤ (x3 * a7))).bind fun z9 => (chkP (0 < y4)).bind fun z10 => (M__law_product kf s6.2.1 s6.2.2 x3 x4 x5 x6 x7 ((x8 / 2 ^ ((x3 * a7)).toNat) % y4) (min x7 (x9 - a7))).bind fun z11 => (chkP (IntMulOk x3 a7)).bind fun z12 => (some (x3 * a7)).bind fun y13 => (chkP (0 ≤ y13)).bind fun z14 => (M__law_into z11.2.1 z11.2.2 x3 x4 x5 (s6.1 / 2 ^ (y13).toNat) ((x7 + x9) - a7) z11.1 (1 : Int)).bind fun z15 => (chkP (CShl (1 : Int) y13)).bind fun z16 => (chkP (0 < ((1 : Int) * 2 ^ (y13).toNat))).bind fun z17 => (chkP (CShl z15.1 y13)).bind fun z18 => (some ((s6.1 % ((1 : Int) * 2 ^ (y13).toNat)) + (z15.1 * 2 ^ (y13).toNat))).bind fun y19 => some (Stp.nx (y19, z15.2.1, z15.2.2))) (rngS x7 ((x9 + x7 - 1) / x7).toNat) ((0 : Int), z1.2.1, z1.2.2)).bind fun z20 => (nxt z20).bind fun s21 => some (s21.1, s21.2.1, s21.2.2)) := by rw [M__law_slices]
theorem M__law_slices_zero (x1 : List (Str × Int)) (x2 : List (T3 Str Int Int)) (x3 : Int) (x4 : Int) (x5 : Int) (x6 : Int) (x7 : Int) (x8 : Int) (x9 : Int) : M__law_slices 0 x1 x2 x3 x4 x5 x6 x7 x8 x9 = none := by rw [M__law_slices]
theorem M__law_halves_succ (kf : Nat) (x1 : List (Str × Int)) (x2 : List (T3 Str Int Int)) (x3 : Int) (x4 : Int) (x5 : Int) (x6 : Int) (x7 : Int) (x8 : Int) (x9 : Int) : M__law_halves (kf + 1) x1 x2 x3 x4 x5 x6 x7 x8 x9 = ((M__law_note x1 x2 x3 x4 x5 ("karatsuba" : Str) x7 x9).bind fun z1 => (chkP (CDivW x9 (2 : Int))).bind fun z2 => (chkP (IntMulOk x3 (x9 / (2 : Int)))).bind fun z3 => (some (x3 * (x9 / (2 : Int)))).bind fun y4 => (chkP (0 ≤ y4)).bind fun z5 => (chkP (CShl (1 : Int) y4)).bind fun z6 => (chkP (0 < ((1 : Int) * 2 ^ (y4).toNat))).bind fun z7 => (some (x6 / 2 ^ (y4).toNat)).bind fun y8 => (some (x6 % ((1 : Int) * 2 ^ (y4).toNat))).bind fun y9 => ((chkP (0 ≤ y4)).bind fun z10 => (chkP (CShl (1 : Int) y4)).bind fun z11 => (chkP (0 < ((1 : Int) * 2 ^ (y4).toNat))).bind fun z12 => (some (x8 / 2 ^ (y4).toNat)).bind fun y13 => (some (x8 % ((1 : Int) * 2 ^ (y4).toNat))).bind fun y14 => (M__law_size z1.2.1 z1.2.2 x3 x4 x5 y8).bind fun z15 => (M__law_size z1.2.1 z1.2.2 x3 x4 x5 y13).bind fun z16 => (M__law_product kf z1.2.1 z1.2.2 x3 x4 x5 y8 z15 y13 z16).bind fun z17 => (M__law_size z17.2.1 z17.2.2 x3 x4 x5 y9).bind fun z18 => (M__law_size z17.2.1 z17.2.2 x3 x4 x5 y14).bind fun z19 => (M__law_product kf z17.2.1 z17.2.2 x3 x4 x5 y9 z18 y14 z19).bind fun z20 => some (y13, y14, z17.1, z20.1, z20.2.1, z20.2.2)).bind fun z22 => (chkP (IntMulOk (2 : Int) y4)).bind fun z23 => (chkP (CShl z22.2.2.1 ((2 : Int) * y4))).bind fun z24 => (chkP (CDivW x9 (2 : Int))).bind fun z25 => (some (z22.2.2.2.1 + (z22.2.2.1 * 2 ^ (((2 : Int) * y4)).toNat))).bind fun y26 => (some ((x7 + x9) - (x9 / (2 : Int)))).bind fun y27 => (chkP (0 ≤ y4)).bind fun z28 => (M__law_into z22.2.2.2.2.1 z22.2.2.2.2.2 x3 x4 x5 (y26 / 2 ^ (y4).toNat) y27 z22.2.2.2.1 (-(1 : Int))).bind fun z29 => (M__law_into z29.2.1 z29.2.2 x3 x4 x5 z29.1 y27 z22.2.2.1 (-(1 : Int))).bind fun z30 => (M__law_sum z30.2.1 z30.2.2 x3 x4 x5 y8 y9).bind fun z31 => ((M__law_sum z31.2.1 z31.2.2 x3 x4 x5 z22.1 z22.2.1).bind fun z32 => (M__law_size z32.2.1 z32.2.2 x3 x4 x5 z31.1).bind fun z33 => (M__law_size z32.2.1 z32.2.2 x3 x4 x5 z32.1).bind fun z34 => (M__law_product kf z32.2.1 z32.2.2 x3 x4 x5 z31.1 z33 z32.1 z34).bind fun z35 => some (z32.1, z35.1, z35.2.1, z35.2.2)).bind fun z37 => (chkP (CShl (1 : Int) y4)).bind fun z38 => (chkP (0 < ((1 : Int) * 2 ^ (y4).toNat))).bind fun z39 => (M__law_into z37.2.2.1 z37.2.2.2 x3 x4 x5 z30.1 y27 z37.2.1 (1 : Int)).bind fun z40 => (chkP (CShl z40.1 y4)).bind fun z41 => some (((y26 % ((1 : Int) * 2 ^ (y4).toNat)) + (z40.1 * 2 ^ (y4).toNat)), z40.2.1, z40.2.2)) := by rw [M__law_halves]
theorem M__law_halves_zero (x1 : List (Str × Int)) (x2 : List (T3 Str Int Int)) (x3 : Int) (x4 : Int) (x5 : Int) (x6 : Int) (x7 : Int) (x8 : Int) (x9 : Int) : M__law_halves 0 x1 x2 x3 x4 x5 x6 x7 x8 x9 = none := by rw [M__law_halves]
def Pre__law_product (kf : Nat) (T : TC) : PreT := fun As Ω R => ∃ (k0 : Nat) (p0 : Addr) (k1 : Nat) (p1 : Addr) (x1 : List (Str × Int)) (k2 : Nat) (p2 : Addr) (x2 : List (T3 Str Int Int)) (x3 : Int) (x4 : Int) (x5 : Int) (x6 : Int) (x7 : Int) (x8 : Int) (x9 : Int) (r : Int × List (Str × Int) × List (T3 Str Int Int)), As = [vr p0, va T x6, va T x7, va T x8, va T x9] ∧ Ω[k0]? = some (rawD p0 (wkv x3 x4 x5 p1 p2)) ∧ Ω[k1]? = some (rawD p1 (dkv x1)) ∧ Ω[k2]? = some (lstA T p2 x2) ∧ k0 ≠ k1 ∧ k0 ≠ k2 ∧ k1 ≠ k2 ∧ M__law_product kf x1 x2 x3 x4 x5 x6 x7 x8 x9 = some r ∧ R = RV (va T r.1) (stt Ω [(k1, rawD p1 (dkv r.2.1)), (k2, lstA T p2 r.2.2)] [])
def Pre__law_slices (kf : Nat) (T : TC) : PreT := fun As Ω R => ∃ (k0 : Nat) (p0 : Addr) (k1 : Nat) (p1 : Addr) (x1 : List (Str × Int)) (k2 : Nat) (p2 : Addr) (x2 : List (T3 Str Int Int)) (x3 : Int) (x4 : Int) (x5 : Int) (x6 : Int) (x7 : Int) (x8 : Int) (x9 : Int) (r : Int × List (Str × Int) × List (T3 Str Int Int)), As = [vr p0, va T x6, va T x7, va T x8, va T x9] ∧ Ω[k0]? = some (rawD p0 (wkv x3 x4 x5 p1 p2)) ∧ Ω[k1]? = some (rawD p1 (dkv x1)) ∧ Ω[k2]? = some (lstA T p2 x2) ∧ k0 ≠ k1 ∧ k0 ≠ k2 ∧ k1 ≠ k2 ∧ M__law_slices kf x1 x2 x3 x4 x5 x6 x7 x8 x9 = some r ∧ R = RV (va T r.1) (stt Ω [(k1, rawD p1 (dkv r.2.1)), (k2, lstA T p2 r.2.2)] [])
def Pre__law_halves (kf : Nat) (T : TC) : PreT := fun As Ω R => ∃ (k0 : Nat) (p0 : Addr) (k1 : Nat) (p1 : Addr) (x1 : List (Str × Int)) (k2 : Nat) (p2 : Addr) (x2 : List (T3 Str Int Int)) (x3 : Int) (x4 : Int) (x5 : Int) (x6 : Int) (x7 : Int) (x8 : Int) (x9 : Int) (r : Int × List (Str × Int) × List (T3 Str Int Int)), As = [vr p0, va T x6, va T x7, va T x8, va T x9] ∧ Ω[k0]? = some (rawD p0 (wkv x3 x4 x5 p1 p2)) ∧ Ω[k1]? = some (rawD p1 (dkv x1)) ∧ Ω[k2]? = some (lstA T p2 x2) ∧ k0 ≠ k1 ∧ k0 ≠ k2 ∧ k1 ≠ k2 ∧ M__law_halves kf x1 x2 x3 x4 x5 x6 x7 x8 x9 = some r ∧ R = RV (va T r.1) (stt Ω [(k1, rawD p1 (dkv r.2.1)), (k2, lstA T p2 r.2.2)] [])
theorem sc__law_product : FnScope ["_law_world_here", "_law_a", "_law_m", "_law_b", "_law_n"] ["_law_world_here", "_law_a", "_law_m", "_law_b", "_law_n"] (defScope s__law_product) := ⟨rfl, rfl, rfl, by decide +kernel, rfl, by decide +kernel, by decide +kernel⟩
theorem ok0__law_product {f : Addr} {fd : FuncData} (F : Fun T.K "_law_product" "_law_product" s__law_product f fd) : FnOk P w T.K mg base CX0 33 f fd ["_law_world_here", "_law_a", "_law_m", "_law_b", "_law_n"] (mkSp (Pre__law_product 0 T)) := by
  refine fn_ok (k := 32) F sc__law_product (fun As Ω R h => ?_) (fun cdv A outer s H E hr As Ω R F0 h => ?_)
  · obtain ⟨k0, p0, k1, p1, x1, k2, p2, x2, x3, x4, x5, x6, x7, x8, x9, r, rfl, _⟩ := h
    rfl
  obtain ⟨k0, p0, k1, p1, x1, k2, p2, x2, x3, x4, x5, x6, x7, x8, x9, r, rfl, hk0, hk1, hk2, ne01, ne02, ne12, hm, rfl⟩ := h
  rw [M__law_product_zero] at hm
  cases hm
theorem ok__law_product (kf : Nat) {f : Addr} {fd : FuncData} (F : Fun T.K "_law_product" "_law_product" s__law_product f fd) (c__law_note : Cal P w T.K mg base 2 "_law_note" ["_law_world_here", "_law_word", "_law_m", "_law_n"] (mkSp (Pre__law_note T))) (c__law_count : Cal P w T.K mg base 2 "_law_count" ["_law_world_here", "_law_word", "_law_amount"] (mkSp (Pre__law_count T))) (c__law_slices : Cal P w T.K mg base (33 + kf) "_law_slices" ["_law_world_here", "_law_a", "_law_m", "_law_b", "_law_n"] (mkSp (Pre__law_slices kf T))) (c__law_halves : Cal P w T.K mg base (33 + kf) "_law_halves" ["_law_world_here", "_law_a", "_law_m", "_law_b", "_law_n"] (mkSp (Pre__law_halves kf T))) : FnOk P w T.K mg base CX0 (33 + kf + 1) f fd ["_law_world_here", "_law_a", "_law_m", "_law_b", "_law_n"] (mkSp (Pre__law_product (kf + 1) T)) := by
  refine fn_ok F sc__law_product (fun As Ω R h => ?_) (fun cdv A outer s H E hr As Ω R F0 h => ?_)
  · obtain ⟨k0, p0, k1, p1, x1, k2, p2, x2, x3, x4, x5, x6, x7, x8, x9, r, rfl, _⟩ := h
    rfl
  obtain ⟨k0, p0, k1, p1, x1, k2, p2, x2, x3, x4, x5, x6, x7, x8, x9, r, rfl, hk0, hk1, hk2, ne01, ne02, ne12, hm, rfl⟩ := h
  refine ⟨_, (Evl.pss_cut (ps_if (pt_cmpR op_gt (pv 2) (pv 4) (nomark _)) (pss_one (ps_asg (pe_tup (pa_cons (pv 3) (pa_cons (pv 4) (pa_cons (pv 1) (pa_cons (pv 2) pa_nil))))) (pg_tupK (K := T.K) (n := 4) rfl rfl (pgs_cons (pg_name (i := 1) sc__law_product.nd rfl (.inl rfl)) (pgs_cons (pg_name (i := 2) sc__law_product.nd rfl (.inl rfl)) (pgs_cons (pg_name (i := 3) sc__law_product.nd rfl (.inl rfl)) (pgs_cons (pg_name (i := 4) sc__law_product.nd rfl (.inl rfl)) pgs_nil))))))) pss_nil) (pss_cons (ps_if (pt_cmpR (op_eqXK (K := T.K) (by exact hr.units) rfl) (pv 2) pe_int (nomark _)) (pss_one (ps_ret pe_int)) pss_nil) (pss_cons (ps_if (pt_cmpR op_le (pv 2) (pe_dget (by exact hu_of hr) (pv 0) pe_str (by intro _ _; rfl)) (nomark _)) (pss_cons (ps_expr (pe_cal c__law_note (hr.mono (by omega)) (by rfl) (pa_cons (pv 0) (pa_cons pe_str (pa_cons (pv 2) (pa_cons (pv 4) pa_nil)))))) (pss_cons (ps_expr (pe_cal c__law_count (hr.mono (by omega)) (by rfl) (pa_cons (pv 0) (pa_cons pe_str (pa_cons (pe_op op_mulQ (pv 2) (pv 4)) pa_nil))))) (pss_one (ps_ret (pe_op op_mulQ (pv 1) (pv 3)))))) pss_nil) (pss_one (ps_ret (pe_ifExp (pt_cmpR op_le (pe_op op_mulQ pe_int (pv 2)) (pv 4) (nomark _)) (pe_cal c__law_slices (hr.mono (by omega)) (by rfl) (pa_cons (pv 0) (pa_cons (pv 1) (pa_cons (pv 2) (pa_cons (pv 3) (pa_cons (pv 4) pa_nil)))))) (pe_cal c__law_halves (hr.mono (by omega)) (by rfl) (pa_cons (pv 0) (pa_cons (pv 1) (pa_cons (pv 2) (pa_cons (pv 3) (pa_cons (pv 4) pa_nil)))))))))))), fun D hrt hnx => ?_⟩
  have ok := okk2 hk1 hk2 ne12
  suffices hx : XS _ D F0 [some (vr p0), some (va T x6), some (va T x7), some (va T x8), some (va T x9)] (stt Ω [(k1, rawD p1 (dkv x1)), (k2, lstA T p2 (x2 : List (T3 Str Int Int)))] []) by
    rw [show (stt Ω [(k1, rawD p1 (dkv x1)), (k2, lstA T p2 (x2 : List (T3 Str Int Int)))] []) = Ω from stt_self (by simp [hk1, hk2])] at hx
    exact hx
  rw [M__law_product_succ] at hm
  obtain ⟨z4, hz4, hm⟩ := bnd_some hm
  refine xs_cut (Γ' := [some (vr p0), some (va T z4.1), some (va T z4.2.1), some (va T z4.2.2.1), some (va T z4.2.2.2)]) (Ω' := (stt Ω [(k1, rawD p1 (dkv x1)), (k2, lstA T p2 (x2 : List (T3 Str Int Int)))] [])) ?_ ?_
  · clear hm
    have hm := hz4
    clear hz4
    by_cases hc : (decide (x9 < x7)) = true
    · rw [if_pos hc] at hm
      refine xs_ifT1 (xt_eq (xt_test (T := T) (xe_gt (xe_var (i := 2) rfl) (xe_var (i := 4) rfl))) hc) ?_
      obtain ⟨y1, hy1, hm⟩ := bnd_some hm
      refine xs_asgG1 (xe_eq (xe_tup4 (xa_cons (xe_var (i := 3) rfl) (xa_cons (xe_var (i := 4) rfl) (xa_cons (xe_var (i := 1) rfl) (xa_cons (xe_var (i := 2) rfl) xa_nil))))) (Option.some.inj hy1)) tgt_quad ?_
      obtain rfl := Option.some.inj hm
      exact fun σ H n => n
    · rw [if_neg hc] at hm
      refine xs_ifF1 (xt_eq (xt_test (T := T) (xe_gt (xe_var (i := 2) rfl) (xe_var (i := 4) rfl))) (nt hc)) ?_
      obtain rfl := Option.some.inj hm
      exact fun σ H n => n
  · by_cases hc : (decide (z4.2.1 = (0 : Int))) = true
    · rw [if_pos hc] at hm
      refine xs_ifT (xt_eq (xt_test (T := T) (xe_eqI (xe_var (i := 2) rfl) xe_int)) hc) ?_
      obtain rfl := Option.some.inj hm
      refine xs_ret xe_int hrt.all
    · rw [if_neg hc] at hm
      refine xs_ifN (xt_eq (xt_test (T := T) (xe_eqI (xe_var (i := 2) rfl) xe_int)) (nt hc)) ?_
      show XS (tSeq _ _) _ _ [some (vr p0), some (va T z4.1), some (va T z4.2.1), some (va T z4.2.2.1), some (va T z4.2.2.2)] (stt Ω [(k1, rawD p1 (dkv x1)), (k2, lstA T p2 (x2 : List (T3 Str Int Int)))] [])
      by_cases hc : (decide (z4.2.1 ≤ x4)) = true
      · rw [if_pos hc] at hm
        refine xs_ifT (xt_eq (xt_test (T := T) (xe_le (xe_var (i := 2) rfl) (xe_wget (T := T) (xe_var (i := 0) rfl) xe_str (stt_getU hk0 (by simp [ne01, ne01.symm, ne02, ne02.symm, ne12, ne12.symm])) wkv_cutoff (fun _ => rfl)))) hc) ?_
        obtain ⟨z5, hz5, hm⟩ := bnd_some hm
        refine xs_drop (xe_call (xa_cons (xe_var (i := 0) rfl) (xa_cons xe_str (xa_cons (xe_var (i := 2) rfl) (xa_cons (xe_var (i := 4) rfl) xa_nil)))) ⟨k0, p0, k1, p1, x1, k2, p2, x2, x3, x4, x5, ("rows" : Str), z4.2.1, z4.2.2.2, z5, rfl, (stt_getU hk0 (by simp [ne01, ne01.symm, ne02, ne02.symm, ne12, ne12.symm])), (stt_get ok (i := 0) rfl), (stt_get ok (i := 1) rfl), (by first | assumption | exact Ne.symm (by assumption)), (by first | assumption | exact Ne.symm (by assumption)), (by first | assumption | exact Ne.symm (by assumption)), hz5, rfl⟩ ((stt_two.trans (congrArg (fun W => stt W _ []) (cal1 ok (i := 1) rfl))).trans (cal1 ok (i := 0) rfl))) ?_
        show XS (tSeq _ _) _ _ [some (vr p0), some (va T z4.1), some (va T z4.2.1), some (va T z4.2.2.1), some (va T z4.2.2.2)] (stt Ω [(k1, rawD p1 (dkv z5.2.1)), (k2, lstA T p2 (z5.2.2 : List (T3 Str Int Int)))] [])
        obtain ⟨z6, hz6, hm⟩ := bnd_some hm
        obtain ⟨z7, hz7, hm⟩ := bnd_some hm
        refine xs_drop (xe_call (xa_cons (xe_var (i := 0) rfl) (xa_cons xe_str (xa_cons (xe_mul (chkP_some hz6) (xe_var (i := 2) rfl) (xe_var (i := 4) rfl)) xa_nil))) ⟨k0, p0, k1, p1, z5.2.1, k2, p2, z5.2.2, x3, x4, x5, ("product" : Str), (z4.2.1 * z4.2.2.2), z7, rfl, (stt_getU hk0 (by simp [ne01, ne01.symm, ne02, ne02.symm, ne12, ne12.symm])), (stt_get ok (i := 0) rfl), (stt_get ok (i := 1) rfl), (by first | assumption | exact Ne.symm (by assumption)), (by first | assumption | exact Ne.symm (by assumption)), (by first | assumption | exact Ne.symm (by assumption)), hz7, rfl⟩ ((stt_two.trans (congrArg (fun W => stt W _ []) (cal1 ok (i := 1) rfl))).trans (cal1 ok (i := 0) rfl))) ?_
        show XS (tRet _) _ _ [some (vr p0), some (va T z4.1), some (va T z4.2.1), some (va T z4.2.2.1), some (va T z4.2.2.2)] (stt Ω [(k1, rawD p1 (dkv z7.2.1)), (k2, lstA T p2 (z7.2.2 : List (T3 Str Int Int)))] [])
        obtain ⟨z8, hz8, hm⟩ := bnd_some hm
        obtain rfl := Option.some.inj hm
        refine xs_ret (xe_mul (chkP_some hz8) (xe_var (i := 1) rfl) (xe_var (i := 3) rfl)) hrt.all
      · rw [if_neg hc] at hm
        refine xs_ifN (xt_eq (xt_test (T := T) (xe_le (xe_var (i := 2) rfl) (xe_wget (T := T) (xe_var (i := 0) rfl) xe_str (stt_getU hk0 (by simp [ne01, ne01.symm, ne02, ne02.symm, ne12, ne12.symm])) wkv_cutoff (fun _ => rfl)))) (nt hc)) ?_
        show XS (tRet _) _ _ [some (vr p0), some (va T z4.1), some (va T z4.2.1), some (va T z4.2.2.1), some (va T z4.2.2.2)] (stt Ω [(k1, rawD p1 (dkv x1)), (k2, lstA T p2 (x2 : List (T3 Str Int Int)))] [])
        obtain ⟨z9, hz9, hm⟩ := bnd_some hm
        obtain ⟨z12, hz12, hm⟩ := bnd_some hm
        obtain rfl := Option.some.inj hm
        refine xs_ret (show XE _ _ _ (va T z12.1) (stt Ω [(k1, rawD p1 (dkv z12.2.1)), (k2, lstA T p2 (z12.2.2 : List (T3 Str Int Int)))] []) from ?q13) hrt.all
        case q13 =>
          exact (by
            by_cases hc : (decide (((2 : Int) * z4.2.1) ≤ z4.2.2.2)) = true
            · rw [if_pos hc] at hz12
              obtain ⟨z10, hz10, hz12⟩ := bnd_some hz12
              obtain rfl := Option.some.inj hz12
              exact xe_ifT (xt_eq (xt_test (T := T) (xe_le (xe_mul (chkP_some hz9) xe_int (xe_var (i := 2) rfl)) (xe_var (i := 4) rfl))) hc) (xe_call (xa_cons (xe_var (i := 0) rfl) (xa_cons (xe_var (i := 1) rfl) (xa_cons (xe_var (i := 2) rfl) (xa_cons (xe_var (i := 3) rfl) (xa_cons (xe_var (i := 4) rfl) xa_nil))))) ⟨k0, p0, k1, p1, x1, k2, p2, x2, x3, x4, x5, z4.1, z4.2.1, z4.2.2.1, z4.2.2.2, z10, rfl, (stt_getU hk0 (by simp [ne01, ne01.symm, ne02, ne02.symm, ne12, ne12.symm])), (stt_get ok (i := 0) rfl), (stt_get ok (i := 1) rfl), (by first | assumption | exact Ne.symm (by assumption)), (by first | assumption | exact Ne.symm (by assumption)), (by first | assumption | exact Ne.symm (by assumption)), hz10, rfl⟩ ((stt_two.trans (congrArg (fun W => stt W _ []) (cal1 ok (i := 1) rfl))).trans (cal1 ok (i := 0) rfl)))
            · rw [if_neg hc] at hz12
              obtain ⟨z11, hz11, hz12⟩ := bnd_some hz12
              obtain rfl := Option.some.inj hz12
              exact xe_ifF (xt_eq (xt_test (T := T) (xe_le (xe_mul (chkP_some hz9) xe_int (xe_var (i := 2) rfl)) (xe_var (i := 4) rfl))) (nt hc)) (xe_call (xa_cons (xe_var (i := 0) rfl) (xa_cons (xe_var (i := 1) rfl) (xa_cons (xe_var (i := 2) rfl) (xa_cons (xe_var (i := 3) rfl) (xa_cons (xe_var (i := 4) rfl) xa_nil))))) ⟨k0, p0, k1, p1, x1, k2, p2, x2, x3, x4, x5, z4.1, z4.2.1, z4.2.2.1, z4.2.2.2, z11, rfl, (stt_getU hk0 (by simp [ne01, ne01.symm, ne02, ne02.symm, ne12, ne12.symm])), (stt_get ok (i := 0) rfl), (stt_get ok (i := 1) rfl), (by first | assumption | exact Ne.symm (by assumption)), (by first | assumption | exact Ne.symm (by assumption)), (by first | assumption | exact Ne.symm (by assumption)), hz11, rfl⟩ ((stt_two.trans (congrArg (fun W => stt W _ []) (cal1 ok (i := 1) rfl))).trans (cal1 ok (i := 0) rfl))))
theorem sc__law_slices : FnScope ["_law_world_here", "_law_a", "_law_m", "_law_b", "_law_n", "_law_found", "_law_slot", "_law_start", "_law_part", "_law_moved", "_law_later"] ["_law_world_here", "_law_a", "_law_m", "_law_b", "_law_n"] (defScope s__law_slices) := ⟨rfl, rfl, rfl, by decide +kernel, rfl, by decide +kernel, by decide +kernel⟩
theorem ok0__law_slices {f : Addr} {fd : FuncData} (F : Fun T.K "_law_slices" "_law_slices" s__law_slices f fd) : FnOk P w T.K mg base CX0 33 f fd ["_law_world_here", "_law_a", "_law_m", "_law_b", "_law_n"] (mkSp (Pre__law_slices 0 T)) := by
  refine fn_ok (k := 32) F sc__law_slices (fun As Ω R h => ?_) (fun cdv A outer s H E hr As Ω R F0 h => ?_)
  · obtain ⟨k0, p0, k1, p1, x1, k2, p2, x2, x3, x4, x5, x6, x7, x8, x9, r, rfl, _⟩ := h
    rfl
  obtain ⟨k0, p0, k1, p1, x1, k2, p2, x2, x3, x4, x5, x6, x7, x8, x9, r, rfl, hk0, hk1, hk2, ne01, ne02, ne12, hm, rfl⟩ := h
  rw [M__law_slices_zero] at hm
  cases hm
theorem ok__law_slices (kf : Nat) {f : Addr} {fd : FuncData} (F : Fun T.K "_law_slices" "_law_slices" s__law_slices f fd) (c__law_note : Cal P w T.K mg base 2 "_law_note" ["_law_world_here", "_law_word", "_law_m", "_law_n"] (mkSp (Pre__law_note T))) (z_range : mg "range" = none) (z_int : mg "int" = none) (z_min : mg "min" = none) (c__law_product : Cal P w T.K mg base (33 + kf) "_law_product" ["_law_world_here", "_law_a", "_law_m", "_law_b", "_law_n"] (mkSp (Pre__law_product kf T))) (c__law_into : Cal P w T.K mg base 33 "_law_into" ["_law_world_here", "_law_room", "_law_size_here", "_law_more", "_law_sign"] (mkSp (Pre__law_into T))) : FnOk P w T.K mg base CX0 (33 + kf + 1) f fd ["_law_world_here", "_law_a", "_law_m", "_law_b", "_law_n"] (mkSp (Pre__law_slices (kf + 1) T)) := by
  refine fn_ok F sc__law_slices (fun As Ω R h => ?_) (fun cdv A outer s H E hr As Ω R F0 h => ?_)
  · obtain ⟨k0, p0, k1, p1, x1, k2, p2, x2, x3, x4, x5, x6, x7, x8, x9, r, rfl, _⟩ := h
    rfl
  obtain ⟨k0, p0, k1, p1, x1, k2, p2, x2, x3, x4, x5, x6, x7, x8, x9, r, rfl, hk0, hk1, hk2, ne01, ne02, ne12, hm, rfl⟩ := h
  refine ⟨_, (pss_cons (ps_expr (pe_cal c__law_note (hr.mono (by omega)) (by rfl) (pa_cons (pv 0) (pa_cons pe_str (pa_cons (pv 2) (pa_cons (pv 4) pa_nil)))))) (pss_cons (ps_par (i := 5) (j := 6) rfl sc__law_slices.nd rfl rfl (by decide) rfl rfl (pa_cons pe_int (pa_cons (pe_op op_shlW pe_int (pe_op op_mulQ (pe_dget (by exact hu_of hr) (pv 0) pe_str (by intro _ _; rfl)) (pv 2))) pa_nil)) (by rfl)) (pss_cons (ps_for PassesOwn.never rfl (pi_range3 rfl z_range (pa_cons pe_int (pa_cons (pv 4) (pa_cons (pv 2) pa_nil)))) (pg_name (i := 7) sc__law_slices.nd rfl (.inl rfl)) (pss_cons (ps_set (i := 8) sc__law_slices.nd rfl (.inl rfl) (pe_cal c__law_product (hr.mono (by omega)) (by rfl) (pa_cons (pv 0) (pa_cons (pv 1) (pa_cons (pv 2) (pa_cons (pe_op op_mod (pe_callTy cr_int (by rfl) z_int (by decide +kernel) (pa_cons (pe_op op_shr (pv 3) (pe_op op_mulQ (pe_dget (by exact hu_of hr) (pv 0) pe_str (by intro _ _; rfl)) (pv 7))) pa_nil)) (pv 6)) (pa_cons (pe_callB (cr_min2 rfl) (by rfl) z_min (by decide +kernel) (pa_cons (pv 2) (pa_cons (pe_op op_sub (pv 4) (pv 7)) pa_nil))) pa_nil))))))) (pss_cons (ps_set (i := 9) sc__law_slices.nd rfl (.inl rfl) (pe_op op_mulQ (pe_dget (by exact hu_of hr) (pv 0) pe_str (by intro _ _; rfl)) (pv 7))) (pss_cons (ps_set (i := 10) sc__law_slices.nd rfl (.inl rfl) (pe_cal c__law_into (hr.mono (by omega)) (by rfl) (pa_cons (pv 0) (pa_cons (pe_op op_shr (pv 5) (pv 9)) (pa_cons (pe_op op_sub (pe_op op_addQ (pv 2) (pv 4)) (pv 7)) (pa_cons (pv 8) (pa_cons pe_int pa_nil))))))) (pss_one (ps_set (i := 5) sc__law_slices.nd rfl (.inl rfl) (pe_op op_addQ (pe_op op_mod (pe_callTy cr_int (by rfl) z_int (by decide +kernel) (pa_cons (pv 5) pa_nil)) (pe_op op_shlW pe_int (pv 9))) (pe_op op_shlW (pv 10) (pv 9))))))))) (pss_one (ps_ret (pv 5)))))), fun D hrt hnx => ?_⟩
  have ok := okk2 hk1 hk2 ne12
  suffices hx : XS _ D F0 [some (vr p0), some (va T x6), some (va T x7), some (va T x8), some (va T x9), none, none, none, none, none, none] (stt Ω [(k1, rawD p1 (dkv x1)), (k2, lstA T p2 (x2 : List (T3 Str Int Int)))] []) by
    rw [show (stt Ω [(k1, rawD p1 (dkv x1)), (k2, lstA T p2 (x2 : List (T3 Str Int Int)))] []) = Ω from stt_self (by simp [hk1, hk2])] at hx
    exact hx
  rw [M__law_slices_succ] at hm
  obtain ⟨z1, hz1, hm⟩ := bnd_some hm
  refine xs_drop (xe_call (xa_cons (xe_var (i := 0) rfl) (xa_cons xe_str (xa_cons (xe_var (i := 2) rfl) (xa_cons (xe_var (i := 4) rfl) xa_nil)))) ⟨k0, p0, k1, p1, x1, k2, p2, x2, x3, x4, x5, ("lopsided" : Str), x7, x9, z1, rfl, (stt_getU hk0 (by simp [ne01, ne01.symm, ne02, ne02.symm, ne12, ne12.symm])), (stt_get ok (i := 0) rfl), (stt_get ok (i := 1) rfl), (by first | assumption | exact Ne.symm (by assumption)), (by first | assumption | exact Ne.symm (by assumption)), (by first | assumption | exact Ne.symm (by assumption)), hz1, rfl⟩ ((stt_two.trans (congrArg (fun W => stt W _ []) (cal1 ok (i := 1) rfl))).trans (cal1 ok (i := 0) rfl))) ?_
  show XS (tSeq _ _) _ _ [some (vr p0), some (va T x6), some (va T x7), some (va T x8), some (va T x9), none, none, none, none, none, none] (stt Ω [(k1, rawD p1 (dkv z1.2.1)), (k2, lstA T p2 (z1.2.2 : List (T3 Str Int Int)))] [])
  obtain ⟨z2, hz2, hm⟩ := bnd_some hm
  obtain ⟨z3, hz3, hm⟩ := bnd_some hm
  obtain ⟨y4, hy4, hm⟩ := bnd_some hm
  refine xs_par2 (A := va T (0 : Int)) (B := va T y4) (xa_cons xe_int (xa_cons (xe_eq (xe_shl (chkP_some hz3) xe_int (xe_mul (chkP_some hz2) (xe_wget (T := T) (xe_var (i := 0) rfl) xe_str (stt_getU hk0 (by simp [ne01, ne01.symm, ne02, ne02.symm, ne12, ne12.symm])) wkv_bits (fun _ => rfl)) (xe_var (i := 2) rfl))) (Option.some.inj hy4)) xa_nil)) ?_
  show XS (tSeq _ _) _ _ [some (vr p0), some (va T x6), some (va T x7), some (va T x8), some (va T x9), some (va T (0 : Int)), some (va T y4), none, none, none, none] (stt Ω [(k1, rawD p1 (dkv z1.2.1)), (k2, lstA T p2 (z1.2.2 : List (T3 Str Int Int)))] [])
  obtain ⟨z5, hz5, hm⟩ := bnd_some hm
  obtain ⟨z20, hz20, hm⟩ := bnd_some hm
  refine xs_forS (fun (s6 : Int × (List (Str × Int)) × (List (T3 Str Int Int))) => [some (vr p0), some (va T x6), some (va T x7), some (va T x8), some (va T x9), some (va T s6.1), some (va T y4), none, none, none, none]) (fun (s6 : Int × (List (Str × Int)) × (List (T3 Str Int Int))) => (stt Ω [(k1, rawD p1 (dkv s6.2.1)), (k2, lstA T p2 (s6.2.2 : List (T3 Str Int Int)))] [])) (fun (_ : Unit) _ _ _ => False) hz20 (xi_rangeS (T := T) (xa_cons xe_int (xa_cons (xe_var (i := 4) rfl) (xa_cons (xe_var (i := 2) rfl) xa_nil))) (chkP_some hz5)) (fun _ => tgt_name) (fun a7 s6 s' ha hm F1 D1 e1 hD => ?_) (fun s21 es => ?_) (fun r1 es => ?_)
  · show XS (tSeq _ _) _ _ [some (vr p0), some (va T x6), some (va T x7), some (va T x8), some (va T x9), some (va T s6.1), some (va T y4), some (va T a7), none, none, none] (stt Ω [(k1, rawD p1 (dkv s6.2.1)), (k2, lstA T p2 (s6.2.2 : List (T3 Str Int Int)))] [])
    obtain ⟨z8, hz8, hm⟩ := bnd_some hm
    obtain ⟨z9, hz9, hm⟩ := bnd_some hm
    obtain ⟨z10, hz10, hm⟩ := bnd_some hm
    obtain ⟨z11, hz11, hm⟩ := bnd_some hm
    refine xs_set (A := va T z11.1) (xe_call (xa_cons (xe_var (i := 0) rfl) (xa_cons (xe_var (i := 1) rfl) (xa_cons (xe_var (i := 2) rfl) (xa_cons (xe_mod (chkP_some hz10) (xe_int1 (xe_shr (chkP_some hz9) (xe_var (i := 3) rfl) (xe_mul (chkP_some hz8) (xe_wget (T := T) (xe_var (i := 0) rfl) xe_str (stt_getU hk0 (by simp [ne01, ne01.symm, ne02, ne02.symm, ne12, ne12.symm])) wkv_bits (fun _ => rfl)) (xe_var (i := 7) rfl)))) (xe_var (i := 6) rfl)) (xa_cons (xe_min2 (xe_var (i := 2) rfl) (xe_sub (xe_var (i := 4) rfl) (xe_var (i := 7) rfl))) xa_nil))))) ⟨k0, p0, k1, p1, s6.2.1, k2, p2, s6.2.2, x3, x4, x5, x6, x7, ((x8 / 2 ^ ((x3 * a7)).toNat) % y4), (min x7 (x9 - a7)), z11, rfl, (stt_getU hk0 (by simp [ne01, ne01.symm, ne02, ne02.symm, ne12, ne12.symm])), (stt_get ok (i := 0) rfl), (stt_get ok (i := 1) rfl), (by first | assumption | exact Ne.symm (by assumption)), (by first | assumption | exact Ne.symm (by assumption)), (by first | assumption | exact Ne.symm (by assumption)), hz11, rfl⟩ ((stt_two.trans (congrArg (fun W => stt W _ []) (cal1 ok (i := 1) rfl))).trans (cal1 ok (i := 0) rfl))) ?_
    show XS (tSeq _ _) _ _ [some (vr p0), some (va T x6), some (va T x7), some (va T x8), some (va T x9), some (va T s6.1), some (va T y4), some (va T a7), some (va T z11.1), none, none] (stt Ω [(k1, rawD p1 (dkv z11.2.1)), (k2, lstA T p2 (z11.2.2 : List (T3 Str Int Int)))] [])
    obtain ⟨z12, hz12, hm⟩ := bnd_some hm
    obtain ⟨y13, hy13, hm⟩ := bnd_some hm
    refine xs_set (A := va T y13) (xe_eq (xe_mul (chkP_some hz12) (xe_wget (T := T) (xe_var (i := 0) rfl) xe_str (stt_getU hk0 (by simp [ne01, ne01.symm, ne02, ne02.symm, ne12, ne12.symm])) wkv_bits (fun _ => rfl)) (xe_var (i := 7) rfl)) (Option.some.inj hy13)) ?_
    show XS (tSeq _ _) _ _ [some (vr p0), some (va T x6), some (va T x7), some (va T x8), some (va T x9), some (va T s6.1), some (va T y4), some (va T a7), some (va T z11.1), some (va T y13), none] (stt Ω [(k1, rawD p1 (dkv z11.2.1)), (k2, lstA T p2 (z11.2.2 : List (T3 Str Int Int)))] [])
    obtain ⟨z14, hz14, hm⟩ := bnd_some hm
    obtain ⟨z15, hz15, hm⟩ := bnd_some hm
    refine xs_set (A := va T z15.1) (xe_call (xa_cons (xe_var (i := 0) rfl) (xa_cons (xe_shr (chkP_some hz14) (xe_var (i := 5) rfl) (xe_var (i := 9) rfl)) (xa_cons (xe_sub (xe_add (xe_var (i := 2) rfl) (xe_var (i := 4) rfl)) (xe_var (i := 7) rfl)) (xa_cons (xe_var (i := 8) rfl) (xa_cons xe_int xa_nil))))) ⟨k0, p0, k1, p1, z11.2.1, k2, p2, z11.2.2, x3, x4, x5, (s6.1 / 2 ^ (y13).toNat), ((x7 + x9) - a7), z11.1, (1 : Int), z15, rfl, (stt_getU hk0 (by simp [ne01, ne01.symm, ne02, ne02.symm, ne12, ne12.symm])), (stt_get ok (i := 0) rfl), (stt_get ok (i := 1) rfl), (by first | assumption | exact Ne.symm (by assumption)), (by first | assumption | exact Ne.symm (by assumption)), (by first | assumption | exact Ne.symm (by assumption)), hz15, rfl⟩ ((stt_two.trans (congrArg (fun W => stt W _ []) (cal1 ok (i := 1) rfl))).trans (cal1 ok (i := 0) rfl))) ?_
    show XS (tAsg _ _) _ _ [some (vr p0), some (va T x6), some (va T x7), some (va T x8), some (va T x9), some (va T s6.1), some (va T y4), some (va T a7), some (va T z11.1), some (va T y13), some (va T z15.1)] (stt Ω [(k1, rawD p1 (dkv z15.2.1)), (k2, lstA T p2 (z15.2.2 : List (T3 Str Int Int)))] [])
    obtain ⟨z16, hz16, hm⟩ := bnd_some hm
    obtain ⟨z17, hz17, hm⟩ := bnd_some hm
    obtain ⟨z18, hz18, hm⟩ := bnd_some hm
    obtain ⟨y19, hy19, hm⟩ := bnd_some hm
    refine xs_set1 (A := va T y19) (xe_eq (xe_add (xe_mod (chkP_some hz17) (xe_int1 (xe_var (i := 5) rfl)) (xe_shl (chkP_some hz16) xe_int (xe_var (i := 9) rfl))) (xe_shl (chkP_some hz18) (xe_var (i := 10) rfl) (xe_var (i := 9) rfl))) (Option.some.inj hy19)) ?_
    obtain rfl := Option.some.inj hm
    exact fun σ H n => hD.nx _ rfl σ H ((((n.forget 8).forget 9).forget 10).forget 7)
  · subst es
    obtain ⟨s2, hs2, hm⟩ := bnd_some hm
    cases hs2
    show XS (tRet _) _ _ [some (vr p0), some (va T x6), some (va T x7), some (va T x8), some (va T x9), some (va T s21.1), some (va T y4), none, none, none, none] (stt Ω [(k1, rawD p1 (dkv s21.2.1)), (k2, lstA T p2 (s21.2.2 : List (T3 Str Int Int)))] [])
    obtain rfl := Option.some.inj hm
    refine xs_ret (xe_var (i := 5) rfl) hrt.all
  · subst es
    cases hm
theorem sc__law_halves : FnScope ["_law_world_here", "_law_a", "_law_m", "_law_b", "_law_n", "_law_moved", "_law_high", "_law_low", "_law_top", "_law_bottom", "_law_more", "_law_less", "_law_room", "_law_size_here", "_law_part", "_law_one", "_law_middle", "_law_other"] ["_law_world_here", "_law_a", "_law_m", "_law_b", "_law_n"] (defScope s__law_halves) := ⟨rfl, rfl, rfl, by decide +kernel, rfl, by decide +kernel, by decide +kernel⟩
theorem ok0__law_halves {f : Addr} {fd : FuncData} (F : Fun T.K "_law_halves" "_law_halves" s__law_halves f fd) : FnOk P w T.K mg base CX0 33 f fd ["_law_world_here", "_law_a", "_law_m", "_law_b", "_law_n"] (mkSp (Pre__law_halves 0 T)) := by
  refine fn_ok (k := 32) F sc__law_halves (fun As Ω R h => ?_) (fun cdv A outer s H E hr As Ω R F0 h => ?_)
  · obtain ⟨k0, p0, k1, p1, x1, k2, p2, x2, x3, x4, x5, x6, x7, x8, x9, r, rfl, _⟩ := h
    rfl
  obtain ⟨k0, p0, k1, p1, x1, k2, p2, x2, x3, x4, x5, x6, x7, x8, x9, r, rfl, hk0, hk1, hk2, ne01, ne02, ne12, hm, rfl⟩ := h
  rw [M__law_halves_zero] at hm
  cases hm
theorem ok__law_halves (kf : Nat) {f : Addr} {fd : FuncData} (F : Fun T.K "_law_halves" "_law_halves" s__law_halves f fd) (c__law_note : Cal P w T.K mg base 2 "_law_note" ["_law_world_here", "_law_word", "_law_m", "_law_n"] (mkSp (Pre__law_note T))) (z_int : mg "int" = none) (c__law_size : Cal P w T.K mg base 2 "_law_size" ["_law_world_here", "_law_n"] (mkSp (Pre__law_size T))) (c__law_product : Cal P w T.K mg base (33 + kf) "_law_product" ["_law_world_here", "_law_a", "_law_m", "_law_b", "_law_n"] (mkSp (Pre__law_product kf T))) (c__law_into : Cal P w T.K mg base 33 "_law_into" ["_law_world_here", "_law_room", "_law_size_here", "_law_more", "_law_sign"] (mkSp (Pre__law_into T))) (c__law_sum : Cal P w T.K mg base 3 "_law_sum" ["_law_world_here", "_law_one", "_law_other"] (mkSp (Pre__law_sum T))) : FnOk P w T.K mg base CX0 (33 + kf + 1) f fd ["_law_world_here", "_law_a", "_law_m", "_law_b", "_law_n"] (mkSp (Pre__law_halves (kf + 1) T)) := by
  refine fn_ok F sc__law_halves (fun As Ω R h => ?_) (fun cdv A outer s H E hr As Ω R F0 h => ?_)
  · obtain ⟨k0, p0, k1, p1, x1, k2, p2, x2, x3, x4, x5, x6, x7, x8, x9, r, rfl, _⟩ := h
    rfl
  obtain ⟨k0, p0, k1, p1, x1, k2, p2, x2, x3, x4, x5, x6, x7, x8, x9, r, rfl, hk0, hk1, hk2, ne01, ne02, ne12, hm, rfl⟩ := h
  refine ⟨_, (pss_cons (ps_expr (pe_cal c__law_note (hr.mono (by omega)) (by rfl) (pa_cons (pv 0) (pa_cons pe_str (pa_cons (pv 2) (pa_cons (pv 4) pa_nil)))))) (pss_cons (ps_set (i := 5) sc__law_halves.nd rfl (.inl rfl) (pe_op op_mulQ (pe_dget (by exact hu_of hr) (pv 0) pe_str (by intro _ _; rfl)) (pe_op op_fdivW (pv 4) pe_int))) (pss_cons (ps_par (i := 6) (j := 7) rfl sc__law_halves.nd rfl rfl (by decide) rfl rfl (pa_cons (pe_op op_shr (pv 1) (pv 5)) (pa_cons (pe_op op_mod (pe_callTy cr_int (by rfl) z_int (by decide +kernel) (pa_cons (pv 1) pa_nil)) (pe_op op_shlW pe_int (pv 5))) pa_nil)) (by rfl)) (Evl.pss_cut (ps_if (pt_cmpR op_isNo (pv 3) pe_non (nomark _)) pss_never (pss_cons (ps_par (i := 10) (j := 11) rfl sc__law_halves.nd rfl rfl (by decide) rfl rfl (pa_cons (pe_op op_shr (pv 3) (pv 5)) (pa_cons (pe_op op_mod (pe_callTy cr_int (by rfl) z_int (by decide +kernel) (pa_cons (pv 3) pa_nil)) (pe_op op_shlW pe_int (pv 5))) pa_nil)) (by rfl)) (pss_cons (ps_set (i := 8) sc__law_halves.nd rfl (.inl rfl) (pe_cal c__law_product (hr.mono (by omega)) (by rfl) (pa_cons (pv 0) (pa_cons (pv 6) (pa_cons (pe_cal c__law_size (hr.mono (by omega)) (by rfl) (pa_cons (pv 0) (pa_cons (pv 6) pa_nil))) (pa_cons (pv 10) (pa_cons (pe_cal c__law_size (hr.mono (by omega)) (by rfl) (pa_cons (pv 0) (pa_cons (pv 10) pa_nil))) pa_nil))))))) (pss_one (ps_set (i := 9) sc__law_halves.nd rfl (.inl rfl) (pe_cal c__law_product (hr.mono (by omega)) (by rfl) (pa_cons (pv 0) (pa_cons (pv 7) (pa_cons (pe_cal c__law_size (hr.mono (by omega)) (by rfl) (pa_cons (pv 0) (pa_cons (pv 7) pa_nil))) (pa_cons (pv 11) (pa_cons (pe_cal c__law_size (hr.mono (by omega)) (by rfl) (pa_cons (pv 0) (pa_cons (pv 11) pa_nil))) pa_nil))))))))))) (pss_cons (ps_par (i := 12) (j := 13) rfl sc__law_halves.nd rfl rfl (by decide) rfl rfl (pa_cons (pe_op op_addQ (pv 9) (pe_op op_shlW (pv 8) (pe_op op_mulQ pe_int (pv 5)))) (pa_cons (pe_op op_sub (pe_op op_addQ (pv 2) (pv 4)) (pe_op op_fdivW (pv 4) pe_int)) pa_nil)) (by rfl)) (pss_cons (ps_set (i := 14) sc__law_halves.nd rfl (.inl rfl) (pe_cal c__law_into (hr.mono (by omega)) (by rfl) (pa_cons (pv 0) (pa_cons (pe_op op_shr (pv 12) (pv 5)) (pa_cons (pv 13) (pa_cons (pv 9) (pa_cons (pe_un un_neg pe_int) pa_nil))))))) (pss_cons (ps_set (i := 14) sc__law_halves.nd rfl (.inl rfl) (pe_cal c__law_into (hr.mono (by omega)) (by rfl) (pa_cons (pv 0) (pa_cons (pv 14) (pa_cons (pv 13) (pa_cons (pv 8) (pa_cons (pe_un un_neg pe_int) pa_nil))))))) (pss_cons (ps_set (i := 15) sc__law_halves.nd rfl (.inl rfl) (pe_cal c__law_sum (hr.mono (by omega)) (by rfl) (pa_cons (pv 0) (pa_cons (pv 6) (pa_cons (pv 7) pa_nil))))) (Evl.pss_cut (ps_if (pt_cmpR op_isNo (pv 3) pe_non (nomark _)) pss_never (pss_cons (ps_set (i := 17) sc__law_halves.nd rfl (.inl rfl) (pe_cal c__law_sum (hr.mono (by omega)) (by rfl) (pa_cons (pv 0) (pa_cons (pv 10) (pa_cons (pv 11) pa_nil))))) (pss_one (ps_set (i := 16) sc__law_halves.nd rfl (.inl rfl) (pe_cal c__law_product (hr.mono (by omega)) (by rfl) (pa_cons (pv 0) (pa_cons (pv 15) (pa_cons (pe_cal c__law_size (hr.mono (by omega)) (by rfl) (pa_cons (pv 0) (pa_cons (pv 15) pa_nil))) (pa_cons (pv 17) (pa_cons (pe_cal c__law_size (hr.mono (by omega)) (by rfl) (pa_cons (pv 0) (pa_cons (pv 17) pa_nil))) pa_nil)))))))))) (pss_one (ps_ret (pe_op op_addQ (pe_op op_mod (pe_callTy cr_int (by rfl) z_int (by decide +kernel) (pa_cons (pv 12) pa_nil)) (pe_op op_shlW pe_int (pv 5))) (pe_op op_shlW (pe_cal c__law_into (hr.mono (by omega)) (by rfl) (pa_cons (pv 0) (pa_cons (pv 14) (pa_cons (pv 13) (pa_cons (pv 16) (pa_cons pe_int pa_nil)))))) (pv 5)))))))))))))), fun D hrt hnx => ?_⟩
  have ok := okk2 hk1 hk2 ne12
  suffices hx : XS _ D F0 [some (vr p0), some (va T x6), some (va T x7), some (va T x8), some (va T x9), none, none, none, none, none, none, none, none, none, none, none, none, none] (stt Ω [(k1, rawD p1 (dkv x1)), (k2, lstA T p2 (x2 : List (T3 Str Int Int)))] []) by
    rw [show (stt Ω [(k1, rawD p1 (dkv x1)), (k2, lstA T p2 (x2 : List (T3 Str Int Int)))] []) = Ω from stt_self (by simp [hk1, hk2])] at hx
    exact hx
  rw [M__law_halves_succ] at hm
  obtain ⟨z1, hz1, hm⟩ := bnd_some hm
  refine xs_drop (xe_call (xa_cons (xe_var (i := 0) rfl) (xa_cons xe_str (xa_cons (xe_var (i := 2) rfl) (xa_cons (xe_var (i := 4) rfl) xa_nil)))) ⟨k0, p0, k1, p1, x1, k2, p2, x2, x3, x4, x5, ("karatsuba" : Str), x7, x9, z1, rfl, (stt_getU hk0 (by simp [ne01, ne01.symm, ne02, ne02.symm, ne12, ne12.symm])), (stt_get ok (i := 0) rfl), (stt_get ok (i := 1) rfl), (by first | assumption | exact Ne.symm (by assumption)), (by first | assumption | exact Ne.symm (by assumption)), (by first | assumption | exact Ne.symm (by assumption)), hz1, rfl⟩ ((stt_two.trans (congrArg (fun W => stt W _ []) (cal1 ok (i := 1) rfl))).trans (cal1 ok (i := 0) rfl))) ?_
  show XS (tSeq _ _) _ _ [some (vr p0), some (va T x6), some (va T x7), some (va T x8), some (va T x9), none, none, none, none, none, none, none, none, none, none, none, none, none] (stt Ω [(k1, rawD p1 (dkv z1.2.1)), (k2, lstA T p2 (z1.2.2 : List (T3 Str Int Int)))] [])
  obtain ⟨z2, hz2, hm⟩ := bnd_some hm
  obtain ⟨z3, hz3, hm⟩ := bnd_some hm
  obtain ⟨y4, hy4, hm⟩ := bnd_some hm
  refine xs_set (A := va T y4) (xe_eq (xe_mul (chkP_some hz3) (xe_wget (T := T) (xe_var (i := 0) rfl) xe_str (stt_getU hk0 (by simp [ne01, ne01.symm, ne02, ne02.symm, ne12, ne12.symm])) wkv_bits (fun _ => rfl)) (xe_fdiv (chkP_some hz2) (xe_var (i := 4) rfl) xe_int)) (Option.some.inj hy4)) ?_
  show XS (tSeq _ _) _ _ [some (vr p0), some (va T x6), some (va T x7), some (va T x8), some (va T x9), some (va T y4), none, none, none, none, none, none, none, none, none, none, none, none] (stt Ω [(k1, rawD p1 (dkv z1.2.1)), (k2, lstA T p2 (z1.2.2 : List (T3 Str Int Int)))] [])
  obtain ⟨z5, hz5, hm⟩ := bnd_some hm
  obtain ⟨z6, hz6, hm⟩ := bnd_some hm
  obtain ⟨z7, hz7, hm⟩ := bnd_some hm
  obtain ⟨y8, hy8, hm⟩ := bnd_some hm
  obtain ⟨y9, hy9, hm⟩ := bnd_some hm
  refine xs_par2 (A := va T y8) (B := va T y9) (xa_cons (xe_eq (xe_shr (chkP_some hz5) (xe_var (i := 1) rfl) (xe_var (i := 5) rfl)) (Option.some.inj hy8)) (xa_cons (xe_eq (xe_mod (chkP_some hz7) (xe_int1 (xe_var (i := 1) rfl)) (xe_shl (chkP_some hz6) xe_int (xe_var (i := 5) rfl))) (Option.some.inj hy9)) xa_nil)) ?_
  show XS (Evl.tCut _ _) _ _ [some (vr p0), some (va T x6), some (va T x7), some (va T x8), some (va T x9), some (va T y4), some (va T y8), some (va T y9), none, none, none, none, none, none, none, none, none, none] (stt Ω [(k1, rawD p1 (dkv z1.2.1)), (k2, lstA T p2 (z1.2.2 : List (T3 Str Int Int)))] [])
  obtain ⟨z22, hz22, hm⟩ := bnd_some hm
  refine xs_cut (Γ' := [some (vr p0), some (va T x6), some (va T x7), some (va T x8), some (va T x9), some (va T y4), some (va T y8), some (va T y9), some (va T z22.2.2.1), some (va T z22.2.2.2.1), some (va T z22.1), some (va T z22.2.1), none, none, none, none, none, none]) (Ω' := (stt Ω [(k1, rawD p1 (dkv z22.2.2.2.2.1)), (k2, lstA T p2 (z22.2.2.2.2.2 : List (T3 Str Int Int)))] [])) ?_ ?_
  · clear hm
    have hm := hz22
    clear hz22
    refine xs_ifF1 (xt_test (T := T) (xe_isNI (xe_var (i := 3) rfl) xe_non)) ?_
    obtain ⟨z10, hz10, hm⟩ := bnd_some hm
    obtain ⟨z11, hz11, hm⟩ := bnd_some hm
    obtain ⟨z12, hz12, hm⟩ := bnd_some hm
    obtain ⟨y13, hy13, hm⟩ := bnd_some hm
    obtain ⟨y14, hy14, hm⟩ := bnd_some hm
    refine xs_par2 (A := va T y13) (B := va T y14) (xa_cons (xe_eq (xe_shr (chkP_some hz10) (xe_var (i := 3) rfl) (xe_var (i := 5) rfl)) (Option.some.inj hy13)) (xa_cons (xe_eq (xe_mod (chkP_some hz12) (xe_int1 (xe_var (i := 3) rfl)) (xe_shl (chkP_some hz11) xe_int (xe_var (i := 5) rfl))) (Option.some.inj hy14)) xa_nil)) ?_
    show XS (tSeq _ _) _ _ [some (vr p0), some (va T x6), some (va T x7), some (va T x8), some (va T x9), some (va T y4), some (va T y8), some (va T y9), none, none, some (va T y13), some (va T y14), none, none, none, none, none, none] (stt Ω [(k1, rawD p1 (dkv z1.2.1)), (k2, lstA T p2 (z1.2.2 : List (T3 Str Int Int)))] [])
    obtain ⟨z15, hz15, hm⟩ := bnd_some hm
    obtain ⟨z16, hz16, hm⟩ := bnd_some hm
    obtain ⟨z17, hz17, hm⟩ := bnd_some hm
    refine xs_set (A := va T z17.1) (xe_call (xa_cons (xe_var (i := 0) rfl) (xa_cons (xe_var (i := 6) rfl) (xa_cons (xe_call (xa_cons (xe_var (i := 0) rfl) (xa_cons (xe_var (i := 6) rfl) xa_nil)) ⟨k0, p0, k1, p1, z1.2.1, k2, p2, z1.2.2, x3, x4, x5, y8, z15, rfl, (stt_getU hk0 (by simp [ne01, ne01.symm, ne02, ne02.symm, ne12, ne12.symm])), (stt_get ok (i := 0) rfl), (stt_get ok (i := 1) rfl), (by first | assumption | exact Ne.symm (by assumption)), (by first | assumption | exact Ne.symm (by assumption)), (by first | assumption | exact Ne.symm (by assumption)), hz15, rfl⟩ cal0) (xa_cons (xe_var (i := 10) rfl) (xa_cons (xe_call (xa_cons (xe_var (i := 0) rfl) (xa_cons (xe_var (i := 10) rfl) xa_nil)) ⟨k0, p0, k1, p1, z1.2.1, k2, p2, z1.2.2, x3, x4, x5, y13, z16, rfl, (stt_getU hk0 (by simp [ne01, ne01.symm, ne02, ne02.symm, ne12, ne12.symm])), (stt_get ok (i := 0) rfl), (stt_get ok (i := 1) rfl), (by first | assumption | exact Ne.symm (by assumption)), (by first | assumption | exact Ne.symm (by assumption)), (by first | assumption | exact Ne.symm (by assumption)), hz16, rfl⟩ cal0) xa_nil))))) ⟨k0, p0, k1, p1, z1.2.1, k2, p2, z1.2.2, x3, x4, x5, y8, z15, y13, z16, z17, rfl, (stt_getU hk0 (by simp [ne01, ne01.symm, ne02, ne02.symm, ne12, ne12.symm])), (stt_get ok (i := 0) rfl), (stt_get ok (i := 1) rfl), (by first | assumption | exact Ne.symm (by assumption)), (by first | assumption | exact Ne.symm (by assumption)), (by first | assumption | exact Ne.symm (by assumption)), hz17, rfl⟩ ((stt_two.trans (congrArg (fun W => stt W _ []) (cal1 ok (i := 1) rfl))).trans (cal1 ok (i := 0) rfl))) ?_
    show XS (tAsg _ _) _ _ [some (vr p0), some (va T x6), some (va T x7), some (va T x8), some (va T x9), some (va T y4), some (va T y8), some (va T y9), some (va T z17.1), none, some (va T y13), some (va T y14), none, none, none, none, none, none] (stt Ω [(k1, rawD p1 (dkv z17.2.1)), (k2, lstA T p2 (z17.2.2 : List (T3 Str Int Int)))] [])
    obtain ⟨z18, hz18, hm⟩ := bnd_some hm
    obtain ⟨z19, hz19, hm⟩ := bnd_some hm
    obtain ⟨z20, hz20, hm⟩ := bnd_some hm
    refine xs_set1 (A := va T z20.1) (xe_call (xa_cons (xe_var (i := 0) rfl) (xa_cons (xe_var (i := 7) rfl) (xa_cons (xe_call (xa_cons (xe_var (i := 0) rfl) (xa_cons (xe_var (i := 7) rfl) xa_nil)) ⟨k0, p0, k1, p1, z17.2.1, k2, p2, z17.2.2, x3, x4, x5, y9, z18, rfl, (stt_getU hk0 (by simp [ne01, ne01.symm, ne02, ne02.symm, ne12, ne12.symm])), (stt_get ok (i := 0) rfl), (stt_get ok (i := 1) rfl), (by first | assumption | exact Ne.symm (by assumption)), (by first | assumption | exact Ne.symm (by assumption)), (by first | assumption | exact Ne.symm (by assumption)), hz18, rfl⟩ cal0) (xa_cons (xe_var (i := 11) rfl) (xa_cons (xe_call (xa_cons (xe_var (i := 0) rfl) (xa_cons (xe_var (i := 11) rfl) xa_nil)) ⟨k0, p0, k1, p1, z17.2.1, k2, p2, z17.2.2, x3, x4, x5, y14, z19, rfl, (stt_getU hk0 (by simp [ne01, ne01.symm, ne02, ne02.symm, ne12, ne12.symm])), (stt_get ok (i := 0) rfl), (stt_get ok (i := 1) rfl), (by first | assumption | exact Ne.symm (by assumption)), (by first | assumption | exact Ne.symm (by assumption)), (by first | assumption | exact Ne.symm (by assumption)), hz19, rfl⟩ cal0) xa_nil))))) ⟨k0, p0, k1, p1, z17.2.1, k2, p2, z17.2.2, x3, x4, x5, y9, z18, y14, z19, z20, rfl, (stt_getU hk0 (by simp [ne01, ne01.symm, ne02, ne02.symm, ne12, ne12.symm])), (stt_get ok (i := 0) rfl), (stt_get ok (i := 1) rfl), (by first | assumption | exact Ne.symm (by assumption)), (by first | assumption | exact Ne.symm (by assumption)), (by first | assumption | exact Ne.symm (by assumption)), hz20, rfl⟩ ((stt_two.trans (congrArg (fun W => stt W _ []) (cal1 ok (i := 1) rfl))).trans (cal1 ok (i := 0) rfl))) ?_
    obtain rfl := Option.some.inj hm
    exact fun σ H n => n
  · obtain ⟨z23, hz23, hm⟩ := bnd_some hm
    obtain ⟨z24, hz24, hm⟩ := bnd_some hm
    obtain ⟨z25, hz25, hm⟩ := bnd_some hm
    obtain ⟨y26, hy26, hm⟩ := bnd_some hm
    obtain ⟨y27, hy27, hm⟩ := bnd_some hm
    refine xs_par2 (A := va T y26) (B := va T y27) (xa_cons (xe_eq (xe_add (xe_var (i := 9) rfl) (xe_shl (chkP_some hz24) (xe_var (i := 8) rfl) (xe_mul (chkP_some hz23) xe_int (xe_var (i := 5) rfl)))) (Option.some.inj hy26)) (xa_cons (xe_eq (xe_sub (xe_add (xe_var (i := 2) rfl) (xe_var (i := 4) rfl)) (xe_fdiv (chkP_some hz25) (xe_var (i := 4) rfl) xe_int)) (Option.some.inj hy27)) xa_nil)) ?_
    show XS (tSeq _ _) _ _ [some (vr p0), some (va T x6), some (va T x7), some (va T x8), some (va T x9), some (va T y4), some (va T y8), some (va T y9), some (va T z22.2.2.1), some (va T z22.2.2.2.1), some (va T z22.1), some (va T z22.2.1), some (va T y26), some (va T y27), none, none, none, none] (stt Ω [(k1, rawD p1 (dkv z22.2.2.2.2.1)), (k2, lstA T p2 (z22.2.2.2.2.2 : List (T3 Str Int Int)))] [])
    obtain ⟨z28, hz28, hm⟩ := bnd_some hm
    obtain ⟨z29, hz29, hm⟩ := bnd_some hm
    refine xs_set (A := va T z29.1) (xe_call (xa_cons (xe_var (i := 0) rfl) (xa_cons (xe_shr (chkP_some hz28) (xe_var (i := 12) rfl) (xe_var (i := 5) rfl)) (xa_cons (xe_var (i := 13) rfl) (xa_cons (xe_var (i := 9) rfl) (xa_cons (xe_neg xe_int) xa_nil))))) ⟨k0, p0, k1, p1, z22.2.2.2.2.1, k2, p2, z22.2.2.2.2.2, x3, x4, x5, (y26 / 2 ^ (y4).toNat), y27, z22.2.2.2.1, (-(1 : Int)), z29, rfl, (stt_getU hk0 (by simp [ne01, ne01.symm, ne02, ne02.symm, ne12, ne12.symm])), (stt_get ok (i := 0) rfl), (stt_get ok (i := 1) rfl), (by first | assumption | exact Ne.symm (by assumption)), (by first | assumption | exact Ne.symm (by assumption)), (by first | assumption | exact Ne.symm (by assumption)), hz29, rfl⟩ ((stt_two.trans (congrArg (fun W => stt W _ []) (cal1 ok (i := 1) rfl))).trans (cal1 ok (i := 0) rfl))) ?_
    show XS (tSeq _ _) _ _ [some (vr p0), some (va T x6), some (va T x7), some (va T x8), some (va T x9), some (va T y4), some (va T y8), some (va T y9), some (va T z22.2.2.1), some (va T z22.2.2.2.1), some (va T z22.1), some (va T z22.2.1), some (va T y26), some (va T y27), some (va T z29.1), none, none, none] (stt Ω [(k1, rawD p1 (dkv z29.2.1)), (k2, lstA T p2 (z29.2.2 : List (T3 Str Int Int)))] [])
    obtain ⟨z30, hz30, hm⟩ := bnd_some hm
    refine xs_set (A := va T z30.1) (xe_call (xa_cons (xe_var (i := 0) rfl) (xa_cons (xe_var (i := 14) rfl) (xa_cons (xe_var (i := 13) rfl) (xa_cons (xe_var (i := 8) rfl) (xa_cons (xe_neg xe_int) xa_nil))))) ⟨k0, p0, k1, p1, z29.2.1, k2, p2, z29.2.2, x3, x4, x5, z29.1, y27, z22.2.2.1, (-(1 : Int)), z30, rfl, (stt_getU hk0 (by simp [ne01, ne01.symm, ne02, ne02.symm, ne12, ne12.symm])), (stt_get ok (i := 0) rfl), (stt_get ok (i := 1) rfl), (by first | assumption | exact Ne.symm (by assumption)), (by first | assumption | exact Ne.symm (by assumption)), (by first | assumption | exact Ne.symm (by assumption)), hz30, rfl⟩ ((stt_two.trans (congrArg (fun W => stt W _ []) (cal1 ok (i := 1) rfl))).trans (cal1 ok (i := 0) rfl))) ?_
    show XS (tSeq _ _) _ _ [some (vr p0), some (va T x6), some (va T x7), some (va T x8), some (va T x9), some (va T y4), some (va T y8), some (va T y9), some (va T z22.2.2.1), some (va T z22.2.2.2.1), some (va T z22.1), some (va T z22.2.1), some (va T y26), some (va T y27), some (va T z30.1), none, none, none] (stt Ω [(k1, rawD p1 (dkv z30.2.1)), (k2, lstA T p2 (z30.2.2 : List (T3 Str Int Int)))] [])
    obtain ⟨z31, hz31, hm⟩ := bnd_some hm
    refine xs_set (A := va T z31.1) (xe_call (xa_cons (xe_var (i := 0) rfl) (xa_cons (xe_var (i := 6) rfl) (xa_cons (xe_var (i := 7) rfl) xa_nil))) ⟨k0, p0, k1, p1, z30.2.1, k2, p2, z30.2.2, x3, x4, x5, y8, y9, z31, rfl, (stt_getU hk0 (by simp [ne01, ne01.symm, ne02, ne02.symm, ne12, ne12.symm])), (stt_get ok (i := 0) rfl), (stt_get ok (i := 1) rfl), (by first | assumption | exact Ne.symm (by assumption)), (by first | assumption | exact Ne.symm (by assumption)), (by first | assumption | exact Ne.symm (by assumption)), hz31, rfl⟩ ((stt_two.trans (congrArg (fun W => stt W _ []) (cal1 ok (i := 1) rfl))).trans (cal1 ok (i := 0) rfl))) ?_
    show XS (Evl.tCut _ _) _ _ [some (vr p0), some (va T x6), some (va T x7), some (va T x8), some (va T x9), some (va T y4), some (va T y8), some (va T y9), some (va T z22.2.2.1), some (va T z22.2.2.2.1), some (va T z22.1), some (va T z22.2.1), some (va T y26), some (va T y27), some (va T z30.1), some (va T z31.1), none, none] (stt Ω [(k1, rawD p1 (dkv z31.2.1)), (k2, lstA T p2 (z31.2.2 : List (T3 Str Int Int)))] [])
    obtain ⟨z37, hz37, hm⟩ := bnd_some hm
    refine xs_cut (Γ' := [some (vr p0), some (va T x6), some (va T x7), some (va T x8), some (va T x9), some (va T y4), some (va T y8), some (va T y9), some (va T z22.2.2.1), some (va T z22.2.2.2.1), some (va T z22.1), some (va T z22.2.1), some (va T y26), some (va T y27), some (va T z30.1), some (va T z31.1), some (va T z37.2.1), some (va T z37.1)]) (Ω' := (stt Ω [(k1, rawD p1 (dkv z37.2.2.1)), (k2, lstA T p2 (z37.2.2.2 : List (T3 Str Int Int)))] [])) ?_ ?_
    · clear hm
      have hm := hz37
      clear hz37
      refine xs_ifF1 (xt_test (T := T) (xe_isNI (xe_var (i := 3) rfl) xe_non)) ?_
      obtain ⟨z32, hz32, hm⟩ := bnd_some hm
      refine xs_set (A := va T z32.1) (xe_call (xa_cons (xe_var (i := 0) rfl) (xa_cons (xe_var (i := 10) rfl) (xa_cons (xe_var (i := 11) rfl) xa_nil))) ⟨k0, p0, k1, p1, z31.2.1, k2, p2, z31.2.2, x3, x4, x5, z22.1, z22.2.1, z32, rfl, (stt_getU hk0 (by simp [ne01, ne01.symm, ne02, ne02.symm, ne12, ne12.symm])), (stt_get ok (i := 0) rfl), (stt_get ok (i := 1) rfl), (by first | assumption | exact Ne.symm (by assumption)), (by first | assumption | exact Ne.symm (by assumption)), (by first | assumption | exact Ne.symm (by assumption)), hz32, rfl⟩ ((stt_two.trans (congrArg (fun W => stt W _ []) (cal1 ok (i := 1) rfl))).trans (cal1 ok (i := 0) rfl))) ?_
      show XS (tAsg _ _) _ _ [some (vr p0), some (va T x6), some (va T x7), some (va T x8), some (va T x9), some (va T y4), some (va T y8), some (va T y9), some (va T z22.2.2.1), some (va T z22.2.2.2.1), some (va T z22.1), some (va T z22.2.1), some (va T y26), some (va T y27), some (va T z30.1), some (va T z31.1), none, some (va T z32.1)] (stt Ω [(k1, rawD p1 (dkv z32.2.1)), (k2, lstA T p2 (z32.2.2 : List (T3 Str Int Int)))] [])
      obtain ⟨z33, hz33, hm⟩ := bnd_some hm
      obtain ⟨z34, hz34, hm⟩ := bnd_some hm
      obtain ⟨z35, hz35, hm⟩ := bnd_some hm
      refine xs_set1 (A := va T z35.1) (xe_call (xa_cons (xe_var (i := 0) rfl) (xa_cons (xe_var (i := 15) rfl) (xa_cons (xe_call (xa_cons (xe_var (i := 0) rfl) (xa_cons (xe_var (i := 15) rfl) xa_nil)) ⟨k0, p0, k1, p1, z32.2.1, k2, p2, z32.2.2, x3, x4, x5, z31.1, z33, rfl, (stt_getU hk0 (by simp [ne01, ne01.symm, ne02, ne02.symm, ne12, ne12.symm])), (stt_get ok (i := 0) rfl), (stt_get ok (i := 1) rfl), (by first | assumption | exact Ne.symm (by assumption)), (by first | assumption | exact Ne.symm (by assumption)), (by first | assumption | exact Ne.symm (by assumption)), hz33, rfl⟩ cal0) (xa_cons (xe_var (i := 17) rfl) (xa_cons (xe_call (xa_cons (xe_var (i := 0) rfl) (xa_cons (xe_var (i := 17) rfl) xa_nil)) ⟨k0, p0, k1, p1, z32.2.1, k2, p2, z32.2.2, x3, x4, x5, z32.1, z34, rfl, (stt_getU hk0 (by simp [ne01, ne01.symm, ne02, ne02.symm, ne12, ne12.symm])), (stt_get ok (i := 0) rfl), (stt_get ok (i := 1) rfl), (by first | assumption | exact Ne.symm (by assumption)), (by first | assumption | exact Ne.symm (by assumption)), (by first | assumption | exact Ne.symm (by assumption)), hz34, rfl⟩ cal0) xa_nil))))) ⟨k0, p0, k1, p1, z32.2.1, k2, p2, z32.2.2, x3, x4, x5, z31.1, z33, z32.1, z34, z35, rfl, (stt_getU hk0 (by simp [ne01, ne01.symm, ne02, ne02.symm, ne12, ne12.symm])), (stt_get ok (i := 0) rfl), (stt_get ok (i := 1) rfl), (by first | assumption | exact Ne.symm (by assumption)), (by first | assumption | exact Ne.symm (by assumption)), (by first | assumption | exact Ne.symm (by assumption)), hz35, rfl⟩ ((stt_two.trans (congrArg (fun W => stt W _ []) (cal1 ok (i := 1) rfl))).trans (cal1 ok (i := 0) rfl))) ?_
      obtain rfl := Option.some.inj hm
      exact fun σ H n => n
    · obtain ⟨z38, hz38, hm⟩ := bnd_some hm
      obtain ⟨z39, hz39, hm⟩ := bnd_some hm
      obtain ⟨z40, hz40, hm⟩ := bnd_some hm
      obtain ⟨z41, hz41, hm⟩ := bnd_some hm
      obtain rfl := Option.some.inj hm
      refine xs_ret (xe_add (xe_mod (chkP_some hz39) (xe_int1 (xe_var (i := 12) rfl)) (xe_shl (chkP_some hz38) xe_int (xe_var (i := 5) rfl))) (xe_shl (chkP_some hz41) (xe_call (xa_cons (xe_var (i := 0) rfl) (xa_cons (xe_var (i := 14) rfl) (xa_cons (xe_var (i := 13) rfl) (xa_cons (xe_var (i := 16) rfl) (xa_cons xe_int xa_nil))))) ⟨k0, p0, k1, p1, z37.2.2.1, k2, p2, z37.2.2.2, x3, x4, x5, z30.1, y27, z37.2.1, (1 : Int), z40, rfl, (stt_getU hk0 (by simp [ne01, ne01.symm, ne02, ne02.symm, ne12, ne12.symm])), (stt_get ok (i := 0) rfl), (stt_get ok (i := 1) rfl), (by first | assumption | exact Ne.symm (by assumption)), (by first | assumption | exact Ne.symm (by assumption)), (by first | assumption | exact Ne.symm (by assumption)), hz40, rfl⟩ ((stt_two.trans (congrArg (fun W => stt W _ []) (cal1 ok (i := 1) rfl))).trans (cal1 ok (i := 0) rfl))) (xe_var (i := 5) rfl))) hrt.all
noncomputable def M__law_world (x0 : MS) : Option (Int × (Int × Int)) :=
  (some (x0.w, x0.c)).bind fun y1 => (chkP (CShl (1 : Int) y1.1)).bind fun z2 => some (y1.1, y1.2, ((1 : Int) * 2 ^ (y1.1).toNat))
def Pre__law_world (T : TC) : PreT := fun As Ω R => ∃ (k0 : Nat) (p0 : Addr) (x0 : MS) (r : (Int × (Int × Int))), As = [vr p0] ∧ Ω[k0]? = some (machA T p0 x0) ∧ M__law_world x0 = some r ∧ R = RNW T (stt Ω [] []) r.1 r.2.1 r.2.2
theorem sc__law_world : FnScope ["_law_engine", "_law_bits", "_law_cutoff"] ["_law_engine"] (defScope s__law_world) := ⟨rfl, rfl, rfl, by decide +kernel, rfl, by decide +kernel, by decide +kernel⟩
theorem ok__law_world {f : Addr} {fd : FuncData} (F : Fun T.K "_law_world" "_law_world" s__law_world f fd) (mc : MCls T.K (T.C 0)) (c_Mach_parts : CalM P w T.K mg base 1 (T.C 0) "parts" ["self"] (mkSp (Pre_Mach_parts T))) : FnOk P w T.K mg base CX0 2 f fd ["_law_engine"] (mkSp (Pre__law_world T)) := by
  refine fn_ok F sc__law_world (fun As Ω R h => ?_) (fun cdv A outer s H E hr As Ω R F0 h => ?_)
  · obtain ⟨k0, p0, x0, r, rfl, _⟩ := h
    rfl
  obtain ⟨k0, p0, x0, r, rfl, hk0, hm, rfl⟩ := h
  refine ⟨_, (pss_cons (ps_asg (pe_calM0 (pv 0) c_Mach_parts (hr.mono (by decide))) (pg_tupK (K := T.K) (n := 2) rfl rfl (pgs_cons (pg_name (i := 1) sc__law_world.nd rfl (.inl rfl)) (pgs_cons (pg_name (i := 2) sc__law_world.nd rfl (.inl rfl)) pgs_nil)))) (pss_one (ps_ret (pe_disp (pps_cons pe_str (pv 1) (pps_cons pe_str (pv 2) (pps_cons pe_str (pe_op op_shlW pe_int (pv 1)) (pps_cons pe_str pe_dnewK (pps_cons pe_str (pe_lst pa_nil) pps_nil))))) (by rfl) (by rfl) (fun z => by cases z) (by decide))))), fun D hrt hnx => ?_⟩
  have ok : Okk Ω [] := okk0
  suffices hx : XS _ D F0 [some (vr p0), none, none] (stt Ω [] []) by
    rw [show (stt Ω [] []) = Ω from stt_self (by simp)] at hx
    exact hx
  unfold M__law_world at hm
  obtain ⟨y1, hy1, hm⟩ := bnd_some hm
  refine xs_asgG (xe_eq (xe_mcall (xe_var (i := 0) rfl) (stt_getU hk0) xa_nil ⟨k0, p0, x0, rfl, (stt_getU hk0), rfl⟩ rfl) (Option.some.inj hy1)) tgt_pair ?_
  show XS (tRet _) _ _ [some (vr p0), some (va T y1.1), some (va T y1.2)] (stt Ω [] [])
  obtain ⟨z2, hz2, hm⟩ := bnd_some hm
  obtain rfl := Option.some.inj hm
  refine xs_ret (xg_world (Ω := Ω) (ks := []) (L := []) (fun X => (xe_var (i := 1) rfl)) (fun X => (xe_var (i := 2) rfl)) (fun X => (xe_shl (chkP_some hz2) xe_int (xe_var (i := 1) rfl))) (fun M => xn_lst (T := T) (l := ([] : List (T3 Str Int Int))) xa_nil (Nat.zero_le _))) hrt
noncomputable def M__law_due (x0 : MS) (x1 : Int) (x2 : Int) : Option (T3 Int DF (LF (T3 Str Int Int))) :=
  (M__law_world x0).bind fun z1 => (forM' (ρ := Unit) (fun (a11 : Int) (s10 : (List Int)) => (M__law_size ([] : List (Str × Int)) ([] : List (T3 Str Int Int)) z1.1 z1.2.1 z1.2.2 ((a11.natAbs : Nat) : Int)).bind fun z12 => (chkP (s10.length < sizeLine)).bind fun z13 => some (Stp.nx (s10 ++ [z12]))) ([x1, x2] : List Int) ([] : List Int)).bind fun z14 => (nxt z14).bind fun s15 => (chkP (0 < s15.length)).bind fun z16 => if (decide ((maxL s15) ≤ (1 : Int))) = true then (chkP (IntMulOk x1 x2)).bind fun z17 => (chkP ((([(("short" : Str), (1 : Int))] : List (Str × Int)).map (·.1)).Nodup)).bind fun z18 => some (T3.mk (x1 * x2) (DF.mk [(("short" : Str), (1 : Int))]) (LF.mk ([] : List (T3 Str Int Int)))) else (atI s15 (0 : Int)).bind fun z19 => (atI s15 (1 : Int)).bind fun z20 => (M__law_product 40 ([] : List (Str × Int)) ([] : List (T3 Str Int Int)) z1.1 z1.2.1 z1.2.2 ((x1.natAbs : Nat) : Int) z19 ((x2.natAbs : Nat) : Int) z20).bind fun z21 => some (T3.mk (if (decide ((decide (x1 < (0 : Int))) = (decide (x2 < (0 : Int))))) = true then z21.1 else ((0 : Int) - z21.1)) (DF.mk z21.2.1) (LF.mk z21.2.2))
def Pre__law_due (T : TC) : PreT := fun As Ω R => ∃ (k0 : Nat) (p0 : Addr) (x0 : MS) (x1 : Int) (x2 : Int) (r : (T3 Int DF (LF (T3 Str Int Int)))), As = [vr p0, va T x1, va T x2] ∧ Ω[k0]? = some (machA T p0 x0) ∧ M__law_due x0 x1 x2 = some r ∧ R = RV (va T r) (stt Ω [] [])
theorem sc__law_due : FnScope ["_law_engine", "_law_p", "_law_q", "_law_world_here", "_law_sizes", "_law_n", "_law_found"] ["_law_engine", "_law_p", "_law_q"] (defScope s__law_due) := ⟨rfl, rfl, rfl, by decide +kernel, rfl, by decide +kernel, by decide +kernel⟩
theorem ok__law_due {f : Addr} {fd : FuncData} (F : Fun T.K "_law_due" "_law_due" s__law_due f fd) (c__law_world : Cal P w T.K mg base 2 "_law_world" ["_law_engine"] (mkSp (Pre__law_world T))) (z_abs : mg "abs" = none) (c__law_size : Cal P w T.K mg base 2 "_law_size" ["_law_world_here", "_law_n"] (mkSp (Pre__law_size T))) (z_max : mg "max" = none) (c__law_product : Cal P w T.K mg base 73 "_law_product" ["_law_world_here", "_law_a", "_law_m", "_law_b", "_law_n"] (mkSp (Pre__law_product 40 T))) : FnOk P w T.K mg base CX0 94 f fd ["_law_engine", "_law_p", "_law_q"] (mkSp (Pre__law_due T)) := by
  refine fn_ok F sc__law_due (fun As Ω R h => ?_) (fun cdv A outer s H E hr As Ω R F0 h => ?_)
  · obtain ⟨k0, p0, x0, x1, x2, r, rfl, _⟩ := h
    rfl
  obtain ⟨k0, p0, x0, x1, x2, r, rfl, hk0, hm, rfl⟩ := h
  refine ⟨_, (pss_cons (ps_par (i := 3) (j := 4) rfl sc__law_due.nd rfl rfl (by decide) rfl rfl (pa_cons (pe_cal c__law_world (hr.mono (by decide)) (by rfl) (pa_cons (pv 0) pa_nil)) (pa_cons (pe_lst pa_nil) pa_nil)) (by rfl)) (pss_cons (ps_for PassesOwn.never rfl (pi_tupK (K := T.K) (pe_tup (pa_cons (pv 1) (pa_cons (pe_ifExp (pt_cmpR op_isNo (pv 2) pe_non (nomark _)) pe_no (pv 2)) pa_nil))) rfl) (pg_name (i := 5) sc__law_due.nd rfl (.inl rfl)) (pss_one (ps_expr (pe_bm PySem.F.plainAttrs_list PySem.F.slot_list_append PySem.F.type_list_append mt_append (pv 4) (pa_cons (pe_cal c__law_size (hr.mono (by decide)) (by rfl) (pa_cons (pv 3) (pa_cons (pe_callB cr_abs (by rfl) z_abs (by decide +kernel) (pa_cons (pv 5) pa_nil)) pa_nil))) pa_nil))))) (pss_cons (ps_if (pt_cmpR op_le (pe_callB (cr_maxK (K := T.K) rfl rfl) (by rfl) z_max (by decide +kernel) (pa_cons (pv 4) pa_nil)) pe_int (nomark _)) (pss_one (ps_ret (pe_tup (pa_cons (pe_op op_mulQ (pv 1) (pe_ifExp (pt_cmpR op_isNo (pv 2) pe_non (nomark _)) pe_no (pv 2))) (pa_cons (pe_fz (pe_disp (pps_cons pe_str pe_int pps_nil) (by rfl) (by rfl) (fun z => by cases z) (by decide))) (pa_cons (pe_lst pa_nil) pa_nil)))))) pss_nil) (pss_cons (ps_if (pt_cmpR op_isNo (pv 2) pe_non (nomark _)) pss_never pss_nil) (pss_cons (ps_set (i := 6) sc__law_due.nd rfl (.inl rfl) (pe_cal c__law_product (hr.mono (by decide)) (by rfl) (pa_cons (pv 3) (pa_cons (pe_callB cr_abs (by rfl) z_abs (by decide +kernel) (pa_cons (pv 1) pa_nil)) (pa_cons (pe_ix (ix_seqK (K := T.K) rfl) (pv 4) pe_int (by intro _ _; rfl)) (pa_cons (pe_callB cr_abs (by rfl) z_abs (by decide +kernel) (pa_cons (pv 2) pa_nil)) (pa_cons (pe_ix (ix_seqK (K := T.K) rfl) (pv 4) pe_int (by intro _ _; rfl)) pa_nil))))))) (pss_one (ps_ret (pe_tup (pa_cons (pe_ifExp (pt_cmpR (op_eqXK (K := T.K) (by exact hr.units) rfl) (pe_cmpR op_lt (pv 1) pe_int (nomark _)) (pe_cmpR op_lt (pv 2) pe_int (nomark _)) (nomark _)) (pv 6) (pe_op op_sub pe_int (pv 6))) (pa_cons (pe_fz (pe_dget (by exact hu_of hr) (pv 3) pe_str (by intro _ _; rfl))) (pa_cons (pe_dget (by exact hu_of hr) (pv 3) pe_str (by intro _ _; rfl)) pa_nil))))))))))), fun D hrt hnx => ?_⟩
  have ok : Okk Ω [] := okk0
  suffices hx : XS _ D F0 [some (vr p0), some (va T x1), some (va T x2), none, none, none, none] (stt Ω [] []) by
    rw [show (stt Ω [] []) = Ω from stt_self (by simp)] at hx
    exact hx
  unfold M__law_due at hm
  obtain ⟨z1, hz1, hm⟩ := bnd_some hm
  refine xs_parWN (xn_callW (xa_cons (xe_var (i := 0) rfl) xa_nil) ⟨k0, p0, x0, z1, rfl, (stt_getU hk0), hz1, rfl⟩ cal0) (fun pp2 pp3 pp4 => (xn_lst (T := T) (l := ([] : List Int)) xa_nil (Nat.zero_le _))) (fun pp2 pp3 pp4 pp5 => ?_)
  show XS (tSeq _ _) _ _ [some (vr p0), some (va T x1), some (va T x2), some (vr pp2), some (vr pp5), none, none] (stt Ω [] [rawD pp2 (wkv z1.1 z1.2.1 z1.2.2 pp3 pp4), rawD pp3 (dkv ([] : List (Str × Int))), lstA T pp4 (([] : List (T3 Str Int Int)) : List (T3 Str Int Int)), lstA T pp5 (([] : List Int) : List Int)])
  obtain ⟨z14, hz14, hm⟩ := bnd_some hm
  refine xs_forS (fun (s10 : (List Int)) => [some (vr p0), some (va T x1), some (va T x2), some (vr pp2), some (vr pp5), none, none]) (fun (s10 : (List Int)) => (stt Ω [] [rawD pp2 (wkv z1.1 z1.2.1 z1.2.2 pp3 pp4), rawD pp3 (dkv ([] : List (Str × Int))), lstA T pp4 (([] : List (T3 Str Int Int)) : List (T3 Str Int Int)), lstA T pp5 (s10 : List Int)])) (fun (_ : Unit) _ _ _ => False) hz14 (xi_TF (xe_tupF (l := [x1, x2]) (xa_cons (xe_var (i := 1) rfl) (xa_cons (xe_ifF (xt_test (T := T) (xe_isNI (xe_var (i := 2) rfl) xe_non)) (xe_var (i := 2) rfl)) xa_nil)) (by show 2 ≤ sizeLine; decide))) (fun _ => tgt_name) (fun a11 s10 s' ha hm F1 D1 e1 hD => ?_) (fun s15 es => ?_) (fun r1 es => ?_)
  · show XS (tDrop _) _ _ [some (vr p0), some (va T x1), some (va T x2), some (vr pp2), some (vr pp5), some (va T a11), none] (stt Ω [] [rawD pp2 (wkv z1.1 z1.2.1 z1.2.2 pp3 pp4), rawD pp3 (dkv ([] : List (Str × Int))), lstA T pp4 (([] : List (T3 Str Int Int)) : List (T3 Str Int Int)), lstA T pp5 (s10 : List Int)])
    obtain ⟨z12, hz12, hm⟩ := bnd_some hm
    obtain ⟨z13, hz13, hm⟩ := bnd_some hm
    refine xs_drop1 (xe_appE (stt_getL (j := 3) rfl) (stt_getL (j := 3) rfl) (xe_var (i := 4) rfl) (xe_call (xa_cons (xe_var (i := 3) rfl) (xa_cons (xe_abs (xe_var (i := 5) rfl)) xa_nil)) ⟨(Ω.length + 0), pp2, (Ω.length + 1), pp3, ([] : List (Str × Int)), (Ω.length + 2), pp4, ([] : List (T3 Str Int Int)), z1.1, z1.2.1, z1.2.2, ((a11.natAbs : Nat) : Int), z12, rfl, (stt_getL (j := 0) rfl), (stt_getL (j := 1) rfl), (stt_getL (j := 2) rfl), (by omega), (by omega), (by omega), hz12, rfl⟩ cal0) (chkP_some hz13) (stt_setL (j := 3))) ?_
    obtain rfl := Option.some.inj hm
    exact fun σ H n => hD.nx _ rfl σ H (n.forget 5)
  · subst es
    obtain ⟨s2, hs2, hm⟩ := bnd_some hm
    cases hs2
    show XS (tSeq _ _) _ _ [some (vr p0), some (va T x1), some (va T x2), some (vr pp2), some (vr pp5), none, none] (stt Ω [] [rawD pp2 (wkv z1.1 z1.2.1 z1.2.2 pp3 pp4), rawD pp3 (dkv ([] : List (Str × Int))), lstA T pp4 (([] : List (T3 Str Int Int)) : List (T3 Str Int Int)), lstA T pp5 (s15 : List Int)])
    refine xs_fzJ (k := 4) (j := 3) rfl rfl ?_
    show XS _ _ _ [some (vr p0), some (va T x1), some (va T x2), some (vr pp2), some (va T (LF.mk s15)), none, none] (stt Ω [] [rawD pp2 (wkv z1.1 z1.2.1 z1.2.2 pp3 pp4), rawD pp3 (dkv ([] : List (Str × Int))), lstA T pp4 (([] : List (T3 Str Int Int)) : List (T3 Str Int Int)), nilA])
    obtain ⟨z16, hz16, hm⟩ := bnd_some hm
    by_cases hc : (decide ((maxL s15) ≤ (1 : Int))) = true
    · rw [if_pos hc] at hm
      refine xs_ifT (xt_eq (xt_test (T := T) (xe_le (xe_maxL (xe_var (i := 4) rfl) isLs_LF (chkP_some hz16)) xe_int)) hc) ?_
      obtain ⟨z17, hz17, hm⟩ := bnd_some hm
      obtain ⟨z18, hz18, hm⟩ := bnd_some hm
      obtain rfl := Option.some.inj hm
      refine xs_ret (xe_tup3 (xa_cons (xe_mul (chkP_some hz17) (xe_var (i := 1) rfl) (xe_ifF (xt_test (T := T) (xe_isNI (xe_var (i := 2) rfl) xe_non)) (xe_var (i := 2) rfl))) (xa_cons (xe_disp (fun X => (xps_cons (T := T) xe_str xe_int xps_nil)) (chkP_some hz18) (by show 1 ≤ 15; decide)) (xa_cons (xe_lst (T := T) (l := ([] : List (T3 Str Int Int))) xa_nil (Nat.zero_le _)) xa_nil)))) hrt.all
    · rw [if_neg hc] at hm
      refine xs_ifN (xt_eq (xt_test (T := T) (xe_le (xe_maxL (xe_var (i := 4) rfl) isLs_LF (chkP_some hz16)) xe_int)) (nt hc)) ?_
      show XS (tSeq _ _) _ _ [some (vr p0), some (va T x1), some (va T x2), some (vr pp2), some (va T (LF.mk s15)), none, none] (stt Ω [] [rawD pp2 (wkv z1.1 z1.2.1 z1.2.2 pp3 pp4), rawD pp3 (dkv ([] : List (Str × Int))), lstA T pp4 (([] : List (T3 Str Int Int)) : List (T3 Str Int Int)), nilA])
      refine xs_ifN (xt_test (T := T) (xe_isNI (xe_var (i := 2) rfl) xe_non)) ?_
      show XS (tSeq _ _) _ _ [some (vr p0), some (va T x1), some (va T x2), some (vr pp2), some (va T (LF.mk s15)), none, none] (stt Ω [] [rawD pp2 (wkv z1.1 z1.2.1 z1.2.2 pp3 pp4), rawD pp3 (dkv ([] : List (Str × Int))), lstA T pp4 (([] : List (T3 Str Int Int)) : List (T3 Str Int Int)), nilA])
      obtain ⟨z19, hz19, hm⟩ := bnd_some hm
      obtain ⟨z20, hz20, hm⟩ := bnd_some hm
      obtain ⟨z21, hz21, hm⟩ := bnd_some hm
      refine xs_set (A := va T z21.1) (xe_call (xa_cons (xe_var (i := 3) rfl) (xa_cons (xe_abs (xe_var (i := 1) rfl)) (xa_cons (xe_ix (xe_var (i := 4) rfl) xe_int isL_LF hz19) (xa_cons (xe_abs (xe_var (i := 2) rfl)) (xa_cons (xe_ix (xe_var (i := 4) rfl) xe_int isL_LF hz20) xa_nil))))) ⟨(Ω.length + 0), pp2, (Ω.length + 1), pp3, ([] : List (Str × Int)), (Ω.length + 2), pp4, ([] : List (T3 Str Int Int)), z1.1, z1.2.1, z1.2.2, ((x1.natAbs : Nat) : Int), z19, ((x2.natAbs : Nat) : Int), z20, z21, rfl, (stt_getL (j := 0) rfl), (stt_getL (j := 1) rfl), (stt_getL (j := 2) rfl), (by omega), (by omega), (by omega), hz21, rfl⟩ ((stt_two.trans (congrArg (fun W => stt W _ []) (cal1L (j := 2)))).trans (cal1L (j := 1)))) ?_
      show XS (tRet _) _ _ [some (vr p0), some (va T x1), some (va T x2), some (vr pp2), some (va T (LF.mk s15)), none, some (va T z21.1)] (stt Ω [] [rawD pp2 (wkv z1.1 z1.2.1 z1.2.2 pp3 pp4), rawD pp3 (dkv z21.2.1), lstA T pp4 (z21.2.2 : List (T3 Str Int Int)), nilA])
      obtain rfl := Option.some.inj hm
      refine xs_ret (xe_fzL3 (j := 2) (xa_cons (xe_ite (xt_test (T := T) (xe_eqB (xe_lt (xe_var (i := 1) rfl) xe_int) (xe_lt (xe_var (i := 2) rfl) xe_int))) (xe_var (i := 6) rfl) (xe_sub xe_int (xe_var (i := 6) rfl))) (xa_cons (xe_fzE (xe_wget (T := T) (xe_var (i := 3) rfl) xe_str (stt_getL (j := 0) rfl) wkv_counts (fun _ => rfl)) (stt_getL (j := 1) rfl) (stt_setL (j := 1))) (xa_cons (xe_wget (T := T) (xe_var (i := 3) rfl) xe_str (stt_getL (j := 0) rfl) wkv_walk (fun _ => rfl)) xa_nil))) rfl) hrt.all
  · subst es
    cases hm
noncomputable def M__law_due__o1 (x0 : MS) (x1 : Int) (x2 : Unit) : Option (T3 Int DF (LF (T3 Str Int Int))) :=
  (M__law_world x0).bind fun z1 => (forM' (ρ := Unit) (fun (a11 : Int) (s10 : (List Int)) => (M__law_size ([] : List (Str × Int)) ([] : List (T3 Str Int Int)) z1.1 z1.2.1 z1.2.2 ((a11.natAbs : Nat) : Int)).bind fun z12 => (chkP (s10.length < sizeLine)).bind fun z13 => some (Stp.nx (s10 ++ [z12]))) ([x1, x1] : List Int) ([] : List Int)).bind fun z14 => (nxt z14).bind fun s15 => (chkP (0 < s15.length)).bind fun z16 => if (decide ((maxL s15) ≤ (1 : Int))) = true then (chkP (IntMulOk x1 x1)).bind fun z17 => (chkP ((([(("short" : Str), (1 : Int))] : List (Str × Int)).map (·.1)).Nodup)).bind fun z18 => some (T3.mk (x1 * x1) (DF.mk [(("short" : Str), (1 : Int))]) (LF.mk ([] : List (T3 Str Int Int)))) else (atI s15 (0 : Int)).bind fun z19 => (M__law_square 20 ([] : List (Str × Int)) ([] : List (T3 Str Int Int)) z1.1 z1.2.1 z1.2.2 ((x1.natAbs : Nat) : Int) z19).bind fun z20 => some (T3.mk z20.1 (DF.mk z20.2.1) (LF.mk z20.2.2))
def Pre__law_due__o1 (T : TC) : PreT := fun As Ω R => ∃ (k0 : Nat) (p0 : Addr) (x0 : MS) (x1 : Int) (x2 : Unit) (r : (T3 Int DF (LF (T3 Str Int Int)))), As = [vr p0, va T x1, va T x2] ∧ Ω[k0]? = some (machA T p0 x0) ∧ M__law_due__o1 x0 x1 x2 = some r ∧ R = RV (va T r) (stt Ω [] [])
theorem sc__law_due__o1 : FnScope ["_law_engine", "_law_p", "_law_q", "_law_world_here", "_law_sizes", "_law_n", "_law_found"] ["_law_engine", "_law_p", "_law_q"] (defScope s__law_due__o1) := ⟨rfl, rfl, rfl, by decide +kernel, rfl, by decide +kernel, by decide +kernel⟩
theorem ok__law_due__o1 {f : Addr} {fd : FuncData} (F : Fun T.K "_law_due" "_law_due" s__law_due__o1 f fd) (c__law_world : Cal P w T.K mg base 2 "_law_world" ["_law_engine"] (mkSp (Pre__law_world T))) (z_abs : mg "abs" = none) (c__law_size : Cal P w T.K mg base 2 "_law_size" ["_law_world_here", "_law_n"] (mkSp (Pre__law_size T))) (z_max : mg "max" = none) (c__law_square : Cal P w T.K mg base 93 "_law_square" ["_law_world_here", "_law_a", "_law_m"] (mkSp (Pre__law_square 20 T))) : FnOk P w T.K mg base CX0 94 f fd ["_law_engine", "_law_p", "_law_q"] (mkSp (Pre__law_due__o1 T)) := by
  refine fn_ok F sc__law_due__o1 (fun As Ω R h => ?_) (fun cdv A outer s H E hr As Ω R F0 h => ?_)
  · obtain ⟨k0, p0, x0, x1, x2, r, rfl, _⟩ := h
    rfl
  obtain ⟨k0, p0, x0, x1, x2, r, rfl, hk0, hm, rfl⟩ := h
  refine ⟨_, (pss_cons (ps_par (i := 3) (j := 4) rfl sc__law_due__o1.nd rfl rfl (by decide) rfl rfl (pa_cons (pe_cal c__law_world (hr.mono (by decide)) (by rfl) (pa_cons (pv 0) pa_nil)) (pa_cons (pe_lst pa_nil) pa_nil)) (by rfl)) (pss_cons (ps_for PassesOwn.never rfl (pi_tupK (K := T.K) (pe_tup (pa_cons (pv 1) (pa_cons (pe_ifExp (pt_cmpR op_isNo (pv 2) pe_non (nomark _)) (pv 1) pe_no) pa_nil))) rfl) (pg_name (i := 5) sc__law_due__o1.nd rfl (.inl rfl)) (pss_one (ps_expr (pe_bm PySem.F.plainAttrs_list PySem.F.slot_list_append PySem.F.type_list_append mt_append (pv 4) (pa_cons (pe_cal c__law_size (hr.mono (by decide)) (by rfl) (pa_cons (pv 3) (pa_cons (pe_callB cr_abs (by rfl) z_abs (by decide +kernel) (pa_cons (pv 5) pa_nil)) pa_nil))) pa_nil))))) (pss_cons (ps_if (pt_cmpR op_le (pe_callB (cr_maxK (K := T.K) rfl rfl) (by rfl) z_max (by decide +kernel) (pa_cons (pv 4) pa_nil)) pe_int (nomark _)) (pss_one (ps_ret (pe_tup (pa_cons (pe_op op_mulQ (pv 1) (pe_ifExp (pt_cmpR op_isNo (pv 2) pe_non (nomark _)) (pv 1) pe_no)) (pa_cons (pe_fz (pe_disp (pps_cons pe_str pe_int pps_nil) (by rfl) (by rfl) (fun z => by cases z) (by decide))) (pa_cons (pe_lst pa_nil) pa_nil)))))) pss_nil) (pss_cons (ps_if (pt_cmpR op_isNo (pv 2) pe_non (nomark _)) (pss_cons (ps_set (i := 6) sc__law_due__o1.nd rfl (.inl rfl) (pe_cal c__law_square (hr.mono (by decide)) (by rfl) (pa_cons (pv 3) (pa_cons (pe_callB cr_abs (by rfl) z_abs (by decide +kernel) (pa_cons (pv 1) pa_nil)) (pa_cons (pe_ix (ix_seqK (K := T.K) rfl) (pv 4) pe_int (by intro _ _; rfl)) pa_nil))))) (pss_one (ps_ret (pe_tup (pa_cons (pv 6) (pa_cons (pe_fz (pe_dget (by exact hu_of hr) (pv 3) pe_str (by intro _ _; rfl))) (pa_cons (pe_dget (by exact hu_of hr) (pv 3) pe_str (by intro _ _; rfl)) pa_nil))))))) pss_never) pss_never)))), fun D hrt hnx => ?_⟩
  have ok : Okk Ω [] := okk0
  suffices hx : XS _ D F0 [some (vr p0), some (va T x1), some (va T x2), none, none, none, none] (stt Ω [] []) by
    rw [show (stt Ω [] []) = Ω from stt_self (by simp)] at hx
    exact hx
  unfold M__law_due__o1 at hm
  obtain ⟨z1, hz1, hm⟩ := bnd_some hm
  refine xs_parWN (xn_callW (xa_cons (xe_var (i := 0) rfl) xa_nil) ⟨k0, p0, x0, z1, rfl, (stt_getU hk0), hz1, rfl⟩ cal0) (fun pp2 pp3 pp4 => (xn_lst (T := T) (l := ([] : List Int)) xa_nil (Nat.zero_le _))) (fun pp2 pp3 pp4 pp5 => ?_)
  show XS (tSeq _ _) _ _ [some (vr p0), some (va T x1), some (va T x2), some (vr pp2), some (vr pp5), none, none] (stt Ω [] [rawD pp2 (wkv z1.1 z1.2.1 z1.2.2 pp3 pp4), rawD pp3 (dkv ([] : List (Str × Int))), lstA T pp4 (([] : List (T3 Str Int Int)) : List (T3 Str Int Int)), lstA T pp5 (([] : List Int) : List Int)])
  obtain ⟨z14, hz14, hm⟩ := bnd_some hm
  refine xs_forS (fun (s10 : (List Int)) => [some (vr p0), some (va T x1), some (va T x2), some (vr pp2), some (vr pp5), none, none]) (fun (s10 : (List Int)) => (stt Ω [] [rawD pp2 (wkv z1.1 z1.2.1 z1.2.2 pp3 pp4), rawD pp3 (dkv ([] : List (Str × Int))), lstA T pp4 (([] : List (T3 Str Int Int)) : List (T3 Str Int Int)), lstA T pp5 (s10 : List Int)])) (fun (_ : Unit) _ _ _ => False) hz14 (xi_TF (xe_tupF (l := [x1, x1]) (xa_cons (xe_var (i := 1) rfl) (xa_cons (xe_ifT (xt_test (T := T) (xe_isNU (xe_var (i := 2) rfl) xe_non)) (xe_var (i := 1) rfl)) xa_nil)) (by show 2 ≤ sizeLine; decide))) (fun _ => tgt_name) (fun a11 s10 s' ha hm F1 D1 e1 hD => ?_) (fun s15 es => ?_) (fun r1 es => ?_)
  · show XS (tDrop _) _ _ [some (vr p0), some (va T x1), some (va T x2), some (vr pp2), some (vr pp5), some (va T a11), none] (stt Ω [] [rawD pp2 (wkv z1.1 z1.2.1 z1.2.2 pp3 pp4), rawD pp3 (dkv ([] : List (Str × Int))), lstA T pp4 (([] : List (T3 Str Int Int)) : List (T3 Str Int Int)), lstA T pp5 (s10 : List Int)])
    obtain ⟨z12, hz12, hm⟩ := bnd_some hm
    obtain ⟨z13, hz13, hm⟩ := bnd_some hm
    refine xs_drop1 (xe_appE (stt_getL (j := 3) rfl) (stt_getL (j := 3) rfl) (xe_var (i := 4) rfl) (xe_call (xa_cons (xe_var (i := 3) rfl) (xa_cons (xe_abs (xe_var (i := 5) rfl)) xa_nil)) ⟨(Ω.length + 0), pp2, (Ω.length + 1), pp3, ([] : List (Str × Int)), (Ω.length + 2), pp4, ([] : List (T3 Str Int Int)), z1.1, z1.2.1, z1.2.2, ((a11.natAbs : Nat) : Int), z12, rfl, (stt_getL (j := 0) rfl), (stt_getL (j := 1) rfl), (stt_getL (j := 2) rfl), (by omega), (by omega), (by omega), hz12, rfl⟩ cal0) (chkP_some hz13) (stt_setL (j := 3))) ?_
    obtain rfl := Option.some.inj hm
    exact fun σ H n => hD.nx _ rfl σ H (n.forget 5)
  · subst es
    obtain ⟨s2, hs2, hm⟩ := bnd_some hm
    cases hs2
    show XS (tSeq _ _) _ _ [some (vr p0), some (va T x1), some (va T x2), some (vr pp2), some (vr pp5), none, none] (stt Ω [] [rawD pp2 (wkv z1.1 z1.2.1 z1.2.2 pp3 pp4), rawD pp3 (dkv ([] : List (Str × Int))), lstA T pp4 (([] : List (T3 Str Int Int)) : List (T3 Str Int Int)), lstA T pp5 (s15 : List Int)])
    refine xs_fzJ (k := 4) (j := 3) rfl rfl ?_
    show XS _ _ _ [some (vr p0), some (va T x1), some (va T x2), some (vr pp2), some (va T (LF.mk s15)), none, none] (stt Ω [] [rawD pp2 (wkv z1.1 z1.2.1 z1.2.2 pp3 pp4), rawD pp3 (dkv ([] : List (Str × Int))), lstA T pp4 (([] : List (T3 Str Int Int)) : List (T3 Str Int Int)), nilA])
    obtain ⟨z16, hz16, hm⟩ := bnd_some hm
    by_cases hc : (decide ((maxL s15) ≤ (1 : Int))) = true
    · rw [if_pos hc] at hm
      refine xs_ifT (xt_eq (xt_test (T := T) (xe_le (xe_maxL (xe_var (i := 4) rfl) isLs_LF (chkP_some hz16)) xe_int)) hc) ?_
      obtain ⟨z17, hz17, hm⟩ := bnd_some hm
      obtain ⟨z18, hz18, hm⟩ := bnd_some hm
      obtain rfl := Option.some.inj hm
      refine xs_ret (xe_tup3 (xa_cons (xe_mul (chkP_some hz17) (xe_var (i := 1) rfl) (xe_ifT (xt_test (T := T) (xe_isNU (xe_var (i := 2) rfl) xe_non)) (xe_var (i := 1) rfl))) (xa_cons (xe_disp (fun X => (xps_cons (T := T) xe_str xe_int xps_nil)) (chkP_some hz18) (by show 1 ≤ 15; decide)) (xa_cons (xe_lst (T := T) (l := ([] : List (T3 Str Int Int))) xa_nil (Nat.zero_le _)) xa_nil)))) hrt.all
    · rw [if_neg hc] at hm
      refine xs_ifN (xt_eq (xt_test (T := T) (xe_le (xe_maxL (xe_var (i := 4) rfl) isLs_LF (chkP_some hz16)) xe_int)) (nt hc)) ?_
      show XS (tSeq _ _) _ _ [some (vr p0), some (va T x1), some (va T x2), some (vr pp2), some (va T (LF.mk s15)), none, none] (stt Ω [] [rawD pp2 (wkv z1.1 z1.2.1 z1.2.2 pp3 pp4), rawD pp3 (dkv ([] : List (Str × Int))), lstA T pp4 (([] : List (T3 Str Int Int)) : List (T3 Str Int Int)), nilA])
      refine xs_ifT (xt_test (T := T) (xe_isNU (xe_var (i := 2) rfl) xe_non)) ?_
      obtain ⟨z19, hz19, hm⟩ := bnd_some hm
      obtain ⟨z20, hz20, hm⟩ := bnd_some hm
      refine xs_set (A := va T z20.1) (xe_call (xa_cons (xe_var (i := 3) rfl) (xa_cons (xe_abs (xe_var (i := 1) rfl)) (xa_cons (xe_ix (xe_var (i := 4) rfl) xe_int isL_LF hz19) xa_nil))) ⟨(Ω.length + 0), pp2, (Ω.length + 1), pp3, ([] : List (Str × Int)), (Ω.length + 2), pp4, ([] : List (T3 Str Int Int)), z1.1, z1.2.1, z1.2.2, ((x1.natAbs : Nat) : Int), z19, z20, rfl, (stt_getL (j := 0) rfl), (stt_getL (j := 1) rfl), (stt_getL (j := 2) rfl), (by omega), (by omega), (by omega), hz20, rfl⟩ ((stt_two.trans (congrArg (fun W => stt W _ []) (cal1L (j := 2)))).trans (cal1L (j := 1)))) ?_
      show XS (tRet _) _ _ [some (vr p0), some (va T x1), some (va T x2), some (vr pp2), some (va T (LF.mk s15)), none, some (va T z20.1)] (stt Ω [] [rawD pp2 (wkv z1.1 z1.2.1 z1.2.2 pp3 pp4), rawD pp3 (dkv z20.2.1), lstA T pp4 (z20.2.2 : List (T3 Str Int Int)), nilA])
      obtain rfl := Option.some.inj hm
      refine xs_ret (xe_fzL3 (j := 2) (xa_cons (xe_var (i := 6) rfl) (xa_cons (xe_fzE (xe_wget (T := T) (xe_var (i := 3) rfl) xe_str (stt_getL (j := 0) rfl) wkv_counts (fun _ => rfl)) (stt_getL (j := 1) rfl) (stt_setL (j := 1))) (xa_cons (xe_wget (T := T) (xe_var (i := 3) rfl) xe_str (stt_getL (j := 0) rfl) wkv_walk (fun _ => rfl)) xa_nil))) rfl) hrt.all
  · subst es
    cases hm
noncomputable def M__law_right (x0 : MS) (x1 : Int) (x2 : Int) : Option (Bool × MS) :=
  (M_big x0 x1).bind fun z1 => (M_big x0.reset x2).bind fun z2 => (M_multiply x0.reset z1 z2).bind fun z3 => (M__law_due z3.2 x1 x2).bind fun z4 => (M__law_is z3.1 ((z3.2.w, z3.2.c).1) z4.a).bind fun z5 => (chkP (z5 = true)).bind fun z6 => (chkP (IntMulOk x1 x2)).bind fun z7 => (chkP (z4.a = (x1 * x2))).bind fun z8 => (M__law_counted z3.2).bind fun z9 => (chkP (sameD z9.1.1.l (z4.b, (LF.mk (cut z4.c.l none (some (1000 : Int))))).1.l ∧ z9.1.2 = (z4.b, (LF.mk (cut z4.c.l none (some (1000 : Int))))).2 ∧ Dat.ok z9.1.2)).bind fun z10 => (chkP (true = true)).bind fun z11 => some (true, z9.2)
def Pre__law_right (T : TC) : PreT := fun As Ω R => ∃ (k0 : Nat) (p0 : Addr) (x0 : MS) (x1 : Int) (x2 : Int) (r : Bool × MS), As = [vr p0, va T x1, va T x2] ∧ Ω[k0]? = some (machA T p0 x0) ∧ M__law_right x0 x1 x2 = some r ∧ R = RV (va T r.1) (stt Ω [(k0, machA T p0 r.2)] [])
theorem sc__law_right : FnScope ["_law_engine", "_law_p", "_law_q", "_law_left", "_law_got", "_law_due_here", "_law_counts", "_law_walk"] ["_law_engine", "_law_p", "_law_q"] (defScope s__law_right) := ⟨rfl, rfl, rfl, by decide +kernel, rfl, by decide +kernel, by decide +kernel⟩
theorem ok__law_right {f : Addr} {fd : FuncData} (F : Fun T.K "_law_right" "_law_right" s__law_right f fd) (c_big : Cal P w T.K mg base 23 "big" ["machine", "n"] (mkSp (Pre_big T))) (mc : MCls T.K (T.C 0)) (c_Mach_reset : CalM P w T.K mg base 1 (T.C 0) "reset" ["self"] (mkSp (Pre_Mach_reset T))) (c_multiply : Cal P w T.K mg base 46 "multiply" ["machine", "x", "y"] (mkSp (Pre_multiply T))) (c__law_due : Cal P w T.K mg base 94 "_law_due" ["_law_engine", "_law_p", "_law_q"] (mkSp (Pre__law_due T))) (c_Mach_parts : CalM P w T.K mg base 1 (T.C 0) "parts" ["self"] (mkSp (Pre_Mach_parts T))) (c__law_is : Cal P w T.K mg base 3 "_law_is" ["_law_held", "_law_bits", "_law_n"] (mkSp (Pre__law_is T))) (c__law_counted : Cal P w T.K mg base 2 "_law_counted" ["_law_engine"] (mkSp (Pre__law_counted T))) : FnOk P w T.K mg base CX0 95 f fd ["_law_engine", "_law_p", "_law_q"] (mkSp (Pre__law_right T)) := by
  refine fn_ok F sc__law_right (fun As Ω R h => ?_) (fun cdv A outer s H E hr As Ω R F0 h => ?_)
  · obtain ⟨k0, p0, x0, x1, x2, r, rfl, _⟩ := h
    rfl
  obtain ⟨k0, p0, x0, x1, x2, r, rfl, hk0, hm, rfl⟩ := h
  refine ⟨_, (pss_cons (ps_set (i := 3) sc__law_right.nd rfl (.inl rfl) (pe_cal c_big (hr.mono (by decide)) (by rfl) (pa_cons (pv 0) (pa_cons (pv 1) pa_nil)))) (pss_cons (ps_expr (pe_calM0 (pv 0) c_Mach_reset (hr.mono (by decide)))) (pss_cons (ps_set (i := 4) sc__law_right.nd rfl (.inl rfl) (pe_ifExp (pt_cmpR op_isNo (pv 2) pe_non (nomark _)) pe_no (pe_cal c_multiply (hr.mono (by decide)) (by rfl) (pa_cons (pv 0) (pa_cons (pv 3) (pa_cons (pe_cal c_big (hr.mono (by decide)) (by rfl) (pa_cons (pv 0) (pa_cons (pv 2) pa_nil))) pa_nil)))))) (pss_cons (ps_asg (pe_cal c__law_due (hr.mono (by decide)) (by rfl) (pa_cons (pv 0) (pa_cons (pv 1) (pa_cons (pv 2) pa_nil)))) (pg_tupK (K := T.K) (n := 3) rfl rfl (pgs_cons (pg_name (i := 5) sc__law_right.nd rfl (.inl rfl)) (pgs_cons (pg_name (i := 6) sc__law_right.nd rfl (.inl rfl)) (pgs_cons (pg_name (i := 7) sc__law_right.nd rfl (.inl rfl)) pgs_nil))))) (pss_cons (ps_if (PW.pt (pw_or (pt_not (pt_val (pe_cal c__law_is (hr.mono (by decide)) (by rfl) (pa_cons (pv 4) (pa_cons (pe_ix (ix_seqK (K := T.K) rfl) (pe_calM0 (pv 0) c_Mach_parts (hr.mono (by decide))) pe_int (by intro _ _; rfl)) (pa_cons (pv 5) pa_nil)))))) (pw_or1 (pt_cmpR (op_neXK (K := T.K) (by exact hr.units) rfl) (pv 5) (pe_op op_mulQ (pv 1) (pe_ifExp (pt_cmpR op_isNo (pv 2) pe_non (nomark _)) pe_no (pv 2))) (nomark _))))) pss_never pss_nil) (pss_one (ps_ret (pe_cmpR (op_pkEqK (K := T.K) rfl (by exact hr.units)) (pe_cal c__law_counted (hr.mono (by decide)) (by rfl) (pa_cons (pv 0) pa_nil)) (pe_tup (pa_cons (pv 6) (pa_cons (pe_slice (sl_listK (K := T.K) rfl) (pv 7) po_none (po_some pe_int)) pa_nil))) (nomark _))))))))), fun D hrt hnx => ?_⟩
  have ok := okk1 hk0
  suffices hx : XS _ D F0 [some (vr p0), some (va T x1), some (va T x2), none, none, none, none, none] (stt Ω [(k0, machA T p0 x0)] []) by
    rw [show (stt Ω [(k0, machA T p0 x0)] []) = Ω from stt_self (by simp [hk0])] at hx
    exact hx
  unfold M__law_right at hm
  obtain ⟨z1, hz1, hm⟩ := bnd_some hm
  refine xs_set (A := va T z1) (xe_call (xa_cons (xe_var (i := 0) rfl) (xa_cons (xe_var (i := 1) rfl) xa_nil)) ⟨k0, p0, x0, x1, z1, rfl, (stt_get ok (i := 0) rfl), hz1, rfl⟩ cal0) ?_
  show XS (tSeq _ _) _ _ [some (vr p0), some (va T x1), some (va T x2), some (va T z1), none, none, none, none] (stt Ω [(k0, machA T p0 x0)] [])
  refine xs_drop (xe_mcall (xe_var (i := 0) rfl) (stt_get ok (i := 0) rfl) xa_nil ⟨k0, p0, x0, rfl, (stt_get ok (i := 0) rfl), rfl⟩ (cal1 ok (i := 0) rfl)) ?_
  show XS (tSeq _ _) _ _ [some (vr p0), some (va T x1), some (va T x2), some (va T z1), none, none, none, none] (stt Ω [(k0, machA T p0 x0.reset)] [])
  obtain ⟨z2, hz2, hm⟩ := bnd_some hm
  obtain ⟨z3, hz3, hm⟩ := bnd_some hm
  refine xs_set (A := va T z3.1) (xe_ifF (xt_test (T := T) (xe_isNI (xe_var (i := 2) rfl) xe_non)) (xe_call (xa_cons (xe_var (i := 0) rfl) (xa_cons (xe_var (i := 3) rfl) (xa_cons (xe_call (xa_cons (xe_var (i := 0) rfl) (xa_cons (xe_var (i := 2) rfl) xa_nil)) ⟨k0, p0, x0.reset, x2, z2, rfl, (stt_get ok (i := 0) rfl), hz2, rfl⟩ cal0) xa_nil))) ⟨k0, p0, x0.reset, z1, z2, z3, rfl, (stt_get ok (i := 0) rfl), hz3, rfl⟩ (cal1 ok (i := 0) rfl))) ?_
  show XS (tSeq _ _) _ _ [some (vr p0), some (va T x1), some (va T x2), some (va T z1), some (va T z3.1), none, none, none] (stt Ω [(k0, machA T p0 z3.2)] [])
  obtain ⟨z4, hz4, hm⟩ := bnd_some hm
  refine xs_asgG (xe_call (xa_cons (xe_var (i := 0) rfl) (xa_cons (xe_var (i := 1) rfl) (xa_cons (xe_var (i := 2) rfl) xa_nil))) ⟨k0, p0, z3.2, x1, x2, z4, rfl, (stt_get ok (i := 0) rfl), hz4, rfl⟩ cal0) tgt_triple ?_
  show XS (tSeq _ _) _ _ [some (vr p0), some (va T x1), some (va T x2), some (va T z1), some (va T z3.1), some (va T z4.a), some (va T z4.b), some (va T (LF.mk z4.c.l))] (stt Ω [(k0, machA T p0 z3.2)] [])
  obtain ⟨z5, hz5, hm⟩ := bnd_some hm
  obtain ⟨z6, hz6, hm⟩ := bnd_some hm
  obtain ⟨z7, hz7, hm⟩ := bnd_some hm
  obtain ⟨z8, hz8, hm⟩ := bnd_some hm
  refine xs_ifN (xt_orF (xt_notF (xt_eq (xt_tB (T := T) (xe_call (xa_cons (xe_var (i := 4) rfl) (xa_cons (xe_fst (xe_mcall (xe_var (i := 0) rfl) (stt_get ok (i := 0) rfl) xa_nil ⟨k0, p0, z3.2, rfl, (stt_get ok (i := 0) rfl), rfl⟩ rfl)) (xa_cons (xe_var (i := 5) rfl) xa_nil))) ⟨z3.1, (z3.2.w, z3.2.c).1, z4.a, z5, rfl, hz5, rfl⟩ cal0)) (chkP_some hz6))) (xt_test (T := T) (xe_eq (xe_neI (xe_var (i := 5) rfl) (xe_mul (chkP_some hz7) (xe_var (i := 1) rfl) (xe_ifF (xt_test (T := T) (xe_isNI (xe_var (i := 2) rfl) xe_non)) (xe_var (i := 2) rfl)))) (neK_ (chkP_some hz8))))) ?_
  show XS (tRet _) _ _ [some (vr p0), some (va T x1), some (va T x2), some (va T z1), some (va T z3.1), some (va T z4.a), some (va T z4.b), some (va T (LF.mk z4.c.l))] (stt Ω [(k0, machA T p0 z3.2)] [])
  obtain ⟨z9, hz9, hm⟩ := bnd_some hm
  obtain ⟨z10, hz10, hm⟩ := bnd_some hm
  obtain ⟨z11, hz11, hm⟩ := bnd_some hm
  obtain rfl := Option.some.inj hm
  refine xs_ret (xe_eq (xe_pkEq (chkP_some hz10) (by decide) (xe_call (xa_cons (xe_var (i := 0) rfl) xa_nil) ⟨k0, p0, z3.2, z9, rfl, (stt_get ok (i := 0) rfl), hz9, rfl⟩ (cal1 ok (i := 0) rfl)) (xe_tup2 (xa_cons (xe_var (i := 6) rfl) (xa_cons (xe_sliceL (xe_var (i := 7) rfl) xo_none (xo_some (T := T) xe_int) isL_LF) xa_nil)))) (chkP_some hz11)) hrt.all
noncomputable def M__law_shaped (x0 : List Int) (x1 : Int) (x2 : Int) : Option (Int × List Int) :=
  (M__law_row x0 x1 x2).bind fun z1 => (chkP (CDivW x2 (2 : Int))).bind fun z2 => (chkP (CShl (1 : Int) x1)).bind fun z3 => (some (x2 / (2 : Int))).bind fun y4 => (some (((1 : Int) * 2 ^ (x1).toNat) - (1 : Int))).bind fun y5 => (M__law_coin z1.2 (7 : Int)).bind fun z6 => (if (decide (z6.1 = (0 : Int))) = true then (chkP ((-(2 ^ 63) ≤ x2 ∧ x2 < 2 ^ 63) ∧ ([y5] : List Int).length * (x2).toNat ≤ sizeLine)).bind fun z7 => (some ((List.replicate (x2).toNat ([y5] : List Int)).flatten)).bind fun y8 => some y8 else if (decide (z6.1 = (1 : Int))) = true then (chkP ((-(2 ^ 63) ≤ (x2 - (1 : Int)) ∧ (x2 - (1 : Int)) < 2 ^ 63) ∧ ([(0 : Int)] : List Int).length * ((x2 - (1 : Int))).toNat ≤ sizeLine)).bind fun z10 => (chkP (((List.replicate ((x2 - (1 : Int))).toNat ([(0 : Int)] : List Int)).flatten).length + ([(1 : Int)] : List Int).length ≤ sizeLine)).bind fun z11 => (some ((List.replicate ((x2 - (1 : Int))).toNat ([(0 : Int)] : List Int)).flatten ++ ([(1 : Int)] : List Int))).bind fun y12 => some y12 else if (decide (z6.1 = (2 : Int))) = true then (chkP ((-(2 ^ 63) ≤ y4 ∧ y4 < 2 ^ 63) ∧ ([(0 : Int)] : List Int).length * (y4).toNat ≤ sizeLine)).bind fun z14 => (chkP (((List.replicate (y4).toNat ([(0 : Int)] : List Int)).flatten).length + (cut z1.1 (some y4) none).length ≤ sizeLine)).bind fun z15 => (some ((List.replicate (y4).toNat ([(0 : Int)] : List Int)).flatten ++ (cut z1.1 (some y4) none))).bind fun y16 => some y16 else if (decide (z6.1 = (3 : Int))) = true then (chkP ((-(2 ^ 63) ≤ ((x2 - y4) - (1 : Int)) ∧ ((x2 - y4) - (1 : Int)) < 2 ^ 63) ∧ ([(0 : Int)] : List Int).length * (((x2 - y4) - (1 : Int))).toNat ≤ sizeLine)).bind fun z18 => (chkP ((cut z1.1 none (some y4)).length + ((List.replicate (((x2 - y4) - (1 : Int))).toNat ([(0 : Int)] : List Int)).flatten).length ≤ sizeLine)).bind fun z19 => (chkP (((cut z1.1 none (some y4)) ++ (List.replicate (((x2 - y4) - (1 : Int))).toNat ([(0 : Int)] : List Int)).flatten).length + (cut z1.1 (some (-(1 : Int))) none).length ≤ sizeLine)).bind fun z20 => (some (((cut z1.1 none (some y4)) ++ (List.replicate (((x2 - y4) - (1 : Int))).toNat ([(0 : Int)] : List Int)).flatten) ++ (cut z1.1 (some (-(1 : Int))) none))).bind fun y21 => some y21 else if (decide (z6.1 = (4 : Int))) = true then (if (decide ((1 : Int) < x2)) = true then (chkP ((-(2 ^ 63) ≤ (x2 - (2 : Int)) ∧ (x2 - (2 : Int)) < 2 ^ 63) ∧ ([(0 : Int)] : List Int).length * ((x2 - (2 : Int))).toNat ≤ sizeLine)).bind fun z23 => (chkP (([(1 : Int)] : List Int).length + ((List.replicate ((x2 - (2 : Int))).toNat ([(0 : Int)] : List Int)).flatten).length ≤ sizeLine)).bind fun z24 => (chkP ((([(1 : Int)] : List Int) ++ (List.replicate ((x2 - (2 : Int))).toNat ([(0 : Int)] : List Int)).flatten).length + ([y5] : List Int).length ≤ sizeLine)).bind fun z25 => some ((([(1 : Int)] : List Int) ++ (List.replicate ((x2 - (2 : Int))).toNat ([(0 : Int)] : List Int)).flatten) ++ ([y5] : List Int)) else some ([y5] : List Int)).bind fun z26 => some z26 else some z1.1).bind fun z30 => (M__law_worth x1 z30).bind fun z31 => some (z31, z6.2)
def Pre__law_shaped (T : TC) : PreT := fun As Ω R => ∃ (k0 : Nat) (p0 : Addr) (x0 : List Int) (x1 : Int) (x2 : Int) (r : Int × List Int), As = [vr p0, va T x1, va T x2] ∧ Ω[k0]? = some (lstA T p0 x0) ∧ M__law_shaped x0 x1 x2 = some r ∧ R = RV (va T r.1) (stt Ω [(k0, lstA T p0 r.2)] [])
theorem sc__law_shaped : FnScope ["_law_purse_here", "_law_bits", "_law_size_here", "_law_row_here", "_law_half", "_law_top", "_law_way"] ["_law_purse_here", "_law_bits", "_law_size_here"] (defScope s__law_shaped) := ⟨rfl, rfl, rfl, by decide +kernel, rfl, by decide +kernel, by decide +kernel⟩
theorem ok__law_shaped {f : Addr} {fd : FuncData} (F : Fun T.K "_law_shaped" "_law_shaped" s__law_shaped f fd) (c__law_row : Cal P w T.K mg base 3 "_law_row" ["_law_purse_here", "_law_bits", "_law_size_here"] (mkSp (Pre__law_row T))) (c__law_coin : Cal P w T.K mg base 1 "_law_coin" ["_law_purse_here", "_law_amount"] (mkSp (Pre__law_coin T))) (c__law_worth : Cal P w T.K mg base 1 "_law_worth" ["_law_bits", "_law_row_here"] (mkSp (Pre__law_worth T))) : FnOk P w T.K mg base CX0 4 f fd ["_law_purse_here", "_law_bits", "_law_size_here"] (mkSp (Pre__law_shaped T)) := by
  refine fn_ok F sc__law_shaped (fun As Ω R h => ?_) (fun cdv A outer s H E hr As Ω R F0 h => ?_)
  · obtain ⟨k0, p0, x0, x1, x2, r, rfl, _⟩ := h
    rfl
  obtain ⟨k0, p0, x0, x1, x2, r, rfl, hk0, hm, rfl⟩ := h
  refine ⟨_, (pss_cons (ps_par3 (i := 3) (j := 4) (l := 5) rfl sc__law_shaped.nd rfl rfl rfl (by decide) (by decide) (by decide) rfl rfl rfl (pa_cons (pe_cal c__law_row (hr.mono (by decide)) (by rfl) (pa_cons (pv 0) (pa_cons (pv 1) (pa_cons (pv 2) pa_nil)))) (pa_cons (pe_op op_fdivW (pv 2) pe_int) (pa_cons (pe_op op_sub (pe_op op_shlW pe_int (pv 1)) pe_int) pa_nil))) (by rfl)) (pss_cons (ps_set (i := 6) sc__law_shaped.nd rfl (.inl rfl) (pe_cal c__law_coin (hr.mono (by decide)) (by rfl) (pa_cons (pv 0) (pa_cons pe_int pa_nil)))) (Evl.pss_cut (ps_if (pt_cmpR (op_eqXK (K := T.K) (by exact hr.units) rfl) (pv 6) pe_int (nomark _)) (pss_one (ps_set (i := 3) sc__law_shaped.nd rfl (.inl rfl) (pe_op op_mulQ (pe_lst (pa_cons (pv 5) pa_nil)) (pv 2)))) (pss_one (ps_if (pt_cmpR (op_eqXK (K := T.K) (by exact hr.units) rfl) (pv 6) pe_int (nomark _)) (pss_one (ps_set (i := 3) sc__law_shaped.nd rfl (.inl rfl) (pe_op op_addQ (pe_op op_mulQ (pe_lst (pa_cons pe_int pa_nil)) (pe_op op_sub (pv 2) pe_int)) (pe_lst (pa_cons pe_int pa_nil))))) (pss_one (ps_if (pt_cmpR (op_eqXK (K := T.K) (by exact hr.units) rfl) (pv 6) pe_int (nomark _)) (pss_one (ps_set (i := 3) sc__law_shaped.nd rfl (.inl rfl) (pe_op op_addQ (pe_op op_mulQ (pe_lst (pa_cons pe_int pa_nil)) (pv 4)) (pe_slice (sl_listK (K := T.K) rfl) (pv 3) (po_some (pv 4)) po_none)))) (pss_one (ps_if (pt_cmpR (op_eqXK (K := T.K) (by exact hr.units) rfl) (pv 6) pe_int (nomark _)) (pss_one (ps_set (i := 3) sc__law_shaped.nd rfl (.inl rfl) (pe_op op_addQ (pe_op op_addQ (pe_slice (sl_listK (K := T.K) rfl) (pv 3) po_none (po_some (pv 4))) (pe_op op_mulQ (pe_lst (pa_cons pe_int pa_nil)) (pe_op op_sub (pe_op op_sub (pv 2) (pv 4)) pe_int))) (pe_slice (sl_listK (K := T.K) rfl) (pv 3) (po_some (pe_un un_neg pe_int)) po_none)))) (pss_one (ps_if (pt_cmpR (op_eqXK (K := T.K) (by exact hr.units) rfl) (pv 6) pe_int (nomark _)) (pss_one (ps_set (i := 3) sc__law_shaped.nd rfl (.inl rfl) (pe_ifExp (pt_cmpR op_gt (pv 2) pe_int (nomark _)) (pe_op op_addQ (pe_op op_addQ (pe_lst (pa_cons pe_int pa_nil)) (pe_op op_mulQ (pe_lst (pa_cons pe_int pa_nil)) (pe_op op_sub (pv 2) pe_int))) (pe_lst (pa_cons (pv 5) pa_nil))) (pe_lst (pa_cons (pv 5) pa_nil))))) pss_nil))))))))) (pss_one (ps_ret (pe_cal c__law_worth (hr.mono (by decide)) (by rfl) (pa_cons (pv 1) (pa_cons (pv 3) pa_nil)))))))), fun D hrt hnx => ?_⟩
  have ok := okk1 hk0
  suffices hx : XS _ D F0 [some (vr p0), some (va T x1), some (va T x2), none, none, none, none] (stt Ω [(k0, lstA T p0 (x0 : List Int))] []) by
    rw [show (stt Ω [(k0, lstA T p0 (x0 : List Int))] []) = Ω from stt_self (by simp [hk0])] at hx
    exact hx
  unfold M__law_shaped at hm
  obtain ⟨z1, hz1, hm⟩ := bnd_some hm
  obtain ⟨z2, hz2, hm⟩ := bnd_some hm
  obtain ⟨z3, hz3, hm⟩ := bnd_some hm
  obtain ⟨y4, hy4, hm⟩ := bnd_some hm
  obtain ⟨y5, hy5, hm⟩ := bnd_some hm
  refine xs_par3 (A := va T (LF.mk z1.1)) (B := va T y4) (C := va T y5) (xa_cons (xe_call (xa_cons (xe_var (i := 0) rfl) (xa_cons (xe_var (i := 1) rfl) (xa_cons (xe_var (i := 2) rfl) xa_nil))) ⟨k0, p0, x0, x1, x2, z1, rfl, (stt_get ok (i := 0) rfl), hz1, rfl⟩ (cal1 ok (i := 0) rfl)) (xa_cons (xe_eq (xe_fdiv (chkP_some hz2) (xe_var (i := 2) rfl) xe_int) (Option.some.inj hy4)) (xa_cons (xe_eq (xe_sub (xe_shl (chkP_some hz3) xe_int (xe_var (i := 1) rfl)) xe_int) (Option.some.inj hy5)) xa_nil))) ?_
  show XS (tSeq _ _) _ _ [some (vr p0), some (va T x1), some (va T x2), some (va T (LF.mk z1.1)), some (va T y4), some (va T y5), none] (stt Ω [(k0, lstA T p0 (z1.2 : List Int))] [])
  obtain ⟨z6, hz6, hm⟩ := bnd_some hm
  refine xs_set (A := va T z6.1) (xe_call (xa_cons (xe_var (i := 0) rfl) (xa_cons xe_int xa_nil)) ⟨k0, p0, z1.2, (7 : Int), z6, rfl, (stt_get ok (i := 0) rfl), hz6, rfl⟩ (cal1 ok (i := 0) rfl)) ?_
  show XS (Evl.tCut _ _) _ _ [some (vr p0), some (va T x1), some (va T x2), some (va T (LF.mk z1.1)), some (va T y4), some (va T y5), some (va T z6.1)] (stt Ω [(k0, lstA T p0 (z6.2 : List Int))] [])
  obtain ⟨z30, hz30, hm⟩ := bnd_some hm
  refine xs_cut (Γ' := [some (vr p0), some (va T x1), some (va T x2), some (va T (LF.mk z30)), some (va T y4), some (va T y5), some (va T z6.1)]) (Ω' := (stt Ω [(k0, lstA T p0 (z6.2 : List Int))] [])) ?_ ?_
  · clear hm
    have hm := hz30
    clear hz30
    by_cases hc : (decide (z6.1 = (0 : Int))) = true
    · rw [if_pos hc] at hm
      refine xs_ifT1 (xt_eq (xt_test (T := T) (xe_eqI (xe_var (i := 6) rfl) xe_int)) hc) ?_
      obtain ⟨z7, hz7, hm⟩ := bnd_some hm
      obtain ⟨y8, hy8, hm⟩ := bnd_some hm
      refine xs_set1 (A := va T (LF.mk y8)) (xe_eq (xe_rep (xe_lst (l := [y5]) (xa_cons (xe_var (i := 5) rfl) xa_nil) (by show 1 ≤ sizeLine; decide)) (xe_var (i := 2) rfl) isLs_LF (chkP_some hz7)) (congrArg LF.mk (Option.some.inj hy8))) ?_
      obtain rfl := Option.some.inj hm
      exact fun σ H n => n
    · rw [if_neg hc] at hm
      refine xs_ifF1 (xt_eq (xt_test (T := T) (xe_eqI (xe_var (i := 6) rfl) xe_int)) (nt hc)) ?_
      by_cases hc : (decide (z6.1 = (1 : Int))) = true
      · rw [if_pos hc] at hm
        refine xs_ifT1 (xt_eq (xt_test (T := T) (xe_eqI (xe_var (i := 6) rfl) xe_int)) hc) ?_
        obtain ⟨z10, hz10, hm⟩ := bnd_some hm
        obtain ⟨z11, hz11, hm⟩ := bnd_some hm
        obtain ⟨y12, hy12, hm⟩ := bnd_some hm
        refine xs_set1 (A := va T (LF.mk y12)) (xe_eq (xe_cat (xe_rep (xe_lst (l := [(0 : Int)]) (xa_cons xe_int xa_nil) (by show 1 ≤ sizeLine; decide)) (xe_sub (xe_var (i := 2) rfl) xe_int) isLs_LF (chkP_some hz10)) (xe_lst (l := [(1 : Int)]) (xa_cons xe_int xa_nil) (by show 1 ≤ sizeLine; decide)) isLs_LF isLs_LF (chkP_some hz11)) (congrArg LF.mk (Option.some.inj hy12))) ?_
        obtain rfl := Option.some.inj hm
        exact fun σ H n => n
      · rw [if_neg hc] at hm
        refine xs_ifF1 (xt_eq (xt_test (T := T) (xe_eqI (xe_var (i := 6) rfl) xe_int)) (nt hc)) ?_
        by_cases hc : (decide (z6.1 = (2 : Int))) = true
        · rw [if_pos hc] at hm
          refine xs_ifT1 (xt_eq (xt_test (T := T) (xe_eqI (xe_var (i := 6) rfl) xe_int)) hc) ?_
          obtain ⟨z14, hz14, hm⟩ := bnd_some hm
          obtain ⟨z15, hz15, hm⟩ := bnd_some hm
          obtain ⟨y16, hy16, hm⟩ := bnd_some hm
          refine xs_set1 (A := va T (LF.mk y16)) (xe_eq (xe_cat (xe_rep (xe_lst (l := [(0 : Int)]) (xa_cons xe_int xa_nil) (by show 1 ≤ sizeLine; decide)) (xe_var (i := 4) rfl) isLs_LF (chkP_some hz14)) (xe_sliceL (xe_var (i := 3) rfl) (xo_some (T := T) (xe_var (i := 4) rfl)) xo_none isL_LF) isLs_LF isLs_LF (chkP_some hz15)) (congrArg LF.mk (Option.some.inj hy16))) ?_
          obtain rfl := Option.some.inj hm
          exact fun σ H n => n
        · rw [if_neg hc] at hm
          refine xs_ifF1 (xt_eq (xt_test (T := T) (xe_eqI (xe_var (i := 6) rfl) xe_int)) (nt hc)) ?_
          by_cases hc : (decide (z6.1 = (3 : Int))) = true
          · rw [if_pos hc] at hm
            refine xs_ifT1 (xt_eq (xt_test (T := T) (xe_eqI (xe_var (i := 6) rfl) xe_int)) hc) ?_
            obtain ⟨z18, hz18, hm⟩ := bnd_some hm
            obtain ⟨z19, hz19, hm⟩ := bnd_some hm
            obtain ⟨z20, hz20, hm⟩ := bnd_some hm
            obtain ⟨y21, hy21, hm⟩ := bnd_some hm
            refine xs_set1 (A := va T (LF.mk y21)) (xe_eq (xe_cat (xe_cat (xe_sliceL (xe_var (i := 3) rfl) xo_none (xo_some (T := T) (xe_var (i := 4) rfl)) isL_LF) (xe_rep (xe_lst (l := [(0 : Int)]) (xa_cons xe_int xa_nil) (by show 1 ≤ sizeLine; decide)) (xe_sub (xe_sub (xe_var (i := 2) rfl) (xe_var (i := 4) rfl)) xe_int) isLs_LF (chkP_some hz18)) isLs_LF isLs_LF (chkP_some hz19)) (xe_sliceL (xe_var (i := 3) rfl) (xo_some (T := T) (xe_neg xe_int)) xo_none isL_LF) isLs_LF isLs_LF (chkP_some hz20)) (congrArg LF.mk (Option.some.inj hy21))) ?_
            obtain rfl := Option.some.inj hm
            exact fun σ H n => n
          · rw [if_neg hc] at hm
            refine xs_ifF1 (xt_eq (xt_test (T := T) (xe_eqI (xe_var (i := 6) rfl) xe_int)) (nt hc)) ?_
            by_cases hc : (decide (z6.1 = (4 : Int))) = true
            · rw [if_pos hc] at hm
              refine xs_ifT1 (xt_eq (xt_test (T := T) (xe_eqI (xe_var (i := 6) rfl) xe_int)) hc) ?_
              obtain ⟨z26, hz26, hm⟩ := bnd_some hm
              refine xs_set1 (A := va T (LF.mk z26)) (show XE _ _ _ (va T (LF.mk z26)) (stt Ω [(k0, lstA T p0 (z6.2 : List Int))] []) from ?q27) ?_
              case q27 =>
                exact (by
                  by_cases hc : (decide ((1 : Int) < x2)) = true
                  · rw [if_pos hc] at hz26
                    obtain ⟨z23, hz23, hz26⟩ := bnd_some hz26
                    obtain ⟨z24, hz24, hz26⟩ := bnd_some hz26
                    obtain ⟨z25, hz25, hz26⟩ := bnd_some hz26
                    obtain rfl := Option.some.inj hz26
                    exact xe_ifT (xt_eq (xt_test (T := T) (xe_gt (xe_var (i := 2) rfl) xe_int)) hc) (xe_cat (xe_cat (xe_lst (l := [(1 : Int)]) (xa_cons xe_int xa_nil) (by show 1 ≤ sizeLine; decide)) (xe_rep (xe_lst (l := [(0 : Int)]) (xa_cons xe_int xa_nil) (by show 1 ≤ sizeLine; decide)) (xe_sub (xe_var (i := 2) rfl) xe_int) isLs_LF (chkP_some hz23)) isLs_LF isLs_LF (chkP_some hz24)) (xe_lst (l := [y5]) (xa_cons (xe_var (i := 5) rfl) xa_nil) (by show 1 ≤ sizeLine; decide)) isLs_LF isLs_LF (chkP_some hz25))
                  · rw [if_neg hc] at hz26
                    obtain rfl := Option.some.inj hz26
                    exact xe_ifF (xt_eq (xt_test (T := T) (xe_gt (xe_var (i := 2) rfl) xe_int)) (nt hc)) (xe_lst (l := [y5]) (xa_cons (xe_var (i := 5) rfl) xa_nil) (by show 1 ≤ sizeLine; decide)))
              obtain rfl := Option.some.inj hm
              exact fun σ H n => n
            · rw [if_neg hc] at hm
              refine xs_ifF1 (xt_eq (xt_test (T := T) (xe_eqI (xe_var (i := 6) rfl) xe_int)) (nt hc)) ?_
              obtain rfl := Option.some.inj hm
              exact fun σ H n => n
  · obtain ⟨z31, hz31, hm⟩ := bnd_some hm
    obtain rfl := Option.some.inj hm
    refine xs_ret (xe_call (xa_cons (xe_var (i := 1) rfl) (xa_cons (xe_var (i := 3) rfl) xa_nil)) ⟨x1, z30, z31, rfl, hz31, rfl⟩ cal0) hrt.all
noncomputable def M__law_right__o1 (x0 : MS) (x1 : Int) (x2 : Unit) : Option (Bool × MS) :=
  (M_big x0 x1).bind fun z1 => (M_square x0.reset z1).bind fun z2 => (M__law_due__o1 z2.2 x1 x2).bind fun z3 => (M__law_is z2.1 ((z2.2.w, z2.2.c).1) z3.a).bind fun z4 => (chkP (z4 = true)).bind fun z5 => (chkP (IntMulOk x1 x1)).bind fun z6 => (chkP (z3.a = (x1 * x1))).bind fun z7 => (M__law_counted z2.2).bind fun z8 => (chkP (sameD z8.1.1.l (z3.b, (LF.mk (cut z3.c.l none (some (1000 : Int))))).1.l ∧ z8.1.2 = (z3.b, (LF.mk (cut z3.c.l none (some (1000 : Int))))).2 ∧ Dat.ok z8.1.2)).bind fun z9 => (chkP (true = true)).bind fun z10 => some (true, z8.2)
def Pre__law_right__o1 (T : TC) : PreT := fun As Ω R => ∃ (k0 : Nat) (p0 : Addr) (x0 : MS) (x1 : Int) (x2 : Unit) (r : Bool × MS), As = [vr p0, va T x1, va T x2] ∧ Ω[k0]? = some (machA T p0 x0) ∧ M__law_right__o1 x0 x1 x2 = some r ∧ R = RV (va T r.1) (stt Ω [(k0, machA T p0 r.2)] [])
theorem sc__law_right__o1 : FnScope ["_law_engine", "_law_p", "_law_q", "_law_left", "_law_got", "_law_due_here", "_law_counts", "_law_walk"] ["_law_engine", "_law_p", "_law_q"] (defScope s__law_right__o1) := ⟨rfl, rfl, rfl, by decide +kernel, rfl, by decide +kernel, by decide +kernel⟩
theorem ok__law_right__o1 {f : Addr} {fd : FuncData} (F : Fun T.K "_law_right" "_law_right" s__law_right__o1 f fd) (c_big : Cal P w T.K mg base 23 "big" ["machine", "n"] (mkSp (Pre_big T))) (mc : MCls T.K (T.C 0)) (c_Mach_reset : CalM P w T.K mg base 1 (T.C 0) "reset" ["self"] (mkSp (Pre_Mach_reset T))) (c_square : Cal P w T.K mg base 26 "square" ["machine", "x"] (mkSp (Pre_square T))) (c__law_due__o1 : Cal P w T.K mg base 94 "_law_due" ["_law_engine", "_law_p", "_law_q"] (mkSp (Pre__law_due__o1 T))) (c_Mach_parts : CalM P w T.K mg base 1 (T.C 0) "parts" ["self"] (mkSp (Pre_Mach_parts T))) (c__law_is : Cal P w T.K mg base 3 "_law_is" ["_law_held", "_law_bits", "_law_n"] (mkSp (Pre__law_is T))) (c__law_counted : Cal P w T.K mg base 2 "_law_counted" ["_law_engine"] (mkSp (Pre__law_counted T))) : FnOk P w T.K mg base CX0 95 f fd ["_law_engine", "_law_p", "_law_q"] (mkSp (Pre__law_right__o1 T)) := by
  refine fn_ok F sc__law_right__o1 (fun As Ω R h => ?_) (fun cdv A outer s H E hr As Ω R F0 h => ?_)
  · obtain ⟨k0, p0, x0, x1, x2, r, rfl, _⟩ := h
    rfl
  obtain ⟨k0, p0, x0, x1, x2, r, rfl, hk0, hm, rfl⟩ := h
  refine ⟨_, (pss_cons (ps_set (i := 3) sc__law_right__o1.nd rfl (.inl rfl) (pe_cal c_big (hr.mono (by decide)) (by rfl) (pa_cons (pv 0) (pa_cons (pv 1) pa_nil)))) (pss_cons (ps_expr (pe_calM0 (pv 0) c_Mach_reset (hr.mono (by decide)))) (pss_cons (ps_set (i := 4) sc__law_right__o1.nd rfl (.inl rfl) (pe_ifExp (pt_cmpR op_isNo (pv 2) pe_non (nomark _)) (pe_cal c_square (hr.mono (by decide)) (by rfl) (pa_cons (pv 0) (pa_cons (pv 3) pa_nil))) pe_no)) (pss_cons (ps_asg (pe_cal c__law_due__o1 (hr.mono (by decide)) (by rfl) (pa_cons (pv 0) (pa_cons (pv 1) (pa_cons (pv 2) pa_nil)))) (pg_tupK (K := T.K) (n := 3) rfl rfl (pgs_cons (pg_name (i := 5) sc__law_right__o1.nd rfl (.inl rfl)) (pgs_cons (pg_name (i := 6) sc__law_right__o1.nd rfl (.inl rfl)) (pgs_cons (pg_name (i := 7) sc__law_right__o1.nd rfl (.inl rfl)) pgs_nil))))) (pss_cons (ps_if (PW.pt (pw_or (pt_not (pt_val (pe_cal c__law_is (hr.mono (by decide)) (by rfl) (pa_cons (pv 4) (pa_cons (pe_ix (ix_seqK (K := T.K) rfl) (pe_calM0 (pv 0) c_Mach_parts (hr.mono (by decide))) pe_int (by intro _ _; rfl)) (pa_cons (pv 5) pa_nil)))))) (pw_or1 (pt_cmpR (op_neXK (K := T.K) (by exact hr.units) rfl) (pv 5) (pe_op op_mulQ (pv 1) (pe_ifExp (pt_cmpR op_isNo (pv 2) pe_non (nomark _)) (pv 1) pe_no)) (nomark _))))) pss_never pss_nil) (pss_one (ps_ret (pe_cmpR (op_pkEqK (K := T.K) rfl (by exact hr.units)) (pe_cal c__law_counted (hr.mono (by decide)) (by rfl) (pa_cons (pv 0) pa_nil)) (pe_tup (pa_cons (pv 6) (pa_cons (pe_slice (sl_listK (K := T.K) rfl) (pv 7) po_none (po_some pe_int)) pa_nil))) (nomark _))))))))), fun D hrt hnx => ?_⟩
  have ok := okk1 hk0
  suffices hx : XS _ D F0 [some (vr p0), some (va T x1), some (va T x2), none, none, none, none, none] (stt Ω [(k0, machA T p0 x0)] []) by
    rw [show (stt Ω [(k0, machA T p0 x0)] []) = Ω from stt_self (by simp [hk0])] at hx
    exact hx
  unfold M__law_right__o1 at hm
  obtain ⟨z1, hz1, hm⟩ := bnd_some hm
  refine xs_set (A := va T z1) (xe_call (xa_cons (xe_var (i := 0) rfl) (xa_cons (xe_var (i := 1) rfl) xa_nil)) ⟨k0, p0, x0, x1, z1, rfl, (stt_get ok (i := 0) rfl), hz1, rfl⟩ cal0) ?_
  show XS (tSeq _ _) _ _ [some (vr p0), some (va T x1), some (va T x2), some (va T z1), none, none, none, none] (stt Ω [(k0, machA T p0 x0)] [])
  refine xs_drop (xe_mcall (xe_var (i := 0) rfl) (stt_get ok (i := 0) rfl) xa_nil ⟨k0, p0, x0, rfl, (stt_get ok (i := 0) rfl), rfl⟩ (cal1 ok (i := 0) rfl)) ?_
  show XS (tSeq _ _) _ _ [some (vr p0), some (va T x1), some (va T x2), some (va T z1), none, none, none, none] (stt Ω [(k0, machA T p0 x0.reset)] [])
  obtain ⟨z2, hz2, hm⟩ := bnd_some hm
  refine xs_set (A := va T z2.1) (xe_ifT (xt_test (T := T) (xe_isNU (xe_var (i := 2) rfl) xe_non)) (xe_call (xa_cons (xe_var (i := 0) rfl) (xa_cons (xe_var (i := 3) rfl) xa_nil)) ⟨k0, p0, x0.reset, z1, z2, rfl, (stt_get ok (i := 0) rfl), hz2, rfl⟩ (cal1 ok (i := 0) rfl))) ?_
  show XS (tSeq _ _) _ _ [some (vr p0), some (va T x1), some (va T x2), some (va T z1), some (va T z2.1), none, none, none] (stt Ω [(k0, machA T p0 z2.2)] [])
  obtain ⟨z3, hz3, hm⟩ := bnd_some hm
  refine xs_asgG (xe_call (xa_cons (xe_var (i := 0) rfl) (xa_cons (xe_var (i := 1) rfl) (xa_cons (xe_var (i := 2) rfl) xa_nil))) ⟨k0, p0, z2.2, x1, x2, z3, rfl, (stt_get ok (i := 0) rfl), hz3, rfl⟩ cal0) tgt_triple ?_
  show XS (tSeq _ _) _ _ [some (vr p0), some (va T x1), some (va T x2), some (va T z1), some (va T z2.1), some (va T z3.a), some (va T z3.b), some (va T (LF.mk z3.c.l))] (stt Ω [(k0, machA T p0 z2.2)] [])
  obtain ⟨z4, hz4, hm⟩ := bnd_some hm
  obtain ⟨z5, hz5, hm⟩ := bnd_some hm
  obtain ⟨z6, hz6, hm⟩ := bnd_some hm
  obtain ⟨z7, hz7, hm⟩ := bnd_some hm
  refine xs_ifN (xt_orF (xt_notF (xt_eq (xt_tB (T := T) (xe_call (xa_cons (xe_var (i := 4) rfl) (xa_cons (xe_fst (xe_mcall (xe_var (i := 0) rfl) (stt_get ok (i := 0) rfl) xa_nil ⟨k0, p0, z2.2, rfl, (stt_get ok (i := 0) rfl), rfl⟩ rfl)) (xa_cons (xe_var (i := 5) rfl) xa_nil))) ⟨z2.1, (z2.2.w, z2.2.c).1, z3.a, z4, rfl, hz4, rfl⟩ cal0)) (chkP_some hz5))) (xt_test (T := T) (xe_eq (xe_neI (xe_var (i := 5) rfl) (xe_mul (chkP_some hz6) (xe_var (i := 1) rfl) (xe_ifT (xt_test (T := T) (xe_isNU (xe_var (i := 2) rfl) xe_non)) (xe_var (i := 1) rfl)))) (neK_ (chkP_some hz7))))) ?_
  show XS (tRet _) _ _ [some (vr p0), some (va T x1), some (va T x2), some (va T z1), some (va T z2.1), some (va T z3.a), some (va T z3.b), some (va T (LF.mk z3.c.l))] (stt Ω [(k0, machA T p0 z2.2)] [])
  obtain ⟨z8, hz8, hm⟩ := bnd_some hm
  obtain ⟨z9, hz9, hm⟩ := bnd_some hm
  obtain ⟨z10, hz10, hm⟩ := bnd_some hm
  obtain rfl := Option.some.inj hm
  refine xs_ret (xe_eq (xe_pkEq (chkP_some hz9) (by decide) (xe_call (xa_cons (xe_var (i := 0) rfl) xa_nil) ⟨k0, p0, z2.2, z8, rfl, (stt_get ok (i := 0) rfl), hz8, rfl⟩ (cal1 ok (i := 0) rfl)) (xe_tup2 (xa_cons (xe_var (i := 6) rfl) (xa_cons (xe_sliceL (xe_var (i := 7) rfl) xo_none (xo_some (T := T) xe_int) isL_LF) xa_nil)))) (chkP_some hz10)) hrt.all
noncomputable def M_law (x0 : List Int) : Option Bool :=
  (chkP ((cut x0 none (some (3 : Int))).length + ([(0 : Int)] : List Int).length ≤ sizeLine)).bind fun z1 => (forM' (ρ := Unit) (fun (a3 : Int) (s2 : Unit) => (M__law_purse a3).bind fun z4 => (chkP (-(2 ^ 62) ≤ (4 : Int) ∧ (4 : Int) < 2 ^ 62)).bind fun z7 => (forM' (ρ := Unit) (fun (a9 : Int) (s8 : (List Int)) => (M__law_coin s8 (23 : Int)).bind fun z10 => (M__law_pick z10.2 ([(8 : Int), (15 : Int), (30 : Int), ((8 : Int) + z10.1)] : List Int)).bind fun z11 => (M__law_pick z11.2 ([(3 : Int), (9 : Int), (29 : Int), (if (decide (a9 = (0 : Int))) = true then (199 : Int) else (29 : Int))] : List Int)).bind fun z12 => (M__law_coin z12.2 z12.1).bind fun z13 => (some ((2 : Int) + z13.1)).bind fun y14 => (chkP ((8 ≤ z11.1 ∧ z11.1 ≤ 30) ∧ 2 ≤ y14 ∧ y14 ≤ 1000)).bind fun z15 => (some (MS.fresh z11.1 y14)).bind fun y16 => (some ([(y14 - (1 : Int)), y14, (y14 + (1 : Int)), (y14 + (2 : Int))] : List Int)).bind fun y19 => (M__law_pick z13.2 y19).bind fun z20 => (chkP (IntMulOk (2 : Int) z20.1)).bind fun z21 => (chkP (IntMulOk (2 : Int) z20.1)).bind fun z22 => (chkP (IntMulOk (2 : Int) z20.1)).bind fun z23 => (chkP (IntMulOk (2 : Int) y14)).bind fun z24 => (chkP (IntMulOk (2 : Int) y14)).bind fun z25 => (chkP (y19.length + ([(((2 : Int) * z20.1) - (1 : Int)), ((2 : Int) * z20.1), (((2 : Int) * z20.1) + (1 : Int)), ((2 : Int) * y14), (((2 : Int) * y14) + (1 : Int))] : List Int).length ≤ sizeLine)).bind fun z26 => (M__law_pick z20.2 (y19 ++ ([(((2 : Int) * z20.1) - (1 : Int)), ((2 : Int) * z20.1), (((2 : Int) * z20.1) + (1 : Int)), ((2 : Int) * y14), (((2 : Int) * y14) + (1 : Int))] : List Int))).bind fun z27 => (M__law_shaped z27.2 z11.1 z20.1).bind fun z28 => (M__law_pick z28.2 ([(1 : Int), (-(1 : Int))] : List Int)).bind fun z29 => (chkP (IntMulOk z28.1 z29.1)).bind fun z30 => (some (z28.1 * z29.1)).bind fun y31 => (M__law_shaped z29.2 z11.1 (max (1 : Int) z27.1)).bind fun z32 => (M__law_pick z32.2 ([(1 : Int), (-(1 : Int))] : List Int)).bind fun z33 => (chkP (IntMulOk z32.1 z33.1)).bind fun z34 => (some (z32.1 * z33.1)).bind fun y35 => (M__law_right y16 y31 y35).bind fun z36 => (chkP (z36.1 = true)).bind fun z37 => (M__law_right z36.2 y35 y31).bind fun z38 => (chkP (z38.1 = true)).bind fun z39 => (M__law_right__o1 z38.2 y35 ()).bind fun z40 => (chkP (z40.1 = true)).bind fun z41 => (chkP (IntMulOk (2 : Int) y14)).bind fun z42 => (M__law_pick z33.2 ([(-(1 : Int)), (0 : Int), (1 : Int), (2 : Int), (3 : Int)] : List Int)).bind fun z43 => (some (((2 : Int) * y14) + z43.1)).bind fun y44 => (M__law_shaped z43.2 z11.1 y44).bind fun z45 => (M__law_right__o1 z40.2 z45.1 ()).bind fun z46 => (chkP (z46.1 = true)).bind fun z47 => some (Stp.nx z45.2)) (rng 0 ((4 : Int)).toNat) z4).bind fun z48 => (nxt z48).bind fun s49 => some (Stp.nx ())) ((cut x0 none (some (3 : Int))) ++ ([(0 : Int)] : List Int)) ()).bind fun z50 => (nxt z50).bind fun s51 => some true
def Pre_law (T : TC) : PreT := fun As Ω R => ∃ (x0 : List Int) (r : Bool), As = [va T (SF.mk x0)] ∧ M_law x0 = some r ∧ R = RV (va T r) (stt Ω [] [])
theorem sc_law : FnScope ["_law_script", "_law_cell", "_law_purse_here", "_law_turn", "_law_bits", "_law_cutoff", "_law_engine", "_law_sizes", "_law_m", "_law_n", "_law_p", "_law_q", "_law_size_here"] ["_law_script"] (defScope s_law) := ⟨rfl, rfl, rfl, by decide +kernel, rfl, by decide +kernel, by decide +kernel⟩
theorem ok_law {f : Addr} {fd : FuncData} (F : Fun T.K "law" "law" s_law f fd) (c__law_purse : Cal P w T.K mg base 1 "_law_purse" ["_law_cell"] (mkSp (Pre__law_purse T))) (z_range : mg "range" = none) (c__law_coin : Cal P w T.K mg base 1 "_law_coin" ["_law_purse_here", "_law_amount"] (mkSp (Pre__law_coin T))) (c__law_pick : Cal P w T.K mg base 2 "_law_pick" ["_law_purse_here", "_law_some"] (mkSp (Pre__law_pick T))) (c_Machine2 : CalC P w T.K mg base 3 "Machine" (T.C 0) ["self", "bits", "cutoff"] [] (mkSp (Pre_Machine T))) (c__law_shaped : Cal P w T.K mg base 4 "_law_shaped" ["_law_purse_here", "_law_bits", "_law_size_here"] (mkSp (Pre__law_shaped T))) (z_max : mg "max" = none) (c__law_right : Cal P w T.K mg base 95 "_law_right" ["_law_engine", "_law_p", "_law_q"] (mkSp (Pre__law_right T))) (c__law_right__o1 : Cal P w T.K mg base 95 "_law_right" ["_law_engine", "_law_p", "_law_q"] (mkSp (Pre__law_right__o1 T))) : FnOk P w T.K mg base CX0 96 f fd ["_law_script"] (mkSp (Pre_law T)) := by
  refine fn_ok F sc_law (fun As Ω R h => ?_) (fun cdv A outer s H E hr As Ω R F0 h => ?_)
  · obtain ⟨x0, r, rfl, _⟩ := h
    rfl
  obtain ⟨x0, r, rfl, hm, rfl⟩ := h
  refine ⟨_, (pss_cons (ps_for PassesOwn.never rfl (pi_listK (K := T.K) (pe_op op_addQ (pe_slice (sl_listK (K := T.K) rfl) (pv 0) po_none (po_some pe_int)) (pe_lst (pa_cons pe_int pa_nil))) rfl) (pg_name (i := 1) sc_law.nd rfl (.inl rfl)) (pss_cons (ps_set (i := 2) sc_law.nd rfl (.inl rfl) (pe_cal c__law_purse (hr.mono (by decide)) (by rfl) (pa_cons (pv 1) pa_nil))) (pss_one (ps_for PassesOwn.never rfl (pi_range1 rfl z_range (pa_cons pe_int pa_nil)) (pg_name (i := 3) sc_law.nd rfl (.inl rfl)) (pss_cons (ps_set (i := 4) sc_law.nd rfl (.inl rfl) (pe_cal c__law_pick (hr.mono (by decide)) (by rfl) (pa_cons (pv 2) (pa_cons (pe_lst (pa_cons pe_int (pa_cons pe_int (pa_cons pe_int (pa_cons (pe_op op_addQ pe_int (pe_cal c__law_coin (hr.mono (by decide)) (by rfl) (pa_cons (pv 2) (pa_cons pe_int pa_nil)))) pa_nil))))) pa_nil)))) (pss_cons (ps_set (i := 5) sc_law.nd rfl (.inl rfl) (pe_op op_addQ pe_int (pe_cal c__law_coin (hr.mono (by decide)) (by rfl) (pa_cons (pv 2) (pa_cons (pe_cal c__law_pick (hr.mono (by decide)) (by rfl) (pa_cons (pv 2) (pa_cons (pe_lst (pa_cons pe_int (pa_cons pe_int (pa_cons pe_int (pa_cons (pe_ifExp (pt_cmpR (op_eqXK (K := T.K) (by exact hr.units) rfl) (pv 3) pe_int (nomark _)) pe_int pe_int) pa_nil))))) pa_nil))) pa_nil))))) (pss_cons (ps_par (i := 6) (j := 7) rfl sc_law.nd rfl rfl (by decide) rfl rfl (pa_cons (pe_calC c_Machine2 (hr.mono (by decide)) (by rfl) (pa_cons (pv 4) (pa_cons (pv 5) pa_nil))) (pa_cons (pe_lst (pa_cons (pe_op op_sub (pv 5) pe_int) (pa_cons (pv 5) (pa_cons (pe_op op_addQ (pv 5) pe_int) (pa_cons (pe_op op_addQ (pv 5) pe_int) pa_nil))))) pa_nil)) (by rfl)) (pss_cons (ps_set (i := 8) sc_law.nd rfl (.inl rfl) (pe_cal c__law_pick (hr.mono (by decide)) (by rfl) (pa_cons (pv 2) (pa_cons (pv 7) pa_nil)))) (pss_cons (ps_set (i := 9) sc_law.nd rfl (.inl rfl) (pe_cal c__law_pick (hr.mono (by decide)) (by rfl) (pa_cons (pv 2) (pa_cons (pe_op op_addQ (pv 7) (pe_lst (pa_cons (pe_op op_sub (pe_op op_mulQ pe_int (pv 8)) pe_int) (pa_cons (pe_op op_mulQ pe_int (pv 8)) (pa_cons (pe_op op_addQ (pe_op op_mulQ pe_int (pv 8)) pe_int) (pa_cons (pe_op op_mulQ pe_int (pv 5)) (pa_cons (pe_op op_addQ (pe_op op_mulQ pe_int (pv 5)) pe_int) pa_nil))))))) pa_nil)))) (pss_cons (ps_set (i := 10) sc_law.nd rfl (.inl rfl) (pe_op op_mulQ (pe_cal c__law_shaped (hr.mono (by decide)) (by rfl) (pa_cons (pv 2) (pa_cons (pv 4) (pa_cons (pv 8) pa_nil)))) (pe_cal c__law_pick (hr.mono (by decide)) (by rfl) (pa_cons (pv 2) (pa_cons (pe_lst (pa_cons pe_int (pa_cons (pe_un un_neg pe_int) pa_nil))) pa_nil))))) (pss_cons (ps_set (i := 11) sc_law.nd rfl (.inl rfl) (pe_op op_mulQ (pe_cal c__law_shaped (hr.mono (by decide)) (by rfl) (pa_cons (pv 2) (pa_cons (pv 4) (pa_cons (pe_callB (cr_max2 rfl) (by rfl) z_max (by decide +kernel) (pa_cons pe_int (pa_cons (pv 9) pa_nil))) pa_nil)))) (pe_cal c__law_pick (hr.mono (by decide)) (by rfl) (pa_cons (pv 2) (pa_cons (pe_lst (pa_cons pe_int (pa_cons (pe_un un_neg pe_int) pa_nil))) pa_nil))))) (pss_cons (ps_if (PW.pt (pw_or (pt_not (pt_val (pe_cal c__law_right (hr.mono (by decide)) (by rfl) (pa_cons (pv 6) (pa_cons (pv 10) (pa_cons (pv 11) pa_nil)))))) (pw_or (pt_not (pt_val (pe_cal c__law_right (hr.mono (by decide)) (by rfl) (pa_cons (pv 6) (pa_cons (pv 11) (pa_cons (pv 10) pa_nil)))))) (pw_or1 (pt_not (pt_val (pe_cal c__law_right__o1 (hr.mono (by decide)) (by rfl) (pa_cons (pv 6) (pa_cons (pv 11) (pa_cons pe_non pa_nil)))))))))) pss_never pss_nil) (pss_cons (ps_set (i := 12) sc_law.nd rfl (.inl rfl) (pe_op op_addQ (pe_op op_mulQ pe_int (pv 5)) (pe_cal c__law_pick (hr.mono (by decide)) (by rfl) (pa_cons (pv 2) (pa_cons (pe_lst (pa_cons (pe_un un_neg pe_int) (pa_cons pe_int (pa_cons pe_int (pa_cons pe_int (pa_cons pe_int pa_nil)))))) pa_nil))))) (pss_one (ps_if (pt_not (pt_val (pe_cal c__law_right__o1 (hr.mono (by decide)) (by rfl) (pa_cons (pv 6) (pa_cons (pe_cal c__law_shaped (hr.mono (by decide)) (by rfl) (pa_cons (pv 2) (pa_cons (pv 4) (pa_cons (pv 12) pa_nil)))) (pa_cons pe_non pa_nil)))))) pss_never pss_nil))))))))))))))) (pss_one (ps_ret pe_bl))), fun D hrt hnx => ?_⟩
  have ok : Okk Ω [] := okk0
  suffices hx : XS _ D F0 [some (va T (SF.mk x0)), none, none, none, none, none, none, none, none, none, none, none, none] (stt Ω [] []) by
    rw [show (stt Ω [] []) = Ω from stt_self (by simp)] at hx
    exact hx
  unfold M_law at hm
  obtain ⟨z1, hz1, hm⟩ := bnd_some hm
  obtain ⟨z50, hz50, hm⟩ := bnd_some hm
  refine xs_forS (fun (s2 : Unit) => [some (va T (SF.mk x0)), none, none, none, none, none, none, none, none, none, none, none, none]) (fun (s2 : Unit) => (stt Ω [] [])) (fun (_ : Unit) _ _ _ => False) hz50 (xi_LF (xe_cat (xe_sliceL (xe_var (i := 0) rfl) xo_none (xo_some (T := T) xe_int) isL_SF) (xe_lst (l := [(0 : Int)]) (xa_cons xe_int xa_nil) (by show 1 ≤ sizeLine; decide)) isLs_LF isLs_LF (chkP_some hz1))) (fun _ => tgt_name) (fun a3 s2 s' ha hm F1 D1 e1 hD => ?_) (fun s51 es => ?_) (fun r1 es => ?_)
  · show XS (tSeq _ _) _ _ [some (va T (SF.mk x0)), some (va T a3), none, none, none, none, none, none, none, none, none, none, none] (stt Ω [] [])
    obtain ⟨z4, hz4, hm⟩ := bnd_some hm
    refine xs_setO (xn_call (xa_cons (xe_var (i := 1) rfl) xa_nil) ⟨a3, z4, rfl, hz4, rfl⟩ cal0) (fun pp5 => ?_)
    show XS (tFor _ _ _) _ _ [some (va T (SF.mk x0)), some (va T a3), some (vr pp5), none, none, none, none, none, none, none, none, none, none] (stt Ω [] [lstA T pp5 (z4 : List Int)])
    obtain ⟨z7, hz7, hm⟩ := bnd_some hm
    obtain ⟨z48, hz48, hm⟩ := bnd_some hm
    refine xs_for (fun (s8 : (List Int)) => [some (va T (SF.mk x0)), some (va T a3), some (vr pp5), none, none, none, none, none, none, none, none, none, none]) (fun (s8 : (List Int)) => (stt Ω [] [lstA T pp5 (s8 : List Int)])) (fun (_ : Unit) _ _ _ => False) hz48 (xi_range1 (T := T) (xa_cons xe_int xa_nil) (chkP_some hz7).1 (chkP_some hz7).2) (fun _ => tgt_name) (fun a9 s8 s' ha hm F1 D1 e1 hD => ?_) (fun s49 es => ?_) (fun r1 es => ?_)
    · show XS (tSeq _ _) _ _ [some (va T (SF.mk x0)), some (va T a3), some (vr pp5), some (va T a9), none, none, none, none, none, none, none, none, none] (stt Ω [] [lstA T pp5 (s8 : List Int)])
      obtain ⟨z10, hz10, hm⟩ := bnd_some hm
      obtain ⟨z11, hz11, hm⟩ := bnd_some hm
      refine xs_set (A := va T z11.1) (xe_call (xa_cons (xe_var (i := 2) rfl) (xa_cons (xe_lst (l := [(8 : Int), (15 : Int), (30 : Int), ((8 : Int) + z10.1)]) (xa_cons xe_int (xa_cons xe_int (xa_cons xe_int (xa_cons (xe_add xe_int (xe_call (xa_cons (xe_var (i := 2) rfl) (xa_cons xe_int xa_nil)) ⟨(Ω.length + 0), pp5, s8, (23 : Int), z10, rfl, (stt_getL (j := 0) rfl), hz10, rfl⟩ (cal1L (j := 0)))) xa_nil)))) (by show 4 ≤ sizeLine; decide)) xa_nil)) ⟨(Ω.length + 0), pp5, z10.2, ([(8 : Int), (15 : Int), (30 : Int), ((8 : Int) + z10.1)] : List Int), z11, rfl, (stt_getL (j := 0) rfl), hz11, rfl⟩ (cal1L (j := 0))) ?_
      show XS (tSeq _ _) _ _ [some (va T (SF.mk x0)), some (va T a3), some (vr pp5), some (va T a9), some (va T z11.1), none, none, none, none, none, none, none, none] (stt Ω [] [lstA T pp5 (z11.2 : List Int)])
      obtain ⟨z12, hz12, hm⟩ := bnd_some hm
      obtain ⟨z13, hz13, hm⟩ := bnd_some hm
      obtain ⟨y14, hy14, hm⟩ := bnd_some hm
      refine xs_set (A := va T y14) (xe_eq (xe_add xe_int (xe_call (xa_cons (xe_var (i := 2) rfl) (xa_cons (xe_call (xa_cons (xe_var (i := 2) rfl) (xa_cons (xe_lst (l := [(3 : Int), (9 : Int), (29 : Int), (if (decide (a9 = (0 : Int))) = true then (199 : Int) else (29 : Int))]) (xa_cons xe_int (xa_cons xe_int (xa_cons xe_int (xa_cons (xe_ite (xt_test (T := T) (xe_eqI (xe_var (i := 3) rfl) xe_int)) xe_int xe_int) xa_nil)))) (by show 4 ≤ sizeLine; decide)) xa_nil)) ⟨(Ω.length + 0), pp5, z11.2, ([(3 : Int), (9 : Int), (29 : Int), (if (decide (a9 = (0 : Int))) = true then (199 : Int) else (29 : Int))] : List Int), z12, rfl, (stt_getL (j := 0) rfl), hz12, rfl⟩ (cal1L (j := 0))) xa_nil)) ⟨(Ω.length + 0), pp5, z12.2, z12.1, z13, rfl, (stt_getL (j := 0) rfl), hz13, rfl⟩ (cal1L (j := 0)))) (Option.some.inj hy14)) ?_
      show XS (tSeq _ _) _ _ [some (va T (SF.mk x0)), some (va T a3), some (vr pp5), some (va T a9), some (va T z11.1), some (va T y14), none, none, none, none, none, none, none] (stt Ω [] [lstA T pp5 (z13.2 : List Int)])
      obtain ⟨z15, hz15, hm⟩ := bnd_some hm
      obtain ⟨y16, hy16, hm⟩ := bnd_some hm
      obtain ⟨y19, hy19, hm⟩ := bnd_some hm
      obtain rfl := Option.some.inj hy16
      refine xs_parNV (A := va T (LF.mk y19)) (xn_make (Ds := []) (xa_cons (xe_var (i := 4) rfl) (xa_cons (xe_var (i := 5) rfl) xa_nil)) (fun _ => .nil) (fun q => ⟨_, q, z11.1, y14, rfl, chkP_some hz15, rfl, rfl⟩)) (fun pp17 => (xe_eq (xe_lst (l := [(y14 - (1 : Int)), y14, (y14 + (1 : Int)), (y14 + (2 : Int))]) (xa_cons (xe_sub (xe_var (i := 5) rfl) xe_int) (xa_cons (xe_var (i := 5) rfl) (xa_cons (xe_add (xe_var (i := 5) rfl) xe_int) (xa_cons (xe_add (xe_var (i := 5) rfl) xe_int) xa_nil)))) (by show 4 ≤ sizeLine; decide)) (congrArg LF.mk (Option.some.inj hy19)))) (fun pp17 => ?_)
      show XS (tSeq _ _) _ _ [some (va T (SF.mk x0)), some (va T a3), some (vr pp5), some (va T a9), some (va T z11.1), some (va T y14), some (vr pp17), some (va T (LF.mk y19)), none, none, none, none, none] (stt Ω [] [lstA T pp5 (z13.2 : List Int), machA T pp17 (MS.fresh z11.1 y14)])
      obtain ⟨z20, hz20, hm⟩ := bnd_some hm
      refine xs_set (A := va T z20.1) (xe_call (xa_cons (xe_var (i := 2) rfl) (xa_cons (xe_var (i := 7) rfl) xa_nil)) ⟨(Ω.length + 0), pp5, z13.2, y19, z20, rfl, (stt_getL (j := 0) rfl), hz20, rfl⟩ (cal1L (j := 0))) ?_
      show XS (tSeq _ _) _ _ [some (va T (SF.mk x0)), some (va T a3), some (vr pp5), some (va T a9), some (va T z11.1), some (va T y14), some (vr pp17), some (va T (LF.mk y19)), some (va T z20.1), none, none, none, none] (stt Ω [] [lstA T pp5 (z20.2 : List Int), machA T pp17 (MS.fresh z11.1 y14)])
      obtain ⟨z21, hz21, hm⟩ := bnd_some hm
      obtain ⟨z22, hz22, hm⟩ := bnd_some hm
      obtain ⟨z23, hz23, hm⟩ := bnd_some hm
      obtain ⟨z24, hz24, hm⟩ := bnd_some hm
      obtain ⟨z25, hz25, hm⟩ := bnd_some hm
      obtain ⟨z26, hz26, hm⟩ := bnd_some hm
      obtain ⟨z27, hz27, hm⟩ := bnd_some hm
      refine xs_set (A := va T z27.1) (xe_call (xa_cons (xe_var (i := 2) rfl) (xa_cons (xe_cat (xe_var (i := 7) rfl) (xe_lst (l := [(((2 : Int) * z20.1) - (1 : Int)), ((2 : Int) * z20.1), (((2 : Int) * z20.1) + (1 : Int)), ((2 : Int) * y14), (((2 : Int) * y14) + (1 : Int))]) (xa_cons (xe_sub (xe_mul (chkP_some hz21) xe_int (xe_var (i := 8) rfl)) xe_int) (xa_cons (xe_mul (chkP_some hz22) xe_int (xe_var (i := 8) rfl)) (xa_cons (xe_add (xe_mul (chkP_some hz23) xe_int (xe_var (i := 8) rfl)) xe_int) (xa_cons (xe_mul (chkP_some hz24) xe_int (xe_var (i := 5) rfl)) (xa_cons (xe_add (xe_mul (chkP_some hz25) xe_int (xe_var (i := 5) rfl)) xe_int) xa_nil))))) (by show 5 ≤ sizeLine; decide)) isLs_LF isLs_LF (chkP_some hz26)) xa_nil)) ⟨(Ω.length + 0), pp5, z20.2, (y19 ++ ([(((2 : Int) * z20.1) - (1 : Int)), ((2 : Int) * z20.1), (((2 : Int) * z20.1) + (1 : Int)), ((2 : Int) * y14), (((2 : Int) * y14) + (1 : Int))] : List Int)), z27, rfl, (stt_getL (j := 0) rfl), hz27, rfl⟩ (cal1L (j := 0))) ?_
      show XS (tSeq _ _) _ _ [some (va T (SF.mk x0)), some (va T a3), some (vr pp5), some (va T a9), some (va T z11.1), some (va T y14), some (vr pp17), some (va T (LF.mk y19)), some (va T z20.1), some (va T z27.1), none, none, none] (stt Ω [] [lstA T pp5 (z27.2 : List Int), machA T pp17 (MS.fresh z11.1 y14)])
      obtain ⟨z28, hz28, hm⟩ := bnd_some hm
      obtain ⟨z29, hz29, hm⟩ := bnd_some hm
      obtain ⟨z30, hz30, hm⟩ := bnd_some hm
      obtain ⟨y31, hy31, hm⟩ := bnd_some hm
      refine xs_set (A := va T y31) (xe_eq (xe_mul (chkP_some hz30) (xe_call (xa_cons (xe_var (i := 2) rfl) (xa_cons (xe_var (i := 4) rfl) (xa_cons (xe_var (i := 8) rfl) xa_nil))) ⟨(Ω.length + 0), pp5, z27.2, z11.1, z20.1, z28, rfl, (stt_getL (j := 0) rfl), hz28, rfl⟩ (cal1L (j := 0))) (xe_call (xa_cons (xe_var (i := 2) rfl) (xa_cons (xe_lst (l := [(1 : Int), (-(1 : Int))]) (xa_cons xe_int (xa_cons (xe_neg xe_int) xa_nil)) (by show 2 ≤ sizeLine; decide)) xa_nil)) ⟨(Ω.length + 0), pp5, z28.2, ([(1 : Int), (-(1 : Int))] : List Int), z29, rfl, (stt_getL (j := 0) rfl), hz29, rfl⟩ (cal1L (j := 0)))) (Option.some.inj hy31)) ?_
      show XS (tSeq _ _) _ _ [some (va T (SF.mk x0)), some (va T a3), some (vr pp5), some (va T a9), some (va T z11.1), some (va T y14), some (vr pp17), some (va T (LF.mk y19)), some (va T z20.1), some (va T z27.1), some (va T y31), none, none] (stt Ω [] [lstA T pp5 (z29.2 : List Int), machA T pp17 (MS.fresh z11.1 y14)])
      obtain ⟨z32, hz32, hm⟩ := bnd_some hm
      obtain ⟨z33, hz33, hm⟩ := bnd_some hm
      obtain ⟨z34, hz34, hm⟩ := bnd_some hm
      obtain ⟨y35, hy35, hm⟩ := bnd_some hm
      refine xs_set (A := va T y35) (xe_eq (xe_mul (chkP_some hz34) (xe_call (xa_cons (xe_var (i := 2) rfl) (xa_cons (xe_var (i := 4) rfl) (xa_cons (xe_max2 xe_int (xe_var (i := 9) rfl)) xa_nil))) ⟨(Ω.length + 0), pp5, z29.2, z11.1, (max (1 : Int) z27.1), z32, rfl, (stt_getL (j := 0) rfl), hz32, rfl⟩ (cal1L (j := 0))) (xe_call (xa_cons (xe_var (i := 2) rfl) (xa_cons (xe_lst (l := [(1 : Int), (-(1 : Int))]) (xa_cons xe_int (xa_cons (xe_neg xe_int) xa_nil)) (by show 2 ≤ sizeLine; decide)) xa_nil)) ⟨(Ω.length + 0), pp5, z32.2, ([(1 : Int), (-(1 : Int))] : List Int), z33, rfl, (stt_getL (j := 0) rfl), hz33, rfl⟩ (cal1L (j := 0)))) (Option.some.inj hy35)) ?_
      show XS (tSeq _ _) _ _ [some (va T (SF.mk x0)), some (va T a3), some (vr pp5), some (va T a9), some (va T z11.1), some (va T y14), some (vr pp17), some (va T (LF.mk y19)), some (va T z20.1), some (va T z27.1), some (va T y31), some (va T y35), none] (stt Ω [] [lstA T pp5 (z33.2 : List Int), machA T pp17 (MS.fresh z11.1 y14)])
      obtain ⟨z36, hz36, hm⟩ := bnd_some hm
      obtain ⟨z37, hz37, hm⟩ := bnd_some hm
      obtain ⟨z38, hz38, hm⟩ := bnd_some hm
      obtain ⟨z39, hz39, hm⟩ := bnd_some hm
      obtain ⟨z40, hz40, hm⟩ := bnd_some hm
      obtain ⟨z41, hz41, hm⟩ := bnd_some hm
      refine xs_ifN (xt_orF (xt_notF (xt_eq (xt_tB (T := T) (xe_call (xa_cons (xe_var (i := 6) rfl) (xa_cons (xe_var (i := 10) rfl) (xa_cons (xe_var (i := 11) rfl) xa_nil))) ⟨(Ω.length + 1), pp17, (MS.fresh z11.1 y14), y31, y35, z36, rfl, (stt_getL (j := 1) rfl), hz36, rfl⟩ (cal1L (j := 1)))) (chkP_some hz37))) (xt_orF (xt_notF (xt_eq (xt_tB (T := T) (xe_call (xa_cons (xe_var (i := 6) rfl) (xa_cons (xe_var (i := 11) rfl) (xa_cons (xe_var (i := 10) rfl) xa_nil))) ⟨(Ω.length + 1), pp17, z36.2, y35, y31, z38, rfl, (stt_getL (j := 1) rfl), hz38, rfl⟩ (cal1L (j := 1)))) (chkP_some hz39))) (xt_notF (xt_eq (xt_tB (T := T) (xe_call (xa_cons (xe_var (i := 6) rfl) (xa_cons (xe_var (i := 11) rfl) (xa_cons xe_non xa_nil))) ⟨(Ω.length + 1), pp17, z38.2, y35, (), z40, rfl, (stt_getL (j := 1) rfl), hz40, rfl⟩ (cal1L (j := 1)))) (chkP_some hz41))))) ?_
      show XS (tSeq _ _) _ _ [some (va T (SF.mk x0)), some (va T a3), some (vr pp5), some (va T a9), some (va T z11.1), some (va T y14), some (vr pp17), some (va T (LF.mk y19)), some (va T z20.1), some (va T z27.1), some (va T y31), some (va T y35), none] (stt Ω [] [lstA T pp5 (z33.2 : List Int), machA T pp17 z40.2])
      obtain ⟨z42, hz42, hm⟩ := bnd_some hm
      obtain ⟨z43, hz43, hm⟩ := bnd_some hm
      obtain ⟨y44, hy44, hm⟩ := bnd_some hm
      refine xs_set (A := va T y44) (xe_eq (xe_add (xe_mul (chkP_some hz42) xe_int (xe_var (i := 5) rfl)) (xe_call (xa_cons (xe_var (i := 2) rfl) (xa_cons (xe_lst (l := [(-(1 : Int)), (0 : Int), (1 : Int), (2 : Int), (3 : Int)]) (xa_cons (xe_neg xe_int) (xa_cons xe_int (xa_cons xe_int (xa_cons xe_int (xa_cons xe_int xa_nil))))) (by show 5 ≤ sizeLine; decide)) xa_nil)) ⟨(Ω.length + 0), pp5, z33.2, ([(-(1 : Int)), (0 : Int), (1 : Int), (2 : Int), (3 : Int)] : List Int), z43, rfl, (stt_getL (j := 0) rfl), hz43, rfl⟩ (cal1L (j := 0)))) (Option.some.inj hy44)) ?_
      show XS (tIfS _ _ _) _ _ [some (va T (SF.mk x0)), some (va T a3), some (vr pp5), some (va T a9), some (va T z11.1), some (va T y14), some (vr pp17), some (va T (LF.mk y19)), some (va T z20.1), some (va T z27.1), some (va T y31), some (va T y35), some (va T y44)] (stt Ω [] [lstA T pp5 (z43.2 : List Int), machA T pp17 z40.2])
      obtain ⟨z45, hz45, hm⟩ := bnd_some hm
      obtain ⟨z46, hz46, hm⟩ := bnd_some hm
      obtain ⟨z47, hz47, hm⟩ := bnd_some hm
      refine xs_ifF1 (xt_notF (xt_eq (xt_tB (T := T) (xe_call (xa_cons (xe_var (i := 6) rfl) (xa_cons (xe_call (xa_cons (xe_var (i := 2) rfl) (xa_cons (xe_var (i := 4) rfl) (xa_cons (xe_var (i := 12) rfl) xa_nil))) ⟨(Ω.length + 0), pp5, z43.2, z11.1, y44, z45, rfl, (stt_getL (j := 0) rfl), hz45, rfl⟩ (cal1L (j := 0))) (xa_cons xe_non xa_nil))) ⟨(Ω.length + 1), pp17, z40.2, z45.1, (), z46, rfl, (stt_getL (j := 1) rfl), hz46, rfl⟩ (cal1L (j := 1)))) (chkP_some hz47))) ?_
      obtain rfl := Option.some.inj hm
      exact fun σ H n => hD.nx _ rfl σ H (NX.cutL [lstA T pp5 (z45.2 : List Int)] [machA T pp17 z46.2] ((((((((((n.forget 4).forget 5).forget 6).forget 7).forget 8).forget 9).forget 10).forget 11).forget 12).forget 3))
    · subst es
      obtain ⟨s2, hs2, hm⟩ := bnd_some hm
      cases hs2
      obtain rfl := Option.some.inj hm
      exact fun σ H n => hD.nx _ rfl σ H (NX.cutL [] [lstA T pp5 (s49 : List Int)] ((n.forget 2).forget 1))
    · subst es
      cases hm
  · subst es
    obtain ⟨s2, hs2, hm⟩ := bnd_some hm
    cases hs2
    show XS (tRet _) _ _ [some (va T (SF.mk x0)), none, none, none, none, none, none, none, none, none, none, none, none] (stt Ω [] [])
    obtain rfl := Option.some.inj hm
    refine xs_ret xe_bl hrt.all
  · subst es
    cases hm
end
end P

set_option Elab.async false
set_option linter.all false
set_option maxRecDepth 100000
set_option exponentiation.threshold 4000
namespace P
open PySem L2 VL
theorem mul_l {a b : Int} (h1 : -(2 ^ 64) < a) (h2 : a < 2 ^ 64) : IntMulOk a b := .of_left (intBits_le_64 h1 h2)
theorem mul_r {a b : Int} (h1 : -(2 ^ 64) < b) (h2 : b < 2 ^ 64) : IntMulOk a b := .of_right (intBits_le_64 h1 h2)
theorem mul_big {a b : Int} {j k : Nat} (ha : a.natAbs < 2 ^ j) (hb : b.natAbs < 2 ^ k) (h : j + k ≤ 134217728) : IntMulOk a b :=
  .of_le (by rw [intBits_abs]; exact bl_le.mpr ha) (by rw [intBits_abs]; exact bl_le.mpr hb) h
/-- a purse: three numbers, k draws done -/
def Pur (k : Nat) (s : List Int) : Prop := ∃ a b c : Int, s = [a, b, c] ∧ 0 ≤ b ∧ b < 2147483563 ∧ 0 ≤ c ∧ c ≤ 7 + (k : Int)
theorem Pur.mono {j k : Nat} {s : List Int} (h : Pur j s) (hk : j ≤ k) : Pur k s := by
  obtain ⟨a, b, c, e, h1, h2, h3, h4⟩ := h
  exact ⟨a, b, c, e, h1, h2, h3, by omega⟩
theorem purse_s (x : Int) : Sat (M__law_purse x) (Pur 0) := by
  unfold M__law_purse
  refine sat_chk (by unfold CPow; decide) ?_
  refine sat_chk (by split <;> exact mul_r (by decide) (by decide)) ?_
  refine sat_chk (by decide) ?_
  exact sat_some ⟨_, _, _, rfl, Int.emod_nonneg _ (by decide), Int.emod_lt_of_pos _ (by decide), by decide, by decide⟩
theorem coin_s {k : Nat} {s : List Int} {m : Int} (hs : Pur k s) (hk : k < 1000000) (h : 0 < m) (h2 : m < 2 ^ 64) : Sat (M__law_coin s m) (fun r => Pur (k + 1) r.2 ∧ 0 ≤ r.1 ∧ r.1 < m) := by
  obtain ⟨a, b, c, rfl, b0, b1, c0, c1⟩ := hs
  unfold M__law_coin
  refine sat_eq (a := a) rfl ?_
  refine sat_ite (fun _ => ?_) fun _ => ?_
  · refine sat_eq (a := a) rfl ?_
    refine sat_chk h ?_
    refine sat_let ?_
    refine sat_eq (a := a) rfl ?_
    refine sat_chk (cdiv_s h h2) ?_
    refine sat_let ?_
    refine sat_eq (a := 0) rfl ?_
    exact sat_some ⟨⟨_, b, c, rfl, b0, b1, c0, by omega⟩, Int.emod_nonneg _ (by omega), Int.emod_lt_of_pos _ h⟩
  · refine sat_eq (a := c) rfl ?_
    refine sat_let ?_
    refine sat_eq (a := 2) rfl ?_
    rw [show [a, b, c].set 2 (c + 1) = [a, b, c + 1] from rfl]
    refine sat_eq (a := b) rfl ?_
    refine sat_eq (a := c + 1) rfl ?_
    refine sat_chk (mul_l (by decide) (by decide)) ?_
    refine sat_chk (by unfold CPow; omega) ?_
    refine sat_chk (by decide) ?_
    refine sat_let ?_
    refine sat_eq (a := c + 1) rfl ?_
    generalize hy : ((b + 80021 * (c + 1)) + 9) ^ ((3 : Int)).toNat % (2147483587 : Int) = y
    have hy1 : 0 ≤ y ∧ y < 2147483587 := by rw [← hy]; exact ⟨Int.emod_nonneg _ (by decide), Int.emod_lt_of_pos _ (by decide)⟩
    refine sat_chk (mul_l (by decide) (by decide)) ?_
    refine sat_chk (cdiv_s (by decide) (by decide)) ?_
    refine sat_chk (mul_l (by omega) (by omega)) ?_
    refine sat_chk (by decide) ?_
    refine sat_let ?_
    generalize hu : ((y + 7 * (c + 1)) * ((y / 1031) + 60089)) % (2147483549 : Int) = u
    have hu1 : 0 ≤ u ∧ u < 2147483549 := by rw [← hu]; exact ⟨Int.emod_nonneg _ (by decide), Int.emod_lt_of_pos _ (by decide)⟩
    refine sat_chk (cdiv_s (by decide) (by decide)) ?_
    refine sat_chk (mul_l (by omega) (by omega)) ?_
    refine sat_chk (by decide) ?_
    refine sat_chk (cdiv_s (by decide) (by decide)) ?_
    refine sat_chk h ?_
    exact sat_some ⟨⟨_, b, c + 1, rfl, b0, b1, by omega, by omega⟩, Int.emod_nonneg _ (by omega), Int.emod_lt_of_pos _ h⟩
theorem pick_s {k : Nat} {s l : List Int} (hs : Pur k s) (hk : k < 1000000) (h : l ≠ []) (h2 : l.length < 100) : Sat (M__law_pick s l) (fun r => Pur (k + 1) r.2 ∧ r.1 ∈ l) := by
  have hp : 0 < l.length := List.length_pos_iff.mpr h
  unfold M__law_pick
  refine sat_bind (coin_s hs hk (m := (l.length : Int)) (by omega) (by omega)) fun r ⟨h1, a, b⟩ => ?_
  exact sat_atI a b fun x hx => sat_some ⟨h1, hx⟩
/-! ### the program's functions -/
theorem top_ok {W : Nat} (h : W ≤ 30) : M_top_digit (W : Int) = some ((2 ^ W - 1 : Nat) : Int) := by
  unfold M_top_digit
  refine bnd_of (chkP_eq (shl_ok (k := 1) (by decide) (by omega) (by omega))) ?_
  rw [Int.toNat_natCast, Int.one_mul, p2, Int.ofNat_sub (Nat.two_pow_pos W)]
  rfl
theorem size_ok {W : Nat} (h8 : 8 ≤ W) (h : W ≤ 30) (n : Int) : M_size_of (W : Int) n = some ((sz W n.natAbs : Nat) : Int) := by
  unfold M_size_of
  refine bnd_of (chkP_eq (cdiv_s (by omega) (by omega))) ?_
  rw [intBits_abs]
  unfold sz
  congr 1
  rw [show ((bl n.natAbs : Nat) : Int) + (W : Int) - 1 = ((bl n.natAbs + W - 1 : Nat) : Int) from by omega]
  exact (Int.natCast_ediv _ _).symm
theorem kW_le {W k : Nat} (h : W ≤ 30) (hk : k ≤ 4194304) : k * W ≤ 125829120 := Nat.le_trans (Nat.mul_le_mul hk h) (by decide)
theorem low_ok {W k : Nat} (h : W ≤ 30) (n : Int) (hk : k ≤ 4194304) : M_low_part (W : Int) n (k : Int) = some (n % 2 ^ (k * W)) := by
  have hm := kW_le h hk
  unfold M_low_part
  refine bnd_of (chkP_eq (mul_small' (by omega))) ?_
  rw [← Int.natCast_mul]
  refine bnd_of (chkP_eq (shl_ok (k := 1) (by decide) (by omega) (by omega))) ?_
  rw [Int.toNat_natCast, Int.one_mul, p2, ← Int.natCast_one, ← Int.ofNat_sub (Nat.two_pow_pos _), and_low, p2]
theorem row_loop {W : Nat} (h : W ≤ 30) : ∀ (xs : List Int) (n : Int) (row : List Int), row.length + xs.length < 16777216 →
    forM' (ρ := Unit) (fun (a15 : Int) (s14 : Int × (List Int)) => (chkP (s14.2.length < sizeLine)).bind fun z16 => (chkP (0 ≤ (W : Int))).bind fun z17 => (some (s14.1 / 2 ^ ((W : Int)).toNat)).bind fun y18 => some (Stp.nx (y18, (s14.2 ++ [(Builtin.bitAnd s14.1 ((2 ^ W - 1 : Nat) : Int))])))) xs (n, row) = some (.nx (n / 2 ^ (xs.length * W), row ++ rw_ W n xs.length))
  | [], n, row, _ => by
    show some (Stp.nx (n, row)) = some (Stp.nx (n / 2 ^ (0 * W), row ++ []))
    rw [Nat.zero_mul, Int.pow_zero, Int.ediv_one, List.append_nil]
  | x :: r, n, row, hl => by
    rw [List.length_cons] at hl
    rw [forM_cons (s' := (n / 2 ^ W, row ++ [n % 2 ^ W])) (by
      refine bnd_of (chkP_eq (size_lt (m := 16777215) (by show row.length ≤ _; omega) (by decide))) ?_
      refine bnd_of (chkP_eq (by omega)) ?_
      refine bnd_of rfl ?_
      rw [Int.toNat_natCast, and_low]), row_loop h r _ _ (by rw [List.length_append]; show row.length + 1 + r.length < _; omega)]
    rw [ediv_pow, List.length_cons, show W + r.length * W = (r.length + 1) * W from by rw [Nat.succ_mul]; omega, List.append_assoc]
    rfl
theorem row_ok {W : Nat} (h8 : 8 ≤ W) (h : W ≤ 30) : ∀ (f k : Nat) (n : Int), k ≤ 32 * 2 ^ f → k ≤ 4194304 → M_row_of (f + 1) (W : Int) n (k : Int) = some (rw_ W n k) := by
  intro f
  induction f with
  | zero =>
    intro k n hk hk2
    rw [M_row_of_succ, if_neg (by rw [decide_eq_true_iff]; omega)]
    refine bnd_of (top_ok h) ?_
    refine bnd_of rfl ?_
    refine bnd_of (chkP_eq (by omega)) ?_
    rw [Int.toNat_natCast]
    refine bnd_of (row_loop h (rng 0 k) n [] (by rw [rng_len]; show 0 + k < _; omega)) ?_
    rw [rng_len]
    rfl
  | succ f ih =>
    intro k n hk hk2
    rw [M_row_of_succ]
    by_cases q : 32 < k
    · rw [if_pos (decide_eq_true (by omega))]
      refine bnd_of (chkP_eq (cdiv_s (by decide) (by decide))) ?_
      refine bnd_of rfl ?_
      rw [show (k : Int) / 2 = ((k / 2 : Nat) : Int) from rfl]
      have hp : 32 * 2 ^ (f + 1) = 2 * (32 * 2 ^ f) := by rw [Nat.pow_succ]; omega
      have hm := kW_le (k := k / 2) h (by omega)
      refine bnd_of (low_ok h n (by omega)) ?_
      refine bnd_of (ih (k / 2) _ (by omega) (by omega)) ?_
      refine bnd_of (chkP_eq (mul_small' (by omega))) ?_
      rw [← Int.natCast_mul, Int.toNat_natCast, show (k : Int) - ((k / 2 : Nat) : Int) = ((k - k / 2 : Nat) : Int) from by omega]
      refine bnd_of (chkP_eq (by omega)) ?_
      refine bnd_of (ih (k - k / 2) _ (by omega) (by omega)) ?_
      refine bnd_of (chkP_eq (size_le (m := 4194304) (by rw [rw_len, rw_len]; omega) (by decide))) ?_
      rw [rw_mod, ← rw_app, show k / 2 + (k - k / 2) = k from by omega]
    · rw [if_neg (by rw [decide_eq_true_iff]; omega)]
      refine bnd_of (top_ok h) ?_
      refine bnd_of rfl ?_
      refine bnd_of (chkP_eq (by omega)) ?_
      rw [Int.toNat_natCast]
      refine bnd_of (row_loop h (rng 0 k) n [] (by rw [rng_len]; show 0 + k < _; omega)) ?_
      rw [rng_len]
      rfl
/-- the number as the program keeps it -/
abbrev bg (W : Nat) (n : Int) : Bg := ⟨(W : Int), dg W n.natAbs, n⟩
theorem bigof_ok {W : Nat} {S : MS} (hS : S.w = (W : Int)) (h8 : 8 ≤ W) (h : W ≤ 30) {n : Int} (hn : sz W n.natAbs ≤ 4194304) : M_big_of S n = some (bg W n) := by
  unfold M_big_of
  rw [hS]
  refine bnd_of (size_ok h8 h n) ?_
  refine bnd_of (row_ok h8 h 19 _ _ (Nat.le_trans hn (by decide)) hn) ?_
  rw [rw_dg (by omega)]
theorem big_ok {W : Nat} {S : MS} (hS : S.w = (W : Int)) (h8 : 8 ≤ W) (h : W ≤ 30) {n : Int} (hn : sz W n.natAbs ≤ 4194304) : M_big S n = some (bg W n) := by
  unfold M_big
  refine bnd_of (show M_check_machine S = some () from bnd_of (chkP_eq rfl) rfl) ?_
  refine bnd_of (show M_is_integer n = some true from rfl) ?_
  refine bnd_of (chkP_eq rfl) ?_
  exact bnd_of (bigof_ok hS h8 h hn) rfl
theorem fit_ok {W : Nat} {S : MS} (hS : S.w = (W : Int)) (a : Int) (x : Str) : M_check_fit S (bg W a) x = some () := by
  unfold M_check_fit M_check_big
  exact bnd_of (a := ()) (bnd_of (a := ()) (chkP_eq rfl) rfl) (bnd_of (a := ()) (chkP_eq hS.symm) rfl)
theorem one_big {W : Nat} {S : MS} (hS : S.w = (W : Int)) (a : Int) : M_check_one S (bg W a) = some () := by
  unfold M_check_one M_check_machine
  exact bnd_of (a := ()) (bnd_of (a := ()) (chkP_eq rfl) rfl) (bnd_of (fit_ok hS a _) rfl)
theorem two_ok {W : Nat} {S : MS} (hS : S.w = (W : Int)) (a b : Int) : M_check_two S (bg W a) (bg W b) = some () := by
  unfold M_check_two
  exact bnd_of (one_big hS a) (bnd_of (fit_ok hS b _) rfl)
theorem plain_ok (W : Nat) (n : Int) : M_plain (bg W n) = some n := by
  unfold M_plain M_check_big
  exact bnd_of (a := ()) (bnd_of (a := ()) (chkP_eq rfl) rfl) rfl
theorem lv_foldr (B : Int) : ∀ l : List Int, l.foldr (fun d s => s * B + d) 0 = lv B l
  | [] => rfl
  | d :: r => by
    rw [List.foldr_cons, lv_foldr B r, Int.mul_comm]
    show B * lv B r + d = d + B * lv B r
    omega
theorem num_loop {W : Nat} : ∀ (xs : List Int) (m : Nat) (s : Int), (∀ x ∈ xs, 0 ≤ x ∧ x < (2 : Int) ^ W) → 0 ≤ s → s < 2 ^ (W * m) → W * (m + xs.length) + W ≤ 134217728 →
    forM' (ρ := Unit) (fun (a9 : Int) (s8 : Int) => (chkP (CShl s8 (W : Int))).bind fun z10 => (some ((s8 * 2 ^ ((W : Int)).toNat) + a9)).bind fun y11 => some (Stp.nx y11)) xs s = some (.nx (xs.foldl (fun s d => s * 2 ^ W + d) s))
  | [], m, s, _, _, _, _ => rfl
  | x :: r, m, s, hd, s0, s1, hl => by
    have hx := hd x List.mem_cons_self
    rw [List.length_cons] at hl
    have e1 : (s + 1) * 2 ^ W ≤ 2 ^ (W * m) * 2 ^ W := Int.mul_le_mul_of_nonneg_right (by omega) (Int.le_of_lt (ppos W))
    rw [Int.add_mul, Int.one_mul, ← Int.pow_add] at e1
    have e0 : 0 ≤ s * 2 ^ W := Int.mul_nonneg s0 (Int.le_of_lt (ppos W))
    have el : W * (m + (r.length + 1)) = W * m + W * r.length + W := by rw [Nat.mul_add, Nat.mul_add, Nat.mul_one]; omega
    rw [forM_cons (s' := s * 2 ^ W + x) (by
      refine bnd_of (chkP_eq (shl_ok (nat_of s0 s1) (by omega) (by omega))) ?_
      refine bnd_of rfl ?_
      rw [Int.toNat_natCast]), num_loop r (m + 1) _ (fun y hy => hd y (List.mem_cons_of_mem _ hy)) (by omega) (by rw [Nat.mul_succ]; omega) (by rw [show m + 1 + r.length = m + (r.length + 1) from by omega]; exact hl)]
    rfl
/-- digits of a number in its normal form -/
def Rw (W : Nat) (l : List Int) : Prop := (∀ x ∈ l, 0 ≤ x ∧ x < (2 : Int) ^ W) ∧ ∀ d, l.getLast? = some d → d ≠ 0
theorem lcM_cons1 {β γ S : Type} {b : β → S → Option (Option γ × S)} {x : β} {xs : List β} {s s1 s2 : S} {f : γ} {ys : List γ} (e1 : b x s = some (some f, s1)) (e2 : lcM b xs s1 = some (ys, s2)) : lcM b (x :: xs) s = some (f :: ys, s2) := by
  show (b x s).bind _ = _
  rw [e1]
  show (lcM b xs s1).bind _ = _
  rw [e2]
  rfl
theorem atI_end {l : List Int} {d : Int} : atI (l ++ [d]) (-1) = some d := by
  have e : ixN (l ++ [d]).length (-1) = some l.length := by
    unfold ixN
    rw [List.length_append]
    rw [if_neg (by decide), if_pos (by show -((l.length + 1 : Nat) : Int) ≤ -1; omega)]
    congr 1
    show (-1 + ((l.length + 1 : Nat) : Int)).toNat = _
    omega
  unfold atI
  rw [e]
  show (l ++ [d])[l.length]? = _
  rw [List.getElem?_append_right (Nat.le_refl _), Nat.sub_self]
  rfl
theorem cut_init {l : List Int} {d : Int} : cut (l ++ [d]) none (some (-1)) = l := by
  have h1 : HT.sIx (l ++ [d]).length 0 none = 0 := rfl
  have h2 : HT.sIx (l ++ [d]).length (l ++ [d]).length (some (-1)) = l.length := by
    show (if (-1 : Int) < 0 then (-1 + ((l ++ [d]).length : Int)).toNat else min (-1 : Int).toNat (l ++ [d]).length) = l.length
    rw [if_pos (by decide), List.length_append]
    show (-1 + ((l.length + 1 : Nat) : Int)).toNat = _
    omega
  unfold cut
  rw [h1, h2, List.drop_zero, Nat.sub_zero, List.take_left' rfl]
theorem snoc_of {l : List Int} (h : l ≠ []) : ∃ r d, l = r ++ [d] := ⟨l.dropLast, l.getLast h, (List.dropLast_concat_getLast h).symm⟩
theorem row_s {W k n : Nat} {s : List Int} (h8 : 8 ≤ W) (h : W ≤ 30) (hs : Pur k s) (hn : n ≤ 1000) (hk : k + 3 * n < 900000) : Sat (M__law_row s (W : Int) (n : Int)) (fun r => Pur (k + 3 * n) r.2 ∧ r.1.length = n ∧ Rw W r.1) := by
  have B0 := Nat.two_pow_pos W
  have B8 : 2 ^ 8 ≤ 2 ^ W := Nat.pow_le_pow_right (by decide) h8
  have B30 : 2 ^ W ≤ 2 ^ 30 := Nat.pow_le_pow_right (by decide) h
  have e2 := p2 W
  have es : (1 : Int) * 2 ^ ((W : Int)).toNat = ((2 ^ W : Nat) : Int) := by rw [Int.one_mul, Int.toNat_natCast, p2]
  unfold M__law_row
  refine sat_let ?_
  refine sat_chk (by omega) ?_
  rw [Int.toNat_natCast]
  refine sat_for (fun i st => Pur (k + 3 * i) st.1 ∧ st.2.length = i ∧ ∀ x ∈ st.2, 0 ≤ x ∧ x < (2 : Int) ^ W) (fun i x st hi ⟨q1, q2, q3⟩ => ?_) ⟨hs, rfl, fun x hx => (by cases hx)⟩ fun st ⟨q1, q2, q3⟩ => sat_nx ?_
  · have hi := (rng_get hi).1
    rw [show (1 : Int) * 2 ^ W = ((2 ^ W : Nat) : Int) from by rw [Int.one_mul, p2]]
    refine sat_chk (shl_ok (k := 1) (by decide) (by omega) (by omega)) ?_
    refine sat_bind (coin_s q1 (by omega) (by omega) (by omega)) fun r1 ⟨h1, a1, b1⟩ => ?_
    refine sat_chk (shl_ok (k := 1) (by decide) (by omega) (by omega)) ?_
    refine sat_bind (coin_s h1 (by omega) (by omega) (by omega)) fun r2 ⟨h2, a2, b2⟩ => ?_
    refine sat_chk (shl_ok (k := 1) (by decide) (by omega) (by omega)) ?_
    refine sat_bind (pick_s h2 (by omega) (List.cons_ne_nil _ _) (by show 4 < 100; decide)) fun r3 ⟨h3, m3⟩ => ?_
    simp only [List.mem_cons, List.not_mem_nil, or_false] at m3
    refine sat_chk (size_lt (m := 1000) (by omega) (by decide)) ?_
    refine ⟨_, rfl, _, rfl, h3.mono (by omega), by rw [List.length_append, q2]; rfl, fun x hx => ?_⟩
    rcases List.mem_append.mp hx with hx | hx
    · exact q3 x hx
    · rw [List.mem_singleton.mp hx]
      omega
  · rw [rng_len] at q1 q2
    refine sat_chk ⟨fun _ _ => trivial, fun _ _ => trivial⟩ ?_
    by_cases q : st.2 = []
    · rw [q] at q2 ⊢
      have e : eqD (LF.mk ([] : List Int)) (LF.mk []) = true := eqD_iff.mpr rfl
      rw [e]
      refine sat_let ?_
      exact sat_some ⟨q1, q2, fun x hx => (by cases hx), fun d hd => (by cases hd)⟩
    · have e : eqD (LF.mk st.2) (LF.mk []) = false := Bool.eq_false_iff.mpr fun z => q (congrArg LF.l (eqD_iff.mp z))
      rw [e]
      obtain ⟨r, d, e⟩ := snoc_of q
      rw [e] at q2 q3 ⊢
      rw [List.length_append] at q2
      have q2 : r.length + 1 = n := q2
      rw [if_pos (by rfl)]
      refine sat_bind (P := fun l => l = r ++ [max 1 d]) ?_ fun l hl => ?_
      · refine sat_eq atI_end ?_
        rw [cut_init]
        refine sat_chk (size_le (m := 1000) (by show r.length + 1 ≤ _; omega) (by decide)) ?_
        exact sat_some rfl
      · subst hl
        have hd := q3 d (List.mem_append_right _ (List.mem_singleton.mpr rfl))
        refine sat_some ⟨q1, by rw [List.length_append]; exact q2, fun x hx => ?_, fun x hx => ?_⟩
        · rcases List.mem_append.mp hx with hx | hx
          · exact q3 x (List.mem_append_left _ hx)
          · rw [List.mem_singleton.mp hx]
            omega
        · rw [List.getLast?_concat] at hx
          cases hx
          omega
theorem worth_s {W : Nat} {l : List Int} (h : W ≤ 30) (hd : ∀ x ∈ l, 0 ≤ x ∧ x < (2 : Int) ^ W) (hl : l.length ≤ 1000) : M__law_worth (W : Int) l = some (lv (2 ^ W) l) := by
  unfold M__law_worth
  have := Nat.mul_le_mul h hl
  refine bnd_of (num_loop l.reverse 0 0 (fun x hx => hd x (List.mem_reverse.mp hx)) (Int.le_refl _) (by rw [Nat.mul_zero, Int.pow_zero]; exact Int.zero_lt_one) (by rw [List.length_reverse, Nat.zero_add]; omega)) ?_
  rw [List.foldl_reverse, lv_foldr]
  rfl
theorem digits_loop {W : Nat} (h8 : 8 ≤ W) (h : W ≤ 30) : ∀ (f : Nat) (a : Nat) (row : List Int), a ≤ f → row.length + sz W a ≤ 100000 →
    whileM (ρ := Unit) (fun (s4 : Int × (List Int)) => some (decide ((0 : Int) < s4.1))) (fun (s4 : Int × (List Int)) => (chkP (CShl (1 : Int) (W : Int))).bind fun z5 => (chkP (0 < ((1 : Int) * 2 ^ ((W : Int)).toNat))).bind fun z6 => (chkP (s4.2.length < sizeLine)).bind fun z7 => (chkP (0 ≤ (W : Int))).bind fun z8 => (some (s4.1 / 2 ^ ((W : Int)).toNat)).bind fun y9 => some (Stp.nx (y9, (s4.2 ++ [(s4.1 % ((1 : Int) * 2 ^ ((W : Int)).toNat))])))) (f + 1) ((a : Int), row) = some (.nx (0, row ++ dg W a)) := by
  intro f
  induction f with
  | zero =>
    intro a row ha _
    have e : a = 0 := by omega
    subst e
    rw [dg_zero, List.append_nil]
    exact whileM_f rfl
  | succ f ih =>
    intro a row ha hl
    by_cases q : a = 0
    · subst q
      rw [dg_zero, List.append_nil]
      exact whileM_f rfl
    · have s1 : sz W a = sz W (a / 2 ^ W) + 1 := by rw [← dg_size (by omega), ← dg_size (by omega), dg_pos (by omega) q]; rfl
      have B8 : 2 ^ 8 ≤ 2 ^ W := Nat.pow_le_pow_right (by decide) h8
      have lt : a / 2 ^ W < a := Nat.div_lt_self (by omega) (by omega)
      rw [whileM_t (s' := (((a / 2 ^ W : Nat) : Int), row ++ [((a % 2 ^ W : Nat) : Int)])) (by
        show some (decide (0 < (a : Int))) = _
        rw [decide_eq_true (by omega)]) (by
        refine bnd_of (chkP_eq (shl_ok (k := 1) (by decide) (by omega) (by omega))) ?_
        refine bnd_of (chkP_eq (by rw [Int.one_mul]; exact ppos _)) ?_
        refine bnd_of (chkP_eq (size_lt (m := 100000) (by show row.length ≤ _; omega) (by decide))) ?_
        refine bnd_of (chkP_eq (by omega)) ?_
        refine bnd_of rfl ?_
        rw [Int.one_mul, Int.toNat_natCast, p2, ← Int.natCast_ediv, ← Int.natCast_emod]), ih _ _ (by omega) (by rw [List.length_append]; show row.length + 1 + _ ≤ _; omega), dg_pos (by omega) q, List.append_assoc]
      rfl
theorem digits_ok {W : Nat} (h8 : 8 ≤ W) (h : W ≤ 30) {a : Nat} (ha : sz W a ≤ 100000) : M__law_digits (W : Int) (a : Int) = some (dg W a) := by
  unfold M__law_digits
  refine bnd_of rfl ?_
  rw [Int.natAbs_natCast]
  refine bnd_of (digits_loop h8 h a a [] (Nat.le_refl _) (by rw [List.length_nil]; omega)) ?_
  rfl
theorem sgn_is (n : Int) : (if (decide ((0 : Int) < n)) = true then (1 : Int) else 0) - (if (decide (n < (0 : Int))) = true then (1 : Int) else 0) = sgn n := by
  unfold sgn
  rcases Int.lt_trichotomy n 0 with q | q | q
  · rw [decide_eq_true q, decide_eq_false (by omega), if_neg (by decide), if_pos rfl, if_pos q]; rfl
  · subst q; rfl
  · rw [decide_eq_true q, decide_eq_false (by omega), if_pos rfl, if_neg (by decide), if_neg (by omega), if_neg (by omega)]; rfl
theorem is_ok {W : Nat} (h8 : 8 ≤ W) (h : W ≤ 30) {n : Int} (hn : sz W n.natAbs ≤ 100000) : M__law_is (bg W n) (W : Int) n = some true := by
  unfold M__law_is
  refine bnd_of (a := sgn n) (by rw [sgn_is]) ?_
  refine bnd_of (a := sgn n) rfl ?_
  refine bnd_of (a := dg W n.natAbs) rfl ?_
  refine bnd_of (a := (W : Int)) rfl ?_
  refine bnd_of (plain_ok W n) ?_
  refine bnd_of (digits_ok h8 h hn) ?_
  refine bnd_of (chkP_eq ⟨⟨trivial, fun _ _ => trivial, trivial, trivial⟩, trivial, fun _ _ => trivial, trivial, trivial⟩) ?_
  exact bnd_of (chkP_eq (eqD_iff.mpr rfl)) rfl
theorem sz_lt {W : Nat} (hw : W ≠ 0) (a : Nat) : a < 2 ^ (W * sz W a) := (sz_le hw).mp (Nat.le_refl _)
def nz (l : List (Str × Int)) : List (Str × Int) := l.filter fun p => !decide (p.2 = 0)
theorem nz_loop (l : List (Str × Int)) : lcM (fun (a3 : (Str × Int)) (s2 : Unit) => if (!decide (a3.2 = (0 : Int))) = true then some (some a3, ()) else some (none, ())) l () = some (nz l, ()) := by
  unfold nz
  refine lcM_filter (p := fun (p : Str × Int) => !decide (p.2 = 0)) fun x _ => ?_
  by_cases q : (!decide (x.2 = 0)) = true
  · rw [if_pos q, if_pos q]
  · rw [if_neg q, if_neg q]
theorem tally_len (S : MS) : S.tally.length = 10 := by unfold MS.tally; rw [List.length_map]; rfl
theorem counted_ok (S : MS) : M__law_counted S = some ((DF.mk (nz S.tally), LF.mk S.wk), S.reset) := by
  unfold M__law_counted
  refine bnd_of (chkP_eq (size_le (m := 10) (by rw [tally_len]; omega) (by decide))) ?_
  refine bnd_of (nz_loop _) ?_
  refine bnd_of (chkP_eq ((List.filter_sublist.map _).nodup (tally_keys S))) ?_
  exact bnd_of rfl rfl
def cry (B d : Int) : Int := if (decide (d < 0) || decide (B ≤ d)) = true then 1 else 0
theorem cry1 {B d : Int} (h : d < 0 ∨ B ≤ d) : cry B d = 1 := by
  unfold cry
  rcases h with h | h
  · rw [decide_eq_true h, Bool.true_or, if_pos rfl]
  · rw [decide_eq_true h, Bool.or_true, if_pos rfl]
theorem cry0 {B d : Int} (h0 : 0 ≤ d) (h1 : d < B) : cry B d = 0 := by
  unfold cry
  rw [decide_eq_false (by omega), decide_eq_false (by omega)]
  rfl
theorem dig0 {B t d : Int} (B0 : 0 < B) (h : (t = 1 ∧ 0 ≤ d ∧ d < 2 * B) ∨ (t = -1 ∧ -B ≤ d ∧ d < B)) : d = d % B + B * (t * cry B d) ∧ (cry B d = 0 ∨ cry B d = 1) := by
  by_cases q1 : d < 0
  · rw [cry1 (.inl q1)]
    have e := Int.add_mul_emod_self_left d B 1
    rw [Int.emod_eq_of_lt (by omega) (by omega)] at e
    rcases h with ⟨rfl, _, _⟩ | ⟨rfl, _, _⟩
    · omega
    · refine ⟨?_, .inr rfl⟩
      rw [← e]
      omega
  · by_cases q2 : B ≤ d
    · rw [cry1 (.inr q2)]
      have e := Int.add_mul_emod_self_left d B (-1)
      rcases h with ⟨rfl, _, _⟩ | ⟨rfl, _, _⟩
      · rw [Int.emod_eq_of_lt (by omega) (by omega)] at e
        refine ⟨?_, .inr rfl⟩
        rw [← e]
        omega
      · omega
    · rw [cry0 (by omega) (by omega), Int.emod_eq_of_lt (by omega) (by omega), Int.mul_zero, Int.mul_zero]
      omega
theorem bxor_step {W : Nat} {e a x y : Int} (e0 : 0 ≤ e) (e1 : e < 2 ^ W) (a0 : 0 ≤ a) (a1 : a < 2 ^ W) : Builtin.bitXor (e + 2 ^ W * x) (a + 2 ^ W * y) = Builtin.bitXor e a + 2 ^ W * Builtin.bitXor x y := by
  have h := band_split W x y e a e0 e1 a0 a1
  rw [bxor_eq, bxor_eq, bxor_eq, show e + 2 ^ W * x = x * 2 ^ W + e by rw [Int.mul_comm]; omega, show a + 2 ^ W * y = y * 2 ^ W + a by rw [Int.mul_comm]; omega, h]
  generalize band x y = u
  generalize band e a = v
  generalize (2 : Int) ^ W = Z
  grind
theorem bxor_small {W : Nat} {e a : Int} (e0 : 0 ≤ e) (e1 : e < 2 ^ W) (a0 : 0 ≤ a) (a1 : a < 2 ^ W) : 0 ≤ Builtin.bitXor e a ∧ Builtin.bitXor e a < 2 ^ W ∧ (e ≠ a → Builtin.bitXor e a ≠ 0) := by
  obtain ⟨m, rfl⟩ := Int.eq_ofNat_of_zero_le e0
  obtain ⟨n, rfl⟩ := Int.eq_ofNat_of_zero_le a0
  rw [bxor_nat]
  have := p2 W
  have lt : m ^^^ n < 2 ^ W := Nat.xor_lt_two_pow (by omega) (by omega)
  refine ⟨by omega, by omega, fun ne h => ne ?_⟩
  have z : m ^^^ n = 0 := by omega
  rw [xor_zero.mp z]
theorem bxor_self (x : Int) : Builtin.bitXor x x = 0 := by
  have e : band x x = x := bit_ext fun i => by
    rw [bit_band]
    rcases bit_or x i with h | h <;> rw [h] <;> rfl
  rw [bxor_eq, e]
  omega
theorem sz_step {W : Nat} (hw : W ≠ 0) {u y : Nat} (u0 : 0 < u) (u1 : u < 2 ^ W) : sz W (u + 2 ^ W * y) = sz W y + 1 := eq_of_le fun k => by
  cases k with
  | zero =>
    rw [sz_le hw, Nat.mul_zero, Nat.pow_zero]
    omega
  | succ k =>
    rw [sz_le hw, Nat.succ_le_succ_iff, sz_le hw, Nat.mul_succ, Nat.pow_add, Nat.mul_comm (2 ^ (W * k))]
    constructor
    · intro h
      exact Nat.lt_of_mul_lt_mul_left (Nat.lt_of_le_of_lt (Nat.le_add_left _ _) h)
    · intro h
      have : 2 ^ W * (y + 1) ≤ 2 ^ W * 2 ^ (W * k) := Nat.mul_le_mul_left _ h
      rw [Nat.mul_succ] at this
      omega
theorem mod_step {W n : Nat} {u x : Int} (u0 : 0 ≤ u) (u1 : u < 2 ^ W) : (u + 2 ^ W * x) % 2 ^ ((n + 1) * W) = u + 2 ^ W * (x % 2 ^ (n * W)) := by
  have hp := ppos (n * W)
  have hW := ppos W
  have e := Int.mul_ediv_add_emod x (2 ^ (n * W))
  have m0 := Int.emod_nonneg x (b := 2 ^ (n * W)) (by omega)
  have m1 := Int.emod_lt_of_pos x hp
  rw [show (n + 1) * W = W + n * W by rw [Nat.succ_mul]; omega, Int.pow_add]
  generalize (2 : Int) ^ (n * W) = Z at *
  generalize x / Z = q at *
  generalize x % Z = s at *
  subst e
  have h1 : 0 ≤ 2 ^ W * s := Int.mul_nonneg (Int.le_of_lt hW) m0
  have h2 : 2 ^ W * (s + 1) ≤ 2 ^ W * Z := Int.mul_le_mul_of_nonneg_left (by omega) (Int.le_of_lt hW)
  rw [Int.mul_add, Int.mul_one] at h2
  rw [show u + 2 ^ W * (Z * q + s) = (u + 2 ^ W * s) + 2 ^ W * Z * q by rw [Int.mul_add, Int.mul_assoc]; omega, Int.add_mul_emod_self_left, Int.emod_eq_of_lt (by omega) (by omega)]
/-- the digit that passes a carry (t = 1) or a borrow (t = -1) on -/
def stpd (W : Nat) (t : Int) : Int := if t = 1 then 2 ^ W - 1 else 0
/-- over how many of the first k digits of U it goes -/
def chn (W : Nat) (t : Int) : Nat → Int → Nat
  | 0, _ => 0
  | k + 1, U => 1 + (if U % 2 ^ W = stpd W t then chn W t k (U / 2 ^ W) else 0)
theorem chn_mod {W : Nat} {t : Int} : ∀ (k : Nat) (U : Int), chn W t k (U % 2 ^ (k * W)) = chn W t k U
  | 0, _ => rfl
  | k + 1, U => by
    have e1 := mod_mod_pow U W (k * W)
    have e2 := mod_div_pow U W (k * W)
    rw [show W + k * W = (k + 1) * W by rw [Nat.succ_mul]; omega] at e1 e2
    show 1 + (if (U % 2 ^ ((k + 1) * W)) % 2 ^ W = stpd W t then chn W t k (U % 2 ^ ((k + 1) * W) / 2 ^ W) else 0) = 1 + (if U % 2 ^ W = stpd W t then chn W t k (U / 2 ^ W) else 0)
    rw [e1, e2, chn_mod k]
theorem chn_sz {W : Nat} (hw : W ≠ 0) {t : Int} (ht : t = 1 ∨ t = -1) : ∀ (k : Nat) (U : Int), chn W t k U = sz W (Builtin.bitXor (U + t) U % 2 ^ (k * W)).natAbs
  | 0, U => by
    show 0 = _
    rw [Nat.zero_mul, Int.pow_zero, Int.emod_one, Int.natAbs_zero, sz0 hw]
  | k + 1, U => by
    have hW := ppos W
    have W2 : (2 : Int) ≤ 2 ^ W := by
      have := Nat.one_lt_two_pow hw
      have := p2 W
      omega
    have a0 := Int.emod_nonneg U (b := 2 ^ W) (by omega)
    have a1 := Int.emod_lt_of_pos U hW
    have eU := Int.mul_ediv_add_emod U (2 ^ W)
    obtain ⟨d1, d2⟩ := dig0 (B := 2 ^ W) (t := t) (d := U % 2 ^ W + t) hW (by rcases ht with rfl | rfl <;> omega)
    have e0 := Int.emod_nonneg (U % 2 ^ W + t) (b := 2 ^ W) (by omega)
    have e1 := Int.emod_lt_of_pos (U % 2 ^ W + t) hW
    have hc : (U % 2 ^ W = stpd W t) ↔ cry (2 ^ W) (U % 2 ^ W + t) = 1 := by
      unfold stpd
      rcases ht with rfl | rfl
      · rw [if_pos rfl]
        constructor
        · intro z; exact cry1 (.inr (by omega))
        · intro z
          rcases Int.lt_or_le (U % 2 ^ W + 1) (2 ^ W) with q | q
          · rw [cry0 (by omega) q] at z; cases z
          · omega
      · rw [if_neg (by decide)]
        constructor
        · intro z; exact cry1 (.inl (by omega))
        · intro z
          rcases Int.lt_or_le (U % 2 ^ W + -1) 0 with q | q
          · omega
          · rw [cry0 q (by omega)] at z; cases z
    show 1 + (if U % 2 ^ W = stpd W t then chn W t k (U / 2 ^ W) else 0) = _
    have ih := chn_sz hw ht k (U / 2 ^ W)
    have ne : (U % 2 ^ W + t) % 2 ^ W ≠ U % 2 ^ W := fun e => by
      rw [e] at d1
      rcases ht with rfl | rfl <;> rcases d2 with d2 | d2 <;> rw [d2] at d1 <;> omega
    generalize hc1 : cry (2 ^ W) (U % 2 ^ W + t) = c at *
    generalize he : (U % 2 ^ W + t) % 2 ^ W = e at *
    have sU : Builtin.bitXor (U + t) U = Builtin.bitXor (e + 2 ^ W * (U / 2 ^ W + t * c)) (U % 2 ^ W + 2 ^ W * (U / 2 ^ W)) := by
      congr 1
      · rw [Int.mul_add]; omega
      · omega
    rw [sU, bxor_step e0 e1 a0 a1]
    obtain ⟨x0, x1, x2⟩ := bxor_small e0 e1 a0 a1
    have x2 := x2 ne
    rw [mod_step x0 x1]
    generalize Builtin.bitXor e (U % 2 ^ W) = u at x0 x1 x2 ⊢
    obtain ⟨u, rfl⟩ := Int.eq_ofNat_of_zero_le x0
    have := p2 W
    by_cases q : U % 2 ^ W = stpd W t
    · rw [if_pos q, ih, hc.mp q, Int.mul_one]
      have y0 := Int.emod_nonneg (Builtin.bitXor (U / 2 ^ W + t) (U / 2 ^ W)) (b := 2 ^ (k * W)) (by have := ppos (k * W); omega)
      generalize Builtin.bitXor (U / 2 ^ W + t) (U / 2 ^ W) % 2 ^ (k * W) = y at y0 ⊢
      obtain ⟨y, rfl⟩ := Int.eq_ofNat_of_zero_le y0
      rw [p2, ← Int.natCast_mul, ← Int.natCast_add, Int.natAbs_natCast, Int.natAbs_natCast, sz_step hw (by omega) (by omega)]
      omega
    · have c0 : c = 0 := by
        rcases d2 with z | z
        · exact z
        · exact absurd (hc.mpr z) q
      rw [if_neg q, c0, Int.mul_zero, Int.add_zero, bxor_self, Int.zero_emod, Int.mul_zero, Int.add_zero, Int.natAbs_natCast]
      have := sz_step hw (u := u) (y := 0) (by omega) (by omega)
      rw [Nat.mul_zero, Nat.add_zero, sz0 hw] at this
      omega
/-- how many digits of a room of r digits, joined with a number of p digits, are gone over -/
def jcnt (W : Nat) (t : Int) (r p : Nat) (room more : Int) : Nat :=
  p + (if (decide (0 ≤ room % 2 ^ (p * W) + t * more) && decide (room % 2 ^ (p * W) + t * more < 2 ^ (p * W))) = true then 0 else chn W t (r - p) (room / 2 ^ (p * W)))
theorem jcnt_mod {W : Nat} {t : Int} {r p : Nat} (hp : p ≤ r) (room more : Int) : jcnt W t r p (room % 2 ^ (r * W)) more = jcnt W t r p room more := by
  have e : r * W = p * W + (r - p) * W := by rw [← Nat.add_mul]; congr 1; omega
  unfold jcnt
  rw [e, mod_mod_pow, mod_div_pow, chn_mod]
theorem jcnt_xor {W : Nat} (hw : W ≠ 0) {t : Int} (ht : t = 1 ∨ t = -1) {r p : Nat} {room more : Int} (m0 : 0 ≤ more) (m1 : more < 2 ^ (p * W)) :
    jcnt W t r p room more = p + sz W ((Builtin.bitXor (room + t * more) room / 2 ^ (p * W)) % 2 ^ ((r - p) * W)).natAbs := by
  have hP := ppos (p * W)
  have a0 := Int.emod_nonneg room (b := 2 ^ (p * W)) (by omega)
  have a1 := Int.emod_lt_of_pos room hP
  have eR := Int.mul_ediv_add_emod room (2 ^ (p * W))
  obtain ⟨d1, d2⟩ := dig0 (B := 2 ^ (p * W)) (t := t) (d := room % 2 ^ (p * W) + t * more) hP (by rcases ht with rfl | rfl <;> omega)
  have e0 := Int.emod_nonneg (room % 2 ^ (p * W) + t * more) (b := 2 ^ (p * W)) (by omega)
  have e1 := Int.emod_lt_of_pos (room % 2 ^ (p * W) + t * more) hP
  have hc : (decide (0 ≤ room % 2 ^ (p * W) + t * more) && decide (room % 2 ^ (p * W) + t * more < 2 ^ (p * W))) = true ↔ cry (2 ^ (p * W)) (room % 2 ^ (p * W) + t * more) = 0 := by
    rw [Bool.and_eq_true, decide_eq_true_iff, decide_eq_true_iff]
    constructor
    · intro ⟨z1, z2⟩; exact cry0 z1 z2
    · intro z
      rcases Int.lt_or_le (room % 2 ^ (p * W) + t * more) 0 with q | q
      · rw [cry1 (.inl q)] at z; cases z
      · rcases Int.lt_or_le (room % 2 ^ (p * W) + t * more) (2 ^ (p * W)) with q2 | q2
        · exact ⟨q, q2⟩
        · rw [cry1 (.inr q2)] at z; cases z
  unfold jcnt
  congr 1
  generalize cry (2 ^ (p * W)) (room % 2 ^ (p * W) + t * more) = c at *
  generalize he : (room % 2 ^ (p * W) + t * more) % 2 ^ (p * W) = e at *
  have sU : Builtin.bitXor (room + t * more) room = Builtin.bitXor (e + 2 ^ (p * W) * (room / 2 ^ (p * W) + t * c)) (room % 2 ^ (p * W) + 2 ^ (p * W) * (room / 2 ^ (p * W))) := by
    congr 1
    · rw [Int.mul_add]; omega
    · omega
  rw [sU, bxor_step e0 e1 a0 a1]
  obtain ⟨x0, x1, _⟩ := bxor_small e0 e1 a0 a1
  rw [Int.add_mul_ediv_left _ _ (by omega), Int.ediv_eq_zero_of_lt x0 x1, Int.zero_add]
  by_cases q : (decide (0 ≤ room % 2 ^ (p * W) + t * more) && decide (room % 2 ^ (p * W) + t * more < 2 ^ (p * W))) = true
  · rw [if_pos q, hc.mp q, Int.mul_zero, Int.add_zero, bxor_self, Int.zero_emod, Int.natAbs_zero, sz0 hw]
  · have c1 : c = 1 := by
      rcases d2 with z | z
      · exact absurd (hc.mpr z) q
      · exact z
    rw [if_neg q, c1, Int.mul_one, chn_sz hw ht]
/-- what is counted and entered, step by step -/
inductive Ev where
  | en (w : Str) (m n : Int)
  | st (w : Str) (k : Int)
def Ev.onM : MS → Ev → MS
  | S, .en w m n => S.enter w m n
  | S, .st w k => S.step w k
def runM (l : List Ev) (S : MS) : MS := l.foldl Ev.onM S
theorem runM_cons (e : Ev) (l : List Ev) (S : MS) : runM (e :: l) S = runM l (Ev.onM S e) := rfl
theorem runM_app (l m : List Ev) (S : MS) : runM (l ++ m) S = runM m (runM l S) := List.foldl_append
theorem runM_w : ∀ (l : List Ev) (S : MS), (runM l S).w = S.w
  | [], _ => rfl
  | .en _ _ _ :: l, S => (runM_w l _).trans rfl
  | .st _ _ :: l, S => (runM_w l _).trans rfl
theorem runM_c : ∀ (l : List Ev) (S : MS), (runM l S).c = S.c
  | [], _ => rfl
  | .en _ _ _ :: l, S => (runM_c l _).trans rfl
  | .st _ _ :: l, S => (runM_c l _).trans rfl
def jW (t : Int) : Str := if (decide (t = (1 : Int))) = true then ("add into" : Str) else ("take from" : Str)
def evJ (W : Nat) (t : Int) (r : Nat) (room : Int) (more : Nat) : List Ev := [.en (jW t) (r : Int) (sz W more : Nat), .st "sum" (jcnt W t r (sz W more) room (more : Int) : Nat)]
def evA (W a b : Nat) : List Ev := [.en "add" (sz W a : Nat) (sz W b : Nat), .st "sum" (max ((sz W a : Nat) : Int) ((sz W b : Nat) : Int))]
def evS (W : Nat) (sub : Nat → Nat → Nat → Nat → List Ev) (a m b n : Nat) : Nat → List Ev
  | 0 => []
  | i + 1 => evS W sub a m b n i ++ (sub a m (b / 2 ^ (i * m * W) % 2 ^ (m * W)) (min m (n - i * m)) ++ evJ W 1 (m + n - i * m) ((a * (b % 2 ^ (i * m * W)) / 2 ^ (i * m * W) : Nat) : Int) (a * (b / 2 ^ (i * m * W) % 2 ^ (m * W))))
/-- the middle room ahead of both takings -/
def midR (P lo hi : Nat) : Int := ((lo / P : Nat) : Int) + (hi : Int) * (P : Int)
def evK (W : Nat) (sub : Nat → Nat → Nat → Nat → List Ev) (a m b n : Nat) : List Ev :=
  sub (a / 2 ^ (n / 2 * W)) (sz W (a / 2 ^ (n / 2 * W))) (b / 2 ^ (n / 2 * W)) (sz W (b / 2 ^ (n / 2 * W))) ++
  (sub (a % 2 ^ (n / 2 * W)) (sz W (a % 2 ^ (n / 2 * W))) (b % 2 ^ (n / 2 * W)) (sz W (b % 2 ^ (n / 2 * W))) ++
  (evJ W (-1) (m + n - n / 2) (midR (2 ^ (n / 2 * W)) ((a % 2 ^ (n / 2 * W)) * (b % 2 ^ (n / 2 * W))) ((a / 2 ^ (n / 2 * W)) * (b / 2 ^ (n / 2 * W)))) ((a % 2 ^ (n / 2 * W)) * (b % 2 ^ (n / 2 * W))) ++
  (evJ W (-1) (m + n - n / 2) (midR (2 ^ (n / 2 * W)) ((a % 2 ^ (n / 2 * W)) * (b % 2 ^ (n / 2 * W))) ((a / 2 ^ (n / 2 * W)) * (b / 2 ^ (n / 2 * W))) + (-1) * (((a % 2 ^ (n / 2 * W)) * (b % 2 ^ (n / 2 * W)) : Nat) : Int)) ((a / 2 ^ (n / 2 * W)) * (b / 2 ^ (n / 2 * W))) ++
  (evA W (a / 2 ^ (n / 2 * W)) (a % 2 ^ (n / 2 * W)) ++ (evA W (b / 2 ^ (n / 2 * W)) (b % 2 ^ (n / 2 * W)) ++
  (sub (a / 2 ^ (n / 2 * W) + a % 2 ^ (n / 2 * W)) (sz W (a / 2 ^ (n / 2 * W) + a % 2 ^ (n / 2 * W))) (b / 2 ^ (n / 2 * W) + b % 2 ^ (n / 2 * W)) (sz W (b / 2 ^ (n / 2 * W) + b % 2 ^ (n / 2 * W))) ++
  evJ W 1 (m + n - n / 2) (midR (2 ^ (n / 2 * W)) ((a % 2 ^ (n / 2 * W)) * (b % 2 ^ (n / 2 * W))) ((a / 2 ^ (n / 2 * W)) * (b / 2 ^ (n / 2 * W))) + (-1) * (((a % 2 ^ (n / 2 * W)) * (b % 2 ^ (n / 2 * W)) : Nat) : Int) + (-1) * (((a / 2 ^ (n / 2 * W)) * (b / 2 ^ (n / 2 * W)) : Nat) : Int))
    ((a / 2 ^ (n / 2 * W) + a % 2 ^ (n / 2 * W)) * (b / 2 ^ (n / 2 * W) + b % 2 ^ (n / 2 * W)))))))))
def evC (W C : Nat) (sub : Nat → Nat → Nat → Nat → List Ev) (a m b n : Nat) : List Ev :=
  if m = 0 then [] else if m ≤ C then [.en "rows" (m : Int) (n : Int), .st "product" ((m : Int) * (n : Int))]
  else if 2 * m ≤ n then .en "lopsided" (m : Int) (n : Int) :: evS W sub a m b n ((n + m - 1) / m)
  else .en "karatsuba" (m : Int) (n : Int) :: evK W sub a m b n
def evM (W C : Nat) : Nat → Nat → Nat → Nat → Nat → List Ev
  | 0, _, _, _, _ => []
  | k + 1, a, m, b, n => if n < m then evC W C (evM W C k) b n a m else evC W C (evM W C k) a m b n
/-! ### numbers -/
theorem slice_step (a b Q M : Nat) : a * (b % (Q * M)) = a * (b % Q) + Q * (a * (b / Q % M)) := by
  rw [Nat.mod_mul, Nat.mul_add, ← Nat.mul_assoc, ← Nat.mul_assoc, Nat.mul_comm a Q]
theorem room_step {a b Q : Nat} (M : Nat) (hQ : 0 < Q) : a * (b % Q) % Q + (a * (b % Q) / Q + a * (b / Q % M)) * Q = a * (b % (Q * M)) := by
  rw [slice_step]
  have e := Nat.mod_add_div (a * (b % Q)) Q
  rw [Nat.add_mul, Nat.mul_comm (a * (b % Q) / Q), Nat.mul_comm _ Q]
  omega
theorem mid_val {P al ah bl bh : Nat} (hP : 0 < P) : midR P (al * bl) (ah * bh) + (-1) * ((al * bl : Nat) : Int) + (-1) * ((ah * bh : Nat) : Int) + 1 * (((ah + al) * (bh + bl) : Nat) : Int) = (((al + P * ah) * (bl + P * bh) / P : Nat) : Int) := by
  have e : (al + P * ah) * (bl + P * bh) = al * bl + P * (al * bh + ah * bl + P * (ah * bh)) := by grind
  rw [e, Nat.add_mul_div_left _ _ hP]
  unfold midR
  generalize al * bl / P = d
  simp only [Int.natCast_add, Int.natCast_mul]
  grind
theorem whole_val {P al ah bl bh : Nat} (hP : 0 < P) : al * bl % P + ((al + P * ah) * (bl + P * bh) / P) * P = (al + P * ah) * (bl + P * bh) := by
  have e : (al + P * ah) * (bl + P * bh) = al * bl + P * (al * bh + ah * bl + P * (ah * bh)) := by grind
  have q := Nat.mod_add_div ((al + P * ah) * (bl + P * bh)) P
  have m : (al + P * ah) * (bl + P * bh) % P = al * bl % P := by rw [e, Nat.add_mul_mod_self_left]
  rw [m] at q
  rw [Nat.mul_comm _ P]
  exact q
theorem mul_lt_pow {a b j k : Nat} (ha : a < 2 ^ j) (hb : b < 2 ^ k) : a * b < 2 ^ (j + k) := by
  rw [Nat.pow_add]
  exact Nat.mul_lt_mul_of_lt_of_lt ha hb
theorem pow_le2 {j k : Nat} (h : j ≤ k) : 2 ^ j ≤ 2 ^ k := Nat.pow_le_pow_right (by decide) h
theorem add_lt_pow {a b k : Nat} (ha : a < 2 ^ k) (hb : b < 2 ^ k) : a + b < 2 ^ (k + 1) := by rw [Nat.pow_succ]; omega
theorem div_lt_pow {a j k : Nat} (ha : a < 2 ^ (j + k)) : a / 2 ^ j < 2 ^ k := by
  rw [Nat.pow_add] at ha
  exact Nat.div_lt_of_lt_mul ha
section
variable {W C : Nat} {S : MS} (hS : S.w = (W : Int)) (h8 : 8 ≤ W) (h : W ≤ 30)
include hS h8 h in
theorem jroom_ok {t : Int} (ht : t = 1 ∨ t = -1) {r more : Nat} {room : Int} (hpr : sz W more ≤ r) (hr : r ≤ 4194304) :
    M_joined_room S room (r : Int) (more : Int) ((sz W more : Nat) : Int) t = some (room + t * (more : Int), runM (evJ W t r room more) S) := by
  have hw : W ≠ 0 := by omega
  have hSw : ∀ (w : Str) (a b : Int), (S.enter w a b).w = (W : Int) := fun _ _ _ => hS
  have m1 : ((more : Nat) : Int) < 2 ^ (sz W more * W) := by
    have := sz_lt hw more
    rw [Nat.mul_comm] at this
    rw [p2]
    omega
  have st := jcnt_xor hw ht (r := r) (room := room) (Int.natCast_nonneg more) m1
  unfold M_joined_room
  simp only [hSw]
  refine bnd_of (chkP_eq (mul_small (by omega))) ?_
  refine bnd_of rfl ?_
  refine bnd_of (chkP_eq (mul_small' (by omega))) ?_
  rw [← Int.natCast_mul]
  refine bnd_of (chkP_eq (by omega)) ?_
  rw [Int.toNat_natCast]
  refine bnd_of rfl ?_
  refine bnd_of (a := (jcnt W t r (sz W more) room (more : Int) : Int)) ?_ (bnd_of (chkP_eq (by decide +kernel)) rfl)
  rw [st]
  by_cases q : Builtin.bitXor (room + t * (more : Int)) room / 2 ^ (sz W more * W) = 0
  · rw [q, Int.zero_emod, Int.natAbs_zero, sz0 hw]
    rfl
  · rw [decide_eq_false q, if_pos (show (!false) = true from rfl), show (r : Int) - ((sz W more : Nat) : Int) = ((r - sz W more : Nat) : Int) by omega]
    refine bnd_of (low_ok h _ (by omega)) ?_
    refine bnd_of (size_ok h8 h _) ?_
    refine bnd_of rfl ?_
    rw [← Int.natCast_add]
include hS h8 h in
theorem parts_ok {a cut : Nat} (hc : cut ≤ 4194304) : M_parts_of S (a : Int) (cut : Int) = some (T4.mk ((a % 2 ^ (cut * W) : Nat) : Int) ((sz W (a % 2 ^ (cut * W)) : Nat) : Int) ((a / 2 ^ (cut * W) : Nat) : Int) ((sz W (a / 2 ^ (cut * W)) : Nat) : Int)) := by
  unfold M_parts_of
  rw [hS]
  refine bnd_of (low_ok h _ hc) ?_
  refine bnd_of (chkP_eq (mul_small' (by omega))) ?_
  rw [← Int.natCast_mul]
  refine bnd_of (chkP_eq (by omega)) ?_
  rw [Int.toNat_natCast, p2, ← Int.natCast_emod, ← Int.natCast_ediv]
  refine bnd_of rfl ?_
  refine bnd_of (size_ok h8 h _) ?_
  refine bnd_of (size_ok h8 h _) ?_
  rfl
theorem addedE_ok (S : MS) (a b : Nat) : M_added S (a : Int) ((sz W a : Nat) : Int) (b : Int) ((sz W b : Nat) : Int) = some (((a + b : Nat) : Int), runM (evA W a b) S) := by
  unfold M_added
  exact bnd_of (chkP_eq (by decide +kernel)) rfl
include hS h8 h in
theorem above_ok {r cut lo hi N : Nat} (h1 : sz W lo ≤ r) (h2 : sz W hi ≤ r) (hr : r ≤ 1000000) (hc : cut ≤ r) (hh : hi < 2 ^ N) (hN : N ≤ 60000000) :
    M_room_above S (r : Int) (cut : Int) (lo : Int) (hi : Int) = some (midR (2 ^ (cut * W)) lo hi + (-1) * (lo : Int) + (-1) * (hi : Int), runM (evJ W (-1) r (midR (2 ^ (cut * W)) lo hi + (-1) * (lo : Int)) hi) (runM (evJ W (-1) r (midR (2 ^ (cut * W)) lo hi) lo) S)) := by
  have cw : cut * W ≤ 1000000 * 30 := Nat.mul_le_mul (by omega) h
  have e : ((lo : Int) / 2 ^ (cut * W) + (hi : Int) * 2 ^ (cut * W)) = midR (2 ^ (cut * W)) lo hi := by
    unfold midR
    rw [p2, ← Int.natCast_ediv]
  unfold M_room_above
  rw [hS]
  refine bnd_of (chkP_eq (mul_small' (by omega))) ?_
  rw [← Int.natCast_mul]
  refine bnd_of (chkP_eq (by omega)) ?_
  refine bnd_of (chkP_eq (mul_small' (by omega))) ?_
  refine bnd_of (chkP_eq (shl_ok (k := N) (by rw [Int.natAbs_natCast]; exact hh) (by omega) (by omega))) ?_
  rw [Int.toNat_natCast, e]
  refine bnd_of rfl ?_
  refine bnd_of (size_ok h8 h _) ?_
  rw [Int.natAbs_natCast]
  refine bnd_of (jroom_ok hS h8 h (.inr rfl) h1 (by omega)) ?_
  have hS2 := (runM_w (evJ W (-1) r (midR (2 ^ (cut * W)) lo hi) lo) S).trans hS
  dsimp only
  rw [hS2]
  refine bnd_of (size_ok h8 h _) ?_
  rw [Int.natAbs_natCast]
  exact bnd_of (jroom_ok hS2 h8 h (.inr rfl) h2 (by omega)) rfl
include hS h8 h in
theorem wholer_ok {r cut lo mi N : Nat} {above : Int} {val : Nat} (h1 : sz W mi ≤ r) (hr : r ≤ 1000000) (hc : cut ≤ r) (hv : above + 1 * (mi : Int) = (val : Int)) (hh : val < 2 ^ N) (hN : N ≤ 60000000) :
    M_whole_room S (r : Int) (cut : Int) (lo : Int) above (mi : Int) = some (((lo % 2 ^ (cut * W) + val * 2 ^ (cut * W) : Nat) : Int), runM (evJ W 1 r above mi) S) := by
  have cw : cut * W ≤ 1000000 * 30 := Nat.mul_le_mul (by omega) h
  unfold M_whole_room
  rw [hS]
  refine bnd_of (size_ok h8 h _) ?_
  rw [Int.natAbs_natCast]
  refine bnd_of (jroom_ok hS h8 h (.inl rfl) h1 (by omega)) ?_
  have hS2 := (runM_w (evJ W 1 r above mi) S).trans hS
  dsimp only
  rw [hS2, hv]
  refine bnd_of (low_ok h _ (by omega)) ?_
  refine bnd_of (chkP_eq (mul_small' (by omega))) ?_
  rw [← Int.natCast_mul]
  refine bnd_of (chkP_eq (shl_ok (k := N) (by rw [Int.natAbs_natCast]; exact hh) (by omega) (by omega))) ?_
  rw [Int.toNat_natCast, p2, ← Int.natCast_emod, ← Int.natCast_mul, ← Int.natCast_add]
end
/-- the parts' sizes fit into the room -/
structure KFit (W a m b n : Nat) : Prop where
  lo : sz W ((a % 2 ^ (n / 2 * W)) * (b % 2 ^ (n / 2 * W))) ≤ m + n - n / 2
  hi : sz W ((a / 2 ^ (n / 2 * W)) * (b / 2 ^ (n / 2 * W))) ≤ m + n - n / 2
  mi : sz W ((a / 2 ^ (n / 2 * W) + a % 2 ^ (n / 2 * W)) * (b / 2 ^ (n / 2 * W) + b % 2 ^ (n / 2 * W))) ≤ m + n - n / 2
theorem mod_lt_pow (a k : Nat) : a % 2 ^ k < 2 ^ k := Nat.mod_lt _ (Nat.two_pow_pos k)
theorem kfit {W a m b n : Nat} (h8 : 8 ≤ W) (ha : a < 2 ^ (W * m)) (hb : b < 2 ^ (W * n)) (hmn : m ≤ n) (h2 : n < 2 * m) (hn : 2 ≤ n) : KFit W a m b n := by
  have hw : W ≠ 0 := by omega
  have la := mod_lt_pow a (n / 2 * W)
  have lb := mod_lt_pow b (n / 2 * W)
  have c1 : n / 2 < m := by omega
  have e1 : W * m = n / 2 * W + W * (m - n / 2) := by rw [Nat.mul_comm (n / 2), ← Nat.mul_add]; congr 1; omega
  have e2 : W * n = n / 2 * W + W * (n - n / 2) := by rw [Nat.mul_comm (n / 2), ← Nat.mul_add]; congr 1; omega
  have ua : a / 2 ^ (n / 2 * W) < 2 ^ (W * (m - n / 2)) := div_lt_pow (by rw [← e1]; exact ha)
  have ub : b / 2 ^ (n / 2 * W) < 2 ^ (W * (n - n / 2)) := div_lt_pow (by rw [← e2]; exact hb)
  refine ⟨(sz_le hw).mpr (Nat.lt_of_lt_of_le (mul_lt_pow la lb) (pow_le2 ?_)), (sz_le hw).mpr (Nat.lt_of_lt_of_le (mul_lt_pow ua ub) (pow_le2 ?_)), (sz_le hw).mpr ?_⟩
  · rw [← Nat.add_mul, Nat.mul_comm]
    exact Nat.mul_le_mul_left _ (by omega)
  · rw [← Nat.mul_add]
    exact Nat.mul_le_mul_left _ (by omega)
  · have x1 : a / 2 ^ (n / 2 * W) < 2 ^ (W * (m - 1)) := Nat.lt_of_lt_of_le ua (pow_le2 (Nat.mul_le_mul_left _ (by omega)))
    have x2 : a % 2 ^ (n / 2 * W) < 2 ^ (W * (m - 1)) := Nat.lt_of_lt_of_le la (pow_le2 (by rw [Nat.mul_comm]; exact Nat.mul_le_mul_left _ (by omega)))
    have y1 : b / 2 ^ (n / 2 * W) < 2 ^ (W * (n - n / 2)) := ub
    have y2 : b % 2 ^ (n / 2 * W) < 2 ^ (W * (n - n / 2)) := Nat.lt_of_lt_of_le lb (pow_le2 (by rw [Nat.mul_comm]; exact Nat.mul_le_mul_left _ (by omega)))
    refine Nat.lt_of_lt_of_le (mul_lt_pow (add_lt_pow x1 x2) (add_lt_pow y1 y2)) (pow_le2 ?_)
    have e : W * (m + n - n / 2) = W * (m - 1) + W * (n - n / 2) + W := by rw [← Nat.mul_add, ← Nat.mul_succ]; congr 1; omega
    omega
section
variable {W C : Nat} {S : MS} (hS : S.w = (W : Int)) (hC : S.c = (C : Int)) (h8 : 8 ≤ W) (h : W ≤ 30)
include hS hC h8 h in
theorem kar_ok {g a m b n N : Nat} {sub : Nat → Nat → Nat → Nat → List Ev} (ha : a < 2 ^ (W * m)) (hb : b < 2 ^ (W * n)) (hmn : m ≤ n) (h2 : n < 2 * m) (hn2 : 2 ≤ n) (hn : n ≤ 250000)
    (l1 : a / 2 ^ (n / 2 * W) + a % 2 ^ (n / 2 * W) < 2 ^ N) (l2 : b / 2 ^ (n / 2 * W) + b % 2 ^ (n / 2 * W) < 2 ^ N) (hN : N ≤ 4000000)
    (hsub : ∀ (S : MS) (x y : Nat), S.w = (W : Int) → S.c = (C : Int) → x < 2 ^ N → y < 2 ^ N → M_multiplied g S (x : Int) ((sz W x : Nat) : Int) (y : Int) ((sz W y : Nat) : Int) = some (((x * y : Nat) : Int), runM (sub x (sz W x) y (sz W y)) S)) :
    M_karatsuba_product (g + 1) S (a : Int) (m : Int) (b : Int) (n : Int) = some (((a * b : Nat) : Int), runM (.en "karatsuba" (m : Int) (n : Int) :: evK W sub a m b n) S) := by
  have hw : W ≠ 0 := by omega
  have K := kfit h8 ha hb hmn h2 hn2
  obtain ⟨k1, k2, k3⟩ := K
  have P0 := Nat.two_pow_pos (n / 2 * W)
  have ea := Nat.mod_add_div a (2 ^ (n / 2 * W))
  have eb := Nat.mod_add_div b (2 ^ (n / 2 * W))
  have ab := mul_lt_pow ha hb
  have bn := Nat.mul_le_mul h hn
  have bm := Nat.mul_le_mul h (Nat.le_trans hmn hn)
  have er : ((m : Int) + (n : Int)) - ((n / 2 : Nat) : Int) = ((m + n - n / 2 : Nat) : Int) := by omega
  rw [M_karatsuba_product_succ, runM_cons]
  refine bnd_of (chkP_eq (cdiv_s (by decide) (by decide))) ?_
  rw [show (n : Int) / 2 = ((n / 2 : Nat) : Int) from rfl]
  refine bnd_of rfl ?_
  show (M_parts_of (Ev.onM S (.en "karatsuba" (m : Int) (n : Int))) (a : Int) ((n / 2 : Nat) : Int)).bind _ = _
  have hS1 : (Ev.onM S (.en "karatsuba" (m : Int) (n : Int))).w = (W : Int) := hS
  have hC1 : (Ev.onM S (.en "karatsuba" (m : Int) (n : Int))).c = (C : Int) := hC
  change (M_parts_of (Ev.onM S (.en "karatsuba" (m : Int) (n : Int))) (a : Int) ((n / 2 : Nat) : Int)).bind (fun z3 => (M_parts_of (Ev.onM S (.en "karatsuba" (m : Int) (n : Int))) (b : Int) ((n / 2 : Nat) : Int)).bind fun z4 => (M_multiplied g (Ev.onM S (.en "karatsuba" (m : Int) (n : Int))) z3.c z3.d z4.c z4.d).bind fun z5 => _) = _
  generalize hS0 : Ev.onM S (.en "karatsuba" (m : Int) (n : Int)) = S1 at *
  refine bnd_of (parts_ok hS1 h8 h (by omega)) ?_
  refine bnd_of (parts_ok hS1 h8 h (by omega)) ?_
  unfold evK
  simp only [runM_app]
  have hP : 0 < 2 ^ (n / 2 * W) := P0
  have mv := mid_val (al := a % 2 ^ (n / 2 * W)) (ah := a / 2 ^ (n / 2 * W)) (bl := b % 2 ^ (n / 2 * W)) (bh := b / 2 ^ (n / 2 * W)) hP
  have wv := whole_val (al := a % 2 ^ (n / 2 * W)) (ah := a / 2 ^ (n / 2 * W)) (bl := b % 2 ^ (n / 2 * W)) (bh := b / 2 ^ (n / 2 * W)) hP
  rw [ea, eb] at mv wv
  have vb : a * b / 2 ^ (n / 2 * W) < 2 ^ (W * m + W * n) := Nat.lt_of_le_of_lt (Nat.div_le_self _ _) ab
  generalize a % 2 ^ (n / 2 * W) = al at *
  generalize a / 2 ^ (n / 2 * W) = ah at *
  generalize b % 2 ^ (n / 2 * W) = bl at *
  generalize b / 2 ^ (n / 2 * W) = bh at *
  refine bnd_of (hsub _ ah bh hS1 hC1 (by omega) (by omega)) ?_
  have hS2 := (runM_w (sub ah (sz W ah) bh (sz W bh)) S1).trans hS1
  have hC2 := (runM_c (sub ah (sz W ah) bh (sz W bh)) S1).trans hC1
  dsimp only
  generalize runM (sub ah (sz W ah) bh (sz W bh)) S1 = S2 at *
  refine bnd_of (hsub _ al bl hS2 hC2 (by omega) (by omega)) ?_
  have hS3 := (runM_w (sub al (sz W al) bl (sz W bl)) S2).trans hS2
  have hC3 := (runM_c (sub al (sz W al) bl (sz W bl)) S2).trans hC2
  dsimp only
  generalize runM (sub al (sz W al) bl (sz W bl)) S2 = S3 at *
  have hhi : ah * bh < 2 ^ (N + N) := mul_lt_pow (by omega) (by omega)
  rw [er]
  refine bnd_of (above_ok hS3 h8 h k1 k2 (by omega) (by omega) hhi (by omega)) ?_
  dsimp only
  have hS4 := (runM_w (evJ W (-1) (m + n - n / 2) (midR (2 ^ (n / 2 * W)) (al * bl) (ah * bh) + (-1) * ((al * bl : Nat) : Int)) (ah * bh)) (runM (evJ W (-1) (m + n - n / 2) (midR (2 ^ (n / 2 * W)) (al * bl) (ah * bh)) (al * bl)) S3)).trans ((runM_w (evJ W (-1) (m + n - n / 2) (midR (2 ^ (n / 2 * W)) (al * bl) (ah * bh)) (al * bl)) S3).trans hS3)
  have hC4 := (runM_c (evJ W (-1) (m + n - n / 2) (midR (2 ^ (n / 2 * W)) (al * bl) (ah * bh) + (-1) * ((al * bl : Nat) : Int)) (ah * bh)) (runM (evJ W (-1) (m + n - n / 2) (midR (2 ^ (n / 2 * W)) (al * bl) (ah * bh)) (al * bl)) S3)).trans ((runM_c (evJ W (-1) (m + n - n / 2) (midR (2 ^ (n / 2 * W)) (al * bl) (ah * bh)) (al * bl)) S3).trans hC3)
  generalize runM (evJ W (-1) (m + n - n / 2) (midR (2 ^ (n / 2 * W)) (al * bl) (ah * bh) + (-1) * ((al * bl : Nat) : Int)) (ah * bh)) (runM (evJ W (-1) (m + n - n / 2) (midR (2 ^ (n / 2 * W)) (al * bl) (ah * bh)) (al * bl)) S3) = S4 at *
  refine bnd_of (addedE_ok S4 ah al) ?_
  have hS5 := (runM_w (evA W ah al) S4).trans hS4
  have hC5 := (runM_c (evA W ah al) S4).trans hC4
  dsimp only
  generalize runM (evA W ah al) S4 = S5 at *
  refine bnd_of (addedE_ok S5 bh bl) ?_
  have hS6 := (runM_w (evA W bh bl) S5).trans hS5
  have hC6 := (runM_c (evA W bh bl) S5).trans hC5
  dsimp only
  generalize runM (evA W bh bl) S5 = S6 at *
  rw [hS6]
  refine bnd_of (size_ok h8 h _) ?_
  refine bnd_of (size_ok h8 h _) ?_
  rw [Int.natAbs_natCast, Int.natAbs_natCast]
  refine bnd_of (hsub _ (ah + al) (bh + bl) hS6 hC6 l1 l2) ?_
  have hS7 := (runM_w (sub (ah + al) (sz W (ah + al)) (bh + bl) (sz W (bh + bl))) S6).trans hS6
  dsimp only
  generalize runM (sub (ah + al) (sz W (ah + al)) (bh + bl) (sz W (bh + bl))) S6 = S7 at *
  refine bnd_of (wholer_ok hS7 h8 h k3 (by omega) (by omega) mv vb (by omega)) ?_
  rw [wv]
end
theorem rngS_get {c : Int} {n i : Nat} {x : Int} (h : (rngS c n)[i]? = some x) : i < n ∧ x = 0 + (i : Int) * c := by
  unfold rngS at h
  rw [List.getElem?_map] at h
  cases e : (List.range n)[i]? with
  | none => rw [e] at h; cases h
  | some k =>
    rw [e] at h
    have lt := getlt e
    rw [List.length_range] at lt
    rw [List.getElem?_range lt] at e
    cases e
    cases h
    exact ⟨lt, rfl⟩
theorem rngS_len (c : Int) (n : Nat) : (rngS c n).length = n := by unfold rngS; rw [List.length_map, List.length_range]
theorem cdivN {n m : Nat} (hm : 0 < m) : (((n : Int) + (m : Int) - 1) / (m : Int)).toNat = (n + m - 1) / m := by
  rw [show (n : Int) + (m : Int) - 1 = ((n + m - 1 : Nat) : Int) by omega, ← Int.natCast_ediv, Int.toNat_natCast]
theorem slc_lt {n m i : Nat} (hm : 0 < m) (h : i < (n + m - 1) / m) : i * m < n := by
  have := (Nat.le_div_iff_mul_le hm).mp h
  rw [Nat.succ_mul] at this
  omega
theorem slc_all {n m : Nat} (hm : 0 < m) : n ≤ (n + m - 1) / m * m := by
  have := Nat.div_add_mod (n + m - 1) m
  have := Nat.mod_lt (n + m - 1) hm
  rw [Nat.mul_comm]
  omega
/-- a slice's sizes -/
theorem slc_fit {W a m b n i : Nat} (hw : W ≠ 0) (ha : a < 2 ^ (W * m)) (hb : b < 2 ^ (W * n)) (hi : i * m < n) :
    b / 2 ^ (i * m * W) % 2 ^ (m * W) < 2 ^ (W * min m (n - i * m)) ∧ sz W (a * (b / 2 ^ (i * m * W) % 2 ^ (m * W))) ≤ m + n - i * m := by
  have e2 : W * n = i * m * W + W * (n - i * m) := by rw [Nat.mul_comm (i * m), ← Nat.mul_add]; congr 1; omega
  have u : b / 2 ^ (i * m * W) < 2 ^ (W * (n - i * m)) := div_lt_pow (by rw [← e2]; exact hb)
  have v := mod_lt_pow (b / 2 ^ (i * m * W)) (m * W)
  have s : b / 2 ^ (i * m * W) % 2 ^ (m * W) < 2 ^ (W * min m (n - i * m)) := by
    rcases Nat.le_total m (n - i * m) with q | q
    · rw [Nat.min_eq_left q, Nat.mul_comm W m]; exact v
    · rw [Nat.min_eq_right q]; exact Nat.lt_of_le_of_lt (Nat.mod_le _ _) u
  refine ⟨s, (sz_le hw).mpr (Nat.lt_of_lt_of_le (mul_lt_pow ha s) (pow_le2 ?_))⟩
  rw [← Nat.mul_add]
  exact Nat.mul_le_mul_left _ (by omega)
theorem rm_bound (a b Q M : Nat) (hQ : 0 < Q) : a * (b % Q) / Q + a * (b / Q % M) ≤ a * b := by
  have e := room_step (a := a) (b := b) M hQ
  have l : a * (b % (Q * M)) ≤ a * b := Nat.mul_le_mul_left _ (Nat.mod_le _ _)
  have q : a * (b % Q) / Q + a * (b / Q % M) ≤ (a * (b % Q) / Q + a * (b / Q % M)) * Q := Nat.le_mul_of_pos_right _ hQ
  omega
section
variable {W C : Nat} {S : MS} (hS : S.w = (W : Int)) (hC : S.c = (C : Int)) (h8 : 8 ≤ W) (h : W ≤ 30)
include hS hC h8 h in
theorem lop_ok {g a m b n : Nat} {sub : Nat → Nat → Nat → Nat → List Ev} (ha : a < 2 ^ (W * m)) (hb : b < 2 ^ (W * n)) (hm : 0 < m) (hmn : m ≤ n) (hn : n ≤ 250000)
    (hsub : ∀ (S : MS) (y s : Nat), S.w = (W : Int) → S.c = (C : Int) → s ≤ m → y < 2 ^ (W * s) → M_multiplied g S (a : Int) (m : Int) (y : Int) (s : Int) = some (((a * y : Nat) : Int), runM (sub a m y s) S)) :
    M_lopsided_product (g + 1) S (a : Int) (m : Int) (b : Int) (n : Int) = some (((a * b : Nat) : Int), runM (.en "lopsided" (m : Int) (n : Int) :: evS W sub a m b n ((n + m - 1) / m)) S) := by
  have hw : W ≠ 0 := by omega
  have ab := mul_lt_pow ha hb
  have bn := Nat.mul_le_mul h hn
  have bm := Nat.mul_le_mul h (Nat.le_trans hmn hn)
  have hS1 : (Ev.onM S (.en "lopsided" (m : Int) (n : Int))).w = (W : Int) := hS
  have hC1 : (Ev.onM S (.en "lopsided" (m : Int) (n : Int))).c = (C : Int) := hC
  rw [M_lopsided_product_succ, runM_cons]
  refine bnd_of (a := (W : Int)) (congrArg some hS1) ?_
  refine bnd_of (chkP_eq ⟨by omega, by omega, by omega, by omega⟩) ?_
  show (forM' _ _ ((b : Int), (0 : Int), Ev.onM S (.en "lopsided" (m : Int) (n : Int)))).bind _ = _
  generalize Ev.onM S (.en "lopsided" (m : Int) (n : Int)) = S1 at *
  rw [cdivN hm]
  obtain ⟨s, e, hI⟩ := forM_ind (b := fun (a4 : Int) (s3 : Int × Int × MS) => (M_low_part (W : Int) s3.1 (m : Int)).bind fun z5 => (M_multiplied g s3.2.2 (a : Int) (m : Int) z5 (min (m : Int) ((n : Int) - a4))).bind fun z6 => (chkP (IntMulOk (m : Int) (W : Int))).bind fun z7 => (chkP (0 ≤ ((m : Int) * (W : Int)))).bind fun z8 => (some (s3.1 / 2 ^ (((m : Int) * (W : Int))).toNat)).bind fun y9 => (chkP (IntMulOk a4 (W : Int))).bind fun z10 => (chkP (0 ≤ (a4 * (W : Int)))).bind fun z11 => (M_size_of z6.2.w z6.1).bind fun z12 => (M_joined_room z6.2 (s3.2.1 / 2 ^ ((a4 * (W : Int))).toNat) (((m : Int) + (n : Int)) - a4) z6.1 z12 (1 : Int)).bind fun z13 => (M_low_part (W : Int) s3.2.1 a4).bind fun z14 => (chkP (IntMulOk a4 (W : Int))).bind fun z15 => (chkP (CShl z13.1 (a4 * (W : Int)))).bind fun z16 => (some (z14 + (z13.1 * 2 ^ ((a4 * (W : Int))).toNat))).bind fun y17 => some (Stp.nx (ρ := Unit) (y9, y17, z13.2)))
    (fun i s => s = (((b / 2 ^ (i * m * W) : Nat) : Int), ((a * (b % 2 ^ (i * m * W)) : Nat) : Int), runM (evS W sub a m b n i) S1)) (rngS (m : Int) ((n + m - 1) / m)) 0 ((b : Int), (0 : Int), S1) (by
      intro i x s hx hs
      obtain ⟨hi, rfl⟩ := rngS_get hx
      rw [Nat.zero_add] at hs ⊢
      subst hs
      have him := slc_lt hm hi
      obtain ⟨f1, f2⟩ := slc_fit hw ha hb him
      have Q0 := Nat.two_pow_pos (i * m * W)
      have rb := rm_bound a b (2 ^ (i * m * W)) (2 ^ (m * W)) Q0
      have rs := room_step (a := a) (b := b) (2 ^ (m * W)) Q0
      have ep : 2 ^ ((i + 1) * m * W) = 2 ^ (i * m * W) * 2 ^ (m * W) := by rw [← Nat.pow_add, ← Nat.add_mul, ← Nat.succ_mul]
      have iw : i * m * W ≤ 250000 * 30 := Nat.mul_le_mul (by omega) h
      have hS2 := (runM_w (evS W sub a m b n i) S1).trans hS1
      have hC2 := (runM_c (evS W sub a m b n i) S1).trans hC1
      refine ⟨_, ?_, rfl⟩
      rw [ep, ← rs, ← Nat.div_div_eq_div_mul, evS, runM_app]
      rw [show (0 : Int) + (i : Int) * (m : Int) = ((i * m : Nat) : Int) by rw [Int.natCast_mul]; omega]
      rw [runM_app]
      generalize runM (evS W sub a m b n i) S1 = S2 at *
      dsimp only
      refine bnd_of (low_ok h _ (by omega)) ?_
      rw [p2, ← Int.natCast_emod, show min (m : Int) ((n : Int) - ((i * m : Nat) : Int)) = ((min m (n - i * m) : Nat) : Int) by omega]
      refine bnd_of (hsub _ _ _ hS2 hC2 (Nat.min_le_left _ _) f1) ?_
      refine bnd_of (chkP_eq (mul_small' (by omega))) ?_
      rw [← Int.natCast_mul]
      refine bnd_of (chkP_eq (by omega)) ?_
      rw [Int.toNat_natCast, p2, ← Int.natCast_ediv]
      refine bnd_of rfl ?_
      refine bnd_of (chkP_eq (mul_small' (by omega))) ?_
      rw [← Int.natCast_mul]
      refine bnd_of (chkP_eq (by omega)) ?_
      rw [Int.toNat_natCast]
      have hS3 := (runM_w (sub a m (b / 2 ^ (i * m * W) % 2 ^ (m * W)) (min m (n - i * m))) S2).trans hS2
      dsimp only
      generalize runM (sub a m (b / 2 ^ (i * m * W) % 2 ^ (m * W)) (min m (n - i * m))) S2 = S3 at *
      rw [hS3]
      refine bnd_of (size_ok h8 h _) ?_
      rw [Int.natAbs_natCast, p2, ← Int.natCast_ediv, show ((m : Int) + (n : Int)) - ((i * m : Nat) : Int) = ((m + n - i * m : Nat) : Int) by omega]
      refine bnd_of (jroom_ok hS3 h8 h (.inl rfl) f2 (by omega)) ?_
      dsimp only
      refine bnd_of (low_ok h _ (by omega)) ?_
      refine bnd_of (chkP_eq (mul_small' (by omega))) ?_
      rw [Int.one_mul, ← Int.natCast_add]
      refine bnd_of (chkP_eq (shl_ok (k := W * m + W * n) (by rw [Int.natAbs_natCast]; omega) (by omega) (by omega))) ?_
      rw [p2, ← Int.natCast_emod, ← Int.natCast_mul, ← Int.natCast_add]
      rfl) (by
      rw [Nat.zero_mul, Nat.zero_mul, Nat.pow_zero, Nat.div_one, Nat.mod_one, Nat.mul_zero]; rfl)
  rw [rngS_len, Nat.zero_add] at hI
  refine bnd_of e ?_
  rw [hI]
  refine bnd_of rfl ?_
  have lt : b < 2 ^ ((n + m - 1) / m * m * W) := Nat.lt_of_lt_of_le hb (pow_le2 (by rw [Nat.mul_comm W]; exact Nat.mul_le_mul_right _ (slc_all hm)))
  rw [Nat.mod_eq_of_lt lt]
end
def lvl (W k : Nat) : Nat := (W - 2) * 2 ^ k + W + 2
structure Fit (W N m a : Nat) : Prop where
  sm : a < 2 ^ (W * m)
  bd : a < 2 ^ N
  len : W * m < N + W
theorem fit_sz {W N x : Nat} (hw : W ≠ 0) (h : x < 2 ^ N) : Fit W N (sz W x) x := by
  refine ⟨sz_lt hw x, h, ?_⟩
  have hk : N ≤ W * ((N + W - 1) / W) := by
    have := Nat.div_add_mod (N + W - 1) W
    have := Nat.mod_lt (N + W - 1) (show 0 < W by omega)
    omega
  have l := (sz_le hw).mpr (Nat.lt_of_lt_of_le h (pow_le2 hk))
  have l := Nat.mul_le_mul_left W l
  have := Nat.mul_div_le (N + W - 1) W
  omega
theorem mul_swap {g : Nat} {S : MS} {a m b n : Int} (q : n < m) : M_multiplied (g + 1) S a m b n = M_multiplied (g + 1) S b n a m := by
  rw [M_multiplied_succ, M_multiplied_succ, if_pos (decide_eq_true q), if_neg (by rw [decide_eq_true_iff]; omega)]
  rfl
theorem lvl0 {W : Nat} (h8 : 8 ≤ W) : lvl W 0 = 2 * W := by unfold lvl; omega
theorem lvl_s {W k N : Nat} (h : N ≤ lvl W (k + 1)) (h8 : 8 ≤ W) : (N + W) / 2 + 1 ≤ lvl W k := by
  unfold lvl at *
  rw [Nat.pow_succ, ← Nat.mul_assoc] at h
  omega
section
variable {W C : Nat} (h8 : 8 ≤ W) (h : W ≤ 30) (hC2 : 2 ≤ C)
include h8 h hC2 in
theorem core_ok {g a m b n N : Nat} {S : MS} {sub : Nat → Nat → Nat → Nat → List Ev} (hS : S.w = (W : Int)) (hC : S.c = (C : Int)) (fa : Fit W N m a) (fb : Fit W N n b) (hmn : m ≤ n) (hN : N ≤ 1900000)
    (ih : C < m → ∃ g2, g = g2 + 1 ∧ ∀ (S : MS) (x p y q N' : Nat), S.w = (W : Int) → S.c = (C : Int) → Fit W N' p x → Fit W N' q y → N' ≤ (N + W) / 2 + 1 → M_multiplied g2 S (x : Int) (p : Int) (y : Int) (q : Int) = some (((x * y : Nat) : Int), runM (sub x p y q) S)) :
    M_multiplied (g + 1) S (a : Int) (m : Int) (b : Int) (n : Int) = some (((a * b : Nat) : Int), runM (evC W C sub a m b n) S) := by
  have hw : W ≠ 0 := by omega
  obtain ⟨a1, a2, a3⟩ := fa
  obtain ⟨b1, b2, b3⟩ := fb
  have nb : n ≤ 250000 := by
    rcases Nat.lt_or_ge 250000 n with q | q
    · have := Nat.mul_le_mul h8 q
      have := Nat.mul_le_mul_right n h8
      omega
    · exact q
  have bn := Nat.mul_le_mul h nb
  have bm := Nat.mul_le_mul h (Nat.le_trans hmn nb)
  rw [M_multiplied_succ]
  refine bnd_of (a := ((a : Int), (m : Int), (b : Int), (n : Int))) (by rw [if_neg (by rw [decide_eq_true_iff]; omega)]) ?_
  dsimp only
  unfold evC
  by_cases q0 : m = 0
  · subst q0
    rw [Nat.mul_zero, Nat.pow_zero] at a1
    have a0 : a = 0 := by omega
    subst a0
    rw [if_pos (by rfl), if_pos rfl, Nat.zero_mul]
    rfl
  · rw [if_neg (by rw [decide_eq_true_iff]; omega), if_neg q0, hC]
    by_cases q1 : m ≤ C
    · rw [if_pos (decide_eq_true (by omega)), if_pos q1]
      refine bnd_of (a := (((a * b : Nat) : Int), runM [.en "rows" (m : Int) (n : Int), .st "product" ((m : Int) * (n : Int))] S)) ?_ rfl
      unfold M_product_by_rows
      refine bnd_of (chkP_eq (mul_small (by omega))) ?_
      refine bnd_of (chkP_eq (by decide +kernel)) ?_
      refine bnd_of (chkP_eq (mul_big (j := W * m) (k := W * n) (by rw [Int.natAbs_natCast]; exact a1) (by rw [Int.natAbs_natCast]; exact b1) (by omega))) ?_
      rw [← Int.natCast_mul]
      rfl
    · rw [if_neg (by rw [decide_eq_true_iff]; omega), if_neg q1]
      obtain ⟨g2, rfl, ih2⟩ := ih (by omega)
      refine bnd_of (chkP_eq (mul_small (by decide))) ?_
      by_cases q2 : 2 * m ≤ n
      · rw [if_pos (decide_eq_true (by omega)), if_pos q2]
        have e2 : 2 * (W * m) ≤ W * n := by
          have := Nat.mul_le_mul_left W q2
          rw [← Nat.mul_assoc, Nat.mul_comm W 2, Nat.mul_assoc] at this
          exact this
        refine bnd_of (lop_ok hS hC h8 h a1 b1 (by omega) hmn nb (sub := sub) fun S y s u1 u2 u3 u4 => ?_) rfl
        have hl : W * s ≤ W * m := Nat.mul_le_mul_left W u3
        exact ih2 S a m y s (W * m) u1 u2 ⟨a1, a1, by omega⟩ ⟨u4, Nat.lt_of_lt_of_le u4 (pow_le2 hl), by omega⟩ (by omega)
      · rw [if_neg (by rw [decide_eq_true_iff]; omega), if_neg q2]
        have e1 : W * n = 2 * (n / 2 * W) + (n % 2) * W := by
          rw [← Nat.mul_assoc, ← Nat.add_mul, Nat.mul_comm W]
          congr 1
          omega
        have e2 : (n % 2) * W ≤ 1 * W := Nat.mul_le_mul_right _ (by omega)
        have half : ∀ z : Nat, z < 2 ^ (W * n) → z < 2 ^ N → z / 2 ^ (n / 2 * W) + z % 2 ^ (n / 2 * W) < 2 ^ ((N + W) / 2 + 1) := fun z z1 z2 => by
          have zl : z % 2 ^ (n / 2 * W) < 2 ^ ((N + W) / 2) := Nat.lt_of_lt_of_le (mod_lt_pow z _) (pow_le2 (by omega))
          have zh : z / 2 ^ (n / 2 * W) < 2 ^ ((N + W) / 2) := by
            refine div_lt_pow ?_
            rcases Nat.le_total N (W * n) with w | w
            · exact Nat.lt_of_lt_of_le z2 (pow_le2 (by omega))
            · exact Nat.lt_of_lt_of_le z1 (pow_le2 (by omega))
          exact add_lt_pow zh zl
        have hl : W * m ≤ W * n := Nat.mul_le_mul_left W hmn
        refine bnd_of (kar_ok hS hC h8 h a1 b1 hmn (by omega) (by omega) nb (half a (Nat.lt_of_lt_of_le a1 (pow_le2 hl)) a2) (half b b1 b2) (by omega) (sub := sub) fun S x y u1 u2 u3 u4 => ?_) rfl
        exact ih2 S x _ y _ _ u1 u2 (fit_sz hw u3) (fit_sz hw u4) (Nat.le_refl _)
include h8 h hC2 in
theorem mul_ok : ∀ (k g : Nat) (S : MS) (a m b n N : Nat), 2 * k + 1 ≤ g → S.w = (W : Int) → S.c = (C : Int) → Fit W N m a → Fit W N n b → N ≤ lvl W k → N ≤ 1900000 →
    M_multiplied g S (a : Int) (m : Int) (b : Int) (n : Int) = some (((a * b : Nat) : Int), runM (evM W C (k + 1) a m b n) S) := by
  intro k
  induction k with
  | zero =>
    intro g S a m b n N hg hS hC fa fb hk hN
    obtain ⟨g, rfl⟩ : ∃ j, g = j + 1 := ⟨g - 1, by omega⟩
    rw [lvl0 h8] at hk
    have small : ∀ z, W * z < N + W → ¬ C < z := fun z hz q => by
      have := Nat.mul_le_mul_left W (show 3 ≤ z by omega)
      omega
    unfold evM
    by_cases q : n < m
    · rw [mul_swap (by omega), if_pos q, Nat.mul_comm a b]
      exact core_ok h8 h hC2 hS hC fb fa (by omega) hN fun z => absurd z (small n fb.len)
    · rw [if_neg q]
      exact core_ok h8 h hC2 hS hC fa fb (by omega) hN fun z => absurd z (small m fa.len)
  | succ k ihk =>
    intro g S a m b n N hg hS hC fa fb hk hN
    obtain ⟨g, rfl⟩ : ∃ j, g = j + 2 := ⟨g - 2, by omega⟩
    have hs := lvl_s hk h8
    have ih : ∃ g2, g + 1 = g2 + 1 ∧ ∀ (S : MS) (x p y q N' : Nat), S.w = (W : Int) → S.c = (C : Int) → Fit W N' p x → Fit W N' q y → N' ≤ (N + W) / 2 + 1 → M_multiplied g2 S (x : Int) (p : Int) (y : Int) (q : Int) = some (((x * y : Nat) : Int), runM (evM W C (k + 1) x p y q) S) :=
      ⟨g, rfl, fun S x p y q N' u1 u2 u3 u4 u5 => ihk g S x p y q N' (by omega) u1 u2 u3 u4 (by omega) (by omega)⟩
    rw [evM]
    by_cases q : n < m
    · rw [mul_swap (by omega), if_pos q, Nat.mul_comm a b]
      exact core_ok h8 h hC2 hS hC fb fa (by omega) hN fun _ => ih
    · rw [if_neg q]
      exact core_ok h8 h hC2 hS hC fa fb (by omega) hN fun _ => ih
end
/-! ### what a law keeps in a dict and a list -/
def Ev.onC : List (Str × Int) → Ev → List (Str × Int)
  | cs, .en _ _ _ => cs
  | cs, .st w k => if 0 < k then dput cs w (((cs.lookup w).getD (0 : Int)) + k) else cs
def Ev.onW : List (T3 Str Int Int) → Ev → List (T3 Str Int Int)
  | wk, .en w m n => wk ++ [T3.mk w m n]
  | wk, .st _ _ => wk
def runC (l : List Ev) (cs : List (Str × Int)) : List (Str × Int) := l.foldl Ev.onC cs
def runW (l : List Ev) (wk : List (T3 Str Int Int)) : List (T3 Str Int Int) := l.foldl Ev.onW wk
theorem runC_app (l m : List Ev) (s : List (Str × Int)) : runC (l ++ m) s = runC m (runC l s) := List.foldl_append
theorem runW_app (l m : List Ev) (s : List (T3 Str Int Int)) : runW (l ++ m) s = runW m (runW l s) := List.foldl_append
theorem runC_cons (e : Ev) (l : List Ev) (s : List (Str × Int)) : runC (e :: l) s = runC l (Ev.onC s e) := rfl
theorem runW_cons (e : Ev) (l : List Ev) (s : List (T3 Str Int Int)) : runW (e :: l) s = runW l (Ev.onW s e) := rfl
/-- how many routines are entered -/
def evN : List Ev → Nat
  | [] => 0
  | .en _ _ _ :: l => evN l + 1
  | .st _ _ :: l => evN l
theorem evN_app : ∀ l m : List Ev, evN (l ++ m) = evN l + evN m
  | [], m => by show evN m = 0 + evN m; omega
  | .en _ _ _ :: l, m => by show evN (l ++ m) + 1 = evN l + 1 + evN m; rw [evN_app l m]; omega
  | .st _ _ :: l, m => by show evN (l ++ m) = evN l + evN m; rw [evN_app l m]
theorem runW_len : ∀ (l : List Ev) (wk : List (T3 Str Int Int)), (runW l wk).length = wk.length + evN l
  | [], wk => rfl
  | .en _ _ _ :: l, wk => by rw [runW_cons, runW_len l]; show (wk ++ [_]).length + evN l = _; rw [List.length_append]; show wk.length + 1 + evN l = wk.length + (evN l + 1); omega
  | .st _ _ :: l, wk => by rw [runW_cons, runW_len l]; rfl
def EvOk (l : List Ev) : Prop := ∀ e ∈ l, match e with | .st w k => w ∈ mwords ∧ 0 ≤ k | .en w _ _ => (PyData.str w).canLay0 = true
theorem evok_nil : EvOk [] := fun e h => (by cases h)
theorem evok_app {l m : List Ev} (h1 : EvOk l) (h2 : EvOk m) : EvOk (l ++ m) := fun e h => (List.mem_append.mp h).elim (h1 e) (h2 e)
theorem evok_en {w : Str} {m n : Int} {l : List Ev} (h : EvOk l) (hw : (PyData.str w).canLay0 = true := by decide +kernel) : EvOk (.en w m n :: l) := fun e he => by
  rcases List.mem_cons.mp he with q | q
  · subst q; exact hw
  · exact h e q
theorem evok_st {w : Str} {k : Int} {l : List Ev} (h : EvOk l) (hk : 0 ≤ k) (hw : w ∈ mwords := by decide +kernel) : EvOk (.st w k :: l) := fun e he => by
  rcases List.mem_cons.mp he with q | q
  · subst q; exact ⟨hw, hk⟩
  · exact h e q
structure CsOk (cs : List (Str × Int)) : Prop where
  nd : (cs.map (·.1)).Nodup
  wd : ∀ x ∈ cs, x.1 ∈ mwords
  ps : ∀ x ∈ cs, 0 < x.2
theorem csok_nil : CsOk [] := ⟨List.nodup_nil, fun x h => (by cases h), fun x h => (by cases h)⟩
theorem csok_len {cs : List (Str × Int)} (h : CsOk cs) : cs.length ≤ 10 := by
  have := nd_le (l := cs.map (·.1)) (m := mwords) h.nd fun x hx => by
    obtain ⟨p, hp, rfl⟩ := List.mem_map.mp hx
    exact h.wd p hp
  rw [List.length_map] at this
  exact this
theorem dput_keys {cs : List (Str × Int)} {w : Str} {v : Int} : ((dput cs w v).map (·.1) = cs.map (·.1) ∧ w ∈ cs.map (·.1)) ∨ (dput cs w v = cs ++ [(w, v)] ∧ w ∉ cs.map (·.1)) := by
  unfold dput
  by_cases q : (cs.any fun p => decide (p.1 = w)) = true
  · rw [if_pos q]
    left
    obtain ⟨p, hp, he⟩ := List.any_eq_true.mp q
    refine ⟨?_, List.mem_map.mpr ⟨p, hp, of_decide_eq_true he⟩⟩
    rw [List.map_map]
    apply List.map_congr_left
    intro x _
    show (if x.1 = w then (x.1, v) else x).1 = x.1
    split <;> rfl
  · rw [if_neg q]
    right
    refine ⟨rfl, fun h => q ?_⟩
    obtain ⟨p, hp, he⟩ := List.mem_map.mp h
    exact List.any_eq_true.mpr ⟨p, hp, decide_eq_true he⟩
theorem dput_mem {cs : List (Str × Int)} {w : Str} {v : Int} {x : Str × Int} (h : x ∈ dput cs w v) : x = (w, v) ∨ x ∈ cs := by
  unfold dput at h
  split at h
  · obtain ⟨p, hp, e⟩ := List.mem_map.mp h
    by_cases q : p.1 = w
    · rw [if_pos q] at e
      left
      rw [← e, q]
    · rw [if_neg q] at e
      right
      rw [← e]
      exact hp
  · rcases List.mem_append.mp h with h | h
    · exact .inr h
    · exact .inl (List.mem_singleton.mp h)
theorem lookup_nonneg {cs : List (Str × Int)} (h : CsOk cs) (w : Str) : 0 ≤ (cs.lookup w).getD (0 : Int) := by
  cases e : cs.lookup w with
  | none => exact Int.le_refl _
  | some v =>
    have := h.ps _ (mem_lookup e)
    show 0 ≤ v
    exact Int.le_of_lt this
theorem csok_put {cs : List (Str × Int)} (h : CsOk cs) {w : Str} {k : Int} (hw : w ∈ mwords) (hk : 0 < k) : CsOk (dput cs w (((cs.lookup w).getD (0 : Int)) + k)) := by
  have l0 := lookup_nonneg h w
  refine ⟨?_, fun x hx => ?_, fun x hx => ?_⟩
  · rcases dput_keys (cs := cs) (w := w) (v := ((cs.lookup w).getD (0 : Int)) + k) with ⟨e, _⟩ | ⟨e, n⟩
    · rw [e]; exact h.nd
    · rw [e, List.map_append]
      refine List.nodup_append.mpr ⟨h.nd, by simp, fun a ha b hb => ?_⟩
      rw [List.map_singleton, List.mem_singleton] at hb
      subst hb
      exact fun z => n (z ▸ ha)
  · rcases dput_mem hx with e | e
    · rw [e]; exact hw
    · exact h.wd x e
  · rcases dput_mem hx with e | e
    · rw [e]; show 0 < _ + k; omega
    · exact h.ps x e
theorem csok_run : ∀ {l : List Ev} {cs : List (Str × Int)}, CsOk cs → EvOk l → CsOk (runC l cs)
  | [], _, h, _ => h
  | .en _ _ _ :: l, cs, h, he => csok_run (l := l) (cs := cs) h fun e q => he e (List.mem_cons_of_mem _ q)
  | .st w k :: l, cs, h, he => by
    obtain ⟨hw, hk⟩ := he (.st w k) List.mem_cons_self
    refine csok_run (l := l) (cs := Ev.onC cs (.st w k)) ?_ fun e q => he e (List.mem_cons_of_mem _ q)
    show CsOk (if 0 < k then dput cs w (((cs.lookup w).getD (0 : Int)) + k) else cs)
    split
    · exact csok_put h hw (by assumption)
    · exact h
/-! ### the events are good -/
theorem evok_J {W r more : Nat} {t room : Int} : EvOk (evJ W t r room more) := by
  unfold evJ jW
  refine evok_en (evok_st evok_nil (Int.natCast_nonneg _)) ?_
  split <;> decide +kernel
theorem evok_A {W a b : Nat} : EvOk (evA W a b) := evok_en (evok_st evok_nil (by omega))
theorem evok_S {W : Nat} {sub : Nat → Nat → Nat → Nat → List Ev} (hs : ∀ x p y q, EvOk (sub x p y q)) {a m b n : Nat} : ∀ i, EvOk (evS W sub a m b n i)
  | 0 => evok_nil
  | i + 1 => evok_app (evok_S hs i) (evok_app (hs _ _ _ _) evok_J)
theorem evok_K {W : Nat} {sub : Nat → Nat → Nat → Nat → List Ev} (hs : ∀ x p y q, EvOk (sub x p y q)) {a m b n : Nat} : EvOk (evK W sub a m b n) := by
  unfold evK
  exact evok_app (hs _ _ _ _) (evok_app (hs _ _ _ _) (evok_app evok_J (evok_app evok_J (evok_app evok_A (evok_app evok_A (evok_app (hs _ _ _ _) evok_J))))))
theorem evok_C {W C : Nat} {sub : Nat → Nat → Nat → Nat → List Ev} (hs : ∀ x p y q, EvOk (sub x p y q)) {a m b n : Nat} : EvOk (evC W C sub a m b n) := by
  unfold evC
  split
  · exact evok_nil
  · split
    · exact evok_en (evok_st evok_nil (Int.mul_nonneg (Int.natCast_nonneg _) (Int.natCast_nonneg _)))
    · split
      · exact evok_en (evok_S hs _)
      · exact evok_en (evok_K hs)
theorem evok_M {W C : Nat} : ∀ k a m b n, EvOk (evM W C k a m b n)
  | 0, _, _, _, _ => evok_nil
  | k + 1, a, m, b, n => by
    unfold evM
    split
    · exact evok_C (evok_M k)
    · exact evok_C (evok_M k)
section
variable {W C : Nat} {cs : List (Str × Int)} {wk : List (T3 Str Int Int)} {c2 B : Int} (h8 : 8 ≤ W) (h : W ≤ 30)
include h8 h in
theorem lsize_ok {x : Int} : M__law_size cs wk (W : Int) c2 B x = some ((sz W x.natAbs : Nat) : Int) := by
  have e := size_ok h8 h x
  unfold M_size_of at e
  unfold M__law_size
  exact e
theorem lnote_ok {w : Str} {m n b : Int} (hl : wk.length < 16000000) : M__law_note cs wk b c2 B w m n = some ((), cs, wk ++ [T3.mk w m n]) := by
  unfold M__law_note
  exact bnd_of (chkP_eq (size_lt (m := 16000000) (by omega) (by decide))) rfl
theorem lcount_ok {w : Str} {n b : Int} (hc : CsOk cs) : M__law_count cs wk b c2 B w n = some ((), Ev.onC cs (.st w n), wk) := by
  unfold M__law_count
  show _ = some ((), (if 0 < n then dput cs w (((cs.lookup w).getD (0 : Int)) + n) else cs), wk)
  by_cases q : 0 < n
  · rw [if_pos (decide_eq_true q), if_pos q]
    exact bnd_of (chkP_eq (size_lt (m := 10) (csok_len hc) (by decide))) rfl
  · rw [if_neg (by rw [decide_eq_true_iff]; exact q), if_neg q]
include h8 h in
theorem into_loop {t : Int} (ht : t = 1 ∨ t = -1) {r : Nat} : ∀ (k fuel : Nat) (g : Bool) (rest : Int) (steps : Nat), steps + k = r → k < fuel → ∃ (g' : Bool) (r' : Int),
    whileM (ρ := Unit) (fun (s12 : Bool × Int × Int) => some (s12.1 && (decide (s12.2.2 < (r : Int))))) (fun (s12 : Bool × Int × Int) => (chkP (0 < ((2 ^ W : Nat) : Int))).bind fun z13 => (atI ([(0 : Int), (((2 ^ W : Nat) : Int) - (1 : Int))] : List Int) (if (decide ((0 : Int) < t)) = true then (1 : Int) else 0)).bind fun z14 => (some (decide ((s12.2.1 % ((2 ^ W : Nat) : Int)) = z14))).bind fun y15 => (chkP (CDivS s12.2.1 ((2 ^ W : Nat) : Int))).bind fun z16 => (some (s12.2.1 / ((2 ^ W : Nat) : Int))).bind fun y17 => (some (s12.2.2 + (1 : Int))).bind fun y18 => some (Stp.nx (y15, y17, y18))) fuel (g, rest, (steps : Int))
      = some (.nx (g', r', ((steps + (if g = true then chn W t k rest else 0) : Nat) : Int))) := by
  have B0 := Nat.two_pow_pos W
  have B30 : 2 ^ W ≤ 2 ^ 30 := Nat.pow_le_pow_right (by decide) h
  have ea : atI ([(0 : Int), (((2 ^ W : Nat) : Int) - (1 : Int))] : List Int) (if (decide ((0 : Int) < t)) = true then (1 : Int) else 0) = some (stpd W t) := by
    unfold stpd
    rw [p2]
    rcases ht with rfl | rfl <;> rfl
  intro k
  induction k with
  | zero =>
    intro fuel g rest steps hs hf
    obtain ⟨n, rfl⟩ : ∃ n, fuel = n + 1 := ⟨fuel - 1, by omega⟩
    refine ⟨g, rest, (whileM_f (by show some (g && decide ((steps : Int) < (r : Int))) = some false; rw [decide_eq_false (by omega), Bool.and_false])).trans ?_⟩
    congr 4
    cases g <;> rfl
  | succ k ih =>
    intro fuel g rest steps hs hf
    obtain ⟨n, rfl⟩ : ∃ n, fuel = n + 1 := ⟨fuel - 1, by omega⟩
    cases g with
    | false => exact ⟨false, rest, whileM_f rfl⟩
    | true =>
      obtain ⟨g', r', e⟩ := ih n (decide (rest % ((2 ^ W : Nat) : Int) = stpd W t)) (rest / ((2 ^ W : Nat) : Int)) (steps + 1) (by omega) (by omega)
      refine ⟨g', r', (whileM_t (s' := (decide (rest % ((2 ^ W : Nat) : Int) = stpd W t), rest / ((2 ^ W : Nat) : Int), ((steps + 1 : Nat) : Int))) (by show some (true && decide ((steps : Int) < (r : Int))) = some true; rw [decide_eq_true (by omega)]; rfl) ?_).trans (e.trans ?_)⟩
      · refine bnd_of (chkP_eq (by omega)) ?_
        refine bnd_of ea ?_
        refine bnd_of rfl ?_
        refine bnd_of (chkP_eq (show (0 : Int) < _ by omega)) ?_
        rfl
      · congr 5
        show steps + 1 + (if decide (rest % ((2 ^ W : Nat) : Int) = stpd W t) = true then chn W t k (rest / ((2 ^ W : Nat) : Int)) else 0) = steps + (1 + (if rest % 2 ^ W = stpd W t then chn W t k (rest / 2 ^ W) else 0))
        rw [p2]
        by_cases q : rest % ((2 ^ W : Nat) : Int) = stpd W t
        · rw [if_pos (decide_eq_true q), if_pos q]; omega
        · rw [if_neg (by rw [decide_eq_true_iff]; exact q), if_neg q]
include h8 h in
theorem into_ok (hc : CsOk cs) (hl : wk.length < 16000000) {t : Int} (ht : t = 1 ∨ t = -1) {r more : Nat} {room : Int} (hpr : sz W more ≤ r) (hr : r * W < 400000) :
    M__law_into cs wk (W : Int) c2 ((2 ^ W : Nat) : Int) room (r : Int) (more : Int) t = some ((room + t * (more : Int)) % 2 ^ (r * W), runC (evJ W t r room more) cs, runW (evJ W t r room more) wk) := by
  have pw : sz W more * W ≤ r * W := Nat.mul_le_mul_right _ hpr
  have P0 := Nat.two_pow_pos (sz W more * W)
  have tn : t.natAbs < 2 ^ 64 := by rcases ht with rfl | rfl <;> decide
  have ejw : (if (decide ((0 : Int) < t)) = true then ("add into" : Str) else ("take from" : Str)) = jW t := by rcases ht with rfl | rfl <;> rfl
  have mw : ∀ k : Nat, k * W < 400000 → IntMulOk (W : Int) (k : Int) ∧ CShl 1 ((W : Int) * (k : Int)) ∧ (1 : Int) * 2 ^ ((W : Int) * (k : Int)).toNat = ((2 ^ (k * W) : Nat) : Int) := fun k hk => by
    rw [← Int.natCast_mul, Nat.mul_comm W k, Int.toNat_natCast, Int.one_mul, p2]
    exact ⟨mul_small (by omega), shl_ok (k := 1) (by decide) (by omega) (by omega), rfl⟩
  obtain ⟨a1, a2, a3⟩ := mw (sz W more) (by omega)
  obtain ⟨b1, b2, b3⟩ := mw r hr
  unfold M__law_into
  refine bnd_of (lsize_ok h8 h) ?_
  rw [Int.natAbs_natCast]
  refine bnd_of (lnote_ok hl) ?_
  refine bnd_of (chkP_eq a1) ?_
  refine bnd_of (chkP_eq a2) ?_
  rw [a3]
  refine bnd_of rfl ?_
  refine bnd_of (chkP_eq (by omega)) ?_
  refine bnd_of (chkP_eq (mul_small tn)) ?_
  refine bnd_of (chkP_eq (show (0 : Int) < _ by omega)) ?_
  refine bnd_of rfl ?_
  refine bnd_of rfl ?_
  refine bnd_of rfl ?_
  rw [Int.toNat_natCast]
  obtain ⟨g', r', e⟩ := into_loop h8 h ht (r := r) (r - sz W more) (r + 1) (!(decide ((0 : Int) ≤ room % ((2 ^ (sz W more * W) : Nat) : Int) + t * (more : Int)) && decide (room % ((2 ^ (sz W more * W) : Nat) : Int) + t * (more : Int) < ((2 ^ (sz W more * W) : Nat) : Int)))) (room / ((2 ^ (sz W more * W) : Nat) : Int)) (sz W more) (by omega) (by omega)
  refine bnd_of e ?_
  refine bnd_of rfl ?_
  dsimp only
  refine bnd_of (lcount_ok hc) ?_
  refine bnd_of (chkP_eq (mul_small tn)) ?_
  refine bnd_of (chkP_eq b1) ?_
  refine bnd_of (chkP_eq b2) ?_
  rw [b3]
  refine bnd_of (chkP_eq (by have := Nat.two_pow_pos (r * W); omega)) ?_
  have ec : sz W more + (if (!(decide ((0 : Int) ≤ room % ((2 ^ (sz W more * W) : Nat) : Int) + t * (more : Int)) && decide (room % ((2 ^ (sz W more * W) : Nat) : Int) + t * (more : Int) < ((2 ^ (sz W more * W) : Nat) : Int)))) = true then chn W t (r - sz W more) (room / ((2 ^ (sz W more * W) : Nat) : Int)) else 0) = jcnt W t r (sz W more) room (more : Int) := by
    unfold jcnt
    rw [p2]
    cases (decide ((0 : Int) ≤ room % ((2 ^ (sz W more * W) : Nat) : Int) + t * (more : Int)) && decide (room % ((2 ^ (sz W more * W) : Nat) : Int) + t * (more : Int) < ((2 ^ (sz W more * W) : Nat) : Int))) <;> rfl
  rw [ec, ejw, p2]
  rfl
include h8 h in
theorem lsum_ok (hc : CsOk cs) (hl : wk.length < 16000000) {a b : Nat} : M__law_sum cs wk (W : Int) c2 B (a : Int) (b : Int) = some (((a + b : Nat) : Int), runC (evA W a b) cs, runW (evA W a b) wk) := by
  unfold M__law_sum
  refine bnd_of (chkP_eq (size_le (m := 2) (Nat.le_refl _) (by decide))) ?_
  refine bnd_of (a := ([((sz W a : Nat) : Int), ((sz W b : Nat) : Int)], ())) (lcM_cons1 (s1 := ()) (bnd_of (lsize_ok h8 h) (by rw [Int.natAbs_natCast])) (lcM_cons1 (s1 := ()) (bnd_of (lsize_ok h8 h) (by rw [Int.natAbs_natCast])) rfl)) ?_
  refine bnd_of (a := ((sz W a : Nat) : Int)) rfl ?_
  refine bnd_of (a := ((sz W b : Nat) : Int)) rfl ?_
  refine bnd_of (lnote_ok hl) ?_
  refine bnd_of (chkP_eq (by show 0 < 2; decide)) ?_
  refine bnd_of (lcount_ok hc) ?_
  rfl
end
theorem evN_J (W : Nat) (t : Int) (r : Nat) (room : Int) (more : Nat) : evN (evJ W t r room more) = 1 := rfl
theorem evN_A (W a b : Nat) : evN (evA W a b) = 1 := rfl
theorem evJ_mod {W : Nat} {t : Int} {r more : Nat} (hp : sz W more ≤ r) (room : Int) : evJ W t r (room % 2 ^ (r * W)) more = evJ W t r room more := by
  unfold evJ
  rw [jcnt_mod hp]
theorem mod_add (x y M : Int) : (x % M + y) % M = (x + y) % M := by rw [Int.add_emod, Int.emod_emod, ← Int.add_emod]
theorem midR_div {P lo hi : Nat} (hP : 0 < P) : (((lo + hi * (P * P) : Nat) : Int) / ((P : Nat) : Int)) = midR P lo hi ∧ ((lo + hi * (P * P)) % P = lo % P) := by
  unfold midR
  rw [← Int.natCast_ediv, ← Nat.mul_assoc, Nat.add_mul_div_right _ _ hP, Nat.add_mul_mod_self_right, Int.natCast_add, Int.natCast_mul]
  exact ⟨rfl, rfl⟩
section
variable {W C : Nat} {cs : List (Str × Int)} {wk : List (T3 Str Int Int)} (h8 : 8 ≤ W) (h : W ≤ 30)
include h8 h in
theorem lhalf_ok {g a m b n N : Nat} {sub : Nat → Nat → Nat → Nat → List Ev} (hc : CsOk cs) (hev : ∀ x p y q, EvOk (sub x p y q)) (hl : wk.length + 1 + evN (evK W sub a m b n) < 16000000)
    (ha : a < 2 ^ (W * m)) (hb : b < 2 ^ (W * n)) (hmn : m ≤ n) (h2 : n < 2 * m) (hn2 : 2 ≤ n) (hn : (m + n) * W < 400000)
    (l1 : a / 2 ^ (n / 2 * W) + a % 2 ^ (n / 2 * W) < 2 ^ N) (l2 : b / 2 ^ (n / 2 * W) + b % 2 ^ (n / 2 * W) < 2 ^ N) (hN : N ≤ 4000000)
    (hsub : ∀ (cs : List (Str × Int)) (wk : List (T3 Str Int Int)) (x y : Nat), CsOk cs → wk.length + evN (sub x (sz W x) y (sz W y)) < 16000000 → x < 2 ^ N → y < 2 ^ N →
      M__law_product g cs wk (W : Int) (C : Int) ((2 ^ W : Nat) : Int) (x : Int) ((sz W x : Nat) : Int) (y : Int) ((sz W y : Nat) : Int) = some (((x * y : Nat) : Int), runC (sub x (sz W x) y (sz W y)) cs, runW (sub x (sz W x) y (sz W y)) wk)) :
    M__law_halves (g + 1) cs wk (W : Int) (C : Int) ((2 ^ W : Nat) : Int) (a : Int) (m : Int) (b : Int) (n : Int) = some (((a * b : Nat) : Int), runC (.en "karatsuba" (m : Int) (n : Int) :: evK W sub a m b n) cs, runW (.en "karatsuba" (m : Int) (n : Int) :: evK W sub a m b n) wk) := by
  have hw : W ≠ 0 := by omega
  have K := kfit h8 ha hb hmn h2 hn2
  obtain ⟨k1, k2, k3⟩ := K
  have P0 := Nat.two_pow_pos (n / 2 * W)
  have ea := Nat.mod_add_div a (2 ^ (n / 2 * W))
  have eb := Nat.mod_add_div b (2 ^ (n / 2 * W))
  have ab := mul_lt_pow ha hb
  have er : ((m : Int) + (n : Int)) - ((n / 2 : Nat) : Int) = ((m + n - n / 2 : Nat) : Int) := by omega
  have cw : n / 2 * W ≤ (m + n) * W := Nat.mul_le_mul_right _ (by omega)
  have rw' : (m + n - n / 2) * W ≤ (m + n) * W := Nat.mul_le_mul_right _ (by omega)
  have sh : CShl 1 ((n / 2 * W : Nat) : Int) := shl_ok (k := 1) (by decide) (by omega) (by omega)
  have pos : 0 < ((2 ^ (n / 2 * W) : Nat) : Int) := by omega
  rw [M__law_halves_succ, runC_cons, runW_cons]
  refine bnd_of (lnote_ok (by omega)) ?_
  refine bnd_of (chkP_eq (cdiv_s (by decide) (by decide))) ?_
  rw [show (n : Int) / 2 = ((n / 2 : Nat) : Int) from rfl]
  refine bnd_of (chkP_eq (mul_small (by omega))) ?_
  rw [← Int.natCast_mul, Nat.mul_comm W (n / 2)]
  refine bnd_of rfl ?_
  rw [Int.toNat_natCast, Int.one_mul, p2, show (2 * ((n / 2 * W : Nat) : Int)).toNat = n / 2 * W + n / 2 * W by omega, Int.pow_add, p2]
  refine bnd_of (chkP_eq (by omega)) ?_
  refine bnd_of (chkP_eq sh) ?_
  refine bnd_of (chkP_eq pos) ?_
  rw [← Int.natCast_ediv, ← Int.natCast_emod]
  refine bnd_of rfl ?_
  refine bnd_of rfl ?_
  rw [← Int.natCast_ediv, ← Int.natCast_emod]
  unfold evK at hl ⊢
  simp only [runC_app, runW_app]
  simp only [evN_app, evN_J, evN_A] at hl
  have hP : 0 < 2 ^ (n / 2 * W) := P0
  have mv := mid_val (al := a % 2 ^ (n / 2 * W)) (ah := a / 2 ^ (n / 2 * W)) (bl := b % 2 ^ (n / 2 * W)) (bh := b / 2 ^ (n / 2 * W)) hP
  have wv := whole_val (al := a % 2 ^ (n / 2 * W)) (ah := a / 2 ^ (n / 2 * W)) (bl := b % 2 ^ (n / 2 * W)) (bh := b / 2 ^ (n / 2 * W)) hP
  rw [ea, eb] at mv wv
  have vb : a * b / 2 ^ (n / 2 * W) < 2 ^ ((m + n - n / 2) * W) := by
    refine div_lt_pow (Nat.lt_of_lt_of_le ab (pow_le2 ?_))
    rw [← Nat.mul_add, ← Nat.add_mul, Nat.mul_comm]
    exact Nat.mul_le_mul_right _ (by omega)
  have hlo := mul_lt_pow (mod_lt_pow a (n / 2 * W)) (mod_lt_pow b (n / 2 * W))
  generalize a % 2 ^ (n / 2 * W) = al at *
  generalize a / 2 ^ (n / 2 * W) = ah at *
  generalize b % 2 ^ (n / 2 * W) = bl at *
  generalize b / 2 ^ (n / 2 * W) = bh at *
  have eW0 : (Ev.onW wk (.en "karatsuba" (m : Int) (n : Int))).length = wk.length + 1 := by show (wk ++ [_]).length = _; rw [List.length_append]; rfl
  have hc0 : CsOk (Ev.onC cs (.en "karatsuba" (m : Int) (n : Int))) := hc
  change ((chkP (0 ≤ ((n / 2 * W : Nat) : Int))).bind fun _ => (chkP (CShl 1 ((n / 2 * W : Nat) : Int))).bind fun _ => (chkP (0 < ((2 ^ (n / 2 * W) : Nat) : Int))).bind fun _ => (some (bh : Int)).bind fun y13 => (some (bl : Int)).bind fun y14 => (M__law_size (Ev.onC cs (.en "karatsuba" (m : Int) (n : Int))) (Ev.onW wk (.en "karatsuba" (m : Int) (n : Int))) (W : Int) (C : Int) ((2 ^ W : Nat) : Int) (ah : Int)).bind fun z15 => (M__law_size (Ev.onC cs (.en "karatsuba" (m : Int) (n : Int))) (Ev.onW wk (.en "karatsuba" (m : Int) (n : Int))) (W : Int) (C : Int) ((2 ^ W : Nat) : Int) y13).bind fun z16 => (M__law_product g (Ev.onC cs (.en "karatsuba" (m : Int) (n : Int))) (Ev.onW wk (.en "karatsuba" (m : Int) (n : Int))) (W : Int) (C : Int) ((2 ^ W : Nat) : Int) (ah : Int) z15 y13 z16).bind fun z17 => _).bind _ = _
  generalize Ev.onC cs (.en "karatsuba" (m : Int) (n : Int)) = cs0 at *
  generalize Ev.onW wk (.en "karatsuba" (m : Int) (n : Int)) = wk0 at *
  refine bnd_of (a := ((bh : Int), (bl : Int), ((ah * bh : Nat) : Int), ((al * bl : Nat) : Int), runC (sub al (sz W al) bl (sz W bl)) (runC (sub ah (sz W ah) bh (sz W bh)) cs0), runW (sub al (sz W al) bl (sz W bl)) (runW (sub ah (sz W ah) bh (sz W bh)) wk0))) ?_ ?_
  · refine bnd_of (chkP_eq (by omega)) ?_
    refine bnd_of (chkP_eq sh) ?_
    refine bnd_of (chkP_eq pos) ?_
    refine bnd_of rfl ?_
    refine bnd_of rfl ?_
    refine bnd_of (lsize_ok h8 h) ?_
    refine bnd_of (lsize_ok h8 h) ?_
    rw [Int.natAbs_natCast, Int.natAbs_natCast]
    refine bnd_of (hsub _ _ ah bh hc0 (by omega) (by omega) (by omega)) ?_
    dsimp only
    refine bnd_of (lsize_ok h8 h) ?_
    refine bnd_of (lsize_ok h8 h) ?_
    rw [Int.natAbs_natCast, Int.natAbs_natCast]
    refine bnd_of (hsub _ _ al bl (csok_run hc0 (hev _ _ _ _)) (by rw [runW_len]; omega) (by omega) (by omega)) ?_
    rfl
  · have hc1 := csok_run (csok_run hc0 (hev ah (sz W ah) bh (sz W bh))) (hev al (sz W al) bl (sz W bl))
    have eW1 : (runW (sub al (sz W al) bl (sz W bl)) (runW (sub ah (sz W ah) bh (sz W bh)) wk0)).length = wk0.length + evN (sub ah (sz W ah) bh (sz W bh)) + evN (sub al (sz W al) bl (sz W bl)) := by rw [runW_len, runW_len]
    generalize runC (sub al (sz W al) bl (sz W bl)) (runC (sub ah (sz W ah) bh (sz W bh)) cs0) = cs1 at *
    generalize runW (sub al (sz W al) bl (sz W bl)) (runW (sub ah (sz W ah) bh (sz W bh)) wk0) = wk1 at *
    dsimp only
    have hi2 : ah * bh < 2 ^ (N + N) := mul_lt_pow (by omega) (by omega)
    obtain ⟨md, mm⟩ := midR_div (lo := al * bl) (hi := ah * bh) hP
    refine bnd_of (chkP_eq (mul_small (by decide))) ?_
    refine bnd_of (chkP_eq (shl_ok (k := N + N) (by rw [Int.natAbs_natCast]; exact hi2) (by omega) (by omega))) ?_
    refine bnd_of (chkP_eq (cdiv_s (by decide) (by decide))) ?_
    refine bnd_of rfl ?_
    refine bnd_of rfl ?_
    refine bnd_of (chkP_eq (by omega)) ?_
    rw [er, ← Int.natCast_mul (2 ^ (n / 2 * W)), ← Int.natCast_mul (ah * bh), ← Int.natCast_add, md, ← Int.natCast_emod, mm]
    have eW2 : ∀ {r : Nat} {room : Int} {more : Nat} {t : Int} (w : List (T3 Str Int Int)), (runW (evJ W t r room more) w).length = w.length + 1 := fun w => by rw [runW_len, evN_J]
    have eW3 : ∀ {x y : Nat} (w : List (T3 Str Int Int)), (runW (evA W x y) w).length = w.length + 1 := fun w => by rw [runW_len, evN_A]
    refine bnd_of (into_ok h8 h hc1 (by omega) (.inr rfl) k1 (by omega)) ?_
    have hc2 := csok_run hc1 (evok_J (W := W) (r := m + n - n / 2) (more := al * bl) (t := -1) (room := midR (2 ^ (n / 2 * W)) (al * bl) (ah * bh)))
    have eW4 := eW2 (r := m + n - n / 2) (more := al * bl) (t := -1) (room := midR (2 ^ (n / 2 * W)) (al * bl) (ah * bh)) wk1
    dsimp only
    generalize runC (evJ W (-1) (m + n - n / 2) (midR (2 ^ (n / 2 * W)) (al * bl) (ah * bh)) (al * bl)) cs1 = cs2 at *
    generalize runW (evJ W (-1) (m + n - n / 2) (midR (2 ^ (n / 2 * W)) (al * bl) (ah * bh)) (al * bl)) wk1 = wk2 at *
    refine bnd_of (into_ok h8 h hc2 (by omega) (.inr rfl) k2 (by omega)) ?_
    rw [evJ_mod k2, mod_add]
    have hc3 := csok_run hc2 (evok_J (W := W) (r := m + n - n / 2) (more := ah * bh) (t := -1) (room := midR (2 ^ (n / 2 * W)) (al * bl) (ah * bh) + (-1) * ((al * bl : Nat) : Int)))
    have eW5 := eW2 (r := m + n - n / 2) (more := ah * bh) (t := -1) (room := midR (2 ^ (n / 2 * W)) (al * bl) (ah * bh) + (-1) * ((al * bl : Nat) : Int)) wk2
    dsimp only
    generalize runC (evJ W (-1) (m + n - n / 2) (midR (2 ^ (n / 2 * W)) (al * bl) (ah * bh) + (-1) * ((al * bl : Nat) : Int)) (ah * bh)) cs2 = cs3 at *
    generalize runW (evJ W (-1) (m + n - n / 2) (midR (2 ^ (n / 2 * W)) (al * bl) (ah * bh) + (-1) * ((al * bl : Nat) : Int)) (ah * bh)) wk2 = wk3 at *
    refine bnd_of (lsum_ok h8 h hc3 (by omega)) ?_
    have hc4 := csok_run hc3 (evok_A (W := W) (a := ah) (b := al))
    have eW6 := eW3 (x := ah) (y := al) wk3
    dsimp only
    generalize runC (evA W ah al) cs3 = cs4 at *
    generalize runW (evA W ah al) wk3 = wk4 at *
    refine bnd_of (a := (((bh + bl : Nat) : Int), (((ah + al) * (bh + bl) : Nat) : Int), runC (sub (ah + al) (sz W (ah + al)) (bh + bl) (sz W (bh + bl))) (runC (evA W bh bl) cs4), runW (sub (ah + al) (sz W (ah + al)) (bh + bl) (sz W (bh + bl))) (runW (evA W bh bl) wk4))) ?_ ?_
    · refine bnd_of (lsum_ok h8 h hc4 (by omega)) ?_
      dsimp only
      refine bnd_of (lsize_ok h8 h) ?_
      refine bnd_of (lsize_ok h8 h) ?_
      rw [Int.natAbs_natCast, Int.natAbs_natCast]
      refine bnd_of (hsub _ _ (ah + al) (bh + bl) (csok_run hc4 evok_A) (by rw [eW3]; omega) l1 l2) ?_
      rfl
    · have hc5 := csok_run (csok_run hc4 (evok_A (W := W) (a := bh) (b := bl))) (hev (ah + al) (sz W (ah + al)) (bh + bl) (sz W (bh + bl)))
      have eW7 : (runW (sub (ah + al) (sz W (ah + al)) (bh + bl) (sz W (bh + bl))) (runW (evA W bh bl) wk4)).length = wk4.length + 1 + evN (sub (ah + al) (sz W (ah + al)) (bh + bl) (sz W (bh + bl))) := by rw [runW_len, eW3]
      generalize runC (sub (ah + al) (sz W (ah + al)) (bh + bl) (sz W (bh + bl))) (runC (evA W bh bl) cs4) = cs5 at *
      generalize runW (sub (ah + al) (sz W (ah + al)) (bh + bl) (sz W (bh + bl))) (runW (evA W bh bl) wk4) = wk5 at *
      dsimp only
      refine bnd_of (chkP_eq sh) ?_
      refine bnd_of (chkP_eq pos) ?_
      refine bnd_of (into_ok h8 h hc5 (by omega) (.inl rfl) k3 (by omega)) ?_
      rw [evJ_mod k3, mod_add, mv, p2, ← Int.natCast_emod, Nat.mod_eq_of_lt vb]
      refine bnd_of (chkP_eq (shl_ok (k := (m + n - n / 2) * W) (by rw [Int.natAbs_natCast]; exact vb) (by omega) (by omega))) ?_
      rw [← Int.natCast_mul, ← Int.natCast_add, wv]
end
theorem evS_le {W : Nat} {sub : Nat → Nat → Nat → Nat → List Ev} {a m b n : Nat} : ∀ {j i : Nat}, i ≤ j → evN (evS W sub a m b n i) ≤ evN (evS W sub a m b n j) := by
  intro j
  induction j with
  | zero => intro i hi; rw [Nat.le_zero.mp hi]; exact Nat.le_refl _
  | succ j ih =>
    intro i hi
    rcases Nat.lt_or_ge j i with q | q
    · rw [show i = j + 1 by omega]; exact Nat.le_refl _
    · refine Nat.le_trans (ih q) ?_
      rw [evS, evN_app]
      omega
section
variable {W C : Nat} {cs : List (Str × Int)} {wk : List (T3 Str Int Int)} (h8 : 8 ≤ W) (h : W ≤ 30)
include h8 h in
theorem lslice_ok {g a m b n : Nat} {sub : Nat → Nat → Nat → Nat → List Ev} (hc : CsOk cs) (hev : ∀ x p y q, EvOk (sub x p y q)) (hl : wk.length + 1 + evN (evS W sub a m b n ((n + m - 1) / m)) < 16000000)
    (ha : a < 2 ^ (W * m)) (hb : b < 2 ^ (W * n)) (hm : 0 < m) (hmn : m ≤ n) (hn : (m + n) * W < 400000)
    (hsub : ∀ (cs : List (Str × Int)) (wk : List (T3 Str Int Int)) (y s : Nat), CsOk cs → wk.length + evN (sub a m y s) < 16000000 → s ≤ m → y < 2 ^ (W * s) →
      M__law_product g cs wk (W : Int) (C : Int) ((2 ^ W : Nat) : Int) (a : Int) (m : Int) (y : Int) (s : Int) = some (((a * y : Nat) : Int), runC (sub a m y s) cs, runW (sub a m y s) wk)) :
    M__law_slices (g + 1) cs wk (W : Int) (C : Int) ((2 ^ W : Nat) : Int) (a : Int) (m : Int) (b : Int) (n : Int) = some (((a * b : Nat) : Int), runC (.en "lopsided" (m : Int) (n : Int) :: evS W sub a m b n ((n + m - 1) / m)) cs, runW (.en "lopsided" (m : Int) (n : Int) :: evS W sub a m b n ((n + m - 1) / m)) wk) := by
  have hw : W ≠ 0 := by omega
  have ab := mul_lt_pow ha hb
  have n9 : n ≤ 400000 := by
    have := Nat.mul_le_mul_left (m + n) h8
    omega
  have cw : ∀ j, j ≤ m + n → j * W < 400000 := fun j hj => Nat.lt_of_le_of_lt (Nat.mul_le_mul_right _ hj) hn
  have eW0 : (Ev.onW wk (.en "lopsided" (m : Int) (n : Int))).length = wk.length + 1 := by show (wk ++ [_]).length = _; rw [List.length_append]; rfl
  have hc0 : CsOk (Ev.onC cs (.en "lopsided" (m : Int) (n : Int))) := hc
  rw [M__law_slices_succ, runC_cons, runW_cons]
  refine bnd_of (lnote_ok (by omega)) ?_
  refine bnd_of (chkP_eq (mul_small (by omega))) ?_
  rw [← Int.natCast_mul, Nat.mul_comm W m]
  have := cw m (by omega)
  refine bnd_of (chkP_eq (shl_ok (k := 1) (by decide) (by omega) (by omega))) ?_
  rw [Int.toNat_natCast, Int.one_mul, p2]
  refine bnd_of rfl ?_
  refine bnd_of (chkP_eq ⟨by omega, by omega, by omega, by omega⟩) ?_
  show (forM' _ _ ((0 : Int), Ev.onC cs (.en "lopsided" (m : Int) (n : Int)), Ev.onW wk (.en "lopsided" (m : Int) (n : Int)))).bind _ = _
  generalize Ev.onC cs (.en "lopsided" (m : Int) (n : Int)) = cs0 at *
  generalize Ev.onW wk (.en "lopsided" (m : Int) (n : Int)) = wk0 at *
  rw [cdivN hm]
  obtain ⟨s, e, hI⟩ := forM_ind (b := fun (a7 : Int) (s6 : Int × (List (Str × Int)) × (List (T3 Str Int Int))) => (chkP (IntMulOk (W : Int) a7)).bind fun z8 => (chkP (0 ≤ ((W : Int) * a7))).bind fun z9 => (chkP (0 < ((2 ^ (m * W) : Nat) : Int))).bind fun z10 => (M__law_product g s6.2.1 s6.2.2 (W : Int) (C : Int) ((2 ^ W : Nat) : Int) (a : Int) (m : Int) (((b : Int) / 2 ^ (((W : Int) * a7)).toNat) % ((2 ^ (m * W) : Nat) : Int)) (min (m : Int) ((n : Int) - a7))).bind fun z11 => (chkP (IntMulOk (W : Int) a7)).bind fun z12 => (some ((W : Int) * a7)).bind fun y13 => (chkP (0 ≤ y13)).bind fun z14 => (M__law_into z11.2.1 z11.2.2 (W : Int) (C : Int) ((2 ^ W : Nat) : Int) (s6.1 / 2 ^ (y13).toNat) (((m : Int) + (n : Int)) - a7) z11.1 (1 : Int)).bind fun z15 => (chkP (CShl (1 : Int) y13)).bind fun z16 => (chkP (0 < ((1 : Int) * 2 ^ (y13).toNat))).bind fun z17 => (chkP (CShl z15.1 y13)).bind fun z18 => (some ((s6.1 % ((1 : Int) * 2 ^ (y13).toNat)) + (z15.1 * 2 ^ (y13).toNat))).bind fun y19 => some (Stp.nx (ρ := Unit) (y19, z15.2.1, z15.2.2)))
    (fun i s => i ≤ (n + m - 1) / m → s = (((a * (b % 2 ^ (i * m * W)) : Nat) : Int), runC (evS W sub a m b n i) cs0, runW (evS W sub a m b n i) wk0)) (rngS (m : Int) ((n + m - 1) / m)) 0 ((0 : Int), cs0, wk0) (by
      intro i x s hx hs
      obtain ⟨hi, rfl⟩ := rngS_get hx
      rw [Nat.zero_add] at hs ⊢
      have hs := hs (by omega)
      subst hs
      have him := slc_lt hm hi
      obtain ⟨f1, f2⟩ := slc_fit hw ha hb him
      have Q0 := Nat.two_pow_pos (i * m * W)
      have M0 := Nat.two_pow_pos (m * W)
      have rs := room_step (a := a) (b := b) (2 ^ (m * W)) Q0
      have ep : 2 ^ ((i + 1) * m * W) = 2 ^ (i * m * W) * 2 ^ (m * W) := by rw [← Nat.pow_add, ← Nat.add_mul, ← Nat.succ_mul]
      have iw := cw (i * m) (by omega)
      have le1 := evS_le (W := W) (sub := sub) (a := a) (m := m) (b := b) (n := n) (show i + 1 ≤ (n + m - 1) / m by omega)
      have hc1 := csok_run hc0 (evok_S hev (W := W) (a := a) (m := m) (b := b) (n := n) i)
      have eW1 := runW_len (evS W sub a m b n i) wk0
      refine ⟨_, ?_, fun _ => rfl⟩
      rw [evS] at le1 ⊢
      simp only [evN_app, evN_J] at le1
      simp only [runC_app, runW_app]
      rw [ep, ← rs]
      rw [show (0 : Int) + (i : Int) * (m : Int) = ((i * m : Nat) : Int) by rw [Int.natCast_mul]; omega]
      generalize runC (evS W sub a m b n i) cs0 = cs1 at *
      generalize runW (evS W sub a m b n i) wk0 = wk1 at *
      refine bnd_of (chkP_eq (mul_small (by omega))) ?_
      rw [← Int.natCast_mul, Nat.mul_comm W (i * m)]
      refine bnd_of (chkP_eq (by omega)) ?_
      refine bnd_of (chkP_eq (by omega)) ?_
      rw [Int.toNat_natCast, p2, ← Int.natCast_ediv, ← Int.natCast_emod, show min (m : Int) ((n : Int) - ((i * m : Nat) : Int)) = ((min m (n - i * m) : Nat) : Int) by omega]
      refine bnd_of (hsub _ _ _ _ hc1 (by omega) (Nat.min_le_left _ _) f1) ?_
      refine bnd_of (chkP_eq (mul_small (by omega))) ?_
      refine bnd_of rfl ?_
      refine bnd_of (chkP_eq (by omega)) ?_
      have hc2 := csok_run hc1 (hev a m (b / 2 ^ (i * m * W) % 2 ^ (m * W)) (min m (n - i * m)))
      have eW2 := runW_len (sub a m (b / 2 ^ (i * m * W) % 2 ^ (m * W)) (min m (n - i * m))) wk1
      dsimp only
      generalize runC (sub a m (b / 2 ^ (i * m * W) % 2 ^ (m * W)) (min m (n - i * m))) cs1 = cs2 at *
      generalize runW (sub a m (b / 2 ^ (i * m * W) % 2 ^ (m * W)) (min m (n - i * m))) wk1 = wk2 at *
      have xb : a * (b % 2 ^ (i * m * W)) / 2 ^ (i * m * W) + a * (b / 2 ^ (i * m * W) % 2 ^ (m * W)) < 2 ^ ((m + n - i * m) * W) := by
        have l : a * (b % (2 ^ (i * m * W) * 2 ^ (m * W))) ≤ a * b := Nat.mul_le_mul_left _ (Nat.mod_le _ _)
        have e3 : 2 ^ (W * m + W * n) = 2 ^ (i * m * W) * 2 ^ ((m + n - i * m) * W) := by
          rw [← Nat.pow_add, ← Nat.add_mul, ← Nat.mul_add, Nat.mul_comm]
          congr 2
          omega
        refine Nat.lt_of_mul_lt_mul_left (a := 2 ^ (i * m * W)) ?_
        rw [← e3, Nat.mul_comm]
        omega
      rw [Int.toNat_natCast, p2, ← Int.natCast_ediv, show ((m : Int) + (n : Int)) - ((i * m : Nat) : Int) = ((m + n - i * m : Nat) : Int) by omega]
      have rw9 := cw (m + n - i * m) (by omega)
      refine bnd_of (into_ok h8 h hc2 (by omega) (.inl rfl) f2 rw9) ?_
      rw [show ((a * (b % 2 ^ (i * m * W)) / 2 ^ (i * m * W) : Nat) : Int) + 1 * ((a * (b / 2 ^ (i * m * W) % 2 ^ (m * W)) : Nat) : Int) = ((a * (b % 2 ^ (i * m * W)) / 2 ^ (i * m * W) + a * (b / 2 ^ (i * m * W) % 2 ^ (m * W)) : Nat) : Int) by rw [Int.one_mul, Int.natCast_add], p2, ← Int.natCast_emod, Nat.mod_eq_of_lt xb]
      refine bnd_of (chkP_eq (shl_ok (k := 1) (by decide) (by omega) (by omega))) ?_
      refine bnd_of (chkP_eq (by rw [Int.one_mul]; omega)) ?_
      refine bnd_of (chkP_eq (shl_ok (k := (m + n - i * m) * W) (by rw [Int.natAbs_natCast]; exact xb) (by omega) (by omega))) ?_
      rw [Int.one_mul, ← Int.natCast_emod, ← Int.natCast_mul, ← Int.natCast_add]
      rfl) (by
      intro _
      rw [Nat.zero_mul, Nat.zero_mul, Nat.pow_zero, Nat.mod_one, Nat.mul_zero]; rfl)
  rw [rngS_len, Nat.zero_add] at hI
  refine bnd_of e ?_
  rw [hI (Nat.le_refl _)]
  refine bnd_of rfl ?_
  have lt : b < 2 ^ ((n + m - 1) / m * m * W) := Nat.lt_of_lt_of_le hb (pow_le2 (by rw [Nat.mul_comm W]; exact Nat.mul_le_mul_right _ (slc_all hm)))
  rw [Nat.mod_eq_of_lt lt]
end
theorem lmul_swap {g : Nat} {cs : List (Str × Int)} {wk : List (T3 Str Int Int)} {w c B a m b n : Int} (q : n < m) : M__law_product (g + 1) cs wk w c B a m b n = M__law_product (g + 1) cs wk w c B b n a m := by
  rw [M__law_product_succ, M__law_product_succ, if_pos (decide_eq_true q), if_neg (by rw [decide_eq_true_iff]; omega)]
  rfl
section
variable {W C : Nat} (h8 : 8 ≤ W) (h : W ≤ 30) (hC2 : 2 ≤ C)
include h8 h hC2 in
theorem lcore_ok {g a m b n N : Nat} {cs : List (Str × Int)} {wk : List (T3 Str Int Int)} {sub : Nat → Nat → Nat → Nat → List Ev} (hc : CsOk cs) (hev : ∀ x p y q, EvOk (sub x p y q)) (hl : wk.length + evN (evC W C sub a m b n) < 16000000)
    (fa : Fit W N m a) (fb : Fit W N n b) (hmn : m ≤ n) (hN : N ≤ 90000)
    (ih : C < m → ∃ g2, g = g2 + 1 ∧ ∀ (cs : List (Str × Int)) (wk : List (T3 Str Int Int)) (x p y q N' : Nat), CsOk cs → wk.length + evN (sub x p y q) < 16000000 → Fit W N' p x → Fit W N' q y → N' ≤ (N + W) / 2 + 1 →
      M__law_product g2 cs wk (W : Int) (C : Int) ((2 ^ W : Nat) : Int) (x : Int) (p : Int) (y : Int) (q : Int) = some (((x * y : Nat) : Int), runC (sub x p y q) cs, runW (sub x p y q) wk)) :
    M__law_product (g + 1) cs wk (W : Int) (C : Int) ((2 ^ W : Nat) : Int) (a : Int) (m : Int) (b : Int) (n : Int) = some (((a * b : Nat) : Int), runC (evC W C sub a m b n) cs, runW (evC W C sub a m b n) wk) := by
  have hw : W ≠ 0 := by omega
  obtain ⟨a1, a2, a3⟩ := fa
  obtain ⟨b1, b2, b3⟩ := fb
  have mn9 : (m + n) * W < 400000 := by
    rw [Nat.add_mul, Nat.mul_comm m, Nat.mul_comm n]
    omega
  have nb : n ≤ 400000 := by
    have := Nat.mul_le_mul_left (m + n) h8
    omega
  rw [M__law_product_succ]
  refine bnd_of (a := ((a : Int), (m : Int), (b : Int), (n : Int))) (by rw [if_neg (by rw [decide_eq_true_iff]; omega)]) ?_
  dsimp only
  unfold evC at hl ⊢
  by_cases q0 : m = 0
  · subst q0
    rw [Nat.mul_zero, Nat.pow_zero] at a1
    have a0 : a = 0 := by omega
    subst a0
    rw [if_pos (by rfl), if_pos rfl, Nat.zero_mul]
    rfl
  · rw [if_neg (by rw [decide_eq_true_iff]; omega), if_neg q0]
    rw [if_neg q0] at hl
    by_cases q1 : m ≤ C
    · rw [if_pos (decide_eq_true (by omega)), if_pos q1]
      rw [if_pos q1] at hl
      have hl : wk.length + 1 < 16000000 := hl
      refine bnd_of (lnote_ok (by omega)) ?_
      refine bnd_of (chkP_eq (mul_small (by omega))) ?_
      refine bnd_of (lcount_ok hc) ?_
      refine bnd_of (chkP_eq (mul_big (j := W * m) (k := W * n) (by rw [Int.natAbs_natCast]; exact a1) (by rw [Int.natAbs_natCast]; exact b1) (by omega))) ?_
      rw [← Int.natCast_mul]
      rfl
    · rw [if_neg (by rw [decide_eq_true_iff]; omega), if_neg q1]
      rw [if_neg q1] at hl
      obtain ⟨g2, rfl, ih2⟩ := ih (by omega)
      refine bnd_of (chkP_eq (mul_small (by decide))) ?_
      by_cases q2 : 2 * m ≤ n
      · rw [if_pos (decide_eq_true (by omega)), if_pos q2]
        rw [if_pos q2] at hl
        have hl : wk.length + (evN (evS W sub a m b n ((n + m - 1) / m)) + 1) < 16000000 := hl
        have e2 : 2 * (W * m) ≤ W * n := by
          have := Nat.mul_le_mul_left W q2
          rw [← Nat.mul_assoc, Nat.mul_comm W 2, Nat.mul_assoc] at this
          exact this
        refine bnd_of (bnd_of (lslice_ok h8 h hc hev (by omega) a1 b1 (by omega) hmn mn9 (sub := sub) fun cs wk y s u1 u2 u3 u4 => ?_) rfl) rfl
        have hl : W * s ≤ W * m := Nat.mul_le_mul_left W u3
        exact ih2 cs wk a m y s (W * m) u1 u2 ⟨a1, a1, by omega⟩ ⟨u4, Nat.lt_of_lt_of_le u4 (pow_le2 hl), by omega⟩ (by omega)
      · rw [if_neg (by rw [decide_eq_true_iff]; omega), if_neg q2]
        rw [if_neg q2] at hl
        have hl : wk.length + (evN (evK W sub a m b n) + 1) < 16000000 := hl
        have e1 : W * n = 2 * (n / 2 * W) + (n % 2) * W := by
          rw [← Nat.mul_assoc, ← Nat.add_mul, Nat.mul_comm W]
          congr 1
          omega
        have e2 : (n % 2) * W ≤ 1 * W := Nat.mul_le_mul_right _ (by omega)
        have half : ∀ z : Nat, z < 2 ^ (W * n) → z < 2 ^ N → z / 2 ^ (n / 2 * W) + z % 2 ^ (n / 2 * W) < 2 ^ ((N + W) / 2 + 1) := fun z z1 z2 => by
          have zl : z % 2 ^ (n / 2 * W) < 2 ^ ((N + W) / 2) := Nat.lt_of_lt_of_le (mod_lt_pow z _) (pow_le2 (by omega))
          have zh : z / 2 ^ (n / 2 * W) < 2 ^ ((N + W) / 2) := by
            refine div_lt_pow ?_
            rcases Nat.le_total N (W * n) with w | w
            · exact Nat.lt_of_lt_of_le z2 (pow_le2 (by omega))
            · exact Nat.lt_of_lt_of_le z1 (pow_le2 (by omega))
          exact add_lt_pow zh zl
        have hlm : W * m ≤ W * n := Nat.mul_le_mul_left W hmn
        refine bnd_of (bnd_of (lhalf_ok h8 h hc hev (by omega) a1 b1 hmn (by omega) (by omega) mn9 (half a (Nat.lt_of_lt_of_le a1 (pow_le2 hlm)) a2) (half b b1 b2) (by omega) (sub := sub) fun cs wk x y u1 u2 u3 u4 => ?_) rfl) rfl
        exact ih2 cs wk x _ y _ _ u1 u2 (fit_sz hw u3) (fit_sz hw u4) (Nat.le_refl _)
include h8 h hC2 in
theorem lmul_ok : ∀ (k g : Nat) (cs : List (Str × Int)) (wk : List (T3 Str Int Int)) (a m b n N : Nat), 2 * k + 1 ≤ g → CsOk cs → wk.length + evN (evM W C (k + 1) a m b n) < 16000000 → Fit W N m a → Fit W N n b → N ≤ lvl W k → N ≤ 90000 →
    M__law_product g cs wk (W : Int) (C : Int) ((2 ^ W : Nat) : Int) (a : Int) (m : Int) (b : Int) (n : Int) = some (((a * b : Nat) : Int), runC (evM W C (k + 1) a m b n) cs, runW (evM W C (k + 1) a m b n) wk) := by
  intro k
  induction k with
  | zero =>
    intro g cs wk a m b n N hg hc hl fa fb hk hN
    obtain ⟨g, rfl⟩ : ∃ j, g = j + 1 := ⟨g - 1, by omega⟩
    rw [lvl0 h8] at hk
    have small : ∀ z, W * z < N + W → ¬ C < z := fun z hz q => by
      have := Nat.mul_le_mul_left W (show 3 ≤ z by omega)
      omega
    unfold evM at hl ⊢
    by_cases q : n < m
    · rw [if_pos q] at hl
      rw [lmul_swap (by omega), if_pos q, Nat.mul_comm a b]
      exact lcore_ok h8 h hC2 hc (evok_M 0) hl fb fa (by omega) hN fun z => absurd z (small n fb.len)
    · rw [if_neg q] at hl
      rw [if_neg q]
      exact lcore_ok h8 h hC2 hc (evok_M 0) hl fa fb (by omega) hN fun z => absurd z (small m fa.len)
  | succ k ihk =>
    intro g cs wk a m b n N hg hc hl fa fb hk hN
    obtain ⟨g, rfl⟩ : ∃ j, g = j + 2 := ⟨g - 2, by omega⟩
    have hs := lvl_s hk h8
    have ih : ∃ g2, g + 1 = g2 + 1 ∧ ∀ (cs : List (Str × Int)) (wk : List (T3 Str Int Int)) (x p y q N' : Nat), CsOk cs → wk.length + evN (evM W C (k + 1) x p y q) < 16000000 → Fit W N' p x → Fit W N' q y → N' ≤ (N + W) / 2 + 1 →
        M__law_product g2 cs wk (W : Int) (C : Int) ((2 ^ W : Nat) : Int) (x : Int) (p : Int) (y : Int) (q : Int) = some (((x * y : Nat) : Int), runC (evM W C (k + 1) x p y q) cs, runW (evM W C (k + 1) x p y q) wk) :=
      ⟨g, rfl, fun cs wk x p y q N' u1 u2 u3 u4 u5 => ihk g cs wk x p y q N' (by omega) u1 u2 u3 u4 (by omega) (by omega)⟩
    rw [evM] at hl ⊢
    by_cases q : n < m
    · rw [if_pos q] at hl
      rw [lmul_swap (by omega), if_pos q, Nat.mul_comm a b]
      exact lcore_ok h8 h hC2 hc (evok_M _) hl fb fa (by omega) hN fun _ => ih
    · rw [if_neg q] at hl
      rw [if_neg q]
      exact lcore_ok h8 h hC2 hc (evok_M _) hl fa fb (by omega) hN fun _ => ih
end
/-- what a product counts and enters -/
def mulE (W C k : Nat) (x y : Int) : List Ev := if sz W x.natAbs ≤ 1 ∧ sz W y.natAbs ≤ 1 then [.st "short" 1] else evM W C (k + 1) x.natAbs (sz W x.natAbs) y.natAbs (sz W y.natAbs)
theorem mulE_ok {W C k : Nat} {x y : Int} : EvOk (mulE W C k x y) := by
  unfold mulE
  split
  · exact evok_st evok_nil (by decide)
  · exact evok_M _ _ _ _ _
theorem compact_is {W : Nat} {S : MS} (hw : W ≠ 0) (hS : S.w = (W : Int)) (x y : Int) : M_are_compact S x y = some (decide (sz W x.natAbs ≤ 1 ∧ sz W y.natAbs ≤ 1)) := by
  unfold M_are_compact
  rw [hS, intBits_abs, intBits_abs, Bool.decide_and]
  have e : ∀ a : Nat, decide (((bl a : Nat) : Int) ≤ (W : Int)) = decide (sz W a ≤ 1) := fun a => decide_eq_decide.mpr (by rw [sz_one hw]; omega)
  rw [e, e]
theorem sgn_val (x y : Int) : (if (decide ((decide (x < (0 : Int))) = (decide (y < (0 : Int))))) = true then ((x.natAbs * y.natAbs : Nat) : Int) else -((x.natAbs * y.natAbs : Nat) : Int)) = x * y := by
  rw [Int.natCast_mul]
  have ex : ((x.natAbs : Nat) : Int) = if x < 0 then -x else x := by split <;> omega
  have ey : ((y.natAbs : Nat) : Int) = if y < 0 then -y else y := by split <;> omega
  rw [ex, ey]
  by_cases q1 : x < 0 <;> by_cases q2 : y < 0 <;> simp [q1, q2, Int.neg_mul_neg, Int.neg_mul, Int.mul_neg]
section
variable {W C : Nat} {S : MS} (hS : S.w = (W : Int)) (hC : S.c = (C : Int)) (h8 : 8 ≤ W) (h : W ≤ 30) (hC2 : 2 ≤ C)
include hS hC h8 h hC2 in
theorem product_ok {x y : Int} {N k : Nat} (hx : x.natAbs < 2 ^ N) (hy : y.natAbs < 2 ^ N) (hN : N ≤ lvl W k) (hN2 : N ≤ 1900000) (hk : 2 * k + 1 ≤ 40) :
    M_product_of S x y = some (x * y, runM (mulE W C k x y) S) := by
  have hw : W ≠ 0 := by omega
  unfold M_product_of mulE
  refine bnd_of (compact_is hw hS x y) ?_
  by_cases q : sz W x.natAbs ≤ 1 ∧ sz W y.natAbs ≤ 1
  · rw [if_pos (decide_eq_true q), if_pos q]
    refine bnd_of (chkP_eq (by decide +kernel)) ?_
    exact bnd_of (chkP_eq (mul_big (j := N) (k := N) hx hy (by omega))) rfl
  · rw [if_neg (by rw [decide_eq_true_iff]; exact q), if_neg q, hS]
    refine bnd_of (size_ok h8 h x) ?_
    refine bnd_of (size_ok h8 h y) ?_
    refine bnd_of (mul_ok h8 h hC2 k 40 S _ _ _ _ N hk hS hC (fit_sz hw hx) (fit_sz hw hy) hN hN2) ?_
    show some (_, _) = _
    rw [sgn_val]
include hS hC h8 h hC2 in
theorem multiply_ok {x y : Int} {N k : Nat} (hx : x.natAbs < 2 ^ N) (hy : y.natAbs < 2 ^ N) (hN : N ≤ lvl W k) (hN2 : N ≤ 1900000) (hk : 2 * k + 1 ≤ 40) :
    M_multiply S (bg W x) (bg W y) = some (bg W (x * y), runM (mulE W C k x y) S) := by
  have hw : W ≠ 0 := by omega
  unfold M_multiply
  refine bnd_of (two_ok hS x y) ?_
  refine bnd_of (product_ok hS hC h8 h hC2 hx hy hN hN2 hk) ?_
  refine bnd_of (bigof_ok (S := runM (mulE W C k x y) S) ((runM_w _ _).trans hS) h8 h ?_) rfl
  have p : (x * y).natAbs < 2 ^ (N + N) := nab_mul hx hy
  refine (sz_le hw).mpr (Nat.lt_of_lt_of_le p (pow_le2 ?_))
  have := Nat.mul_le_mul_right 4194304 h8
  omega
end
/-! ### both sides tell the same -/
def tot (w : Str) : List Ev → Int
  | [] => 0
  | .en _ _ _ :: l => tot w l
  | .st v k :: l => (if v = w then k else 0) + tot w l
theorem run_cnt (w : Str) : ∀ (l : List Ev) (S : MS), (runM l S).cnt w = S.cnt w + tot w l
  | [], S => (Int.add_zero _).symm
  | .en a m n :: l, S => by rw [runM_cons, run_cnt w l]; rfl
  | .st v k :: l, S => by
    rw [runM_cons, run_cnt w l]
    show (if w = v then S.cnt w + k else S.cnt w) + tot w l = S.cnt w + ((if v = w then k else 0) + tot w l)
    by_cases q : w = v
    · rw [if_pos q, if_pos q.symm]; omega
    · rw [if_neg q, if_neg fun z => q z.symm]; omega
theorem dput_look {v w : Str} {n : Int} : ∀ {cs : List (Str × Int)}, (dput cs v n).lookup w = if w = v then some n else cs.lookup w := by
  intro cs
  by_cases q : (cs.any fun p => decide (p.1 = v)) = true
  · unfold dput
    rw [if_pos q]
    induction cs with
    | nil => cases q
    | cons p r ih =>
      obtain ⟨x, y⟩ := p
      rw [List.map_cons]
      by_cases hx : x = v
      · subst hx
        dsimp only
        rw [if_pos rfl]
        by_cases hw : w = x
        · subst hw
          rw [lookup_self, if_pos rfl]
        · rw [lookup_skip hw, lookup_skip hw, if_neg hw]
          clear ih q
          induction r with
          | nil => rfl
          | cons p r ih =>
            obtain ⟨a, b⟩ := p
            rw [List.map_cons]
            dsimp only
            by_cases ha : a = x
            · subst ha
              rw [if_pos rfl, lookup_skip hw, lookup_skip hw, ih]
            · rw [if_neg ha]
              by_cases hwa : w = a
              · subst hwa; rw [lookup_self, lookup_self]
              · rw [lookup_skip hwa, lookup_skip hwa, ih]
      · dsimp only
        rw [if_neg hx]
        have q' : (r.any fun p => decide (p.1 = v)) = true := by
          rw [List.any_cons, decide_eq_false hx, Bool.false_or] at q
          exact q
        by_cases hwx : w = x
        · subst hwx
          rw [lookup_self, if_neg hx, lookup_self]
        · rw [lookup_skip hwx, lookup_skip hwx]
          exact ih q'
  · unfold dput
    rw [if_neg q, lookup_app]
    by_cases hw : w = v
    · subst hw
      have n0 : cs.lookup w = none := lookup_out fun z => q (by
        obtain ⟨p, hp, e⟩ := List.mem_map.mp z
        exact List.any_eq_true.mpr ⟨p, hp, decide_eq_true e⟩)
      rw [n0, if_pos rfl, lookup_self]
      rfl
    · rw [if_neg hw, lookup_skip hw]
      cases cs.lookup w <;> rfl
theorem run_lk (w : Str) : ∀ (l : List Ev) (cs : List (Str × Int)), EvOk l → (((runC l cs).lookup w).getD (0 : Int)) = ((cs.lookup w).getD (0 : Int)) + tot w l
  | [], cs, _ => (Int.add_zero _).symm
  | .en a m n :: l, cs, h => by rw [runC_cons, run_lk w l _ fun e q => h e (List.mem_cons_of_mem _ q)]; rfl
  | .st v k :: l, cs, h => by
    obtain ⟨_, hk⟩ := h (.st v k) List.mem_cons_self
    rw [runC_cons, run_lk w l _ fun e q => h e (List.mem_cons_of_mem _ q)]
    show (((if 0 < k then dput cs v (((cs.lookup v).getD (0 : Int)) + k) else cs).lookup w).getD 0) + tot w l = _ + ((if v = w then k else 0) + tot w l)
    by_cases q : 0 < k
    · rw [if_pos q, dput_look]
      by_cases e : w = v
      · subst e; rw [if_pos rfl, if_pos rfl]; show _ + k + tot w l = _; omega
      · rw [if_neg e, if_neg fun z => e z.symm]; omega
    · rw [if_neg q]
      have k0 : k = 0 := by omega
      subst k0
      split <;> omega
theorem run_wk : ∀ (l : List Ev) (S : MS) (wk : List (T3 Str Int Int)), S.wk = wk.take 1000 → (runM l S).wk = (runW l wk).take 1000
  | [], _, _, h => h
  | .st _ _ :: l, S, wk, h => run_wk l _ _ h
  | .en w m n :: l, S, wk, h => by
    refine run_wk l _ _ ?_
    show (if S.wk.length < 1000 then S.wk ++ [T3.mk w m n] else S.wk) = (wk ++ [T3.mk w m n]).take 1000
    rw [h, List.length_take]
    by_cases q : wk.length < 1000
    · rw [if_pos (by omega), List.take_of_length_le (by omega), List.take_of_length_le (by rw [List.length_append]; show wk.length + 1 ≤ 1000; omega)]
    · rw [if_neg (by omega), List.take_append_of_le_length (by omega)]
theorem run_wkok : ∀ {l : List Ev} {S : MS}, EvOk l → WkOk S.wk → WkOk (runM l S).wk
  | [], _, _, h => h
  | .st _ _ :: l, S, he, h => run_wkok (l := l) (fun e q => he e (List.mem_cons_of_mem _ q)) h
  | .en w m n :: l, S, he, h => run_wkok (l := l) (fun e q => he e (List.mem_cons_of_mem _ q)) (wkok_enter h (he (.en w m n) List.mem_cons_self))
theorem mem_of_look {l : List (Str × Int)} (hd : (l.map (·.1)).Nodup) {x : Str × Int} : x ∈ l ↔ l.lookup x.1 = some x.2 := ⟨lookup_of hd, mem_lookup⟩
theorem run_same {l : List Ev} {w c : Int} (he : EvOk l) : sameD (nz (runM l (MS.fresh w c)).tally) (runC l []) := by
  have hc := csok_run csok_nil he
  refine same_of ((List.filter_sublist.map _).nodup (tally_keys _)) hc.nd fun x => ?_
  unfold nz
  rw [List.mem_filter, mem_tally, mem_of_look hc.nd]
  have k1 := run_cnt x.1 l (MS.fresh w c)
  have k2 := run_lk x.1 l [] he
  have z0 : (MS.fresh w c).cnt x.1 = 0 := rfl
  have z1 : (([] : List (Str × Int)).lookup x.1).getD (0 : Int) = 0 := rfl
  rw [z0] at k1
  rw [z1] at k2
  constructor
  · intro ⟨⟨_, e⟩, ne⟩
    have ne : ¬ x.2 = 0 := by simpa using ne
    cases hl : (runC l []).lookup x.1 with
    | none =>
      rw [hl] at k2
      have k2 : (0 : Int) = 0 + tot x.1 l := k2
      omega
    | some v =>
      rw [hl] at k2
      have k2 : v = 0 + tot x.1 l := k2
      congr 1
      omega
  · intro hl
    have hm := mem_lookup hl
    have p := hc.ps _ hm
    have p : 0 < x.2 := p
    rw [hl] at k2
    have k2 : x.2 = 0 + tot x.1 l := k2
    refine ⟨⟨hc.wd _ hm, by omega⟩, ?_⟩
    show (!decide (x.2 = 0)) = true
    rw [decide_eq_false (by omega)]
    rfl
theorem cut_is {α : Type} (l : List α) (k : Nat) : cut l none (some (k : Int)) = l.take k := by
  have h1 : HT.sIx l.length 0 none = 0 := rfl
  have h2 : HT.sIx l.length l.length (some (k : Int)) = min k l.length := by rw [HT.sIx_nat]
  unfold cut
  rw [h1, h2, List.drop_zero, Nat.sub_zero]
  rcases Nat.le_total k l.length with q | q
  · rw [Nat.min_eq_left q]
  · rw [Nat.min_eq_right q, List.take_of_length_le (Nat.le_refl _), List.take_of_length_le q]
/-- as lvl, by the cutoff -/
def lvlC (W C k : Nat) : Nat := (C * W - W - 2) * 2 ^ k + W + 2
theorem lvlC_b {W C : Nat} (h8 : 8 ≤ W) (hC2 : 2 ≤ C) : 2 * W ≤ C * W := Nat.mul_le_mul_right W hC2
theorem lvlC0 {W C : Nat} (h8 : 8 ≤ W) (hC2 : 2 ≤ C) : lvlC W C 0 = C * W := by
  have := lvlC_b h8 hC2
  unfold lvlC
  omega
theorem lvlC_s {W C k N : Nat} (h : N ≤ lvlC W C (k + 1)) (h8 : 8 ≤ W) (hC2 : 2 ≤ C) : (N + W) / 2 + 1 ≤ lvlC W C k := by
  have := lvlC_b h8 hC2
  unfold lvlC at *
  rw [Nat.pow_succ, ← Nat.mul_assoc] at h
  omega
def evQK (W : Nat) (sub : Nat → Nat → List Ev) (a m : Nat) : List Ev :=
  sub (a / 2 ^ (m / 2 * W)) (sz W (a / 2 ^ (m / 2 * W))) ++ (sub (a % 2 ^ (m / 2 * W)) (sz W (a % 2 ^ (m / 2 * W))) ++
  (evJ W (-1) (m + m - m / 2) (midR (2 ^ (m / 2 * W)) ((a % 2 ^ (m / 2 * W)) * (a % 2 ^ (m / 2 * W))) ((a / 2 ^ (m / 2 * W)) * (a / 2 ^ (m / 2 * W)))) ((a % 2 ^ (m / 2 * W)) * (a % 2 ^ (m / 2 * W))) ++
  (evJ W (-1) (m + m - m / 2) (midR (2 ^ (m / 2 * W)) ((a % 2 ^ (m / 2 * W)) * (a % 2 ^ (m / 2 * W))) ((a / 2 ^ (m / 2 * W)) * (a / 2 ^ (m / 2 * W))) + (-1) * (((a % 2 ^ (m / 2 * W)) * (a % 2 ^ (m / 2 * W)) : Nat) : Int)) ((a / 2 ^ (m / 2 * W)) * (a / 2 ^ (m / 2 * W))) ++
  (evA W (a / 2 ^ (m / 2 * W)) (a % 2 ^ (m / 2 * W)) ++ (sub (a / 2 ^ (m / 2 * W) + a % 2 ^ (m / 2 * W)) (sz W (a / 2 ^ (m / 2 * W) + a % 2 ^ (m / 2 * W))) ++
  evJ W 1 (m + m - m / 2) (midR (2 ^ (m / 2 * W)) ((a % 2 ^ (m / 2 * W)) * (a % 2 ^ (m / 2 * W))) ((a / 2 ^ (m / 2 * W)) * (a / 2 ^ (m / 2 * W))) + (-1) * (((a % 2 ^ (m / 2 * W)) * (a % 2 ^ (m / 2 * W)) : Nat) : Int) + (-1) * (((a / 2 ^ (m / 2 * W)) * (a / 2 ^ (m / 2 * W)) : Nat) : Int))
    ((a / 2 ^ (m / 2 * W) + a % 2 ^ (m / 2 * W)) * (a / 2 ^ (m / 2 * W) + a % 2 ^ (m / 2 * W))))))))
def evQC (W C : Nat) (sub : Nat → Nat → List Ev) (a m : Nat) : List Ev :=
  if m = 0 then [] else if m ≤ 2 * C then [.en "square" (m : Int) (m : Int), .st "product" ((m : Int) * ((m : Int) + 1) / 2)] else .en "karatsuba" (m : Int) (m : Int) :: evQK W sub a m
def evQ (W C : Nat) : Nat → Nat → Nat → List Ev
  | 0, _, _ => []
  | k + 1, a, m => evQC W C (evQ W C k) a m
section
variable {W C : Nat} {S : MS} (hS : S.w = (W : Int)) (hC : S.c = (C : Int)) (h8 : 8 ≤ W) (h : W ≤ 30)
include hS hC h8 h in
theorem karq_ok {g a m N : Nat} {sub : Nat → Nat → List Ev} (ha : a < 2 ^ (W * m)) (hm2 : 2 ≤ m) (hn : m ≤ 250000)
    (l1 : a / 2 ^ (m / 2 * W) + a % 2 ^ (m / 2 * W) < 2 ^ N) (hN : N ≤ 4000000)
    (hsub : ∀ (S : MS) (x : Nat), S.w = (W : Int) → S.c = (C : Int) → x < 2 ^ N → M_squared g S (x : Int) ((sz W x : Nat) : Int) = some (((x * x : Nat) : Int), runM (sub x (sz W x)) S)) :
    M_karatsuba_square (g + 1) S (a : Int) (m : Int) = some (((a * a : Nat) : Int), runM (.en "karatsuba" (m : Int) (m : Int) :: evQK W sub a m) S) := by
  have hw : W ≠ 0 := by omega
  have K := kfit h8 ha ha (Nat.le_refl m) (by omega) hm2
  obtain ⟨k1, k2, k3⟩ := K
  have P0 := Nat.two_pow_pos (m / 2 * W)
  have ea := Nat.mod_add_div a (2 ^ (m / 2 * W))
  have ab := mul_lt_pow ha ha
  have bm := Nat.mul_le_mul h hn
  have er : ((2 : Int) * (m : Int)) - ((m / 2 : Nat) : Int) = ((m + m - m / 2 : Nat) : Int) := by omega
  rw [M_karatsuba_square_succ, runM_cons]
  refine bnd_of (chkP_eq (cdiv_s (by decide) (by decide))) ?_
  rw [show (m : Int) / 2 = ((m / 2 : Nat) : Int) from rfl]
  refine bnd_of rfl ?_
  have hS1 : (Ev.onM S (.en "karatsuba" (m : Int) (m : Int))).w = (W : Int) := hS
  have hC1 : (Ev.onM S (.en "karatsuba" (m : Int) (m : Int))).c = (C : Int) := hC
  change (M_parts_of (Ev.onM S (.en "karatsuba" (m : Int) (m : Int))) (a : Int) ((m / 2 : Nat) : Int)).bind (fun z3 => (M_squared g (Ev.onM S (.en "karatsuba" (m : Int) (m : Int))) z3.c z3.d).bind fun z4 => _) = _
  generalize hS0 : Ev.onM S (.en "karatsuba" (m : Int) (m : Int)) = S1 at *
  refine bnd_of (parts_ok hS1 h8 h (by omega)) ?_
  unfold evQK
  simp only [runM_app]
  have hP : 0 < 2 ^ (m / 2 * W) := P0
  have mv := mid_val (al := a % 2 ^ (m / 2 * W)) (ah := a / 2 ^ (m / 2 * W)) (bl := a % 2 ^ (m / 2 * W)) (bh := a / 2 ^ (m / 2 * W)) hP
  have wv := whole_val (al := a % 2 ^ (m / 2 * W)) (ah := a / 2 ^ (m / 2 * W)) (bl := a % 2 ^ (m / 2 * W)) (bh := a / 2 ^ (m / 2 * W)) hP
  rw [ea] at mv wv
  have vb : a * a / 2 ^ (m / 2 * W) < 2 ^ (W * m + W * m) := Nat.lt_of_le_of_lt (Nat.div_le_self _ _) ab
  generalize a % 2 ^ (m / 2 * W) = al at *
  generalize a / 2 ^ (m / 2 * W) = ah at *
  refine bnd_of (hsub _ ah hS1 hC1 (by omega)) ?_
  have hS2 := (runM_w (sub ah (sz W ah)) S1).trans hS1
  have hC2 := (runM_c (sub ah (sz W ah)) S1).trans hC1
  dsimp only
  generalize runM (sub ah (sz W ah)) S1 = S2 at *
  refine bnd_of (hsub _ al hS2 hC2 (by omega)) ?_
  have hS3 := (runM_w (sub al (sz W al)) S2).trans hS2
  have hC3 := (runM_c (sub al (sz W al)) S2).trans hC2
  dsimp only
  generalize runM (sub al (sz W al)) S2 = S3 at *
  have hhi : ah * ah < 2 ^ (N + N) := mul_lt_pow (by omega) (by omega)
  refine bnd_of (chkP_eq (mul_small (by decide))) ?_
  rw [er]
  refine bnd_of (above_ok hS3 h8 h k1 k2 (by omega) (by omega) hhi (by omega)) ?_
  dsimp only
  have hS4 := (runM_w (evJ W (-1) (m + m - m / 2) (midR (2 ^ (m / 2 * W)) (al * al) (ah * ah) + (-1) * ((al * al : Nat) : Int)) (ah * ah)) (runM (evJ W (-1) (m + m - m / 2) (midR (2 ^ (m / 2 * W)) (al * al) (ah * ah)) (al * al)) S3)).trans ((runM_w (evJ W (-1) (m + m - m / 2) (midR (2 ^ (m / 2 * W)) (al * al) (ah * ah)) (al * al)) S3).trans hS3)
  have hC4 := (runM_c (evJ W (-1) (m + m - m / 2) (midR (2 ^ (m / 2 * W)) (al * al) (ah * ah) + (-1) * ((al * al : Nat) : Int)) (ah * ah)) (runM (evJ W (-1) (m + m - m / 2) (midR (2 ^ (m / 2 * W)) (al * al) (ah * ah)) (al * al)) S3)).trans ((runM_c (evJ W (-1) (m + m - m / 2) (midR (2 ^ (m / 2 * W)) (al * al) (ah * ah)) (al * al)) S3).trans hC3)
  generalize runM (evJ W (-1) (m + m - m / 2) (midR (2 ^ (m / 2 * W)) (al * al) (ah * ah) + (-1) * ((al * al : Nat) : Int)) (ah * ah)) (runM (evJ W (-1) (m + m - m / 2) (midR (2 ^ (m / 2 * W)) (al * al) (ah * ah)) (al * al)) S3) = S4 at *
  refine bnd_of (addedE_ok S4 ah al) ?_
  have hS5 := (runM_w (evA W ah al) S4).trans hS4
  have hC5 := (runM_c (evA W ah al) S4).trans hC4
  dsimp only
  generalize runM (evA W ah al) S4 = S5 at *
  rw [hS5]
  refine bnd_of (size_ok h8 h _) ?_
  rw [Int.natAbs_natCast]
  refine bnd_of (hsub _ (ah + al) hS5 hC5 l1) ?_
  have hS6 := (runM_w (sub (ah + al) (sz W (ah + al))) S5).trans hS5
  dsimp only
  generalize runM (sub (ah + al) (sz W (ah + al))) S5 = S6 at *
  refine bnd_of (chkP_eq (mul_small (by decide))) ?_
  refine bnd_of (wholer_ok hS6 h8 h k3 (by omega) (by omega) mv vb (by omega)) ?_
  rw [wv]
end
theorem half_lt2 {W z n N : Nat} (z1 : z < 2 ^ (W * n)) (z2 : z < 2 ^ N) (b3 : W * n < N + W) : z / 2 ^ (n / 2 * W) + z % 2 ^ (n / 2 * W) < 2 ^ ((N + W) / 2 + 1) := by
  have e1 : W * n = 2 * (n / 2 * W) + (n % 2) * W := by
    rw [← Nat.mul_assoc, ← Nat.add_mul, Nat.mul_comm W]
    congr 1
    omega
  have e2 : (n % 2) * W ≤ 1 * W := Nat.mul_le_mul_right _ (by omega)
  have zl : z % 2 ^ (n / 2 * W) < 2 ^ ((N + W) / 2) := Nat.lt_of_lt_of_le (mod_lt_pow z _) (pow_le2 (by omega))
  have zh : z / 2 ^ (n / 2 * W) < 2 ^ ((N + W) / 2) := by
    refine div_lt_pow ?_
    rcases Nat.le_total N (W * n) with w | w
    · exact Nat.lt_of_lt_of_le z2 (pow_le2 (by omega))
    · exact Nat.lt_of_lt_of_le z1 (pow_le2 (by omega))
  exact add_lt_pow zh zl
section
variable {W C : Nat} (h8 : 8 ≤ W) (h : W ≤ 30) (hC2 : 2 ≤ C) (hC9 : C ≤ 1000000)
include h8 h hC2 hC9 in
theorem sq_ok : ∀ (k g : Nat) (S : MS) (a m N : Nat), 2 * k + 1 ≤ g → S.w = (W : Int) → S.c = (C : Int) → Fit W N m a → N ≤ lvlC W C k → N ≤ 1900000 →
    M_squared g S (a : Int) (m : Int) = some (((a * a : Nat) : Int), runM (evQ W C (k + 1) a m) S) := by
  intro k
  induction k with
  | zero =>
    intro g S a m N hg hS hC fa hk hN
    obtain ⟨g, rfl⟩ : ∃ j, g = j + 1 := ⟨g - 1, by omega⟩
    rw [lvlC0 h8 hC2] at hk
    have hm : m ≤ C := by
      rcases Nat.lt_or_ge C m with q | q
      · have := Nat.mul_le_mul_left W (show C + 1 ≤ m from q)
        have := fa.len
        rw [Nat.mul_add, Nat.mul_one, Nat.mul_comm W C] at *
        omega
      · exact q
    have hs : a * a < 2 ^ (W * m + W * m) := mul_lt_pow fa.sm fa.sm
    have bm := Nat.mul_le_mul h hm
    rw [M_squared_succ, hC]
    show _ = some (_, runM (evQC W C (evQ W C 0) a m) S)
    unfold evQC
    by_cases q0 : m = 0
    · subst q0
      have a1 := fa.sm
      rw [Nat.mul_zero, Nat.pow_zero] at a1
      have a0 : a = 0 := by omega
      subst a0
      rw [if_pos (by rfl), if_pos rfl, Nat.zero_mul]
      rfl
    · rw [if_neg (by rw [decide_eq_true_iff]; omega), if_neg q0]
      refine bnd_of (chkP_eq (mul_small (by decide))) ?_
      rw [if_pos (decide_eq_true (by omega)), if_pos (by omega)]
      refine bnd_of (a := (((a * a : Nat) : Int), runM [.en "square" (m : Int) (m : Int), .st "product" ((m : Int) * ((m : Int) + 1) / 2)] S)) ?_ rfl
      unfold M_square_of_row
      refine bnd_of (chkP_eq (mul_small (by omega))) ?_
      refine bnd_of (chkP_eq (cdiv_s (by decide) (by decide))) ?_
      refine bnd_of (chkP_eq (by decide +kernel)) ?_
      refine bnd_of (chkP_eq (mul_big (j := W * m) (k := W * m) (by rw [Int.natAbs_natCast]; exact fa.sm) (by rw [Int.natAbs_natCast]; exact fa.sm) (by omega))) ?_
      rw [← Int.natCast_mul]
      rfl
  | succ k ihk =>
    intro g S a m N hg hS hC fa hk hN
    obtain ⟨g, rfl⟩ : ∃ j, g = j + 2 := ⟨g - 2, by omega⟩
    have hw : W ≠ 0 := by omega
    have hs := lvlC_s hk h8 hC2
    obtain ⟨a1, a2, a3⟩ := fa
    have nb : m ≤ 250000 := by
      rcases Nat.lt_or_ge 250000 m with q | q
      · have := Nat.mul_le_mul h8 q
        have := Nat.mul_le_mul_right m h8
        omega
      · exact q
    have bm := Nat.mul_le_mul h nb
    rw [M_squared_succ, hC]
    show _ = some (_, runM (evQC W C (evQ W C (k + 1)) a m) S)
    unfold evQC
    by_cases q0 : m = 0
    · subst q0
      rw [Nat.mul_zero, Nat.pow_zero] at a1
      have a0 : a = 0 := by omega
      subst a0
      rw [if_pos (by rfl), if_pos rfl, Nat.zero_mul]
      rfl
    · rw [if_neg (by rw [decide_eq_true_iff]; omega), if_neg q0]
      refine bnd_of (chkP_eq (mul_small (by decide))) ?_
      by_cases q1 : m ≤ 2 * C
      · rw [if_pos (decide_eq_true (by omega)), if_pos q1]
        refine bnd_of (a := (((a * a : Nat) : Int), runM [.en "square" (m : Int) (m : Int), .st "product" ((m : Int) * ((m : Int) + 1) / 2)] S)) ?_ rfl
        unfold M_square_of_row
        refine bnd_of (chkP_eq (mul_small (by omega))) ?_
        refine bnd_of (chkP_eq (cdiv_s (by decide) (by decide))) ?_
        refine bnd_of (chkP_eq (by decide +kernel)) ?_
        refine bnd_of (chkP_eq (mul_big (j := W * m) (k := W * m) (by rw [Int.natAbs_natCast]; exact a1) (by rw [Int.natAbs_natCast]; exact a1) (by omega))) ?_
        rw [← Int.natCast_mul]
        rfl
      · rw [if_neg (by rw [decide_eq_true_iff]; omega), if_neg q1]
        refine bnd_of (karq_ok hS hC h8 h a1 (by omega) nb (half_lt2 a1 a2 a3) (by omega) (sub := evQ W C (k + 1)) fun S x u1 u2 u3 => ?_) rfl
        exact ihk g S x _ _ (by omega) u1 u2 (fit_sz hw u3) hs (by omega)
end
/-- what a square counts and enters -/
def sqE (W C k : Nat) (x : Int) : List Ev := if sz W x.natAbs ≤ 1 then [.st "short" 1] else evQ W C (k + 1) x.natAbs (sz W x.natAbs)
section
variable {W C : Nat} {S : MS} (hS : S.w = (W : Int)) (hC : S.c = (C : Int)) (h8 : 8 ≤ W) (h : W ≤ 30) (hC2 : 2 ≤ C) (hC9 : C ≤ 1000000)
include hS hC h8 h hC2 hC9 in
theorem squareof_ok {x : Int} {N k : Nat} (hx : x.natAbs < 2 ^ N) (hN : N ≤ lvlC W C k) (hN2 : N ≤ 1900000) (hk : 2 * k + 1 ≤ 20) :
    M_square_of S x = some (x * x, runM (sqE W C k x) S) := by
  have hw : W ≠ 0 := by omega
  unfold M_square_of sqE
  refine bnd_of (compact_is hw hS x x) ?_
  by_cases q : sz W x.natAbs ≤ 1
  · rw [if_pos (decide_eq_true ⟨q, q⟩), if_pos q]
    refine bnd_of (chkP_eq (by decide +kernel)) ?_
    exact bnd_of (chkP_eq (mul_big (j := N) (k := N) hx hx (by omega))) rfl
  · rw [if_neg (by rw [decide_eq_true_iff]; exact fun z => q z.1), if_neg q, hS]
    refine bnd_of (size_ok h8 h x) ?_
    refine bnd_of (sq_ok h8 h hC2 hC9 k 20 S _ _ N hk hS hC (fit_sz hw hx) hN hN2) ?_
    show some (_, _) = _
    rw [← Int.natAbs_mul_self' x, Int.natCast_mul]
include hS hC h8 h hC2 hC9 in
theorem squarek_ok {x : Int} {N k : Nat} (hx : x.natAbs < 2 ^ N) (hN : N ≤ lvlC W C k) (hN2 : N ≤ 1900000) (hk : 2 * k + 1 ≤ 20) :
    M_square S (bg W x) = some (bg W (x * x), runM (sqE W C k x) S) := by
  have hw : W ≠ 0 := by omega
  unfold M_square
  refine bnd_of (one_big hS x) ?_
  refine bnd_of (squareof_ok hS hC h8 h hC2 hC9 hx hN hN2 hk) ?_
  refine bnd_of (bigof_ok (S := runM (sqE W C k x) S) ((runM_w _ _).trans hS) h8 h ?_) rfl
  have p : (x * x).natAbs < 2 ^ (N + N) := nab_mul hx hx
  refine (sz_le hw).mpr (Nat.lt_of_lt_of_le p (pow_le2 ?_))
  have := Nat.mul_le_mul_right 4194304 h8
  omega
end
/-- how many routines at the most, by the cutoff -/
def FBC : Nat → Nat
  | 0 => 1
  | j + 1 => max (6 + 3 * FBC j) (1 + (2 ^ (j + 1) + 2) * (FBC j + 1))
theorem fbc_pos : ∀ j, 1 ≤ FBC j
  | 0 => Nat.le_refl _
  | j + 1 => by unfold FBC; omega
theorem evS_bdC {W F : Nat} {sub : Nat → Nat → Nat → Nat → List Ev} {a m b n : Nat} : ∀ i, (∀ j, j < i → evN (sub a m (b / 2 ^ (j * m * W) % 2 ^ (m * W)) (min m (n - j * m))) ≤ F) → evN (evS W sub a m b n i) ≤ i * (F + 1)
  | 0, _ => Nat.zero_le _
  | i + 1, hs => by
    have ih := evS_bdC i fun j hj => hs j (by omega)
    have := hs i (by omega)
    rw [evS, evN_app, evN_app, evN_J, Nat.succ_mul]
    omega
theorem evN_CC {W C j a m b n N : Nat} (h8 : 8 ≤ W) (hC2 : 2 ≤ C) {sub : Nat → Nat → Nat → Nat → List Ev} (fa : Fit W N m a) (fb : Fit W N n b) (hmn : m ≤ n) (hN : N ≤ lvlC W C j)
    (ih : ∀ j', j = j' + 1 → ∀ x p y q N', Fit W N' p x → Fit W N' q y → N' ≤ lvlC W C j' → evN (sub x p y q) ≤ FBC j') : evN (evC W C sub a m b n) ≤ FBC j := by
  have hw : W ≠ 0 := by omega
  have fp := fbc_pos j
  obtain ⟨a1, a2, a3⟩ := fa
  obtain ⟨b1, b2, b3⟩ := fb
  unfold evC
  by_cases q0 : m = 0
  · rw [if_pos q0]; exact Nat.zero_le _
  · rw [if_neg q0]
    by_cases q1 : m ≤ C
    · rw [if_pos q1]; exact fp
    · rw [if_neg q1]
      cases j with
      | zero =>
        exfalso
        rw [lvlC0 h8 hC2] at hN
        have := Nat.mul_le_mul_left W (show C + 1 ≤ m by omega)
        rw [Nat.mul_succ, Nat.mul_comm W C] at this
        omega
      | succ j =>
        have hs := lvlC_s hN h8 hC2
        have ih := ih j rfl
        by_cases q2 : 2 * m ≤ n
        · rw [if_pos q2]
          have e2 : 2 * (W * m) ≤ W * n := by
            have := Nat.mul_le_mul_left W q2
            rw [← Nat.mul_assoc, Nat.mul_comm W 2, Nat.mul_assoc] at this
            exact this
          have bd := evS_bdC (W := W) (F := FBC j) (sub := sub) (a := a) (m := m) (b := b) (n := n) ((n + m - 1) / m) fun i hi => by
            have him := slc_lt (by omega) hi
            obtain ⟨f1, _⟩ := slc_fit hw a1 b1 him
            have hl : W * min m (n - i * m) ≤ W * m := Nat.mul_le_mul_left W (Nat.min_le_left _ _)
            exact ih a m _ _ (W * m) ⟨a1, a1, by omega⟩ ⟨f1, Nat.lt_of_lt_of_le f1 (pow_le2 hl), by omega⟩ (by omega)
          have hn : n < (2 ^ (j + 1) + 1) * m := by
            rcases Nat.lt_or_ge n ((2 ^ (j + 1) + 1) * m) with z | z
            · exact z
            · exfalso
              have l1 := Nat.mul_le_mul_left W z
              have l2 : W * ((2 ^ (j + 1) + 1) * (C + 1)) ≤ W * ((2 ^ (j + 1) + 1) * m) := Nat.mul_le_mul_left W (Nat.mul_le_mul_left _ (by omega))
              have cb := lvlC_b h8 hC2
              unfold lvlC at hN
              have e : W * ((2 ^ (j + 1) + 1) * (C + 1)) = C * W * 2 ^ (j + 1) + W * 2 ^ (j + 1) + C * W + W := by grind
              have e3 : (C * W - W - 2) * 2 ^ (j + 1) ≤ C * W * 2 ^ (j + 1) := Nat.mul_le_mul_right _ (by omega)
              have p1 : W * 1 ≤ W * 2 ^ (j + 1) := Nat.mul_le_mul_left _ (Nat.two_pow_pos _)
              omega
          have cnt : (n + m - 1) / m ≤ 2 ^ (j + 1) + 2 := by
            have l3 : (n + m - 1) / m < 2 ^ (j + 1) + 2 := by
              rw [Nat.div_lt_iff_lt_mul (by omega)]
              have : (2 ^ (j + 1) + 2) * m = (2 ^ (j + 1) + 1) * m + m := Nat.succ_mul _ _
              omega
            omega
          have l := Nat.mul_le_mul_right (FBC j + 1) cnt
          show evN (evS W sub a m b n ((n + m - 1) / m)) + 1 ≤ FBC (j + 1)
          unfold FBC
          omega
        · rw [if_neg q2]
          have hlm : W * m ≤ W * n := Nat.mul_le_mul_left W hmn
          have ha := half_lt2 (Nat.lt_of_lt_of_le a1 (pow_le2 hlm)) a2 b3
          have hb := half_lt2 b1 b2 b3
          show evN (evK W sub a m b n) + 1 ≤ FBC (j + 1)
          unfold evK
          simp only [evN_app, evN_J, evN_A]
          generalize a % 2 ^ (n / 2 * W) = al at *
          generalize a / 2 ^ (n / 2 * W) = ah at *
          generalize b % 2 ^ (n / 2 * W) = bl at *
          generalize b / 2 ^ (n / 2 * W) = bh at *
          have s1 := ih ah _ bh _ _ (fit_sz hw (show ah < 2 ^ ((N + W) / 2 + 1) by omega)) (fit_sz hw (show bh < 2 ^ ((N + W) / 2 + 1) by omega)) hs
          have s2 := ih al _ bl _ _ (fit_sz hw (show al < 2 ^ ((N + W) / 2 + 1) by omega)) (fit_sz hw (show bl < 2 ^ ((N + W) / 2 + 1) by omega)) hs
          have s3 := ih (ah + al) _ (bh + bl) _ _ (fit_sz hw ha) (fit_sz hw hb) hs
          unfold FBC
          omega
theorem evN_MC {W C : Nat} (h8 : 8 ≤ W) (hC2 : 2 ≤ C) : ∀ (j k a m b n N : Nat), Fit W N m a → Fit W N n b → N ≤ lvlC W C j → evN (evM W C k a m b n) ≤ FBC j := by
  intro j
  induction j with
  | zero =>
    intro k a m b n N fa fb hN
    cases k with
    | zero => exact Nat.zero_le _
    | succ k =>
      rw [evM]
      split
      · exact evN_CC h8 hC2 fb fa (by omega) hN fun j' e => (by cases e)
      · exact evN_CC h8 hC2 fa fb (by omega) hN fun j' e => (by cases e)
  | succ j ihj =>
    intro k a m b n N fa fb hN
    cases k with
    | zero => exact Nat.zero_le _
    | succ k =>
      have ih : ∀ j', j + 1 = j' + 1 → ∀ x p y q N', Fit W N' p x → Fit W N' q y → N' ≤ lvlC W C j' → evN (evM W C k x p y q) ≤ FBC j' := fun j' e x p y q N' u1 u2 u3 => by
        cases e
        exact ihj k x p y q N' u1 u2 u3
      rw [evM]
      split
      · exact evN_CC h8 hC2 fb fa (by omega) hN ih
      · exact evN_CC h8 hC2 fa fb (by omega) hN ih
/-! squares -/
theorem evok_Q {W C : Nat} : ∀ k a m, EvOk (evQ W C k a m)
  | 0, _, _ => evok_nil
  | k + 1, a, m => by
    unfold evQ evQC
    split
    · exact evok_nil
    · split
      · refine evok_en (evok_st evok_nil ?_)
        exact Int.ediv_nonneg (Int.mul_nonneg (Int.natCast_nonneg _) (by omega)) (by decide)
      · unfold evQK
        exact evok_en (evok_app (evok_Q k _ _) (evok_app (evok_Q k _ _) (evok_app evok_J (evok_app evok_J (evok_app evok_A (evok_app (evok_Q k _ _) evok_J))))))
theorem evN_QC {W C : Nat} (h8 : 8 ≤ W) (hC2 : 2 ≤ C) : ∀ (j k a m N : Nat), Fit W N m a → N ≤ lvlC W C j → evN (evQ W C k a m) ≤ FBC j := by
  intro j
  induction j with
  | zero =>
    intro k a m N fa hN
    cases k with
    | zero => exact Nat.zero_le _
    | succ k =>
      rw [evQ]
      unfold evQC
      rw [lvlC0 h8 hC2] at hN
      have hm : m ≤ C := by
        rcases Nat.lt_or_ge C m with q | q
        · have := Nat.mul_le_mul_left W (show C + 1 ≤ m by omega)
          rw [Nat.mul_succ, Nat.mul_comm W C] at this
          have := fa.len
          omega
        · exact q
      split
      · exact Nat.zero_le _
      · rw [if_pos (by omega)]; exact Nat.le_refl _
  | succ j ihj =>
    intro k a m N fa hN
    have hw : W ≠ 0 := by omega
    cases k with
    | zero => exact Nat.zero_le _
    | succ k =>
      have hs := lvlC_s hN h8 hC2
      rw [evQ]
      unfold evQC
      split
      · exact Nat.zero_le _
      · split
        · exact fbc_pos _
        · obtain ⟨a1, a2, a3⟩ := fa
          have ha := half_lt2 a1 a2 a3
          show evN (evQK W (evQ W C k) a m) + 1 ≤ FBC (j + 1)
          unfold evQK
          simp only [evN_app, evN_J, evN_A]
          generalize a % 2 ^ (m / 2 * W) = al at *
          generalize a / 2 ^ (m / 2 * W) = ah at *
          have s1 := ihj k ah _ _ (fit_sz hw (show ah < 2 ^ ((N + W) / 2 + 1) by omega)) hs
          have s2 := ihj k al _ _ (fit_sz hw (show al < 2 ^ ((N + W) / 2 + 1) by omega)) hs
          have s3 := ihj k (ah + al) _ _ (fit_sz hw ha) hs
          unfold FBC
          omega
theorem fbc4 : FBC 4 < 16000000 := by decide +kernel
theorem sqE_ok {W C k : Nat} {x : Int} : EvOk (sqE W C k x) := by
  unfold sqE
  split
  · exact evok_st evok_nil (by decide)
  · exact evok_Q _ _ _
section
variable {W C : Nat} {cs : List (Str × Int)} {wk : List (T3 Str Int Int)} (h8 : 8 ≤ W) (h : W ≤ 30)
include h8 h in
theorem lhalfQ_ok {g a m N : Nat} {sub : Nat → Nat → List Ev} (hc : CsOk cs) (hev : ∀ x p, EvOk (sub x p)) (hl : wk.length + 1 + evN (evQK W sub a m) < 16000000)
    (ha : a < 2 ^ (W * m)) (hm2 : 2 ≤ m) (hn : (m + m) * W < 400000)
    (l1 : a / 2 ^ (m / 2 * W) + a % 2 ^ (m / 2 * W) < 2 ^ N) (hN : N ≤ 4000000)
    (hsub : ∀ (cs : List (Str × Int)) (wk : List (T3 Str Int Int)) (x : Nat), CsOk cs → wk.length + evN (sub x (sz W x)) < 16000000 → x < 2 ^ N →
      M__law_square g cs wk (W : Int) (C : Int) ((2 ^ W : Nat) : Int) (x : Int) ((sz W x : Nat) : Int) = some (((x * x : Nat) : Int), runC (sub x (sz W x)) cs, runW (sub x (sz W x)) wk)) :
    M__law_halves__o1 (g + 1) cs wk (W : Int) (C : Int) ((2 ^ W : Nat) : Int) (a : Int) (m : Int) () (m : Int) = some (((a * a : Nat) : Int), runC (.en "karatsuba" (m : Int) (m : Int) :: evQK W sub a m) cs, runW (.en "karatsuba" (m : Int) (m : Int) :: evQK W sub a m) wk) := by
  have hw : W ≠ 0 := by omega
  have K := kfit h8 ha ha (Nat.le_refl m) (by omega) hm2
  obtain ⟨k1, k2, k3⟩ := K
  have P0 := Nat.two_pow_pos (m / 2 * W)
  have ea := Nat.mod_add_div a (2 ^ (m / 2 * W))
  have ab := mul_lt_pow ha ha
  have er : ((m : Int) + (m : Int)) - ((m / 2 : Nat) : Int) = ((m + m - m / 2 : Nat) : Int) := by omega
  have cw : m / 2 * W ≤ (m + m) * W := Nat.mul_le_mul_right _ (by omega)
  have rw' : (m + m - m / 2) * W ≤ (m + m) * W := Nat.mul_le_mul_right _ (by omega)
  have sh : CShl 1 ((m / 2 * W : Nat) : Int) := shl_ok (k := 1) (by decide) (by omega) (by omega)
  have pos : 0 < ((2 ^ (m / 2 * W) : Nat) : Int) := by omega
  rw [M__law_halves__o1_succ, runC_cons, runW_cons]
  refine bnd_of (lnote_ok (by omega)) ?_
  refine bnd_of (chkP_eq (cdiv_s (by decide) (by decide))) ?_
  rw [show (m : Int) / 2 = ((m / 2 : Nat) : Int) from rfl]
  refine bnd_of (chkP_eq (mul_small (by omega))) ?_
  rw [← Int.natCast_mul, Nat.mul_comm W (m / 2)]
  refine bnd_of rfl ?_
  rw [Int.toNat_natCast, Int.one_mul, p2, show (2 * ((m / 2 * W : Nat) : Int)).toNat = m / 2 * W + m / 2 * W by omega, Int.pow_add, p2]
  refine bnd_of (chkP_eq (by omega)) ?_
  refine bnd_of (chkP_eq sh) ?_
  refine bnd_of (chkP_eq pos) ?_
  rw [← Int.natCast_ediv, ← Int.natCast_emod]
  refine bnd_of rfl ?_
  refine bnd_of rfl ?_
  unfold evQK at hl ⊢
  simp only [runC_app, runW_app]
  simp only [evN_app, evN_J, evN_A] at hl
  have hP : 0 < 2 ^ (m / 2 * W) := P0
  have mv := mid_val (al := a % 2 ^ (m / 2 * W)) (ah := a / 2 ^ (m / 2 * W)) (bl := a % 2 ^ (m / 2 * W)) (bh := a / 2 ^ (m / 2 * W)) hP
  have wv := whole_val (al := a % 2 ^ (m / 2 * W)) (ah := a / 2 ^ (m / 2 * W)) (bl := a % 2 ^ (m / 2 * W)) (bh := a / 2 ^ (m / 2 * W)) hP
  rw [ea] at mv wv
  have vb : a * a / 2 ^ (m / 2 * W) < 2 ^ ((m + m - m / 2) * W) := by
    refine div_lt_pow (Nat.lt_of_lt_of_le ab (pow_le2 ?_))
    rw [← Nat.mul_add, ← Nat.add_mul, Nat.mul_comm]
    exact Nat.mul_le_mul_right _ (by omega)
  have hlo := mul_lt_pow (mod_lt_pow a (m / 2 * W)) (mod_lt_pow a (m / 2 * W))
  generalize a % 2 ^ (m / 2 * W) = al at *
  generalize a / 2 ^ (m / 2 * W) = ah at *
  have eW0 : (Ev.onW wk (.en "karatsuba" (m : Int) (m : Int))).length = wk.length + 1 := by show (wk ++ [_]).length = _; rw [List.length_append]; rfl
  have hc0 : CsOk (Ev.onC cs (.en "karatsuba" (m : Int) (m : Int))) := hc
  change ((M__law_size (Ev.onC cs (.en "karatsuba" (m : Int) (m : Int))) (Ev.onW wk (.en "karatsuba" (m : Int) (m : Int))) (W : Int) (C : Int) ((2 ^ W : Nat) : Int) (ah : Int)).bind fun z10 => (M__law_square g (Ev.onC cs (.en "karatsuba" (m : Int) (m : Int))) (Ev.onW wk (.en "karatsuba" (m : Int) (m : Int))) (W : Int) (C : Int) ((2 ^ W : Nat) : Int) (ah : Int) z10).bind fun z11 => _).bind _ = _
  generalize Ev.onC cs (.en "karatsuba" (m : Int) (m : Int)) = cs0 at *
  generalize Ev.onW wk (.en "karatsuba" (m : Int) (m : Int)) = wk0 at *
  refine bnd_of (a := (((ah * ah : Nat) : Int), ((al * al : Nat) : Int), runC (sub al (sz W al)) (runC (sub ah (sz W ah)) cs0), runW (sub al (sz W al)) (runW (sub ah (sz W ah)) wk0))) ?_ ?_
  · refine bnd_of (lsize_ok h8 h) ?_
    rw [Int.natAbs_natCast]
    refine bnd_of (hsub _ _ ah hc0 (by omega) (by omega)) ?_
    dsimp only
    refine bnd_of (lsize_ok h8 h) ?_
    rw [Int.natAbs_natCast]
    refine bnd_of (hsub _ _ al (csok_run hc0 (hev _ _)) (by rw [runW_len]; omega) (by omega)) ?_
    rfl
  · have hc1 := csok_run (csok_run hc0 (hev ah (sz W ah))) (hev al (sz W al))
    have eW1 : (runW (sub al (sz W al)) (runW (sub ah (sz W ah)) wk0)).length = wk0.length + evN (sub ah (sz W ah)) + evN (sub al (sz W al)) := by rw [runW_len, runW_len]
    generalize runC (sub al (sz W al)) (runC (sub ah (sz W ah)) cs0) = cs1 at *
    generalize runW (sub al (sz W al)) (runW (sub ah (sz W ah)) wk0) = wk1 at *
    dsimp only
    have hi2 : ah * ah < 2 ^ (N + N) := mul_lt_pow (by omega) (by omega)
    obtain ⟨md, mm⟩ := midR_div (lo := al * al) (hi := ah * ah) hP
    refine bnd_of (chkP_eq (mul_small (by decide))) ?_
    refine bnd_of (chkP_eq (shl_ok (k := N + N) (by rw [Int.natAbs_natCast]; exact hi2) (by omega) (by omega))) ?_
    refine bnd_of (chkP_eq (cdiv_s (by decide) (by decide))) ?_
    refine bnd_of rfl ?_
    refine bnd_of rfl ?_
    refine bnd_of (chkP_eq (by omega)) ?_
    rw [er, ← Int.natCast_mul (2 ^ (m / 2 * W)), ← Int.natCast_mul (ah * ah), ← Int.natCast_add, md, ← Int.natCast_emod, mm]
    have eW2 : ∀ {r : Nat} {room : Int} {more : Nat} {t : Int} (w : List (T3 Str Int Int)), (runW (evJ W t r room more) w).length = w.length + 1 := fun w => by rw [runW_len, evN_J]
    have eW3 : ∀ {x y : Nat} (w : List (T3 Str Int Int)), (runW (evA W x y) w).length = w.length + 1 := fun w => by rw [runW_len, evN_A]
    refine bnd_of (into_ok h8 h hc1 (by omega) (.inr rfl) k1 (by omega)) ?_
    have hc2 := csok_run hc1 (evok_J (W := W) (r := m + m - m / 2) (more := al * al) (t := -1) (room := midR (2 ^ (m / 2 * W)) (al * al) (ah * ah)))
    have eW4 := eW2 (r := m + m - m / 2) (more := al * al) (t := -1) (room := midR (2 ^ (m / 2 * W)) (al * al) (ah * ah)) wk1
    dsimp only
    generalize runC (evJ W (-1) (m + m - m / 2) (midR (2 ^ (m / 2 * W)) (al * al) (ah * ah)) (al * al)) cs1 = cs2 at *
    generalize runW (evJ W (-1) (m + m - m / 2) (midR (2 ^ (m / 2 * W)) (al * al) (ah * ah)) (al * al)) wk1 = wk2 at *
    refine bnd_of (into_ok h8 h hc2 (by omega) (.inr rfl) k2 (by omega)) ?_
    rw [evJ_mod k2, mod_add]
    have hc3 := csok_run hc2 (evok_J (W := W) (r := m + m - m / 2) (more := ah * ah) (t := -1) (room := midR (2 ^ (m / 2 * W)) (al * al) (ah * ah) + (-1) * ((al * al : Nat) : Int)))
    have eW5 := eW2 (r := m + m - m / 2) (more := ah * ah) (t := -1) (room := midR (2 ^ (m / 2 * W)) (al * al) (ah * ah) + (-1) * ((al * al : Nat) : Int)) wk2
    dsimp only
    generalize runC (evJ W (-1) (m + m - m / 2) (midR (2 ^ (m / 2 * W)) (al * al) (ah * ah) + (-1) * ((al * al : Nat) : Int)) (ah * ah)) cs2 = cs3 at *
    generalize runW (evJ W (-1) (m + m - m / 2) (midR (2 ^ (m / 2 * W)) (al * al) (ah * ah) + (-1) * ((al * al : Nat) : Int)) (ah * ah)) wk2 = wk3 at *
    refine bnd_of (lsum_ok h8 h hc3 (by omega)) ?_
    have hc4 := csok_run hc3 (evok_A (W := W) (a := ah) (b := al))
    have eW6 := eW3 (x := ah) (y := al) wk3
    dsimp only
    generalize runC (evA W ah al) cs3 = cs4 at *
    generalize runW (evA W ah al) wk3 = wk4 at *
    refine bnd_of (a := ((((ah + al) * (ah + al) : Nat) : Int), runC (sub (ah + al) (sz W (ah + al))) cs4, runW (sub (ah + al) (sz W (ah + al))) wk4)) ?_ ?_
    · refine bnd_of (lsize_ok h8 h) ?_
      rw [Int.natAbs_natCast]
      refine bnd_of (hsub _ _ (ah + al) hc4 (by omega) l1) ?_
      rfl
    · have hc5 := csok_run hc4 (hev (ah + al) (sz W (ah + al)))
      have eW7 : (runW (sub (ah + al) (sz W (ah + al))) wk4).length = wk4.length + evN (sub (ah + al) (sz W (ah + al))) := by rw [runW_len]
      generalize runC (sub (ah + al) (sz W (ah + al))) cs4 = cs5 at *
      generalize runW (sub (ah + al) (sz W (ah + al))) wk4 = wk5 at *
      dsimp only
      refine bnd_of (chkP_eq sh) ?_
      refine bnd_of (chkP_eq pos) ?_
      refine bnd_of (into_ok h8 h hc5 (by omega) (.inl rfl) k3 (by omega)) ?_
      rw [evJ_mod k3, mod_add, mv, p2, ← Int.natCast_emod, Nat.mod_eq_of_lt vb]
      refine bnd_of (chkP_eq (shl_ok (k := (m + m - m / 2) * W) (by rw [Int.natAbs_natCast]; exact vb) (by omega) (by omega))) ?_
      rw [← Int.natCast_mul, ← Int.natCast_add, wv]
end
section
variable {W C : Nat} {cs : List (Str × Int)} {wk : List (T3 Str Int Int)} (h8 : 8 ≤ W) (h : W ≤ 30) (hC2 : 2 ≤ C)
include h8 h hC2 in
theorem lsq_row {g k a m N : Nat} (hc : CsOk cs) (hl : wk.length + evN (evQ W C (k + 1) a m) < 16000000) (fa : Fit W N m a) (hN : N ≤ 90000) (hm : m ≤ 2 * C) :
    M__law_square (g + 1) cs wk (W : Int) (C : Int) ((2 ^ W : Nat) : Int) (a : Int) (m : Int) = some (((a * a : Nat) : Int), runC (evQ W C (k + 1) a m) cs, runW (evQ W C (k + 1) a m) wk) := by
  obtain ⟨a1, a2, a3⟩ := fa
  have mb : m ≤ 100000 := by
    have := Nat.mul_le_mul_right m h8
    omega
  rw [M__law_square_succ]
  rw [evQ] at hl ⊢
  unfold evQC at hl ⊢
  by_cases q0 : m = 0
  · subst q0
    rw [Nat.mul_zero, Nat.pow_zero] at a1
    have a0 : a = 0 := by omega
    subst a0
    rw [if_pos (by rfl), if_pos rfl, Nat.zero_mul]
    rfl
  · rw [if_neg (by rw [decide_eq_true_iff]; omega), if_neg q0]
    rw [if_neg q0, if_pos hm] at hl
    have hl : wk.length + 1 < 16000000 := hl
    refine bnd_of (chkP_eq (mul_small (by decide))) ?_
    rw [if_pos (decide_eq_true (by omega)), if_pos hm]
    refine bnd_of (lnote_ok (by omega)) ?_
    refine bnd_of (chkP_eq (mul_small (by omega))) ?_
    refine bnd_of (chkP_eq (cdiv_s (by decide) (by decide))) ?_
    refine bnd_of (lcount_ok hc) ?_
    refine bnd_of (chkP_eq (mul_big (j := W * m) (k := W * m) (by rw [Int.natAbs_natCast]; exact a1) (by rw [Int.natAbs_natCast]; exact a1) (by omega))) ?_
    rw [← Int.natCast_mul]
    rfl
end
section
variable {W C : Nat} (h8 : 8 ≤ W) (h : W ≤ 30) (hC2 : 2 ≤ C)
include h8 h hC2 in
theorem lsq_ok : ∀ (k g : Nat) (cs : List (Str × Int)) (wk : List (T3 Str Int Int)) (a m N : Nat), 2 * k + 1 ≤ g → CsOk cs → wk.length + evN (evQ W C (k + 1) a m) < 16000000 → Fit W N m a → N ≤ lvlC W C k → N ≤ 90000 →
    M__law_square g cs wk (W : Int) (C : Int) ((2 ^ W : Nat) : Int) (a : Int) (m : Int) = some (((a * a : Nat) : Int), runC (evQ W C (k + 1) a m) cs, runW (evQ W C (k + 1) a m) wk) := by
  intro k
  induction k with
  | zero =>
    intro g cs wk a m N hg hc hl fa hk hN
    obtain ⟨g, rfl⟩ : ∃ j, g = j + 1 := ⟨g - 1, by omega⟩
    rw [lvlC0 h8 hC2] at hk
    have hm : m ≤ C := by
      rcases Nat.lt_or_ge C m with q | q
      · have := Nat.mul_le_mul_left W (show C + 1 ≤ m by omega)
        rw [Nat.mul_succ, Nat.mul_comm W C] at this
        have := fa.len
        omega
      · exact q
    exact lsq_row h8 h hC2 hc hl fa hN (by omega)
  | succ k ihk =>
    intro g cs wk a m N hg hc hl fa hk hN
    obtain ⟨g, rfl⟩ : ∃ j, g = j + 2 := ⟨g - 2, by omega⟩
    have hw : W ≠ 0 := by omega
    have hs := lvlC_s hk h8 hC2
    by_cases q1 : m ≤ 2 * C
    · exact lsq_row h8 h hC2 hc hl fa hN q1
    · obtain ⟨a1, a2, a3⟩ := fa
      have mm : (m + m) * W < 400000 := by
        rw [Nat.add_mul, Nat.mul_comm m]
        omega
      rw [M__law_square_succ]
      rw [if_neg (by rw [decide_eq_true_iff]; omega)]
      refine bnd_of (chkP_eq (mul_small (by decide))) ?_
      rw [if_neg (by rw [decide_eq_true_iff]; omega)]
      have e : evQ W C (k + 1 + 1) a m = .en "karatsuba" (m : Int) (m : Int) :: evQK W (evQ W C (k + 1)) a m := by
        rw [evQ]
        unfold evQC
        rw [if_neg (by omega), if_neg q1]
      rw [e] at hl ⊢
      have hl : wk.length + (evN (evQK W (evQ W C (k + 1)) a m) + 1) < 16000000 := hl
      refine bnd_of (lhalfQ_ok h8 h hc (evok_Q _) (by omega) a1 (by omega) mm (half_lt2 a1 a2 a3) (by omega) (sub := evQ W C (k + 1)) fun cs wk x u1 u2 u3 => ?_) rfl
      exact ihk g cs wk x _ _ (by omega) u1 u2 (fit_sz hw u3) hs (by omega)
end
theorem world_ok {W C : Nat} {S : MS} (hS : S.w = (W : Int)) (hC : S.c = (C : Int)) (h : W ≤ 30) : M__law_world S = some ((W : Int), (C : Int), ((2 ^ W : Nat) : Int)) := by
  unfold M__law_world
  rw [hS, hC]
  refine bnd_of rfl ?_
  refine bnd_of (chkP_eq (shl_ok (k := 1) (by decide) (by omega) (by omega))) ?_
  rw [Int.toNat_natCast, Int.one_mul, p2]
theorem max2 (a b : Int) : maxL [a, b] = max a b := rfl
section
variable {W C : Nat} {S : MS} (hS : S.w = (W : Int)) (hC : S.c = (C : Int)) (h8 : 8 ≤ W) (h : W ≤ 30) (hC2 : 2 ≤ C)
include hS hC h8 h hC2 in
theorem due_ok {x y : Int} {N k : Nat} (hx : x.natAbs < 2 ^ N) (hy : y.natAbs < 2 ^ N) (hN : N ≤ lvl W k) (hN2 : N ≤ 90000) (hk : 2 * k + 1 ≤ 40) (hF : evN (evM W C (k + 1) x.natAbs (sz W x.natAbs) y.natAbs (sz W y.natAbs)) < 16000000) :
    M__law_due S x y = some (T3.mk (x * y) (DF.mk (runC (mulE W C k x y) [])) (LF.mk (runW (mulE W C k x y) []))) := by
  have hw : W ≠ 0 := by omega
  have fx := fit_sz hw hx
  have fy := fit_sz hw hy
  unfold M__law_due
  refine bnd_of (world_ok hS hC h) ?_
  dsimp only
  refine bnd_of (a := Stp.nx ([((sz W x.natAbs : Nat) : Int), ((sz W y.natAbs : Nat) : Int)])) ?_ ?_
  · rw [forM_cons (s' := [((sz W x.natAbs : Nat) : Int)]) (by
      refine bnd_of (lsize_ok h8 h) ?_
      rw [Int.natAbs_natCast]
      exact bnd_of (chkP_eq (size_lt (m := 1) (Nat.zero_le _) (by decide))) rfl), forM_cons (s' := [((sz W x.natAbs : Nat) : Int), ((sz W y.natAbs : Nat) : Int)]) (by
      refine bnd_of (lsize_ok h8 h) ?_
      rw [Int.natAbs_natCast]
      exact bnd_of (chkP_eq (size_lt (m := 1) (Nat.le_refl _) (by decide))) rfl)]
    rfl
  · refine bnd_of rfl ?_
    refine bnd_of (chkP_eq (by show 0 < 2; decide)) ?_
    rw [max2]
    unfold mulE
    by_cases q : sz W x.natAbs ≤ 1 ∧ sz W y.natAbs ≤ 1
    · rw [if_pos (decide_eq_true (by omega)), if_pos q]
      refine bnd_of (chkP_eq (mul_big hx hy (by omega))) ?_
      refine bnd_of (chkP_eq (by simp)) ?_
      rfl
    · rw [if_neg (by rw [decide_eq_true_iff]; omega), if_neg q]
      refine bnd_of (a := ((sz W x.natAbs : Nat) : Int)) rfl ?_
      refine bnd_of (a := ((sz W y.natAbs : Nat) : Int)) rfl ?_
      refine bnd_of (lmul_ok h8 h hC2 k 40 [] [] _ _ _ _ N hk csok_nil (by show 0 + _ < _; omega) fx fy hN hN2) ?_
      have e := sgn_val x y
      rw [show ∀ z : Int, (0 : Int) - z = -z from fun z => by omega]
      rw [e]
include hS hC h8 h hC2 in
theorem lright_ok {x y : Int} {N k : Nat} (hx : x.natAbs < 2 ^ N) (hy : y.natAbs < 2 ^ N) (hN : N ≤ lvl W k) (hN2 : N ≤ 90000) (hk : 2 * k + 1 ≤ 40) (hF : evN (evM W C (k + 1) x.natAbs (sz W x.natAbs) y.natAbs (sz W y.natAbs)) < 16000000) :
    M__law_right S x y = some (true, MS.fresh (W : Int) (C : Int)) := by
  have hw : W ≠ 0 := by omega
  have zx : ∀ z : Int, z.natAbs < 2 ^ (N + N) → sz W z.natAbs ≤ 22600 := fun z hz => (sz_le hw).mpr (Nat.lt_of_lt_of_le hz (pow_le2 (by have := Nat.mul_le_mul_right 22600 h8; omega)))
  have hxx : x.natAbs < 2 ^ (N + N) := Nat.lt_of_lt_of_le hx (pow_le2 (by omega))
  have hyy : y.natAbs < 2 ^ (N + N) := Nat.lt_of_lt_of_le hy (pow_le2 (by omega))
  have p : (x * y).natAbs < 2 ^ (N + N) := nab_mul hx hy
  have er : S.reset = MS.fresh (W : Int) (C : Int) := by show MS.fresh S.w S.c = _; rw [hS, hC]
  unfold M__law_right
  refine bnd_of (big_ok hS h8 h (n := x) (by have := zx x hxx; omega)) ?_
  rw [er]
  refine bnd_of (big_ok (S := MS.fresh (W : Int) (C : Int)) rfl h8 h (n := y) (by have := zx y hyy; omega)) ?_
  refine bnd_of (multiply_ok (S := MS.fresh (W : Int) (C : Int)) rfl rfl h8 h hC2 hx hy hN (by omega) hk) ?_
  have w1 : (runM (mulE W C k x y) (MS.fresh (W : Int) (C : Int))).w = (W : Int) := (runM_w _ _).trans rfl
  have c1 : (runM (mulE W C k x y) (MS.fresh (W : Int) (C : Int))).c = (C : Int) := (runM_c _ _).trans rfl
  dsimp only
  refine bnd_of (due_ok w1 c1 h8 h hC2 hx hy hN hN2 hk hF) ?_
  dsimp only
  rw [w1]
  refine bnd_of (is_ok h8 h (by have := zx _ p; omega)) ?_
  refine bnd_of (chkP_eq rfl) ?_
  refine bnd_of (chkP_eq (mul_big hx hy (by omega))) ?_
  refine bnd_of (chkP_eq rfl) ?_
  refine bnd_of (counted_ok _) ?_
  have ew : (runM (mulE W C k x y) (MS.fresh (W : Int) (C : Int))).wk = (runW (mulE W C k x y) []).take 1000 := run_wk _ _ [] rfl
  have ec : cut (runW (mulE W C k x y) []) none (some (1000 : Int)) = (runW (mulE W C k x y) []).take 1000 := cut_is _ 1000
  refine bnd_of (chkP_eq ⟨run_same mulE_ok, ?_, ?_⟩) ?_
  · show LF.mk _ = LF.mk _
    rw [ec, ew]
  · exact wkok_dat (run_wkok mulE_ok wkok_nil)
  · refine bnd_of (chkP_eq rfl) ?_
    show some (true, (runM (mulE W C k x y) (MS.fresh (W : Int) (C : Int))).reset) = _
    show some (true, MS.fresh _ _) = _
    rw [w1, c1]
end
theorem cutm {α : Type} {l : List α} {a b : Option Int} : ∀ x ∈ cut l a b, x ∈ l := fun x hx => by
  unfold cut at hx
  exact List.mem_of_mem_drop (List.mem_of_mem_take hx)
theorem cut_last1 {α : Type} (l : List α) : (cut l (some (-(1 : Int))) none).length ≤ 1 := by
  have h2 : HT.sIx l.length 0 (some (-(1 : Int))) = l.length - 1 := by
    show (if (-(1 : Int)) < 0 then (-(1 : Int) + (l.length : Int)).toNat else min (-(1 : Int)).toNat l.length) = _
    rw [if_pos (by decide)]
    omega
  unfold cut
  rw [List.length_take, List.length_drop, h2, show HT.sIx l.length l.length none = l.length from rfl]
  omega
theorem cutD {α : Type} (l : List α) {k : Nat} (hk : k ≤ l.length) : (cut l (some (k : Int)) none).length = l.length - k := by
  have h1 : HT.sIx l.length 0 (some (k : Int)) = k := by rw [HT.sIx_nat]; omega
  unfold cut
  rw [List.length_take, List.length_drop, h1, show HT.sIx l.length l.length none = l.length from rfl]
  omega
theorem cutT {α : Type} (l : List α) {k : Nat} (hk : k ≤ l.length) : (cut l none (some (k : Int))).length = k := by
  have h1 : HT.sIx l.length l.length (some (k : Int)) = k := by rw [HT.sIx_nat]; omega
  unfold cut
  rw [List.length_take, List.length_drop, h1, show HT.sIx l.length 0 none = 0 from rfl]
  omega
theorem lvb {W : Nat} {l : List Int} (hd : ∀ x ∈ l, 0 ≤ x ∧ x < (2 : Int) ^ W) {u : Int} (hu : u = 1 ∨ u = -1) : (lv (2 ^ W) l * u).natAbs < 2 ^ (W * l.length) := by
  have b := lv_bound (ppos W) hd
  rw [← Int.pow_mul] at b
  have := pp W l.length
  have n0 : (lv (2 ^ W) l * u).natAbs = (lv (2 ^ W) l).natAbs := by rcases hu with e | e <;> rw [e] <;> omega
  rw [n0]
  omega
theorem repf (n : Int) (d : Int) : (List.replicate n.toNat ([d] : List Int)).flatten = List.replicate n.toNat d := List.flatten_replicate_singleton
section
variable {W C : Nat} {S : MS} (hS : S.w = (W : Int)) (hC : S.c = (C : Int)) (h8 : 8 ≤ W) (h : W ≤ 30) (hC2 : 2 ≤ C) (hC9 : C ≤ 1000000)
include hS hC h8 h hC2 in
theorem dueQ_ok {x : Int} {N k : Nat} (hx : x.natAbs < 2 ^ N) (hN : N ≤ lvlC W C k) (hN2 : N ≤ 90000) (hk : 2 * k + 1 ≤ 20) (hF : evN (evQ W C (k + 1) x.natAbs (sz W x.natAbs)) < 16000000) :
    M__law_due__o1 S x () = some (T3.mk (x * x) (DF.mk (runC (sqE W C k x) [])) (LF.mk (runW (sqE W C k x) []))) := by
  have hw : W ≠ 0 := by omega
  have fx := fit_sz hw hx
  unfold M__law_due__o1
  refine bnd_of (world_ok hS hC h) ?_
  dsimp only
  refine bnd_of (a := Stp.nx ([((sz W x.natAbs : Nat) : Int), ((sz W x.natAbs : Nat) : Int)])) ?_ ?_
  · rw [forM_cons (s' := [((sz W x.natAbs : Nat) : Int)]) (by
      refine bnd_of (lsize_ok h8 h) ?_
      rw [Int.natAbs_natCast]
      exact bnd_of (chkP_eq (size_lt (m := 1) (Nat.zero_le _) (by decide))) rfl), forM_cons (s' := [((sz W x.natAbs : Nat) : Int), ((sz W x.natAbs : Nat) : Int)]) (by
      refine bnd_of (lsize_ok h8 h) ?_
      rw [Int.natAbs_natCast]
      exact bnd_of (chkP_eq (size_lt (m := 1) (Nat.le_refl _) (by decide))) rfl)]
    rfl
  · refine bnd_of rfl ?_
    refine bnd_of (chkP_eq (by show 0 < 2; decide)) ?_
    rw [max2]
    unfold sqE
    by_cases q : sz W x.natAbs ≤ 1
    · rw [if_pos (decide_eq_true (by omega)), if_pos q]
      refine bnd_of (chkP_eq (mul_big hx hx (by omega))) ?_
      refine bnd_of (chkP_eq (by simp)) ?_
      rfl
    · rw [if_neg (by rw [decide_eq_true_iff]; omega), if_neg q]
      refine bnd_of (a := ((sz W x.natAbs : Nat) : Int)) rfl ?_
      refine bnd_of (lsq_ok h8 h hC2 k 20 [] [] _ _ N hk csok_nil (by show 0 + _ < _; omega) fx hN hN2) ?_
      rw [Int.natCast_mul, Int.natAbs_mul_self' x]
include hS hC h8 h hC2 hC9 in
theorem lrightQ_ok {x : Int} {N k : Nat} (hx : x.natAbs < 2 ^ N) (hN : N ≤ lvlC W C k) (hN2 : N ≤ 90000) (hk : 2 * k + 1 ≤ 20) (hF : evN (evQ W C (k + 1) x.natAbs (sz W x.natAbs)) < 16000000) :
    M__law_right__o1 S x () = some (true, MS.fresh (W : Int) (C : Int)) := by
  have hw : W ≠ 0 := by omega
  have zx : ∀ z : Int, z.natAbs < 2 ^ (N + N) → sz W z.natAbs ≤ 22600 := fun z hz => (sz_le hw).mpr (Nat.lt_of_lt_of_le hz (pow_le2 (by have := Nat.mul_le_mul_right 22600 h8; omega)))
  have hxx : x.natAbs < 2 ^ (N + N) := Nat.lt_of_lt_of_le hx (pow_le2 (by omega))
  have p : (x * x).natAbs < 2 ^ (N + N) := nab_mul hx hx
  have er : S.reset = MS.fresh (W : Int) (C : Int) := by show MS.fresh S.w S.c = _; rw [hS, hC]
  unfold M__law_right__o1
  refine bnd_of (big_ok hS h8 h (n := x) (by have := zx x hxx; omega)) ?_
  rw [er]
  refine bnd_of (squarek_ok (S := MS.fresh (W : Int) (C : Int)) rfl rfl h8 h hC2 hC9 hx hN (by omega) hk) ?_
  have w1 : (runM (sqE W C k x) (MS.fresh (W : Int) (C : Int))).w = (W : Int) := (runM_w _ _).trans rfl
  have c1 : (runM (sqE W C k x) (MS.fresh (W : Int) (C : Int))).c = (C : Int) := (runM_c _ _).trans rfl
  dsimp only
  refine bnd_of (dueQ_ok w1 c1 h8 h hC2 hx hN hN2 hk hF) ?_
  dsimp only
  rw [w1]
  refine bnd_of (is_ok h8 h (by have := zx _ p; omega)) ?_
  refine bnd_of (chkP_eq rfl) ?_
  refine bnd_of (chkP_eq (mul_big hx hx (by omega))) ?_
  refine bnd_of (chkP_eq rfl) ?_
  refine bnd_of (counted_ok _) ?_
  have ew : (runM (sqE W C k x) (MS.fresh (W : Int) (C : Int))).wk = (runW (sqE W C k x) []).take 1000 := run_wk _ _ [] rfl
  have ec : cut (runW (sqE W C k x) []) none (some (1000 : Int)) = (runW (sqE W C k x) []).take 1000 := cut_is _ 1000
  refine bnd_of (chkP_eq ⟨run_same sqE_ok, ?_, ?_⟩) ?_
  · show LF.mk _ = LF.mk _
    rw [ec, ew]
  · exact wkok_dat (run_wkok sqE_ok wkok_nil)
  · refine bnd_of (chkP_eq rfl) ?_
    show some (true, (runM (sqE W C k x) (MS.fresh (W : Int) (C : Int))).reset) = _
    show some (true, MS.fresh _ _) = _
    rw [w1, c1]
end
/-- digits of W bits, at most n of them -/
theorem shaped_s {W k n : Nat} {s : List Int} (h8 : 8 ≤ W) (h : W ≤ 30) (hs : Pur k s) (n0 : 1 ≤ n) (hn : n ≤ 1000) (hk : k < 800000) : Sat (M__law_shaped s (W : Int) (n : Int)) (fun r => Pur (k + 3 * n + 1) r.2 ∧ ∃ l : List Int, r.1 = lv (2 ^ W) l ∧ (∀ x ∈ l, 0 ≤ x ∧ x < (2 : Int) ^ W) ∧ l.length ≤ n) := by
  have e2 := p2 W
  have p8 : 2 ^ 8 ≤ 2 ^ W := Nat.pow_le_pow_right (by decide) h8
  have d0 : (0 : Int) ≤ 0 ∧ (0 : Int) < (2 : Int) ^ W := by omega
  have d1 : (0 : Int) ≤ 1 ∧ (1 : Int) < (2 : Int) ^ W := by omega
  have dt : (0 : Int) ≤ (2 : Int) ^ W - 1 ∧ (2 : Int) ^ W - 1 < (2 : Int) ^ W := by omega
  have zl : ∀ {m : Nat}, m ≤ 4000 → m ≤ sizeLine := fun h => size_le h (by decide)
  unfold M__law_shaped
  refine sat_bind (row_s h8 h hs (by omega) (by omega)) fun r1 ⟨h1, l1, w1⟩ => ?_
  refine sat_chk (cdiv_s (by decide) (by decide)) ?_
  refine sat_chk (shl_ok (k := 1) (by decide) (by omega) (by omega)) ?_
  rw [show (n : Int) / 2 = ((n / 2 : Nat) : Int) from rfl, Int.toNat_natCast, Int.one_mul]
  refine sat_let ?_
  refine sat_let ?_
  refine sat_bind (coin_s h1 (by omega) (by decide) (by decide)) fun r2 ⟨h2, a2, b2⟩ => ?_
  refine sat_bind (P := fun l => (∀ x ∈ l, 0 ≤ x ∧ x < (2 : Int) ^ W) ∧ l.length ≤ n) ?_ fun l ⟨g1, g2⟩ => ?_
  · simp only [repf]
    have dr : ∀ (j : Nat) (d : Int), 0 ≤ d ∧ d < (2 : Int) ^ W → ∀ x ∈ List.replicate j d, 0 ≤ x ∧ x < (2 : Int) ^ W := fun j d hd x hx => by rw [(List.mem_replicate.mp hx).2]; exact hd
    have da : ∀ {l m : List Int}, (∀ x ∈ l, 0 ≤ x ∧ x < (2 : Int) ^ W) → (∀ x ∈ m, 0 ≤ x ∧ x < (2 : Int) ^ W) → ∀ x ∈ l ++ m, 0 ≤ x ∧ x < (2 : Int) ^ W := fun hl hm x hx => (List.mem_append.mp hx).elim (hl x) (hm x)
    have ds : ∀ (d : Int), 0 ≤ d ∧ d < (2 : Int) ^ W → ∀ x ∈ [d], 0 ≤ x ∧ x < (2 : Int) ^ W := fun d hd x hx => by rw [List.mem_singleton.mp hx]; exact hd
    have dc : ∀ {a b : Option Int}, ∀ x ∈ cut r1.1 a b, 0 ≤ x ∧ x < (2 : Int) ^ W := fun x hx => w1.1 x (cutm x hx)
    have c1 : (cut r1.1 (some ((n / 2 : Nat) : Int)) none).length = n - n / 2 := by rw [cutD r1.1 (by omega), l1]
    have c2 : (cut r1.1 none (some ((n / 2 : Nat) : Int))).length = n / 2 := cutT r1.1 (by omega)
    have c3 := cut_last1 r1.1
    have t1 : ((n : Int) - 1).toNat = n - 1 := by omega
    have t2 : ((n : Int) - 2).toNat = n - 2 := by omega
    have t3 : ((n : Int) - ((n / 2 : Nat) : Int) - 1).toNat = n - n / 2 - 1 := by omega
    simp only [t1, t2, t3, Int.toNat_natCast]
    by_cases q0 : r2.1 = 0
    · rw [if_pos (decide_eq_true q0)]
      refine sat_chk ⟨by omega, by show 1 * n ≤ _; exact zl (by omega)⟩ (sat_let (sat_some ⟨dr _ _ dt, by rw [List.length_replicate]; omega⟩))
    rw [if_neg (by rw [decide_eq_true_iff]; exact q0)]
    by_cases q1 : r2.1 = 1
    · rw [if_pos (decide_eq_true q1)]
      refine sat_chk ⟨by omega, by show 1 * _ ≤ _; exact zl (by omega)⟩ (sat_chk (by rw [List.length_replicate]; show _ + 1 ≤ _; exact zl (by omega)) (sat_let (sat_some ⟨da (dr _ _ d0) (ds _ d1), by rw [List.length_append, List.length_replicate]; show _ + 1 ≤ n; omega⟩)))
    rw [if_neg (by rw [decide_eq_true_iff]; exact q1)]
    by_cases q2 : r2.1 = 2
    · rw [if_pos (decide_eq_true q2)]
      refine sat_chk ⟨by omega, by show 1 * _ ≤ _; exact zl (by omega)⟩ (sat_chk (by rw [List.length_replicate, c1]; exact zl (by omega)) (sat_let (sat_some ⟨da (dr _ _ d0) dc, by rw [List.length_append, List.length_replicate, c1]; omega⟩)))
    rw [if_neg (by rw [decide_eq_true_iff]; exact q2)]
    by_cases q3 : r2.1 = 3
    · rw [if_pos (decide_eq_true q3)]
      refine sat_chk ⟨by omega, by show 1 * _ ≤ _; exact zl (by omega)⟩ (sat_chk (by rw [List.length_replicate, c2]; exact zl (by omega)) (sat_chk (by rw [List.length_append, List.length_replicate, c2]; exact zl (by omega)) (sat_let (sat_some ⟨da (da dc (dr _ _ d0)) dc, by rw [List.length_append, List.length_append, List.length_replicate, c2]; omega⟩))))
    rw [if_neg (by rw [decide_eq_true_iff]; exact q3)]
    by_cases q4 : r2.1 = 4
    · rw [if_pos (decide_eq_true q4)]
      refine sat_bind (P := fun l => (∀ x ∈ l, 0 ≤ x ∧ x < (2 : Int) ^ W) ∧ l.length ≤ n) ?_ fun l hl => sat_some hl
      by_cases q5 : (1 : Int) < (n : Int)
      · rw [if_pos (decide_eq_true q5)]
        refine sat_chk ⟨by omega, by show 1 * _ ≤ _; exact zl (by omega)⟩ (sat_chk (by rw [List.length_replicate]; show 1 + _ ≤ _; exact zl (by omega)) (sat_chk (by rw [List.length_append, List.length_replicate]; show 1 + _ + 1 ≤ _; exact zl (by omega)) (sat_some ⟨da (da (ds _ d1) (dr _ _ d0)) (ds _ dt), by rw [List.length_append, List.length_append, List.length_replicate]; show 1 + _ + 1 ≤ n; omega⟩)))
      · rw [if_neg (by rw [decide_eq_true_iff]; exact q5)]
        exact sat_some ⟨ds _ dt, by show 1 ≤ n; exact n0⟩
    rw [if_neg (by rw [decide_eq_true_iff]; exact q4)]
    exact sat_some ⟨w1.1, by omega⟩
  · refine sat_eq (worth_s h g1 (by omega)) ?_
    exact sat_some ⟨h2, l, rfl, g1, g2⟩
theorem lvlA {W C : Nat} (h8 : 8 ≤ W) (hC2 : 2 ≤ C) : W * (2 * C + 5) ≤ lvlC W C 4 := by
  have cb := lvlC_b h8 hC2
  unfold lvlC
  have e : W * (2 * C + 5) = 2 * (C * W) + 5 * W := by grind
  rw [e]
  generalize C * W = P at *
  omega
theorem lvlB {W : Nat} (h8 : 8 ≤ W) : W * 405 ≤ lvl W 10 := by unfold lvl; omega
theorem law_right (ns : List Int) (h : ns.length ≤ 63) : M_law ns = some true := by
  refine sat_get ?_
  unfold M_law
  have hc := cut_len ns none (some 3)
  refine sat_chk (size_le (m := 64) (by show _ + 1 ≤ 64; omega) (by decide)) ?_
  refine sat_forA (fun _ => True) (fun x _ st _ => ?_) trivial fun s _ => sat_nx (sat_some rfl)
  refine sat_bind (purse_s x) fun s0 g0 => ?_
  refine sat_chk (by decide) ?_
  refine sat_for (fun i s => Pur (20000 * i) s) (fun i x s hi q => ?_) g0 fun s _ => sat_nx (sat_end trivial)
  have hi := (rng_get hi).1
  have hi : i < 4 := hi
  refine sat_bind (coin_s q (by omega) (by decide) (by decide)) fun r1 ⟨h1, a1, b1⟩ => ?_
  refine sat_bind (pick_s h1 (by omega) (List.cons_ne_nil _ _) (by show 4 < 100; decide)) fun r2 ⟨h2, m2⟩ => ?_
  simp only [List.mem_cons, List.not_mem_nil, or_false] at m2
  obtain ⟨W, hW⟩ := Int.eq_ofNat_of_zero_le (a := r2.1) (by omega)
  rw [hW] at m2 ⊢
  have h8 : 8 ≤ W := by omega
  have h : W ≤ 30 := by omega
  have hw : W ≠ 0 := by omega
  refine sat_bind (pick_s h2 (by omega) (List.cons_ne_nil _ _) (by show 4 < 100; decide)) fun r3 ⟨h3, m3⟩ => ?_
  have m3 : 3 ≤ r3.1 ∧ r3.1 ≤ 199 := by
    simp only [List.mem_cons, List.not_mem_nil, or_false] at m3
    rcases m3 with e | e | e | e
    · omega
    · omega
    · omega
    · rw [e]
      split <;> decide
  refine sat_bind (coin_s h3 (by omega) (by omega) (by omega)) fun r4 ⟨h4, a4, b4⟩ => ?_
  refine sat_let ?_
  obtain ⟨C, hC⟩ := Int.eq_ofNat_of_zero_le (a := 2 + r4.1) (by omega)
  rw [hC]
  have hC2 : 2 ≤ C := by omega
  have hC200 : C ≤ 200 := by omega
  refine sat_chk (by omega) ?_
  refine sat_let ?_
  refine sat_let ?_
  refine sat_bind (pick_s h4 (by omega) (List.cons_ne_nil _ _) (by show 4 < 100; decide)) fun r5 ⟨h5, m5⟩ => ?_
  simp only [List.mem_cons, List.not_mem_nil, or_false] at m5
  obtain ⟨m, hm⟩ := Int.eq_ofNat_of_zero_le (a := r5.1) (by omega)
  rw [hm] at m5 ⊢
  refine sat_chk (mul_small (by decide)) ?_
  refine sat_chk (mul_small (by decide)) ?_
  refine sat_chk (mul_small (by decide)) ?_
  refine sat_chk (mul_small (by decide)) ?_
  refine sat_chk (mul_small (by decide)) ?_
  refine sat_chk (size_le (m := 100) (by show 4 + 5 ≤ 100; decide) (by decide)) ?_
  refine sat_bind (pick_s h5 (by omega) (by simp) (by show 9 < 100; decide)) fun r6 ⟨h6, m6⟩ => ?_
  simp only [List.mem_append, List.mem_cons, List.not_mem_nil, or_false] at m6
  obtain ⟨n, hn⟩ : ∃ n : Nat, max (1 : Int) r6.1 = (n : Int) := ⟨(max (1 : Int) r6.1).toNat, by omega⟩
  have n1 : 1 ≤ n := by omega
  have nC : n ≤ 2 * C + 5 := by omega
  rw [hn]
  refine sat_bind (shaped_s h8 h h6 (n := m) (by omega) (by omega) (by omega)) fun r7 ⟨h7, l7, v7, d7, z7⟩ => ?_
  refine sat_bind (pick_s h7 (by omega) (List.cons_ne_nil _ _) (by show 2 < 100; decide)) fun r8 ⟨h8', m8⟩ => ?_
  simp only [List.mem_cons, List.not_mem_nil, or_false] at m8
  refine sat_chk (mul_small' (by omega)) ?_
  refine sat_let ?_
  refine sat_bind (shaped_s h8 h h8' n1 (by omega) (by omega)) fun r9 ⟨h9, l9, v9, d9, z9⟩ => ?_
  refine sat_bind (pick_s h9 (by omega) (List.cons_ne_nil _ _) (by show 2 < 100; decide)) fun r10 ⟨h10, m10⟩ => ?_
  simp only [List.mem_cons, List.not_mem_nil, or_false] at m10
  refine sat_chk (mul_small' (by omega)) ?_
  refine sat_let ?_
  have big : ∀ {l : List Int} {u : Int}, (∀ x ∈ l, 0 ≤ x ∧ x < (2 : Int) ^ W) → (u = 1 ∨ u = -1) → l.length ≤ 2 * C + 5 → (lv (2 ^ W) l * u).natAbs < 2 ^ (W * (2 * C + 5)) := fun hd hu hl => Nat.lt_of_lt_of_le (lvb hd hu) (pow_le2 (Nat.mul_le_mul_left W hl))
  rw [v7, v9]
  have hx := big d7 m8 (by omega)
  have hy := big d9 m10 (by omega)
  have w405 : W * (2 * C + 5) ≤ W * 405 := Nat.mul_le_mul_left W (by omega)
  have hB := lvlB h8
  have hA := lvlA h8 hC2
  have h9 : W * (2 * C + 5) ≤ 90000 := by omega
  have f4 := fbc4
  have right : ∀ (S : MS) (x y : Int), S.w = (W : Int) → S.c = (C : Int) → x.natAbs < 2 ^ (W * (2 * C + 5)) → y.natAbs < 2 ^ (W * (2 * C + 5)) → M__law_right S x y = some (true, MS.fresh (W : Int) (C : Int)) := fun S x y u1 u2 u3 u4 =>
    lright_ok u1 u2 h8 h hC2 (k := 10) u3 u4 (by omega) h9 (by decide) (Nat.lt_of_le_of_lt (evN_MC h8 hC2 4 11 _ _ _ _ _ (fit_sz hw u3) (fit_sz hw u4) hA) f4)
  have rightQ : ∀ (S : MS) (x : Int), S.w = (W : Int) → S.c = (C : Int) → x.natAbs < 2 ^ (W * (2 * C + 5)) → M__law_right__o1 S x () = some (true, MS.fresh (W : Int) (C : Int)) := fun S x u1 u2 u3 =>
    lrightQ_ok u1 u2 h8 h hC2 (by omega) (k := 4) u3 hA h9 (by decide) (Nat.lt_of_le_of_lt (evN_QC h8 hC2 4 5 _ _ _ (fit_sz hw u3) hA) f4)
  refine sat_eq (right (MS.fresh (W : Int) (C : Int)) _ _ rfl rfl hx hy) ?_
  refine sat_chk rfl ?_
  refine sat_eq (right (MS.fresh (W : Int) (C : Int)) _ _ rfl rfl hy hx) ?_
  refine sat_chk rfl ?_
  refine sat_eq (rightQ (MS.fresh (W : Int) (C : Int)) _ rfl rfl hy) ?_
  refine sat_chk rfl ?_
  refine sat_chk (mul_small (by decide)) ?_
  clear hx hy right w405 hB m8 m10 m6 hn
  have mC : m ≤ C + 2 := by omega
  clear m5 m2
  refine sat_bind (pick_s h10 (by omega) (List.cons_ne_nil _ _) (by show 5 < 100; decide)) fun r11 ⟨h11, m11⟩ => ?_
  simp only [List.mem_cons, List.not_mem_nil, or_false] at m11
  refine sat_let ?_
  obtain ⟨k, hk⟩ := Int.eq_ofNat_of_zero_le (a := 2 * (C : Int) + r11.1) (by omega)
  rw [hk]
  refine sat_bind (shaped_s h8 h h11 (n := k) (by omega) (by omega) (by omega)) fun r12 ⟨h12, l12, v12, d12, z12⟩ => ?_
  have hz := big d12 (u := 1) (.inl rfl) (by omega)
  rw [Int.mul_one] at hz
  rw [v12]
  refine sat_eq (rightQ (MS.fresh (W : Int) (C : Int)) _ rfl rfl hz) ?_
  refine sat_chk rfl ?_
  refine sat_end (h12.mono ?_)
  show _ ≤ 20000 * (i + 1)
  omega
end P

set_option Elab.async false
set_option linter.all false
set_option maxRecDepth 100000
set_option maxHeartbeats 0
namespace P
open PySem L2 VL

theorem Fun.ofD {K : PySem.W.Frag} {x qual : Str} {st : Stmt} {f : Addr} {fd : FuncData} (F : FunD K x qual (defArgs st) (defBody st) (defScope st) [] [] f fd) : Fun K x qual st f fd := by
  obtain ⟨oc, od, dV, kV, doc, pm, an, cdv, ct, osl, rfl, lk, hcd, hD, hK⟩ := F.ex
  rcases hD with ⟨_, rfl⟩ | ⟨e, _⟩
  · exact ⟨⟨oc, od, kV, doc, pm, an, cdv, ct, osl, rfl, lk, hcd⟩, F.kp⟩
  · exact absurd rfl e
theorem iclsB_ok {K : PySem.W.Frag} {C : Addr} (cl : Cls K C) (h : iclsB K C = true) : ICls K C := by
  obtain ⟨h1, h⟩ := He.ba h
  obtain ⟨h2, h⟩ := He.ba h
  obtain ⟨h3, h⟩ := He.ba h
  obtain ⟨h4, h5⟩ := He.ba h
  exact ⟨cl, He.eqO_ok h1, He.eqO_ok h2, of_decide_eq_true h3, of_decide_eq_true h4, of_decide_eq_true h5⟩
theorem hu_of {l : List (Addr × Str)} (nd : (l.map (·.1)).Nodup) {A : Addr} {q : Str} (hm : (A, q) ∈ l) : ∀ p ∈ l, p.1 = A → p.2 = q := by
  induction l with
  | nil => cases hm
  | cons a r ih =>
    obtain ⟨h1, h2⟩ := List.nodup_cons.mp (show (a.1 :: r.map (·.1)).Nodup from nd)
    intro p hp e
    rcases List.mem_cons.mp hm with m | m
    · rcases List.mem_cons.mp hp with z | z
      · rw [z, ← m]
      · exact absurd (List.mem_map.mpr ⟨p, z, by rw [e, ← m]⟩) h1
    · rcases List.mem_cons.mp hp with z | z
      · exact absurd (List.mem_map.mpr ⟨_, m, by rw [← e, z]⟩) h1
      · exact ih h2 m p z e
theorem gInt {K : PySem.W.Frag} {h : Heap} {mg : Str → Option Value} {x : Str} {i : Int} (X : K.In h) (G : h.Ns mainGlobals mg) (c : (He.Fa.int x i).ok K = true) : ∃ u, mg x = some u ∧ RelV (.int i) u := by
  obtain ⟨t, e⟩ := He.int_ok X G c
  exact ⟨_, e, t, rfl⟩
theorem gRef {K : PySem.W.Frag} {h : Heap} {mg : Str → Option Value} {x : Str} (X : K.In h) (G : h.Ns mainGlobals mg) (c : (He.Fa.glo x).ok K = true) : ∃ u, mg x = some u ∧ RelV (.ref (He.ga K x)) u := ⟨_, He.glo_ok X G c, rfl⟩
theorem facts {P : Program} {w : World} {K : PySem.W.Frag} {h : Heap} {mg : Str → Option Value} {f : Addr} (X : K.In h) (G : h.Ns mainGlobals mg) (hfa : mg ("law" : Str) = some (.ref f)) (c : He.SaysX fa fn [] [] exB w h K) (ht : P.given.tree = none) :
    ∃ (T : TC) (fd : FuncData), T.K = K ∧ (∀ (s : Shared) (v : Value), BindsTo s fd ⟨[v], []⟩ [("_law_script", v)]) ∧ ∀ base : Heap, K.In base → base.Ns mainGlobals mg → FnOk P w K mg base CX0 96 f fd ["_law_script"] (mkSp (Pre_law T)) := by
  have cd : He.SaysD fa fn K := c.t.d
  obtain ⟨cmoreS, exS⟩ := He.ba c.more
  obtain ⟨ex1, exr⟩ := He.ba cmoreS
  obtain ⟨ex2, exs⟩ := He.ba exr
  obtain ⟨ex3, ex4⟩ := He.ba exs
  let T : TC := ⟨K, fun i => match i with | 0 => He.ga K "Machine" | 1 => He.ga K "Big" | _ => He.ga K "Big"⟩
  refine ⟨T, ?_⟩
  obtain ⟨fd_law, G_law⟩ := cd.def_ 56 (d := d_law) rfl
  cases hfa.symm.trans (He.glo_ok X G (cd.fact 91 (f := .glo "law") rfl))
  refine ⟨fd_law, rfl, fun s v => (FunD.bindsA (ps := ["_law_script"]) G_law fun _ _ _ _ _ _ us hl => match us, hl with | [_], _ => rfl) s [v] rfl, fun base _ _ => ?_⟩
  have unseen : Unseen P K := ⟨ht, exS⟩
  have clM : Cls K (He.ga K "Machine") := He.cls_ok (cd.fact 0 (f := .cls "Machine") rfl)
  have mc : MCls T.K (T.C 0) := ⟨clM, (He.noat_ok (cd.fact 1 (f := .noat "Machine" "width") rfl)), (He.noat_ok (cd.fact 2 (f := .noat "Machine" "cutoff") rfl)), (He.noat_ok (cd.fact 3 (f := .noat "Machine" "counts") rfl)), (He.noat_ok (cd.fact 4 (f := .noat "Machine" "entered") rfl))⟩
  have icm : ICls T.K (T.C 0) := iclsB_ok clM ex2
  have clB : Cls K (He.ga K "Big") := He.cls_ok (cd.fact 5 (f := .cls "Big") rfl)
  have bc : BCls T.K (T.C 1) := ⟨clB, (He.noat_ok (cd.fact 6 (f := .noat "Big" "width") rfl)), (He.noat_ok (cd.fact 7 (f := .noat "Big" "side") rfl)), (He.noat_ok (cd.fact 8 (f := .noat "Big" "row") rfl)), (He.noat_ok (cd.fact 9 (f := .noat "Big" "value") rfl))⟩
  have icb : ICls T.K (T.C 1) := iclsB_ok clB ex3
  have hW : ∀ H, SqT T.K H (He.ga K "WORDS") (mwords.map V.str) := fun H => He.tupB_ok ex1 H
  obtain ⟨fd_is_integer, F_is_integer⟩ := cd.def_ 0 (d := d_is_integer) rfl
  have F_is_integer := Fun.ofD (st := s_is_integer) F_is_integer
  have c_is_integer : Cal P w K mg base 1 "is_integer" ["value"] (mkSp (Pre_is_integer T)) := ⟨⟨_, _, ok_is_integer (T := T) F_is_integer (He.free_ok X G (cd.fact 10 (f := .free "isinstance") rfl)) (He.free_ok X G (cd.fact 11 (f := .free "int") rfl)) (He.free_ok X G (cd.fact 12 (f := .free "bool") rfl)), He.glo_ok X G (cd.fact 13 (f := .glo "is_integer") rfl), F_is_integer.kp, (F_is_integer.binds (ps := ["value"]) fun _ _ _ _ _ _ us hl => match us, hl with | [_], _ => rfl)⟩⟩
  obtain ⟨fd_is_between, F_is_between⟩ := cd.def_ 1 (d := d_is_between) rfl
  have F_is_between := Fun.ofD (st := s_is_between) F_is_between
  have c_is_between : Cal P w K mg base 2 "is_between" ["value", "low", "high"] (mkSp (Pre_is_between T)) := ⟨⟨_, _, ok_is_between (T := T) F_is_between c_is_integer, He.glo_ok X G (cd.fact 14 (f := .glo "is_between") rfl), F_is_between.kp, (F_is_between.binds (ps := ["value", "low", "high"]) fun _ _ _ _ _ _ us hl => match us, hl with | [_, _, _], _ => rfl)⟩⟩
  obtain ⟨fd_Mach_step, F_Mach_step⟩ := cd.def_ 57 (d := d_Mach_step) rfl
  have F_Mach_step := Fun.ofD (st := s_Mach_step) F_Mach_step
  have c_Mach_step : CalM P w K mg base 1 (T.C 0) "step" ["self", "word", "many"] (mkSp (Pre_Mach_step T)) := ⟨⟨_, _, ok_Mach_step (T := T) F_Mach_step mc , He.meth_ok (cd.fact 15 (f := .meth "Machine" "step") rfl), (F_Mach_step.binds (ps := ["self", "word", "many"]) fun _ _ _ _ _ _ us hl => match us, hl with | [_, _, _], _ => rfl)⟩, clM⟩
  obtain ⟨fd_Mach_enter, F_Mach_enter⟩ := cd.def_ 58 (d := d_Mach_enter) rfl
  have F_Mach_enter := Fun.ofD (st := s_Mach_enter) F_Mach_enter
  have c_Mach_enter : CalM P w K mg base 1 (T.C 0) "enter" ["self", "word", "m", "n"] (mkSp (Pre_Mach_enter T)) := ⟨⟨_, _, ok_Mach_enter (T := T) F_Mach_enter mc (He.free_ok X G (cd.fact 16 (f := .free "len") rfl)) (gInt X G (cd.fact 17 (f := .int "LONGEST_WALK" 1000) rfl)), He.meth_ok (cd.fact 18 (f := .meth "Machine" "enter") rfl), (F_Mach_enter.binds (ps := ["self", "word", "m", "n"]) fun _ _ _ _ _ _ us hl => match us, hl with | [_, _, _, _], _ => rfl)⟩, clM⟩
  obtain ⟨fd_Mach_reset, F_Mach_reset⟩ := cd.def_ 59 (d := d_Mach_reset) rfl
  have F_Mach_reset := Fun.ofD (st := s_Mach_reset) F_Mach_reset
  have c_Mach_reset : CalM P w K mg base 1 (T.C 0) "reset" ["self"] (mkSp (Pre_Mach_reset T)) := ⟨⟨_, _, ok_Mach_reset (T := T) F_Mach_reset mc (gRef X G (cd.fact 19 (f := .glo "WORDS") rfl)) hW, He.meth_ok (cd.fact 20 (f := .meth "Machine" "reset") rfl), (F_Mach_reset.binds (ps := ["self"]) fun _ _ _ _ _ _ us hl => match us, hl with | [_], _ => rfl)⟩, clM⟩
  obtain ⟨fd_Mach_tally, F_Mach_tally⟩ := cd.def_ 60 (d := d_Mach_tally) rfl
  have F_Mach_tally := Fun.ofD (st := s_Mach_tally) F_Mach_tally
  have c_Mach_tally : CalM P w K mg base 1 (T.C 0) "tally" ["self"] (mkSp (Pre_Mach_tally T)) := ⟨⟨_, _, ok_Mach_tally (T := T) F_Mach_tally mc (gRef X G (cd.fact 19 (f := .glo "WORDS") rfl)) hW, He.meth_ok (cd.fact 21 (f := .meth "Machine" "tally") rfl), (F_Mach_tally.binds (ps := ["self"]) fun _ _ _ _ _ _ us hl => match us, hl with | [_], _ => rfl)⟩, clM⟩
  obtain ⟨fd_Mach_walk, F_Mach_walk⟩ := cd.def_ 61 (d := d_Mach_walk) rfl
  have F_Mach_walk := Fun.ofD (st := s_Mach_walk) F_Mach_walk
  have c_Mach_walk : CalM P w K mg base 1 (T.C 0) "walk" ["self"] (mkSp (Pre_Mach_walk T)) := ⟨⟨_, _, ok_Mach_walk (T := T) F_Mach_walk mc (He.free_ok X G (cd.fact 22 (f := .free "list") rfl)), He.meth_ok (cd.fact 23 (f := .meth "Machine" "walk") rfl), (F_Mach_walk.binds (ps := ["self"]) fun _ _ _ _ _ _ us hl => match us, hl with | [_], _ => rfl)⟩, clM⟩
  obtain ⟨fd_Mach_parts, F_Mach_parts⟩ := cd.def_ 62 (d := d_Mach_parts) rfl
  have F_Mach_parts := Fun.ofD (st := s_Mach_parts) F_Mach_parts
  have c_Mach_parts : CalM P w K mg base 1 (T.C 0) "parts" ["self"] (mkSp (Pre_Mach_parts T)) := ⟨⟨_, _, ok_Mach_parts (T := T) F_Mach_parts mc , He.meth_ok (cd.fact 24 (f := .meth "Machine" "parts") rfl), (F_Mach_parts.binds (ps := ["self"]) fun _ _ _ _ _ _ us hl => match us, hl with | [_], _ => rfl)⟩, clM⟩
  obtain ⟨fd_Mach_init, F_Mach_init⟩ := cd.def_ 63 (d := d_Mach_init) rfl
  have c_Machine2 : CalC P w K mg base 3 "Machine" (T.C 0) ["self", "bits", "cutoff"] [] (mkSp (Pre_Machine T)) := by
    obtain ⟨ds, hv, hb⟩ := FunD.binds1 (ps := ["self", "bits", "cutoff"]) F_Mach_init 3 2 (fun e => nomatch e) rfl fun _ _ _ _ _ _ _ us its hl hi => match us, its, hl, hi with | [_, _, _], [_, _], _, _ => ⟨_, rfl, rfl⟩
    exact ⟨⟨_, _, ds, ok_Mach_init (T := T) F_Mach_init mc (gRef X G (cd.fact 19 (f := .glo "WORDS") rfl)) hW c_is_between, He.glo_ok X G (cd.fact 25 (f := .glo "Machine") rfl), He.mkr_ok (cd.fact 26 (f := .mkr "Machine") rfl), hv, hb⟩⟩
  obtain ⟨fd_Big_eq, F_Big_eq⟩ := cd.def_ 65 (d := d_Big_eq) rfl
  have F_Big_eq := Fun.ofD (st := s_Big_eq) F_Big_eq
  have ceq : CalEq P w K mg base 1 (T.C 1) (mkSp (Pre_Big_eq T)) := ⟨⟨_, _, ok_Big_eq (T := T) F_Big_eq (He.free_ok X G (cd.fact 10 (f := .free "isinstance") rfl)) icb (gRef X G (cd.fact 27 (f := .glo "Big") rfl)) bc, ex4, He.meth_ok (cd.fact 28 (f := .meth "Big" "__eq__") rfl), (F_Big_eq.binds (ps := ["self", "other"]) fun _ _ _ _ _ _ us hl => match us, hl with | [_, _], _ => rfl)⟩⟩
  obtain ⟨fd_Big_digits, F_Big_digits⟩ := cd.def_ 66 (d := d_Big_digits) rfl
  have F_Big_digits := Fun.ofD (st := s_Big_digits) F_Big_digits
  have c_Big_digits : CalM P w K mg base 1 (T.C 1) "digits" ["self"] (mkSp (Pre_Big_digits T)) := ⟨⟨_, _, ok_Big_digits (T := T) F_Big_digits bc (He.free_ok X G (cd.fact 22 (f := .free "list") rfl)), He.meth_ok (cd.fact 29 (f := .meth "Big" "digits") rfl), (F_Big_digits.binds (ps := ["self"]) fun _ _ _ _ _ _ us hl => match us, hl with | [_], _ => rfl)⟩, clB⟩
  obtain ⟨fd_Big_sign, F_Big_sign⟩ := cd.def_ 67 (d := d_Big_sign) rfl
  have F_Big_sign := Fun.ofD (st := s_Big_sign) F_Big_sign
  have c_Big_sign : CalM P w K mg base 1 (T.C 1) "sign" ["self"] (mkSp (Pre_Big_sign T)) := ⟨⟨_, _, ok_Big_sign (T := T) F_Big_sign bc, He.meth_ok (cd.fact 30 (f := .meth "Big" "sign") rfl), (F_Big_sign.binds (ps := ["self"]) fun _ _ _ _ _ _ us hl => match us, hl with | [_], _ => rfl)⟩, clB⟩
  obtain ⟨fd_Big_bits, F_Big_bits⟩ := cd.def_ 68 (d := d_Big_bits) rfl
  have F_Big_bits := Fun.ofD (st := s_Big_bits) F_Big_bits
  have c_Big_bits : CalM P w K mg base 1 (T.C 1) "bits" ["self"] (mkSp (Pre_Big_bits T)) := ⟨⟨_, _, ok_Big_bits (T := T) F_Big_bits bc, He.meth_ok (cd.fact 31 (f := .meth "Big" "bits") rfl), (F_Big_bits.binds (ps := ["self"]) fun _ _ _ _ _ _ us hl => match us, hl with | [_], _ => rfl)⟩, clB⟩
  obtain ⟨fd_order_of, F_order_of⟩ := cd.def_ 2 (d := d_order_of) rfl
  have F_order_of := Fun.ofD (st := s_order_of) F_order_of
  have c_order_of : Cal P w K mg base 1 "order_of" ["a", "b"] (mkSp (Pre_order_of T)) := ⟨⟨_, _, ok_order_of (T := T) F_order_of , He.glo_ok X G (cd.fact 32 (f := .glo "order_of") rfl), F_order_of.kp, (F_order_of.binds (ps := ["a", "b"]) fun _ _ _ _ _ _ us hl => match us, hl with | [_, _], _ => rfl)⟩⟩
  obtain ⟨fd_Big_init, F_Big_init⟩ := cd.def_ 64 (d := d_Big_init) rfl
  have F_Big_init := Fun.ofD (st := s_Big_init) F_Big_init
  have c_Big : CalC P w K mg base 2 "Big" (T.C 1) ["self", "width", "value", "row"] [] (mkSp (Pre_Big T)) := ⟨⟨_, _, [], ok_Big_init (T := T) F_Big_init bc (He.free_ok X G (cd.fact 33 (f := .free "tuple") rfl)) c_order_of, He.glo_ok X G (cd.fact 27 (f := .glo "Big") rfl), He.mkr_ok (cd.fact 34 (f := .mkr "Big") rfl), .nil, (F_Big_init.binds (ps := ["self", "width", "value", "row"]) fun _ _ _ _ _ _ us hl => match us, hl with | [_, _, _, _], _ => rfl)⟩⟩
  obtain ⟨fd_check_machine, F_check_machine⟩ := cd.def_ 3 (d := d_check_machine) rfl
  have F_check_machine := Fun.ofD (st := s_check_machine) F_check_machine
  have c_check_machine : Cal P w K mg base 1 "check_machine" ["machine"] (mkSp (Pre_check_machine T)) := ⟨⟨_, _, ok_check_machine (T := T) F_check_machine (He.free_ok X G (cd.fact 10 (f := .free "isinstance") rfl)) icm (gRef X G (cd.fact 25 (f := .glo "Machine") rfl)), He.glo_ok X G (cd.fact 35 (f := .glo "check_machine") rfl), F_check_machine.kp, (F_check_machine.binds (ps := ["machine"]) fun _ _ _ _ _ _ us hl => match us, hl with | [_], _ => rfl)⟩⟩
  obtain ⟨fd_top_digit, F_top_digit⟩ := cd.def_ 4 (d := d_top_digit) rfl
  have F_top_digit := Fun.ofD (st := s_top_digit) F_top_digit
  have c_top_digit : Cal P w K mg base 1 "top_digit" ["width"] (mkSp (Pre_top_digit T)) := ⟨⟨_, _, ok_top_digit (T := T) F_top_digit , He.glo_ok X G (cd.fact 36 (f := .glo "top_digit") rfl), F_top_digit.kp, (F_top_digit.binds (ps := ["width"]) fun _ _ _ _ _ _ us hl => match us, hl with | [_], _ => rfl)⟩⟩
  obtain ⟨fd_size_of, F_size_of⟩ := cd.def_ 5 (d := d_size_of) rfl
  have F_size_of := Fun.ofD (st := s_size_of) F_size_of
  have c_size_of : Cal P w K mg base 2 "size_of" ["width", "n"] (mkSp (Pre_size_of T)) := ⟨⟨_, _, ok_size_of (T := T) F_size_of , He.glo_ok X G (cd.fact 37 (f := .glo "size_of") rfl), F_size_of.kp, (F_size_of.binds (ps := ["width", "n"]) fun _ _ _ _ _ _ us hl => match us, hl with | [_, _], _ => rfl)⟩⟩
  obtain ⟨fd_low_part, F_low_part⟩ := cd.def_ 6 (d := d_low_part) rfl
  have F_low_part := Fun.ofD (st := s_low_part) F_low_part
  have c_low_part : Cal P w K mg base 1 "low_part" ["width", "n", "size"] (mkSp (Pre_low_part T)) := ⟨⟨_, _, ok_low_part (T := T) F_low_part , He.glo_ok X G (cd.fact 38 (f := .glo "low_part") rfl), F_low_part.kp, (F_low_part.binds (ps := ["width", "n", "size"]) fun _ _ _ _ _ _ us hl => match us, hl with | [_, _, _], _ => rfl)⟩⟩
  obtain ⟨fd_row_of, F_row_of⟩ := cd.def_ 7 (d := d_row_of) rfl
  have F_row_of := Fun.ofD (st := s_row_of) F_row_of
  have r_row_of : ∀ n : Nat, FnOk P w K mg base CX0 (1 + n) (He.ga K "row_of") fd_row_of ["width", "n", "size"] (mkSp (Pre_row_of n T)) := by
    intro n
    induction n with
    | zero => exact ok0_row_of (T := T) F_row_of
    | succ n ih =>
      have i_row_of := ih
      have c_row_of : Cal P w K mg base (1 + n) "row_of" ["width", "n", "size"] (mkSp (Pre_row_of n T)) := ⟨⟨_, _, i_row_of, He.glo_ok X G (cd.fact 39 (f := .glo "row_of") rfl), F_row_of.kp, (F_row_of.binds (ps := ["width", "n", "size"]) fun _ _ _ _ _ _ us hl => match us, hl with | [_, _, _], _ => rfl)⟩⟩
      exact ok_row_of (T := T) n F_row_of (gInt X G (cd.fact 40 (f := .int "LONGEST_LOOP" 32) rfl)) c_low_part c_row_of c_top_digit (He.free_ok X G (cd.fact 41 (f := .free "range") rfl))
  have c_row_of : Cal P w K mg base 21 "row_of" ["width", "n", "size"] (mkSp (Pre_row_of 20 T)) := ⟨⟨_, _, (r_row_of 20), He.glo_ok X G (cd.fact 39 (f := .glo "row_of") rfl), F_row_of.kp, (F_row_of.binds (ps := ["width", "n", "size"]) fun _ _ _ _ _ _ us hl => match us, hl with | [_, _, _], _ => rfl)⟩⟩
  obtain ⟨fd_check_big, F_check_big⟩ := cd.def_ 8 (d := d_check_big) rfl
  have F_check_big := Fun.ofD (st := s_check_big) F_check_big
  have c_check_big : Cal P w K mg base 1 "check_big" ["value", "name"] (mkSp (Pre_check_big T)) := ⟨⟨_, _, ok_check_big (T := T) F_check_big (He.free_ok X G (cd.fact 10 (f := .free "isinstance") rfl)) icb (gRef X G (cd.fact 27 (f := .glo "Big") rfl)), He.glo_ok X G (cd.fact 42 (f := .glo "check_big") rfl), F_check_big.kp, (F_check_big.binds (ps := ["value", "name"]) fun _ _ _ _ _ _ us hl => match us, hl with | [_, _], _ => rfl)⟩⟩
  obtain ⟨fd_check_fit, F_check_fit⟩ := cd.def_ 9 (d := d_check_fit) rfl
  have F_check_fit := Fun.ofD (st := s_check_fit) F_check_fit
  have c_check_fit : Cal P w K mg base 2 "check_fit" ["machine", "value", "name"] (mkSp (Pre_check_fit T)) := ⟨⟨_, _, ok_check_fit (T := T) F_check_fit c_check_big bc mc, He.glo_ok X G (cd.fact 43 (f := .glo "check_fit") rfl), F_check_fit.kp, (F_check_fit.binds (ps := ["machine", "value", "name"]) fun _ _ _ _ _ _ us hl => match us, hl with | [_, _, _], _ => rfl)⟩⟩
  obtain ⟨fd_check_one, F_check_one⟩ := cd.def_ 10 (d := d_check_one) rfl
  have F_check_one := Fun.ofD (st := s_check_one) F_check_one
  have c_check_one : Cal P w K mg base 3 "check_one" ["machine", "x"] (mkSp (Pre_check_one T)) := ⟨⟨_, _, ok_check_one (T := T) F_check_one c_check_machine c_check_fit, He.glo_ok X G (cd.fact 44 (f := .glo "check_one") rfl), F_check_one.kp, (F_check_one.binds (ps := ["machine", "x"]) fun _ _ _ _ _ _ us hl => match us, hl with | [_, _], _ => rfl)⟩⟩
  obtain ⟨fd_check_two, F_check_two⟩ := cd.def_ 11 (d := d_check_two) rfl
  have F_check_two := Fun.ofD (st := s_check_two) F_check_two
  have c_check_two : Cal P w K mg base 4 "check_two" ["machine", "x", "y"] (mkSp (Pre_check_two T)) := ⟨⟨_, _, ok_check_two (T := T) F_check_two c_check_one c_check_fit, He.glo_ok X G (cd.fact 45 (f := .glo "check_two") rfl), F_check_two.kp, (F_check_two.binds (ps := ["machine", "x", "y"]) fun _ _ _ _ _ _ us hl => match us, hl with | [_, _, _], _ => rfl)⟩⟩
  obtain ⟨fd_big_of, F_big_of⟩ := cd.def_ 12 (d := d_big_of) rfl
  have F_big_of := Fun.ofD (st := s_big_of) F_big_of
  have c_big_of : Cal P w K mg base 22 "big_of" ["machine", "value"] (mkSp (Pre_big_of T)) := ⟨⟨_, _, ok_big_of (T := T) F_big_of mc (He.free_ok X G (cd.fact 46 (f := .free "abs") rfl)) c_size_of c_row_of c_Big, He.glo_ok X G (cd.fact 47 (f := .glo "big_of") rfl), F_big_of.kp, (F_big_of.binds (ps := ["machine", "value"]) fun _ _ _ _ _ _ us hl => match us, hl with | [_, _], _ => rfl)⟩⟩
  obtain ⟨fd_are_compact, F_are_compact⟩ := cd.def_ 13 (d := d_are_compact) rfl
  have F_are_compact := Fun.ofD (st := s_are_compact) F_are_compact
  have c_are_compact : Cal P w K mg base 2 "are_compact" ["machine", "x", "y"] (mkSp (Pre_are_compact T)) := ⟨⟨_, _, ok_are_compact (T := T) F_are_compact mc, He.glo_ok X G (cd.fact 48 (f := .glo "are_compact") rfl), F_are_compact.kp, (F_are_compact.binds (ps := ["machine", "x", "y"]) fun _ _ _ _ _ _ us hl => match us, hl with | [_, _, _], _ => rfl)⟩⟩
  obtain ⟨fd_big, F_big⟩ := cd.def_ 14 (d := d_big) rfl
  have F_big := Fun.ofD (st := s_big) F_big
  have c_big : Cal P w K mg base 23 "big" ["machine", "n"] (mkSp (Pre_big T)) := ⟨⟨_, _, ok_big (T := T) F_big c_check_machine c_is_integer c_big_of, He.glo_ok X G (cd.fact 49 (f := .glo "big") rfl), F_big.kp, (F_big.binds (ps := ["machine", "n"]) fun _ _ _ _ _ _ us hl => match us, hl with | [_, _], _ => rfl)⟩⟩
  obtain ⟨fd_plain, F_plain⟩ := cd.def_ 15 (d := d_plain) rfl
  have F_plain := Fun.ofD (st := s_plain) F_plain
  have c_plain : Cal P w K mg base 2 "plain" ["x"] (mkSp (Pre_plain T)) := ⟨⟨_, _, ok_plain (T := T) F_plain c_check_big bc, He.glo_ok X G (cd.fact 50 (f := .glo "plain") rfl), F_plain.kp, (F_plain.binds (ps := ["x"]) fun _ _ _ _ _ _ us hl => match us, hl with | [_], _ => rfl)⟩⟩
  obtain ⟨fd_product_by_rows, F_product_by_rows⟩ := cd.def_ 16 (d := d_product_by_rows) rfl
  have F_product_by_rows := Fun.ofD (st := s_product_by_rows) F_product_by_rows
  have c_product_by_rows : Cal P w K mg base 2 "product_by_rows" ["machine", "a", "m", "b", "n"] (mkSp (Pre_product_by_rows T)) := ⟨⟨_, _, ok_product_by_rows (T := T) F_product_by_rows mc c_Mach_enter c_Mach_step, He.glo_ok X G (cd.fact 51 (f := .glo "product_by_rows") rfl), F_product_by_rows.kp, (F_product_by_rows.binds (ps := ["machine", "a", "m", "b", "n"]) fun _ _ _ _ _ _ us hl => match us, hl with | [_, _, _, _, _], _ => rfl)⟩⟩
  obtain ⟨fd_square_of_row, F_square_of_row⟩ := cd.def_ 17 (d := d_square_of_row) rfl
  have F_square_of_row := Fun.ofD (st := s_square_of_row) F_square_of_row
  have c_square_of_row : Cal P w K mg base 2 "square_of_row" ["machine", "a", "m"] (mkSp (Pre_square_of_row T)) := ⟨⟨_, _, ok_square_of_row (T := T) F_square_of_row mc c_Mach_enter c_Mach_step, He.glo_ok X G (cd.fact 52 (f := .glo "square_of_row") rfl), F_square_of_row.kp, (F_square_of_row.binds (ps := ["machine", "a", "m"]) fun _ _ _ _ _ _ us hl => match us, hl with | [_, _, _], _ => rfl)⟩⟩
  obtain ⟨fd_added, F_added⟩ := cd.def_ 18 (d := d_added) rfl
  have F_added := Fun.ofD (st := s_added) F_added
  have c_added : Cal P w K mg base 2 "added" ["machine", "a", "m", "b", "n"] (mkSp (Pre_added T)) := ⟨⟨_, _, ok_added (T := T) F_added mc c_Mach_enter (He.free_ok X G (cd.fact 53 (f := .free "max") rfl)) c_Mach_step, He.glo_ok X G (cd.fact 54 (f := .glo "added") rfl), F_added.kp, (F_added.binds (ps := ["machine", "a", "m", "b", "n"]) fun _ _ _ _ _ _ us hl => match us, hl with | [_, _, _, _, _], _ => rfl)⟩⟩
  obtain ⟨fd_joined_room, F_joined_room⟩ := cd.def_ 19 (d := d_joined_room) rfl
  have F_joined_room := Fun.ofD (st := s_joined_room) F_joined_room
  have c_joined_room : Cal P w K mg base 3 "joined_room" ["machine", "room", "r", "more", "p", "turn"] (mkSp (Pre_joined_room T)) := ⟨⟨_, _, ok_joined_room (T := T) F_joined_room mc c_Mach_enter c_low_part c_size_of c_Mach_step, He.glo_ok X G (cd.fact 55 (f := .glo "joined_room") rfl), F_joined_room.kp, (F_joined_room.binds (ps := ["machine", "room", "r", "more", "p", "turn"]) fun _ _ _ _ _ _ us hl => match us, hl with | [_, _, _, _, _, _], _ => rfl)⟩⟩
  obtain ⟨fd_parts_of, F_parts_of⟩ := cd.def_ 20 (d := d_parts_of) rfl
  have F_parts_of := Fun.ofD (st := s_parts_of) F_parts_of
  have c_parts_of : Cal P w K mg base 3 "parts_of" ["machine", "a", "cut"] (mkSp (Pre_parts_of T)) := ⟨⟨_, _, ok_parts_of (T := T) F_parts_of mc c_low_part c_size_of, He.glo_ok X G (cd.fact 56 (f := .glo "parts_of") rfl), F_parts_of.kp, (F_parts_of.binds (ps := ["machine", "a", "cut"]) fun _ _ _ _ _ _ us hl => match us, hl with | [_, _, _], _ => rfl)⟩⟩
  obtain ⟨fd_room_above, F_room_above⟩ := cd.def_ 21 (d := d_room_above) rfl
  have F_room_above := Fun.ofD (st := s_room_above) F_room_above
  have c_room_above : Cal P w K mg base 4 "room_above" ["machine", "size", "cut", "low", "high"] (mkSp (Pre_room_above T)) := ⟨⟨_, _, ok_room_above (T := T) F_room_above mc c_size_of c_joined_room, He.glo_ok X G (cd.fact 57 (f := .glo "room_above") rfl), F_room_above.kp, (F_room_above.binds (ps := ["machine", "size", "cut", "low", "high"]) fun _ _ _ _ _ _ us hl => match us, hl with | [_, _, _, _, _], _ => rfl)⟩⟩
  obtain ⟨fd_whole_room, F_whole_room⟩ := cd.def_ 22 (d := d_whole_room) rfl
  have F_whole_room := Fun.ofD (st := s_whole_room) F_whole_room
  have c_whole_room : Cal P w K mg base 4 "whole_room" ["machine", "size", "cut", "low", "above", "middle"] (mkSp (Pre_whole_room T)) := ⟨⟨_, _, ok_whole_room (T := T) F_whole_room mc c_size_of c_joined_room c_low_part, He.glo_ok X G (cd.fact 58 (f := .glo "whole_room") rfl), F_whole_room.kp, (F_whole_room.binds (ps := ["machine", "size", "cut", "low", "above", "middle"]) fun _ _ _ _ _ _ us hl => match us, hl with | [_, _, _, _, _, _], _ => rfl)⟩⟩
  obtain ⟨fd_multiplied, F_multiplied⟩ := cd.def_ 23 (d := d_multiplied) rfl
  have F_multiplied := Fun.ofD (st := s_multiplied) F_multiplied
  obtain ⟨fd_lopsided_product, F_lopsided_product⟩ := cd.def_ 24 (d := d_lopsided_product) rfl
  have F_lopsided_product := Fun.ofD (st := s_lopsided_product) F_lopsided_product
  obtain ⟨fd_karatsuba_product, F_karatsuba_product⟩ := cd.def_ 25 (d := d_karatsuba_product) rfl
  have F_karatsuba_product := Fun.ofD (st := s_karatsuba_product) F_karatsuba_product
  have r_multiplied : ∀ n : Nat, FnOk P w K mg base CX0 (4 + n) (He.ga K "multiplied") fd_multiplied ["machine", "a", "m", "b", "n"] (mkSp (Pre_multiplied n T)) ∧ FnOk P w K mg base CX0 (4 + n) (He.ga K "lopsided_product") fd_lopsided_product ["machine", "a", "m", "b", "n"] (mkSp (Pre_lopsided_product n T)) ∧ FnOk P w K mg base CX0 (4 + n) (He.ga K "karatsuba_product") fd_karatsuba_product ["machine", "a", "m", "b", "n"] (mkSp (Pre_karatsuba_product n T)) := by
    intro n
    induction n with
    | zero => exact ⟨ok0_multiplied (T := T) F_multiplied, ok0_lopsided_product (T := T) F_lopsided_product, ok0_karatsuba_product (T := T) F_karatsuba_product⟩
    | succ n ih =>
      obtain ⟨i_multiplied, i_lopsided_product, i_karatsuba_product⟩ := ih
      have c_multiplied : Cal P w K mg base (4 + n) "multiplied" ["machine", "a", "m", "b", "n"] (mkSp (Pre_multiplied n T)) := ⟨⟨_, _, i_multiplied, He.glo_ok X G (cd.fact 59 (f := .glo "multiplied") rfl), F_multiplied.kp, (F_multiplied.binds (ps := ["machine", "a", "m", "b", "n"]) fun _ _ _ _ _ _ us hl => match us, hl with | [_, _, _, _, _], _ => rfl)⟩⟩
      have c_lopsided_product : Cal P w K mg base (4 + n) "lopsided_product" ["machine", "a", "m", "b", "n"] (mkSp (Pre_lopsided_product n T)) := ⟨⟨_, _, i_lopsided_product, He.glo_ok X G (cd.fact 60 (f := .glo "lopsided_product") rfl), F_lopsided_product.kp, (F_lopsided_product.binds (ps := ["machine", "a", "m", "b", "n"]) fun _ _ _ _ _ _ us hl => match us, hl with | [_, _, _, _, _], _ => rfl)⟩⟩
      have c_karatsuba_product : Cal P w K mg base (4 + n) "karatsuba_product" ["machine", "a", "m", "b", "n"] (mkSp (Pre_karatsuba_product n T)) := ⟨⟨_, _, i_karatsuba_product, He.glo_ok X G (cd.fact 61 (f := .glo "karatsuba_product") rfl), F_karatsuba_product.kp, (F_karatsuba_product.binds (ps := ["machine", "a", "m", "b", "n"]) fun _ _ _ _ _ _ us hl => match us, hl with | [_, _, _, _, _], _ => rfl)⟩⟩
      exact ⟨ok_multiplied (T := T) n F_multiplied mc c_product_by_rows c_lopsided_product c_karatsuba_product, ok_lopsided_product (T := T) n F_lopsided_product mc c_Mach_enter (He.free_ok X G (cd.fact 41 (f := .free "range") rfl)) c_low_part (He.free_ok X G (cd.fact 62 (f := .free "min") rfl)) c_multiplied c_size_of c_joined_room, ok_karatsuba_product (T := T) n F_karatsuba_product mc c_Mach_enter c_parts_of c_multiplied c_room_above c_added c_size_of c_whole_room⟩
  have c_multiplied : Cal P w K mg base 44 "multiplied" ["machine", "a", "m", "b", "n"] (mkSp (Pre_multiplied 40 T)) := ⟨⟨_, _, (r_multiplied 40).1, He.glo_ok X G (cd.fact 59 (f := .glo "multiplied") rfl), F_multiplied.kp, (F_multiplied.binds (ps := ["machine", "a", "m", "b", "n"]) fun _ _ _ _ _ _ us hl => match us, hl with | [_, _, _, _, _], _ => rfl)⟩⟩
  have c_lopsided_product : Cal P w K mg base 44 "lopsided_product" ["machine", "a", "m", "b", "n"] (mkSp (Pre_lopsided_product 40 T)) := ⟨⟨_, _, (r_multiplied 40).2.1, He.glo_ok X G (cd.fact 60 (f := .glo "lopsided_product") rfl), F_lopsided_product.kp, (F_lopsided_product.binds (ps := ["machine", "a", "m", "b", "n"]) fun _ _ _ _ _ _ us hl => match us, hl with | [_, _, _, _, _], _ => rfl)⟩⟩
  have c_karatsuba_product : Cal P w K mg base 44 "karatsuba_product" ["machine", "a", "m", "b", "n"] (mkSp (Pre_karatsuba_product 40 T)) := ⟨⟨_, _, (r_multiplied 40).2.2, He.glo_ok X G (cd.fact 61 (f := .glo "karatsuba_product") rfl), F_karatsuba_product.kp, (F_karatsuba_product.binds (ps := ["machine", "a", "m", "b", "n"]) fun _ _ _ _ _ _ us hl => match us, hl with | [_, _, _, _, _], _ => rfl)⟩⟩
  obtain ⟨fd_product_of, F_product_of⟩ := cd.def_ 26 (d := d_product_of) rfl
  have F_product_of := Fun.ofD (st := s_product_of) F_product_of
  have c_product_of : Cal P w K mg base 45 "product_of" ["machine", "x", "y"] (mkSp (Pre_product_of T)) := ⟨⟨_, _, ok_product_of (T := T) F_product_of c_are_compact mc c_Mach_step (He.free_ok X G (cd.fact 46 (f := .free "abs") rfl)) c_size_of c_multiplied, He.glo_ok X G (cd.fact 63 (f := .glo "product_of") rfl), F_product_of.kp, (F_product_of.binds (ps := ["machine", "x", "y"]) fun _ _ _ _ _ _ us hl => match us, hl with | [_, _, _], _ => rfl)⟩⟩
  obtain ⟨fd_multiply, F_multiply⟩ := cd.def_ 27 (d := d_multiply) rfl
  have F_multiply := Fun.ofD (st := s_multiply) F_multiply
  have c_multiply : Cal P w K mg base 46 "multiply" ["machine", "x", "y"] (mkSp (Pre_multiply T)) := ⟨⟨_, _, ok_multiply (T := T) F_multiply c_check_two bc c_product_of c_big_of, He.glo_ok X G (cd.fact 64 (f := .glo "multiply") rfl), F_multiply.kp, (F_multiply.binds (ps := ["machine", "x", "y"]) fun _ _ _ _ _ _ us hl => match us, hl with | [_, _, _], _ => rfl)⟩⟩
  obtain ⟨fd_squared, F_squared⟩ := cd.def_ 28 (d := d_squared) rfl
  have F_squared := Fun.ofD (st := s_squared) F_squared
  obtain ⟨fd_karatsuba_square, F_karatsuba_square⟩ := cd.def_ 29 (d := d_karatsuba_square) rfl
  have F_karatsuba_square := Fun.ofD (st := s_karatsuba_square) F_karatsuba_square
  have r_squared : ∀ n : Nat, FnOk P w K mg base CX0 (4 + n) (He.ga K "squared") fd_squared ["machine", "a", "m"] (mkSp (Pre_squared n T)) ∧ FnOk P w K mg base CX0 (4 + n) (He.ga K "karatsuba_square") fd_karatsuba_square ["machine", "a", "m"] (mkSp (Pre_karatsuba_square n T)) := by
    intro n
    induction n with
    | zero => exact ⟨ok0_squared (T := T) F_squared, ok0_karatsuba_square (T := T) F_karatsuba_square⟩
    | succ n ih =>
      obtain ⟨i_squared, i_karatsuba_square⟩ := ih
      have c_squared : Cal P w K mg base (4 + n) "squared" ["machine", "a", "m"] (mkSp (Pre_squared n T)) := ⟨⟨_, _, i_squared, He.glo_ok X G (cd.fact 65 (f := .glo "squared") rfl), F_squared.kp, (F_squared.binds (ps := ["machine", "a", "m"]) fun _ _ _ _ _ _ us hl => match us, hl with | [_, _, _], _ => rfl)⟩⟩
      have c_karatsuba_square : Cal P w K mg base (4 + n) "karatsuba_square" ["machine", "a", "m"] (mkSp (Pre_karatsuba_square n T)) := ⟨⟨_, _, i_karatsuba_square, He.glo_ok X G (cd.fact 66 (f := .glo "karatsuba_square") rfl), F_karatsuba_square.kp, (F_karatsuba_square.binds (ps := ["machine", "a", "m"]) fun _ _ _ _ _ _ us hl => match us, hl with | [_, _, _], _ => rfl)⟩⟩
      exact ⟨ok_squared (T := T) n F_squared mc c_square_of_row c_karatsuba_square, ok_karatsuba_square (T := T) n F_karatsuba_square mc c_Mach_enter c_parts_of c_squared c_room_above c_added c_size_of c_whole_room⟩
  have c_squared : Cal P w K mg base 24 "squared" ["machine", "a", "m"] (mkSp (Pre_squared 20 T)) := ⟨⟨_, _, (r_squared 20).1, He.glo_ok X G (cd.fact 65 (f := .glo "squared") rfl), F_squared.kp, (F_squared.binds (ps := ["machine", "a", "m"]) fun _ _ _ _ _ _ us hl => match us, hl with | [_, _, _], _ => rfl)⟩⟩
  have c_karatsuba_square : Cal P w K mg base 24 "karatsuba_square" ["machine", "a", "m"] (mkSp (Pre_karatsuba_square 20 T)) := ⟨⟨_, _, (r_squared 20).2, He.glo_ok X G (cd.fact 66 (f := .glo "karatsuba_square") rfl), F_karatsuba_square.kp, (F_karatsuba_square.binds (ps := ["machine", "a", "m"]) fun _ _ _ _ _ _ us hl => match us, hl with | [_, _, _], _ => rfl)⟩⟩
  obtain ⟨fd_square_of, F_square_of⟩ := cd.def_ 30 (d := d_square_of) rfl
  have F_square_of := Fun.ofD (st := s_square_of) F_square_of
  have c_square_of : Cal P w K mg base 25 "square_of" ["machine", "x"] (mkSp (Pre_square_of T)) := ⟨⟨_, _, ok_square_of (T := T) F_square_of c_are_compact mc c_Mach_step (He.free_ok X G (cd.fact 46 (f := .free "abs") rfl)) c_size_of c_squared, He.glo_ok X G (cd.fact 67 (f := .glo "square_of") rfl), F_square_of.kp, (F_square_of.binds (ps := ["machine", "x"]) fun _ _ _ _ _ _ us hl => match us, hl with | [_, _], _ => rfl)⟩⟩
  obtain ⟨fd_square, F_square⟩ := cd.def_ 31 (d := d_square) rfl
  have F_square := Fun.ofD (st := s_square) F_square
  have c_square : Cal P w K mg base 26 "square" ["machine", "x"] (mkSp (Pre_square T)) := ⟨⟨_, _, ok_square (T := T) F_square c_check_one bc c_square_of c_big_of, He.glo_ok X G (cd.fact 68 (f := .glo "square") rfl), F_square.kp, (F_square.binds (ps := ["machine", "x"]) fun _ _ _ _ _ _ us hl => match us, hl with | [_, _], _ => rfl)⟩⟩
  obtain ⟨fd__law_purse, F__law_purse⟩ := cd.def_ 32 (d := d__law_purse) rfl
  have F__law_purse := Fun.ofD (st := s__law_purse) F__law_purse
  have c__law_purse : Cal P w K mg base 1 "_law_purse" ["_law_cell"] (mkSp (Pre__law_purse T)) := ⟨⟨_, _, ok__law_purse (T := T) F__law_purse (He.free_ok X G (cd.fact 11 (f := .free "int") rfl)), He.glo_ok X G (cd.fact 69 (f := .glo "_law_purse") rfl), F__law_purse.kp, (F__law_purse.binds (ps := ["_law_cell"]) fun _ _ _ _ _ _ us hl => match us, hl with | [_], _ => rfl)⟩⟩
  obtain ⟨fd__law_coin, F__law_coin⟩ := cd.def_ 33 (d := d__law_coin) rfl
  have F__law_coin := Fun.ofD (st := s__law_coin) F__law_coin
  have c__law_coin : Cal P w K mg base 1 "_law_coin" ["_law_purse_here", "_law_amount"] (mkSp (Pre__law_coin T)) := ⟨⟨_, _, ok__law_coin (T := T) F__law_coin (He.free_ok X G (cd.fact 11 (f := .free "int") rfl)), He.glo_ok X G (cd.fact 70 (f := .glo "_law_coin") rfl), F__law_coin.kp, (F__law_coin.binds (ps := ["_law_purse_here", "_law_amount"]) fun _ _ _ _ _ _ us hl => match us, hl with | [_, _], _ => rfl)⟩⟩
  obtain ⟨fd__law_pick, F__law_pick⟩ := cd.def_ 34 (d := d__law_pick) rfl
  have F__law_pick := Fun.ofD (st := s__law_pick) F__law_pick
  have c__law_pick : Cal P w K mg base 2 "_law_pick" ["_law_purse_here", "_law_some"] (mkSp (Pre__law_pick T)) := ⟨⟨_, _, ok__law_pick (T := T) F__law_pick (He.free_ok X G (cd.fact 16 (f := .free "len") rfl)) c__law_coin, He.glo_ok X G (cd.fact 71 (f := .glo "_law_pick") rfl), F__law_pick.kp, (F__law_pick.binds (ps := ["_law_purse_here", "_law_some"]) fun _ _ _ _ _ _ us hl => match us, hl with | [_, _], _ => rfl)⟩⟩
  obtain ⟨fd__law_row, F__law_row⟩ := cd.def_ 35 (d := d__law_row) rfl
  have F__law_row := Fun.ofD (st := s__law_row) F__law_row
  have c__law_row : Cal P w K mg base 3 "_law_row" ["_law_purse_here", "_law_bits", "_law_size_here"] (mkSp (Pre__law_row T)) := ⟨⟨_, _, ok__law_row (T := T) F__law_row (He.free_ok X G (cd.fact 41 (f := .free "range") rfl)) c__law_coin c__law_pick (He.free_ok X G (cd.fact 53 (f := .free "max") rfl)), He.glo_ok X G (cd.fact 72 (f := .glo "_law_row") rfl), F__law_row.kp, (F__law_row.binds (ps := ["_law_purse_here", "_law_bits", "_law_size_here"]) fun _ _ _ _ _ _ us hl => match us, hl with | [_, _, _], _ => rfl)⟩⟩
  obtain ⟨fd__law_worth, F__law_worth⟩ := cd.def_ 36 (d := d__law_worth) rfl
  have F__law_worth := Fun.ofD (st := s__law_worth) F__law_worth
  have c__law_worth : Cal P w K mg base 1 "_law_worth" ["_law_bits", "_law_row_here"] (mkSp (Pre__law_worth T)) := ⟨⟨_, _, ok__law_worth (T := T) F__law_worth , He.glo_ok X G (cd.fact 73 (f := .glo "_law_worth") rfl), F__law_worth.kp, (F__law_worth.binds (ps := ["_law_bits", "_law_row_here"]) fun _ _ _ _ _ _ us hl => match us, hl with | [_, _], _ => rfl)⟩⟩
  obtain ⟨fd__law_digits, F__law_digits⟩ := cd.def_ 37 (d := d__law_digits) rfl
  have F__law_digits := Fun.ofD (st := s__law_digits) F__law_digits
  have c__law_digits : Cal P w K mg base 2 "_law_digits" ["_law_bits", "_law_n"] (mkSp (Pre__law_digits T)) := ⟨⟨_, _, ok__law_digits (T := T) F__law_digits (He.free_ok X G (cd.fact 11 (f := .free "int") rfl)), He.glo_ok X G (cd.fact 74 (f := .glo "_law_digits") rfl), F__law_digits.kp, (F__law_digits.binds (ps := ["_law_bits", "_law_n"]) fun _ _ _ _ _ _ us hl => match us, hl with | [_, _], _ => rfl)⟩⟩
  obtain ⟨fd__law_is, F__law_is⟩ := cd.def_ 38 (d := d__law_is) rfl
  have F__law_is := Fun.ofD (st := s__law_is) F__law_is
  have c__law_is : Cal P w K mg base 3 "_law_is" ["_law_held", "_law_bits", "_law_n"] (mkSp (Pre__law_is T)) := ⟨⟨_, _, ok__law_is (T := T) F__law_is (He.free_ok X G (cd.fact 11 (f := .free "int") rfl)) c_Big_sign c_Big_digits c_Big_bits c_plain (He.free_ok X G (cd.fact 46 (f := .free "abs") rfl)) c__law_digits, He.glo_ok X G (cd.fact 75 (f := .glo "_law_is") rfl), F__law_is.kp, (F__law_is.binds (ps := ["_law_held", "_law_bits", "_law_n"]) fun _ _ _ _ _ _ us hl => match us, hl with | [_, _, _], _ => rfl)⟩⟩
  obtain ⟨fd__law_counted, F__law_counted⟩ := cd.def_ 39 (d := d__law_counted) rfl
  have F__law_counted := Fun.ofD (st := s__law_counted) F__law_counted
  have c__law_counted : Cal P w K mg base 2 "_law_counted" ["_law_engine"] (mkSp (Pre__law_counted T)) := ⟨⟨_, _, ok__law_counted (T := T) F__law_counted mc c_Mach_tally (He.free_ok X G (cd.fact 76 (f := .free "dict") rfl)) c_Mach_walk c_Mach_reset, He.glo_ok X G (cd.fact 77 (f := .glo "_law_counted") rfl), F__law_counted.kp, (F__law_counted.binds (ps := ["_law_engine"]) fun _ _ _ _ _ _ us hl => match us, hl with | [_], _ => rfl)⟩⟩
  obtain ⟨fd__law_size, F__law_size⟩ := cd.def_ 40 (d := d__law_size) rfl
  have F__law_size := Fun.ofD (st := s__law_size) F__law_size
  have c__law_size : Cal P w K mg base 2 "_law_size" ["_law_world_here", "_law_n"] (mkSp (Pre__law_size T)) := ⟨⟨_, _, ok__law_size (T := T) F__law_size , He.glo_ok X G (cd.fact 78 (f := .glo "_law_size") rfl), F__law_size.kp, (F__law_size.binds (ps := ["_law_world_here", "_law_n"]) fun _ _ _ _ _ _ us hl => match us, hl with | [_, _], _ => rfl)⟩⟩
  obtain ⟨fd__law_note, F__law_note⟩ := cd.def_ 41 (d := d__law_note) rfl
  have F__law_note := Fun.ofD (st := s__law_note) F__law_note
  have c__law_note : Cal P w K mg base 2 "_law_note" ["_law_world_here", "_law_word", "_law_m", "_law_n"] (mkSp (Pre__law_note T)) := ⟨⟨_, _, ok__law_note (T := T) F__law_note , He.glo_ok X G (cd.fact 79 (f := .glo "_law_note") rfl), F__law_note.kp, (F__law_note.binds (ps := ["_law_world_here", "_law_word", "_law_m", "_law_n"]) fun _ _ _ _ _ _ us hl => match us, hl with | [_, _, _, _], _ => rfl)⟩⟩
  obtain ⟨fd__law_count, F__law_count⟩ := cd.def_ 42 (d := d__law_count) rfl
  have F__law_count := Fun.ofD (st := s__law_count) F__law_count
  have c__law_count : Cal P w K mg base 2 "_law_count" ["_law_world_here", "_law_word", "_law_amount"] (mkSp (Pre__law_count T)) := ⟨⟨_, _, ok__law_count (T := T) F__law_count , He.glo_ok X G (cd.fact 80 (f := .glo "_law_count") rfl), F__law_count.kp, (F__law_count.binds (ps := ["_law_world_here", "_law_word", "_law_amount"]) fun _ _ _ _ _ _ us hl => match us, hl with | [_, _, _], _ => rfl)⟩⟩
  obtain ⟨fd__law_into, F__law_into⟩ := cd.def_ 43 (d := d__law_into) rfl
  have F__law_into := Fun.ofD (st := s__law_into) F__law_into
  have c__law_into : Cal P w K mg base 33 "_law_into" ["_law_world_here", "_law_room", "_law_size_here", "_law_more", "_law_sign"] (mkSp (Pre__law_into T)) := ⟨⟨_, _, ok__law_into (T := T) F__law_into c__law_size c__law_note (He.free_ok X G (cd.fact 11 (f := .free "int") rfl)) unseen c__law_count, He.glo_ok X G (cd.fact 81 (f := .glo "_law_into") rfl), F__law_into.kp, (F__law_into.binds (ps := ["_law_world_here", "_law_room", "_law_size_here", "_law_more", "_law_sign"]) fun _ _ _ _ _ _ us hl => match us, hl with | [_, _, _, _, _], _ => rfl)⟩⟩
  obtain ⟨fd__law_sum, F__law_sum⟩ := cd.def_ 44 (d := d__law_sum) rfl
  have F__law_sum := Fun.ofD (st := s__law_sum) F__law_sum
  have c__law_sum : Cal P w K mg base 3 "_law_sum" ["_law_world_here", "_law_one", "_law_other"] (mkSp (Pre__law_sum T)) := ⟨⟨_, _, ok__law_sum (T := T) F__law_sum c__law_size c__law_note (He.free_ok X G (cd.fact 53 (f := .free "max") rfl)) c__law_count, He.glo_ok X G (cd.fact 82 (f := .glo "_law_sum") rfl), F__law_sum.kp, (F__law_sum.binds (ps := ["_law_world_here", "_law_one", "_law_other"]) fun _ _ _ _ _ _ us hl => match us, hl with | [_, _, _], _ => rfl)⟩⟩
  obtain ⟨fd__law_square, F__law_square⟩ := cd.def_ 45 (d := d__law_square) rfl
  have F__law_square := Fun.ofD (st := s__law_square) F__law_square
  obtain ⟨fd__law_halves__o1, F__law_halves__o1⟩ := cd.def_ 46 (d := d__law_halves__o1) rfl
  have F__law_halves__o1 := Fun.ofD (st := s__law_halves__o1) F__law_halves__o1
  have r__law_square : ∀ n : Nat, FnOk P w K mg base CX0 (73 + n) (He.ga K "_law_square") fd__law_square ["_law_world_here", "_law_a", "_law_m"] (mkSp (Pre__law_square n T)) ∧ FnOk P w K mg base CX0 (73 + n) (He.ga K "_law_halves") fd__law_halves__o1 ["_law_world_here", "_law_a", "_law_m", "_law_b", "_law_n"] (mkSp (Pre__law_halves__o1 n T)) := by
    intro n
    induction n with
    | zero => exact ⟨ok0__law_square (T := T) F__law_square, ok0__law_halves__o1 (T := T) F__law_halves__o1⟩
    | succ n ih =>
      obtain ⟨i__law_square, i__law_halves__o1⟩ := ih
      have c__law_square : Cal P w K mg base (73 + n) "_law_square" ["_law_world_here", "_law_a", "_law_m"] (mkSp (Pre__law_square n T)) := ⟨⟨_, _, i__law_square, He.glo_ok X G (cd.fact 83 (f := .glo "_law_square") rfl), F__law_square.kp, (F__law_square.binds (ps := ["_law_world_here", "_law_a", "_law_m"]) fun _ _ _ _ _ _ us hl => match us, hl with | [_, _, _], _ => rfl)⟩⟩
      have c__law_halves__o1 : Cal P w K mg base (73 + n) "_law_halves" ["_law_world_here", "_law_a", "_law_m", "_law_b", "_law_n"] (mkSp (Pre__law_halves__o1 n T)) := ⟨⟨_, _, i__law_halves__o1, He.glo_ok X G (cd.fact 84 (f := .glo "_law_halves") rfl), F__law_halves__o1.kp, (F__law_halves__o1.binds (ps := ["_law_world_here", "_law_a", "_law_m", "_law_b", "_law_n"]) fun _ _ _ _ _ _ us hl => match us, hl with | [_, _, _, _, _], _ => rfl)⟩⟩
      exact ⟨ok__law_square (T := T) n F__law_square c__law_note c__law_count c__law_halves__o1, ok__law_halves__o1 (T := T) n F__law_halves__o1 c__law_note (He.free_ok X G (cd.fact 11 (f := .free "int") rfl)) c__law_size c__law_square c__law_into c__law_sum⟩
  have c__law_square : Cal P w K mg base 93 "_law_square" ["_law_world_here", "_law_a", "_law_m"] (mkSp (Pre__law_square 20 T)) := ⟨⟨_, _, (r__law_square 20).1, He.glo_ok X G (cd.fact 83 (f := .glo "_law_square") rfl), F__law_square.kp, (F__law_square.binds (ps := ["_law_world_here", "_law_a", "_law_m"]) fun _ _ _ _ _ _ us hl => match us, hl with | [_, _, _], _ => rfl)⟩⟩
  have c__law_halves__o1 : Cal P w K mg base 93 "_law_halves" ["_law_world_here", "_law_a", "_law_m", "_law_b", "_law_n"] (mkSp (Pre__law_halves__o1 20 T)) := ⟨⟨_, _, (r__law_square 20).2, He.glo_ok X G (cd.fact 84 (f := .glo "_law_halves") rfl), F__law_halves__o1.kp, (F__law_halves__o1.binds (ps := ["_law_world_here", "_law_a", "_law_m", "_law_b", "_law_n"]) fun _ _ _ _ _ _ us hl => match us, hl with | [_, _, _, _, _], _ => rfl)⟩⟩
  obtain ⟨fd__law_product, F__law_product⟩ := cd.def_ 47 (d := d__law_product) rfl
  have F__law_product := Fun.ofD (st := s__law_product) F__law_product
  obtain ⟨fd__law_slices, F__law_slices⟩ := cd.def_ 48 (d := d__law_slices) rfl
  have F__law_slices := Fun.ofD (st := s__law_slices) F__law_slices
  obtain ⟨fd__law_halves, F__law_halves⟩ := cd.def_ 49 (d := d__law_halves) rfl
  have F__law_halves := Fun.ofD (st := s__law_halves) F__law_halves
  have r__law_product : ∀ n : Nat, FnOk P w K mg base CX0 (33 + n) (He.ga K "_law_product") fd__law_product ["_law_world_here", "_law_a", "_law_m", "_law_b", "_law_n"] (mkSp (Pre__law_product n T)) ∧ FnOk P w K mg base CX0 (33 + n) (He.ga K "_law_slices") fd__law_slices ["_law_world_here", "_law_a", "_law_m", "_law_b", "_law_n"] (mkSp (Pre__law_slices n T)) ∧ FnOk P w K mg base CX0 (33 + n) (He.ga K "_law_halves") fd__law_halves ["_law_world_here", "_law_a", "_law_m", "_law_b", "_law_n"] (mkSp (Pre__law_halves n T)) := by
    intro n
    induction n with
    | zero => exact ⟨ok0__law_product (T := T) F__law_product, ok0__law_slices (T := T) F__law_slices, ok0__law_halves (T := T) F__law_halves⟩
    | succ n ih =>
      obtain ⟨i__law_product, i__law_slices, i__law_halves⟩ := ih
      have c__law_product : Cal P w K mg base (33 + n) "_law_product" ["_law_world_here", "_law_a", "_law_m", "_law_b", "_law_n"] (mkSp (Pre__law_product n T)) := ⟨⟨_, _, i__law_product, He.glo_ok X G (cd.fact 85 (f := .glo "_law_product") rfl), F__law_product.kp, (F__law_product.binds (ps := ["_law_world_here", "_law_a", "_law_m", "_law_b", "_law_n"]) fun _ _ _ _ _ _ us hl => match us, hl with | [_, _, _, _, _], _ => rfl)⟩⟩
      have c__law_slices : Cal P w K mg base (33 + n) "_law_slices" ["_law_world_here", "_law_a", "_law_m", "_law_b", "_law_n"] (mkSp (Pre__law_slices n T)) := ⟨⟨_, _, i__law_slices, He.glo_ok X G (cd.fact 86 (f := .glo "_law_slices") rfl), F__law_slices.kp, (F__law_slices.binds (ps := ["_law_world_here", "_law_a", "_law_m", "_law_b", "_law_n"]) fun _ _ _ _ _ _ us hl => match us, hl with | [_, _, _, _, _], _ => rfl)⟩⟩
      have c__law_halves : Cal P w K mg base (33 + n) "_law_halves" ["_law_world_here", "_law_a", "_law_m", "_law_b", "_law_n"] (mkSp (Pre__law_halves n T)) := ⟨⟨_, _, i__law_halves, He.glo_ok X G (cd.fact 84 (f := .glo "_law_halves") rfl), F__law_halves.kp, (F__law_halves.binds (ps := ["_law_world_here", "_law_a", "_law_m", "_law_b", "_law_n"]) fun _ _ _ _ _ _ us hl => match us, hl with | [_, _, _, _, _], _ => rfl)⟩⟩
      exact ⟨ok__law_product (T := T) n F__law_product c__law_note c__law_count c__law_slices c__law_halves, ok__law_slices (T := T) n F__law_slices c__law_note (He.free_ok X G (cd.fact 41 (f := .free "range") rfl)) (He.free_ok X G (cd.fact 11 (f := .free "int") rfl)) (He.free_ok X G (cd.fact 62 (f := .free "min") rfl)) c__law_product c__law_into, ok__law_halves (T := T) n F__law_halves c__law_note (He.free_ok X G (cd.fact 11 (f := .free "int") rfl)) c__law_size c__law_product c__law_into c__law_sum⟩
  have c__law_product : Cal P w K mg base 73 "_law_product" ["_law_world_here", "_law_a", "_law_m", "_law_b", "_law_n"] (mkSp (Pre__law_product 40 T)) := ⟨⟨_, _, (r__law_product 40).1, He.glo_ok X G (cd.fact 85 (f := .glo "_law_product") rfl), F__law_product.kp, (F__law_product.binds (ps := ["_law_world_here", "_law_a", "_law_m", "_law_b", "_law_n"]) fun _ _ _ _ _ _ us hl => match us, hl with | [_, _, _, _, _], _ => rfl)⟩⟩
  have c__law_slices : Cal P w K mg base 73 "_law_slices" ["_law_world_here", "_law_a", "_law_m", "_law_b", "_law_n"] (mkSp (Pre__law_slices 40 T)) := ⟨⟨_, _, (r__law_product 40).2.1, He.glo_ok X G (cd.fact 86 (f := .glo "_law_slices") rfl), F__law_slices.kp, (F__law_slices.binds (ps := ["_law_world_here", "_law_a", "_law_m", "_law_b", "_law_n"]) fun _ _ _ _ _ _ us hl => match us, hl with | [_, _, _, _, _], _ => rfl)⟩⟩
  have c__law_halves : Cal P w K mg base 73 "_law_halves" ["_law_world_here", "_law_a", "_law_m", "_law_b", "_law_n"] (mkSp (Pre__law_halves 40 T)) := ⟨⟨_, _, (r__law_product 40).2.2, He.glo_ok X G (cd.fact 84 (f := .glo "_law_halves") rfl), F__law_halves.kp, (F__law_halves.binds (ps := ["_law_world_here", "_law_a", "_law_m", "_law_b", "_law_n"]) fun _ _ _ _ _ _ us hl => match us, hl with | [_, _, _, _, _], _ => rfl)⟩⟩
  obtain ⟨fd__law_world, F__law_world⟩ := cd.def_ 50 (d := d__law_world) rfl
  have F__law_world := Fun.ofD (st := s__law_world) F__law_world
  have c__law_world : Cal P w K mg base 2 "_law_world" ["_law_engine"] (mkSp (Pre__law_world T)) := ⟨⟨_, _, ok__law_world (T := T) F__law_world mc c_Mach_parts, He.glo_ok X G (cd.fact 87 (f := .glo "_law_world") rfl), F__law_world.kp, (F__law_world.binds (ps := ["_law_engine"]) fun _ _ _ _ _ _ us hl => match us, hl with | [_], _ => rfl)⟩⟩
  obtain ⟨fd__law_due, F__law_due⟩ := cd.def_ 51 (d := d__law_due) rfl
  have F__law_due := Fun.ofD (st := s__law_due) F__law_due
  have c__law_due : Cal P w K mg base 94 "_law_due" ["_law_engine", "_law_p", "_law_q"] (mkSp (Pre__law_due T)) := ⟨⟨_, _, ok__law_due (T := T) F__law_due c__law_world (He.free_ok X G (cd.fact 46 (f := .free "abs") rfl)) c__law_size (He.free_ok X G (cd.fact 53 (f := .free "max") rfl)) c__law_product, He.glo_ok X G (cd.fact 88 (f := .glo "_law_due") rfl), F__law_due.kp, (F__law_due.binds (ps := ["_law_engine", "_law_p", "_law_q"]) fun _ _ _ _ _ _ us hl => match us, hl with | [_, _, _], _ => rfl)⟩⟩
  obtain ⟨fd__law_due__o1, F__law_due__o1⟩ := cd.def_ 52 (d := d__law_due__o1) rfl
  have F__law_due__o1 := Fun.ofD (st := s__law_due__o1) F__law_due__o1
  have c__law_due__o1 : Cal P w K mg base 94 "_law_due" ["_law_engine", "_law_p", "_law_q"] (mkSp (Pre__law_due__o1 T)) := ⟨⟨_, _, ok__law_due__o1 (T := T) F__law_due__o1 c__law_world (He.free_ok X G (cd.fact 46 (f := .free "abs") rfl)) c__law_size (He.free_ok X G (cd.fact 53 (f := .free "max") rfl)) c__law_square, He.glo_ok X G (cd.fact 88 (f := .glo "_law_due") rfl), F__law_due__o1.kp, (F__law_due__o1.binds (ps := ["_law_engine", "_law_p", "_law_q"]) fun _ _ _ _ _ _ us hl => match us, hl with | [_, _, _], _ => rfl)⟩⟩
  obtain ⟨fd__law_right, F__law_right⟩ := cd.def_ 53 (d := d__law_right) rfl
  have F__law_right := Fun.ofD (st := s__law_right) F__law_right
  have c__law_right : Cal P w K mg base 95 "_law_right" ["_law_engine", "_law_p", "_law_q"] (mkSp (Pre__law_right T)) := ⟨⟨_, _, ok__law_right (T := T) F__law_right c_big mc c_Mach_reset c_multiply c__law_due c_Mach_parts c__law_is c__law_counted, He.glo_ok X G (cd.fact 89 (f := .glo "_law_right") rfl), F__law_right.kp, (F__law_right.binds (ps := ["_law_engine", "_law_p", "_law_q"]) fun _ _ _ _ _ _ us hl => match us, hl with | [_, _, _], _ => rfl)⟩⟩
  obtain ⟨fd__law_shaped, F__law_shaped⟩ := cd.def_ 54 (d := d__law_shaped) rfl
  have F__law_shaped := Fun.ofD (st := s__law_shaped) F__law_shaped
  have c__law_shaped : Cal P w K mg base 4 "_law_shaped" ["_law_purse_here", "_law_bits", "_law_size_here"] (mkSp (Pre__law_shaped T)) := ⟨⟨_, _, ok__law_shaped (T := T) F__law_shaped c__law_row c__law_coin c__law_worth, He.glo_ok X G (cd.fact 90 (f := .glo "_law_shaped") rfl), F__law_shaped.kp, (F__law_shaped.binds (ps := ["_law_purse_here", "_law_bits", "_law_size_here"]) fun _ _ _ _ _ _ us hl => match us, hl with | [_, _, _], _ => rfl)⟩⟩
  obtain ⟨fd__law_right__o1, F__law_right__o1⟩ := cd.def_ 55 (d := d__law_right__o1) rfl
  have F__law_right__o1 := Fun.ofD (st := s__law_right__o1) F__law_right__o1
  have c__law_right__o1 : Cal P w K mg base 95 "_law_right" ["_law_engine", "_law_p", "_law_q"] (mkSp (Pre__law_right__o1 T)) := ⟨⟨_, _, ok__law_right__o1 (T := T) F__law_right__o1 c_big mc c_Mach_reset c_square c__law_due__o1 c_Mach_parts c__law_is c__law_counted, He.glo_ok X G (cd.fact 89 (f := .glo "_law_right") rfl), F__law_right__o1.kp, (F__law_right__o1.binds (ps := ["_law_engine", "_law_p", "_law_q"]) fun _ _ _ _ _ _ us hl => match us, hl with | [_, _, _], _ => rfl)⟩⟩
  have F_law := Fun.ofD (st := s_law) G_law
  exact ok_law (T := T) F_law c__law_purse (He.free_ok X G (cd.fact 41 (f := .free "range") rfl)) c__law_coin c__law_pick c_Machine2 c__law_shaped (He.free_ok X G (cd.fact 53 (f := .free "max") rfl)) c__law_right c__law_right__o1
end P

open PySem PySem.W PySem.Calls PyProof.Rows in
theorem PySem.Challenge.cw_thirtybits_k21_sizes_beside_the_cutoff_holds : PySem.Challenge.rw_thirtybits_k21_sizes_beside_the_cutoff.Holds := by
  w_on; o_law
  refine HandSHeadRun.head_any (r := OpenLaw.row PySem.Challenge.rw_thirtybits_k21_sizes_beside_the_cutoff) (q := view (OpenLaw.row PySem.Challenge.rw_thirtybits_k21_sizes_beside_the_cutoff).prog [71]) (H := P.hk) (ob := P.ob) (M := 12000) (loose := P.loose) (d := HandSHeadRun.topDef (OpenLaw.row PySem.Challenge.rw_thirtybits_k21_sizes_beside_the_cutoff).prog 71) (kwd := []) P.ob_eq
    (by kernel_rfl) (fun s => by kernel_rfl) P.run (by kernel_rfl) (by kernel_rfl) (by kernel_rfl) (by rfl) (by first | assumption | decide +kernel) (by decide +kernel) ⟨rfl, rfl, rfl, rfl, rfl, by decide +kernel⟩ ?hw ?hc
  case hw => w_witness2
  case hc =>
    refine L2.walk_ofE (l := PySem.Challenge.rw_thirtybits_k21_sizes_beside_the_cutoff) (n := 63) (k := 96) (x := "_law_script") (CX := L2.CX0) rfl (by decide) (by kernel_rfl) ⟨rfl, by decide, by decide⟩ ?F (fun _ _ _ _ z => z)
    intro w mg fa h Y G hmg0
    obtain ⟨K, KX, c⟩ := Y
    have hmg : mg ("law" : PySem.Str) = some (.ref fa) := by
      have e : (HandSHeadRun.topDef (OpenLaw.row PySem.Challenge.rw_thirtybits_k21_sizes_beside_the_cutoff).prog 71).name = ("law" : PySem.Str) := by kernel_rfl
      rw [← e]
      exact hmg0
    obtain ⟨T, fd, eT, hb, hF⟩ := P.facts (P := (PySem.Challenge.rw_thirtybits_k21_sizes_beside_the_cutoff).prog) (w := w) KX G hmg c rfl
    refine ⟨K, fd, VL.mkSp (P.Pre_law T), KX, hb, fun H a ns hl _ hS => ?_, fun base b1 b2 => hF base b1 b2⟩
    refine ⟨H, [], _, _, ⟨ns, true, rfl, P.law_right ns hl, rfl⟩, .cons ⟨a, ns.map L2.V.int, rfl, by rw [eT]; exact hS, VL.al_of_int⟩ .nil, VL.Holds.nil (L2.Same.refl H), fun F' v H' Ω' _ _ r => r.1⟩
