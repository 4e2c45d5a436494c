import PyProof.Rows.All
import Wide.All
import OpenK.AllK
import Wide.FinOn
import HandS.ForMost
import HandS.Wide
import HandS.Evl
import HandS.Rev
import HandS.Style
import HandS.IsInst
import HandS.Defaults
import HandS.DictComp
import HandS.WideBits
import KE.GoesEnum
import HandS.TupAny
import HandS.OwnEq
import PyProof.InstNe
import HandS.HeadHook4
import HandS.TryOnly
import HandS.DeepEq
import PyProof.NeKinds
import HandS.TupLe
import HandS.CallLocal
import HandS.Lambda
import HandS.Small
import HandS.Iter
import HandS.More
import KE.KDflt
import HandS.MakeKw
import HandS.MakeKwOnly
import PyProof.Rows.ChunkEnd
import HandS.RevRange
import KE.OsArith
import HandS.Text
import KE.KBits
import KE.BitLaws
import KE.KStateDown
import HandS.Head0
import HandS.Head1
import HandS.Head2
import HandS.HeadEnd
import HandS.HeadHook1
import HandS.HeadHook2
import HandS.HeadHook3
import PySem.Challenge.RW_thirtybits_k04_machines
set_option Elab.async false
set_option linter.all false
set_option maxRecDepth 100000
/-! What a body does, by values: Holds (the frozen part, the changing things, by place), Env (the slots), XG, XE, XT, XA, XS. -/
namespace VL
open PySem L2

/-! ### the frozen part and the changing things -/
structure VA where
  P : Hp → V → Prop
  mono : ∀ {F F' : Hp} {v : V}, Same F F' → P F v → P F' v
structure OA where
  P : Hp → Hp → Prop
  mono : ∀ {F F' t : Hp}, Same F F' → P F t → P F' t

def Holds (F : Hp) (Ω : List OA) (H : Hp) : Prop :=
  ∃ ts : Nat → Hp, (∀ (i : Nat) (o : OA), Ω[i]? = some o → o.P F (ts i)) ∧ Same F H ∧ (∀ i : Nat, i < Ω.length → Same (ts i) H) ∧
    (∀ (i : Nat) (b : Addr) (o : HO), i < Ω.length → ts i b = some o → F b = none) ∧
    ∀ (i j : Nat) (b : Addr) (o : HO), i < Ω.length → j < Ω.length → i ≠ j → ts i b = some o → ts j b = none

theorem getlt {α : Type} {l : List α} {i : Nat} {a : α} (h : l[i]? = some a) : i < l.length := (List.getElem?_eq_some_iff.mp h).1
theorem nn {F : Hp} {b : Addr} {o : HO} (h : F b = some o) (h' : F b = none) : False := by rw [h] at h'; cases h'
theorem same_upd {H : Hp} {p : Addr} {o : HO} (h : H p = none) : Same H (upd H p o) := fun b x e => by
  rw [upd_ne (ne_of_none e h)]; exact e

section
variable {F F' H H' : Hp} {Ω : List OA} {o o' : OA} {i j : Nat} {a p : Addr} {u u' : HO}
theorem Holds.same (h : Holds F Ω H) : Same F H := let ⟨_, _, q, _⟩ := h; q
theorem Holds.nil (h : Same F H) : Holds F [] H := ⟨fun _ _ => none, fun i o q => by simp at q, h, fun i q => absurd q (Nat.not_lt_zero _), fun i _ _ q => absurd q (Nat.not_lt_zero _), fun i _ _ _ q => absurd q (Nat.not_lt_zero _)⟩
theorem Holds.grow (h : Holds F Ω H) (e : Same H H') : Holds F Ω H' := by
  obtain ⟨ts, h1, h2, h3, h4, h5⟩ := h
  exact ⟨ts, h1, h2.trans e, fun i q => (h3 i q).trans e, h4, h5⟩
/-- a new frozen object -/
theorem Holds.newF (h : Holds F Ω H) (n : H p = none) : Holds (upd F p u) Ω (upd H p u) ∧ Same F (upd F p u) := by
  obtain ⟨ts, h1, h2, h3, h4, h5⟩ := h
  have nF : F p = none := h2.free n
  have sF : Same F (upd F p u) := same_upd nF
  have nt : ∀ i, i < Ω.length → ts i p = none := fun i q => (h3 i q).free n
  refine ⟨⟨ts, fun i o q => o.mono sF (h1 i o q), fun b x e => ?_, fun i q => (h3 i q).trans (same_upd n), fun i b x q e => ?_, h5⟩, sF⟩
  · by_cases hb : b = p
    · subst hb; rw [upd_same] at e ⊢; exact e
    · rw [upd_ne hb] at e ⊢; exact h2 b x e
  · have hb : b ≠ p := fun z => by subst z; exact nn e (nt i q)
    rw [upd_ne hb]; exact h4 i b x q e
theorem app_at {α : Type} {l : List α} {a : α} : (l ++ [a])[l.length]? = some a := by simp
theorem app_lt {α : Type} {l : List α} {a b : α} {i : Nat} (h : l[i]? = some b) : (l ++ [a])[i]? = some b := by
  rw [List.getElem?_append_left (getlt h)]; exact h
/-- a new changing thing, behind the others -/
theorem Holds.newO {t : Hp} (h : Holds F Ω H) (n : ∀ b x, t b = some x → H b = none) (e : Same H H') (et : Same t H') (ok : o.P F t) : Holds F (Ω ++ [o]) H' := by
  obtain ⟨ts, h1, h2, h3, h4, h5⟩ := h
  have len : (Ω ++ [o]).length = Ω.length + 1 := by simp
  refine ⟨fun k => if k = Ω.length then t else ts k, fun i x q => ?_, h2.trans e, fun i q => ?_, fun i b x q r => ?_, fun i j b x qi qj ne r => ?_⟩
  · show x.P F (if i = Ω.length then t else ts i)
    by_cases hi : i = Ω.length
    · subst hi; rw [app_at] at q; cases q; rw [if_pos rfl]; exact ok
    · rw [if_neg hi]
      have lt : i < Ω.length := by have := getlt q; omega
      rw [List.getElem?_append_left lt] at q
      exact h1 i x q
  · show Same (if i = Ω.length then t else ts i) H'
    by_cases hi : i = Ω.length
    · rw [if_pos hi]; exact et
    · rw [if_neg hi]; exact (h3 i (by omega)).trans e
  · have r : (if i = Ω.length then t else ts i) b = some x := r
    by_cases hi : i = Ω.length
    · rw [if_pos hi] at r; exact h2.free (n b x r)
    · rw [if_neg hi] at r; exact h4 i b x (by omega) r
  · have r : (if i = Ω.length then t else ts i) b = some x := r
    show (if j = Ω.length then t else ts j) b = none
    by_cases hi : i = Ω.length
    · rw [if_pos hi] at r
      rw [if_neg (fun z => ne (hi.trans z.symm))]
      exact (h3 j (by omega)).free (n b x r)
    · rw [if_neg hi] at r
      by_cases hj : j = Ω.length
      · rw [if_pos hj]
        cases q : t b with
        | none => rfl
        | some y => exact (nn (h3 i (by omega) b x r) (n b y q)).elim
      · rw [if_neg hj]; exact h5 i j b x (by omega) (by omega) ne r
theorem sng_some {b : Addr} {x : HO} (e : upd (fun _ => none) p u b = some x) : b = p := by
  by_cases h : b = p
  · exact h
  · rw [upd_ne h] at e; cases e
theorem Holds.newL (h : Holds F Ω H) (n : H p = none) (ok : o.P F (upd (fun _ => none) p u)) : Holds F (Ω ++ [o]) (upd H p u) :=
  h.newO (t := upd (fun _ => none) p u) (fun b x e => by rw [sng_some e]; exact n) (same_upd n) (fun b x e => by
    have hb := sng_some e
    subst hb; rw [upd_same] at e ⊢; exact e) ok
/-- the thing at i: its part of the heap; it may be changed there -/
theorem Holds.get (h : Holds F Ω H) (q : Ω[i]? = some o) : ∃ t, o.P F t ∧ Same t H ∧ (∀ b x, t b = some x → F b = none) ∧
    ∀ (o' : OA) (a : Addr) (u u' : HO), t a = some u → o'.P F (upd t a u') → Holds F (Ω.set i o') (upd H a u') := by
  obtain ⟨ts, h1, h2, h3, h4, h5⟩ := h
  have lt := getlt q
  refine ⟨ts i, h1 i o q, h3 i lt, fun b x e => h4 i b x lt e, fun o' a u u' ha ok => ?_⟩
  have nF : F a = none := h4 i a u lt ha
  have tj : ∀ j, j < Ω.length → j ≠ i → ts j a = none := fun j lj ne => h5 i j a u lt lj (fun z => ne z.symm) ha
  refine ⟨fun k => if k = i then upd (ts i) a u' else ts k, fun k x r => ?_, fun b x e => ?_, fun k lk b x e => ?_, fun k b x lk e => ?_, fun k m b x lk lm ne e => ?_⟩
  · show x.P F (if k = i then _ else ts k)
    by_cases hk : k = i
    · subst hk
      rw [List.getElem?_set_self lt] at r; cases r; rw [if_pos rfl]; exact ok
    · rw [if_neg hk]
      rw [List.getElem?_set_ne (fun z => hk z.symm)] at r
      exact h1 k x r
  · rw [upd_ne (ne_of_none e nF)]; exact h2 b x e
  · rw [List.length_set] at lk
    have e : (if k = i then upd (ts i) a u' else ts k) b = some x := e
    by_cases hk : k = i
    · rw [if_pos hk] at e
      by_cases hb : b = a
      · subst hb; rw [upd_same] at e ⊢; exact e
      · rw [upd_ne hb] at e ⊢; exact h3 i lt b x e
    · rw [if_neg hk] at e
      rw [upd_ne (ne_of_none e (tj k lk hk))]; exact h3 k lk b x e
  · rw [List.length_set] at lk
    have e : (if k = i then upd (ts i) a u' else ts k) b = some x := e
    by_cases hk : k = i
    · rw [if_pos hk] at e
      by_cases hb : b = a
      · subst hb; exact nF
      · rw [upd_ne hb] at e; exact h4 i b x lt e
    · rw [if_neg hk] at e; exact h4 k b x lk e
  · rw [List.length_set] at lk lm
    have e : (if k = i then upd (ts i) a u' else ts k) b = some x := e
    show (if m = i then upd (ts i) a u' else ts m) b = none
    by_cases hk : k = i
    · rw [if_pos hk] at e
      have hm : m ≠ i := fun z => ne (hk.trans z.symm)
      rw [if_neg hm]
      by_cases hb : b = a
      · subst hb; exact tj m lm hm
      · rw [upd_ne hb] at e; exact h5 i m b x lt lm (fun z => hm z.symm) e
    · rw [if_neg hk] at e
      by_cases hm : m = i
      · rw [if_pos hm]
        have hb : b ≠ a := ne_of_none e (tj k lk hk)
        rw [upd_ne hb]; exact h5 k i b x lk lt hk e
      · rw [if_neg hm]; exact h5 k m b x lk lm ne e
/-- the last thing is left -/
theorem Holds.drop (h : Holds F (Ω ++ [o]) H) : Holds F Ω H := by
  obtain ⟨ts, h1, h2, h3, h4, h5⟩ := h
  have len : (Ω ++ [o]).length = Ω.length + 1 := by simp
  exact ⟨ts, fun i x q => h1 i x (app_lt q), h2, fun i q => h3 i (by omega), fun i b x q => h4 i b x (by omega), fun i j b x qi qj => h5 i j b x (by omega) (by omega)⟩
/-- two maps with nothing in common -/
def cup (F t : Hp) : Hp := fun b => match F b with | some o => some o | none => t b
theorem cup_l {F t : Hp} : Same F (cup F t) := fun b x e => by show (match F b with | some o => some o | none => t b) = _; rw [e]
theorem cup_r {F t : Hp} (d : ∀ b x, t b = some x → F b = none) : Same t (cup F t) := fun b x e => by show (match F b with | some o => some o | none => t b) = _; rw [d b x e]; exact e
theorem cup_or {F t : Hp} {b : Addr} {x : HO} (e : cup F t b = some x) : F b = some x ∨ t b = some x := by
  have e : (match F b with | some o => some o | none => t b) = some x := e
  cases h : F b with
  | none => rw [h] at e; exact .inr e
  | some y => rw [h] at e; exact .inl e
/-- the last thing becomes frozen -/
theorem Holds.freeze (h : Holds F (Ω ++ [o]) H) : ∃ F' t, Same F F' ∧ Same t F' ∧ o.P F t ∧ Holds F' Ω H := by
  obtain ⟨ts, h1, h2, h3, h4, h5⟩ := h
  have len : (Ω ++ [o]).length = Ω.length + 1 := by simp
  have d : ∀ b x, ts Ω.length b = some x → F b = none := fun b x e => h4 Ω.length b x (by omega) e
  refine ⟨cup F (ts Ω.length), ts Ω.length, cup_l, cup_r d, h1 _ _ app_at, ts, fun i x q => x.mono cup_l (h1 i x (app_lt q)), fun b x e => ?_, fun i q => h3 i (by omega), fun i b x q e => ?_, fun i j b x qi qj => h5 i j b x (by omega) (by omega)⟩
  · rcases cup_or e with e | e
    · exact h2 b x e
    · exact h3 Ω.length (by omega) b x e
  · cases z : cup F (ts Ω.length) b with
    | none => rfl
    | some y =>
      rcases cup_or z with z | z
      · exact (nn z (h4 i b x (by omega) e)).elim
      · exact (nn z (h5 i Ω.length b x (by omega) (by omega) (by omega) e)).elim
/-- the last thing is taken into the thing at i -/
theorem Holds.merge {o2 : OA} (h : Holds F (Ω ++ [o2]) H) (q : Ω[i]? = some o) : ∃ t t2, o.P F t ∧ o2.P F t2 ∧ Same t H ∧ Same t2 H ∧ (∀ b x, t b = some x → t2 b = none) ∧
    (∀ o' : OA, o'.P F (cup t t2) → Holds F (Ω.set i o') H) := by
  obtain ⟨ts, h1, h2, h3, h4, h5⟩ := h
  have len : (Ω ++ [o2]).length = Ω.length + 1 := by simp
  have lt := getlt q
  refine ⟨ts i, ts Ω.length, h1 i o (app_lt q), h1 _ _ app_at, h3 i (by omega), h3 _ (by omega), fun b x e => h5 i Ω.length b x (by omega) (by omega) (by omega) e, fun o' ok => ?_⟩
  refine ⟨fun k => if k = i then cup (ts i) (ts Ω.length) else ts k, fun k x r => ?_, h2, fun k lk b x e => ?_, fun k b x lk e => ?_, fun k m b x lk lm ne e => ?_⟩
  · show x.P F (if k = i then _ else ts k)
    by_cases hk : k = i
    · subst hk
      rw [List.getElem?_set_self lt] at r; cases r; rw [if_pos rfl]; exact ok
    · rw [if_neg hk]
      rw [List.getElem?_set_ne (fun z => hk z.symm)] at r
      exact h1 k x (app_lt r)
  · rw [List.length_set] at lk
    have e : (if k = i then cup (ts i) (ts Ω.length) else ts k) b = some x := e
    by_cases hk : k = i
    · rw [if_pos hk] at e
      rcases cup_or e with e | e
      · exact h3 i (by omega) b x e
      · exact h3 Ω.length (by omega) b x e
    · rw [if_neg hk] at e; exact h3 k (by omega) b x e
  · rw [List.length_set] at lk
    have e : (if k = i then cup (ts i) (ts Ω.length) else ts k) b = some x := e
    by_cases hk : k = i
    · rw [if_pos hk] at e
      rcases cup_or e with e | e
      · exact h4 i b x (by omega) e
      · exact h4 Ω.length b x (by omega) e
    · rw [if_neg hk] at e; exact h4 k b x (by omega) e
  · rw [List.length_set] at lk lm
    have e : (if k = i then cup (ts i) (ts Ω.length) else ts k) b = some x := e
    show (if m = i then cup (ts i) (ts Ω.length) else ts m) b = none
    by_cases hk : k = i
    · rw [if_pos hk] at e
      have hm : m ≠ i := fun z => ne (hk.trans z.symm)
      rw [if_neg hm]
      rcases cup_or e with e | e
      · exact h5 i m b x (by omega) (by omega) (by omega) e
      · exact h5 Ω.length m b x (by omega) (by omega) (by omega) e
    · rw [if_neg hk] at e
      by_cases hm : m = i
      · rw [if_pos hm]
        cases z : cup (ts i) (ts Ω.length) b with
        | none => rfl
        | some y =>
          rcases cup_or z with z | z
          · exact (nn z (h5 k i b x (by omega) (by omega) hk e)).elim
          · exact (nn z (h5 k Ω.length b x (by omega) (by omega) (by omega) e)).elim
      · rw [if_neg hm]; exact h5 k m b x (by omega) (by omega) ne e
end

/-! ### values by what they stand for -/
structure TC where
  K : PySem.W.Frag
  C : Nat → Addr
class Rp (α : Type) where
  rep : TC → Hp → V → α → Prop
  mono : ∀ {T : TC} {F F' : Hp} {v : V} {a : α}, Same F F' → rep T F v a → rep T F' v a
def va (T : TC) {α : Type} [Rp α] (a : α) : VA := ⟨fun F v => Rp.rep T F v a, Rp.mono⟩
def vr (p : Addr) : VA := ⟨fun _ v => v = .ref p, fun _ h => h⟩
def vx (v0 : V) : VA := ⟨fun _ v => v = v0, fun _ h => h⟩
instance : Rp Int := ⟨fun _ _ v n => v = .int n, fun _ h => h⟩
instance : Rp Bool := ⟨fun _ _ v n => v = .bl n, fun _ h => h⟩
instance : Rp Str := ⟨fun _ _ v n => v = .str n, fun _ h => h⟩
instance : Rp Unit := ⟨fun _ _ v _ => v = .non, fun _ h => h⟩
/-- a list that stays, a tuple of one kind, a pair, a triple -/
structure LF (α : Type) where
  l : List α
structure TF (α : Type) where
  l : List α
/-- the script -/
structure SF (α : Type) where
  l : List α
structure T3 (α β γ : Type) where
  a : α
  b : β
  c : γ
def Al {α : Type} [Rp α] (T : TC) (F : Hp) (vs : List V) (l : List α) : Prop := Paired (fun v a => Rp.rep T F v a) vs l
theorem Al.mono {α : Type} [Rp α] {T : TC} {F F' : Hp} (e : Same F F') : ∀ {vs : List V} {l : List α}, Al T F vs l → Al T F' vs l
  | _, _, .nil => .nil
  | _, _, .cons h t => .cons (Rp.mono e h) (Al.mono e t)
theorem Same.tup {K : PySem.W.Frag} {H H' : Hp} {a : Addr} {xs : List V} (e : Same H H') (h : SqT K H a xs) : SqT K H' a xs := by
  rcases h with (h | ⟨o, h⟩) | h
  · exact .inl (.inl (e _ _ h))
  · exact .inl (.inr ⟨o, e _ _ h⟩)
  · exact .inr h
instance {α : Type} [Rp α] : Rp (LF α) := ⟨fun T F v l => ∃ p vs, v = .ref p ∧ F p = some (.lst vs) ∧ Al T F vs l.l, fun e ⟨p, vs, h1, h2, h3⟩ => ⟨p, vs, h1, e _ _ h2, h3.mono e⟩⟩
instance {α : Type} [Rp α] : Rp (SF α) := ⟨fun T F v l => ∃ p vs, v = .ref p ∧ SqL T.K F p vs ∧ Al T F vs l.l, fun e ⟨p, vs, h1, h2, h3⟩ => ⟨p, vs, h1, e.seq h2, h3.mono e⟩⟩
instance {α : Type} [Rp α] : Rp (TF α) := ⟨fun T F v l => ∃ p vs, v = .ref p ∧ SqT T.K F p vs ∧ Al T F vs l.l, fun e ⟨p, vs, h1, h2, h3⟩ => ⟨p, vs, h1, Same.tup e h2, h3.mono e⟩⟩
instance {α β : Type} [Rp α] [Rp β] : Rp (α × β) := ⟨fun T F v l => ∃ p x y, v = .ref p ∧ SqT T.K F p [x, y] ∧ Rp.rep T F x l.1 ∧ Rp.rep T F y l.2, fun e ⟨p, x, y, h1, h2, h3, h4⟩ => ⟨p, x, y, h1, Same.tup e h2, Rp.mono e h3, Rp.mono e h4⟩⟩
instance {α β γ : Type} [Rp α] [Rp β] [Rp γ] : Rp (T3 α β γ) := ⟨fun T F v l => ∃ p x y z, v = .ref p ∧ SqT T.K F p [x, y, z] ∧ Rp.rep T F x l.a ∧ Rp.rep T F y l.b ∧ Rp.rep T F z l.c, fun e ⟨p, x, y, z, h1, h2, h3, h4, h5⟩ => ⟨p, x, y, z, h1, Same.tup e h2, Rp.mono e h3, Rp.mono e h4, Rp.mono e h5⟩⟩
theorem al_int {T : TC} {F : Hp} : ∀ {vs : List V} {l : List Int}, Al T F vs l → vs = l.map V.int
  | _, _, .nil => rfl
  | _, _, .cons h t => by rw [List.map_cons, ← al_int t, show _ = V.int _ from h]
theorem al_of_int {T : TC} {F : Hp} : ∀ {l : List Int}, Al T F (l.map V.int) l
  | [] => .nil
  | x :: r => .cons (show V.int x = V.int x from rfl) al_of_int
theorem al_len {α : Type} [Rp α] {T : TC} {F : Hp} : ∀ {vs : List V} {l : List α}, Al T F vs l → vs.length = l.length
  | _, _, .nil => rfl
  | _, _, .cons _ t => congrArg (· + 1) (al_len t)
theorem al_get {α : Type} [Rp α] {T : TC} {F : Hp} : ∀ {vs : List V} {l : List α} {i : Nat} {a : α}, Al T F vs l → l[i]? = some a → ∃ v, vs[i]? = some v ∧ Rp.rep T F v a
  | _, _, _, _, .nil, e => by simp at e
  | _, _, 0, _, .cons h _, e => by cases e; exact ⟨_, rfl, h⟩
  | _, _, i + 1, _, .cons _ t, e => al_get (i := i) t e
theorem al_get' {α : Type} [Rp α] {T : TC} {F : Hp} : ∀ {vs : List V} {l : List α} {i : Nat} {v : V}, Al T F vs l → vs[i]? = some v → ∃ a, l[i]? = some a ∧ Rp.rep T F v a
  | _, _, _, _, .nil, e => by simp at e
  | _, _, 0, _, .cons h _, e => by cases e; exact ⟨_, rfl, h⟩
  | _, _, i + 1, _, .cons _ t, e => al_get' (i := i) t e
theorem al_set {α : Type} [Rp α] {T : TC} {F : Hp} {v : V} {a : α} (h : Rp.rep T F v a) : ∀ {vs : List V} {l : List α} (i : Nat), Al T F vs l → Al T F (vs.set i v) (l.set i a)
  | _, _, _, .nil => .nil
  | _, _, 0, .cons _ t => .cons h t
  | _, _, i + 1, .cons q t => .cons q (al_set h i t)
theorem al_app {α : Type} [Rp α] {T : TC} {F : Hp} : ∀ {vs ws : List V} {l m : List α}, Al T F vs l → Al T F ws m → Al T F (vs ++ ws) (l ++ m)
  | _, _, _, _, .nil, h => h
  | _, _, _, _, .cons q t, h => .cons q (al_app t h)
theorem al_take {α : Type} [Rp α] {T : TC} {F : Hp} : ∀ {vs : List V} {l : List α} (n : Nat), Al T F vs l → Al T F (vs.take n) (l.take n)
  | _, _, 0, _ => .nil
  | _, _, _ + 1, .nil => .nil
  | _, _, n + 1, .cons q t => .cons q (al_take n t)
theorem al_drop {α : Type} [Rp α] {T : TC} {F : Hp} : ∀ {vs : List V} {l : List α} (n : Nat), Al T F vs l → Al T F (vs.drop n) (l.drop n)
  | _, _, 0, h => h
  | _, _, _ + 1, .nil => .nil
  | _, _, n + 1, .cons _ t => al_drop n t
theorem al_rep {α : Type} [Rp α] {T : TC} {F : Hp} {v : V} {a : α} (h : Rp.rep T F v a) : ∀ n : Nat, Al T F (List.replicate n v) (List.replicate n a)
  | 0 => .nil
  | n + 1 => .cons h (al_rep h n)
theorem al_rev {α : Type} [Rp α] {T : TC} {F : Hp} : ∀ {vs : List V} {l : List α}, Al T F vs l → Al T F vs.reverse l.reverse
  | _, _, .nil => .nil
  | _, _, .cons h t => by rw [List.reverse_cons, List.reverse_cons]; exact al_app (al_rev t) (.cons h .nil)

/-- a list that changes -/
def lstA (T : TC) {α : Type} [Rp α] (p : Addr) (l : List α) : OA := ⟨fun F t => ∃ vs, t p = some (.lst vs) ∧ Al T F vs l, fun e ⟨vs, h1, h2⟩ => ⟨vs, h1, h2.mono e⟩⟩

/-! ### slots -/
def Env (F : Hp) (σ : St) (Γ : List (Option VA)) : Prop := σ.length = Γ.length ∧ ∀ (i : Nat) (A : VA), Γ[i]? = some (some A) → ∃ v, σ[i]? = some (some v) ∧ A.P F v
theorem Env.mono {F F' : Hp} {σ : St} {Γ : List (Option VA)} (h : Env F σ Γ) (e : Same F F') : Env F' σ Γ := ⟨h.1, fun i A q => let ⟨v, h1, h2⟩ := h.2 i A q; ⟨v, h1, A.mono e h2⟩⟩
theorem Env.set {F : Hp} {σ : St} {Γ : List (Option VA)} {i : Nat} {v : V} {A : VA} (h : Env F σ Γ) (a : A.P F v) : Env F (σ.set i (some v)) (Γ.set i (some A)) := by
  refine ⟨by rw [List.length_set, List.length_set]; exact h.1, fun k B q => ?_⟩
  by_cases hk : i = k
  · subst hk
    have lt : i < Γ.length := by have := getlt q; rwa [List.length_set] at this
    rw [List.getElem?_set_self lt] at q
    cases q
    exact ⟨v, by rw [List.getElem?_set_self (by rw [h.1]; exact lt)], a⟩
  · rw [List.getElem?_set_ne hk] at q
    obtain ⟨w, h1, h2⟩ := h.2 k B q
    exact ⟨w, by rw [List.getElem?_set_ne hk]; exact h1, h2⟩
/-- what is known of slots is left -/
theorem Env.weak {F : Hp} {σ : St} {Γ Γ' : List (Option VA)} (h : Env F σ Γ) (hl : Γ'.length = Γ.length) (k : ∀ (i : Nat) A, Γ'[i]? = some (some A) → Γ[i]? = some (some A)) : Env F σ Γ' := ⟨h.1.trans hl.symm, fun i A q => h.2 i A (k i A q)⟩

/-! ### expressions -/
def XG (te : TE) (Γ : List (Option VA)) (Ω : List OA) (R : Hp → V → List OA → Prop) : Prop :=
  ∀ F σ H, Env F σ Γ → Holds F Ω H → ∀ Q : VK, (∀ F' v H' Ω', Same F F' → Holds F' Ω' H' → R F' v Ω' → Q v H') → te σ H Q
abbrev XE (te : TE) (Γ : List (Option VA)) (Ω : List OA) (A : VA) (Ω2 : List OA) : Prop := XG te Γ Ω fun F v Ω' => A.P F v ∧ Ω' = Ω2
def XT (t : TT) (Γ : List (Option VA)) (Ω : List OA) (b : Bool) (Ω2 : List OA) : Prop :=
  ∀ F σ H, Env F σ Γ → Holds F Ω H → ∀ Q : Bool → Hp → Prop, (∀ F' H', Same F F' → Holds F' Ω2 H' → Q b H') → t σ H Q
def AlA (F : Hp) (vs : List V) (As : List VA) : Prop := Paired (fun v (A : VA) => A.P F v) vs As
theorem AlA.mono {F F' : Hp} (e : Same F F') : ∀ {vs : List V} {As : List VA}, AlA F vs As → AlA F' vs As
  | _, _, .nil => .nil
  | _, _, .cons (b := A) h t => .cons (A.mono e h) (AlA.mono e t)
theorem AlA.len {F : Hp} : ∀ {vs : List V} {As : List VA}, AlA F vs As → vs.length = As.length
  | _, _, .nil => rfl
  | _, _, .cons _ t => congrArg (· + 1) (AlA.len t)
theorem AlA.app {F : Hp} : ∀ {vs ws : List V} {As Bs : List VA}, AlA F vs As → AlA F ws Bs → AlA F (vs ++ ws) (As ++ Bs)
  | _, _, _, _, .nil, h => h
  | _, _, _, _, .cons q t, h => .cons q (AlA.app t h)
def XA (t : TA) (Γ : List (Option VA)) (Ω : List OA) (As : List VA) (Ω2 : List OA) : Prop :=
  ∀ F σ H, Env F σ Γ → Holds F Ω H → ∀ Q : List V → Hp → Prop, (∀ F' vs H', Same F F' → Holds F' Ω2 H' → AlA F' vs As → Q vs H') → t σ H Q
/-- a one-place, two-place operation on values, a call on values -/
def RO (r : R2) (Ω : List OA) (A B C : VA) : Prop := ∀ F H x y, Holds F Ω H → A.P F x → B.P F y → ∀ Q : VK, (∀ F' v H', Same F F' → Holds F' Ω H' → C.P F' v → Q v H') → r x y H Q
def RU (r : V → Hp → VK → Prop) (Ω : List OA) (A C : VA) : Prop := ∀ F H x, Holds F Ω H → A.P F x → ∀ Q : VK, (∀ F' v H', Same F F' → Holds F' Ω H' → C.P F' v → Q v H') → r x H Q
def RC (r : List V → Hp → VK → Prop) (Ω : List OA) (As : List VA) (C : VA) : Prop := ∀ F H vs, Holds F Ω H → AlA F vs As → ∀ Q : VK, (∀ F' v H', Same F F' → Holds F' Ω H' → C.P F' v → Q v H') → r vs H Q

section
variable {T : TC} {Γ : List (Option VA)} {Ω Ω1 Ω2 : List OA} {A B C : VA} {ta tb te : TE} {t u : TT} {i j n m : Int} {b c : Bool}
theorem xe_var {i : Nat} (h : Γ[i]? = some (some A)) : XE (tVar i) Γ Ω A Ω := fun F σ H e hh Q q => by
  obtain ⟨v, h1, h2⟩ := e.2 i A h
  exact ⟨v, h1, q F v H Ω (Same.refl F) hh ⟨h2, rfl⟩⟩
theorem xe_c {v : V} (h : ∀ F, A.P F v) : XE (tC v) Γ Ω A Ω := fun F σ H e hh Q q => q F v H Ω (Same.refl F) hh ⟨h F, rfl⟩
theorem xe_int : XE (tC (.int n)) Γ Ω (va T n) Ω := xe_c fun _ => rfl
theorem xe_bl : XE (tC (.bl b)) Γ Ω (va T b) Ω := xe_c fun _ => rfl
theorem xe_str {s : Str} : XE (tC (.str s)) Γ Ω (va T s) Ω := xe_c fun _ => rfl
theorem xe_non : XE (tC .non) Γ Ω (va T ()) Ω := xe_c fun _ => rfl
theorem xe_op {r : R2} (ha : XE ta Γ Ω A Ω1) (hb : XE tb Γ Ω1 B Ω2) (hr : RO r Ω2 A B C) : XE (tOp r ta tb) Γ Ω C Ω2 := fun F σ H e hh Q q => by
  refine ha F σ H e hh _ fun F1 x H1 Ω' e1 hh1 ⟨a1, o1⟩ => ?_
  subst o1
  refine hb F1 σ H1 (e.mono e1) hh1 _ fun F2 y H2 Ω'' e2 hh2 ⟨a2, o2⟩ => ?_
  subst o2
  exact hr F2 H2 x y hh2 (A.mono e2 a1) a2 Q fun F3 v H3 e3 hh3 a3 => q F3 v H3 _ ((e1.trans e2).trans e3) hh3 ⟨a3, rfl⟩
theorem xe_un {r : V → Hp → VK → Prop} (ha : XE ta Γ Ω A Ω1) (hr : RU r Ω1 A C) : XE (tUn r ta) Γ Ω C Ω1 := fun F σ H e hh Q q => by
  refine ha F σ H e hh _ fun F1 x H1 Ω' e1 hh1 ⟨a1, o1⟩ => ?_
  subst o1
  exact hr F1 H1 x hh1 a1 Q fun F3 v H3 e3 hh3 a3 => q F3 v H3 _ (e1.trans e3) hh3 ⟨a3, rfl⟩
theorem xa_nil : XA tNil Γ Ω [] Ω := fun F σ H e hh Q q => q F [] H (Same.refl F) hh .nil
theorem xa_cons {tr : TA} {As : List VA} (ha : XE ta Γ Ω A Ω1) (hr : XA tr Γ Ω1 As Ω2) : XA (tCons ta tr) Γ Ω (A :: As) Ω2 := fun F σ H e hh Q q => by
  refine ha F σ H e hh _ fun F1 x H1 Ω' e1 hh1 ⟨a1, o1⟩ => ?_
  subst o1
  refine hr F1 σ H1 (e.mono e1) hh1 _ fun F2 xs H2 e2 hh2 a2 => ?_
  exact q F2 (x :: xs) H2 (e1.trans e2) hh2 (.cons (A.mono e2 a1) a2)
theorem xe_cb {r : List V → Hp → VK → Prop} {t : TA} {As : List VA} (ha : XA t Γ Ω As Ω1) (hr : RC r Ω1 As C) : XE (tCB r t) Γ Ω C Ω1 := fun F σ H e hh Q q => by
  refine ha F σ H e hh _ fun F1 xs H1 e1 hh1 a1 => ?_
  exact hr F1 H1 xs hh1 a1 Q fun F3 v H3 e3 hh3 a3 => q F3 v H3 _ (e1.trans e3) hh3 ⟨a3, rfl⟩
/-- the same with another word for it -/
theorem XG.imp {R R' : Hp → V → List OA → Prop} (h : XG te Γ Ω R) (k : ∀ F v Ω', R F v Ω' → R' F v Ω') : XG te Γ Ω R' := fun F σ H e hh Q q => h F σ H e hh Q fun F' v H' Ω' e' hh' r => q F' v H' Ω' e' hh' (k _ _ _ r)
theorem XE.to (h : XE te Γ Ω A Ω1) (k : ∀ F v, A.P F v → B.P F v) : XE te Γ Ω B Ω1 := h.imp fun F v Ω' ⟨a, o⟩ => ⟨k F v a, o⟩
theorem xe_eq {α : Type} [Rp α] {a a' : α} (h : XE te Γ Ω (va T a) Ω1) (e : a = a') : XE te Γ Ω (va T a') Ω1 := e ▸ h

/-! ints -/
theorem ro_I0 {g : Int → Int → V} (h : ∀ F, C.P F (g i j)) : RO (rI0 g) Ω (va T i) (va T j) C := fun F H x y hh a1 a2 Q q => ⟨i, j, a1, a2, q F _ H (Same.refl F) hh (h F)⟩
theorem ro_I {D : Int → Int → Prop} {g : Int → Int → V} (hd : D i j) (h : ∀ F, C.P F (g i j)) : RO (rI D g) Ω (va T i) (va T j) C := fun F H x y hh a1 a2 Q q => ⟨i, j, a1, a2, hd, q F _ H (Same.refl F) hh (h F)⟩
theorem ro_int {g : Int → Int → Int} : RO (rI0 fun i j => .int (g i j)) Ω (va T i) (va T j) (va T (g i j)) := ro_I0 fun _ => rfl
theorem ro_intD {D : Int → Int → Prop} {g : Int → Int → Int} (hd : D i j) : RO (rI D fun i j => .int (g i j)) Ω (va T i) (va T j) (va T (g i j)) := ro_I hd fun _ => rfl
theorem ro_bl {g : Int → Int → Bool} : RO (rI0 fun i j => .bl (g i j)) Ω (va T i) (va T j) (va T (g i j)) := ro_I0 fun _ => rfl
theorem ru_int {g : Int → Int} : RU (rU fun i => .int (g i)) Ω (va T i) (va T (g i)) := fun F H x hh a1 Q q => ⟨i, a1, q F _ H (Same.refl F) hh rfl⟩
theorem ro_eqI : RO rEq Ω (va T i) (va T j) (va T (decide (i = j))) := fun F H x y hh a1 a2 Q q => by
  have a1 : x = .int i := a1
  have a2 : y = .int j := a2
  subst a1 a2
  refine ⟨rfl, q F _ H (Same.refl F) hh ?_⟩
  show V.bl _ = V.bl _
  congr 1
  exact decide_eq_decide.mpr ⟨V.int.inj, fun h => by rw [h]⟩
theorem ro_neI : RO rNe Ω (va T i) (va T j) (va T (!decide (i = j))) := fun F H x y hh a1 a2 Q q => by
  have a1 : x = .int i := a1
  have a2 : y = .int j := a2
  subst a1 a2
  refine ⟨rfl, q F _ H (Same.refl F) hh ?_⟩
  show V.bl _ = V.bl _
  congr 2
  exact decide_eq_decide.mpr ⟨V.int.inj, fun h => by rw [h]⟩
theorem ro_eqB : RO rEq Ω (va T b) (va T c) (va T (decide (b = c))) := fun F H x y hh a1 a2 Q q => by
  have a1 : x = .bl b := a1
  have a2 : y = .bl c := a2
  subst a1 a2
  refine ⟨rfl, q F _ H (Same.refl F) hh ?_⟩
  show V.bl _ = V.bl _
  congr 1
  exact decide_eq_decide.mpr ⟨V.bl.inj, fun h => by rw [h]⟩
theorem ro_neB : RO rNe Ω (va T b) (va T c) (va T (!decide (b = c))) := fun F H x y hh a1 a2 Q q => by
  have a1 : x = .bl b := a1
  have a2 : y = .bl c := a2
  subst a1 a2
  refine ⟨rfl, q F _ H (Same.refl F) hh ?_⟩
  show V.bl _ = V.bl _
  congr 2
  exact decide_eq_decide.mpr ⟨V.bl.inj, fun h => by rw [h]⟩

/-! tests -/
theorem xt_test (h : XE te Γ Ω (va T b) Ω1) : XT (tTest te) Γ Ω b Ω1 := fun F σ H e hh Q q => by
  refine h F σ H e hh _ fun F1 x H1 Ω' e1 hh1 ⟨a1, o1⟩ => ?_
  subst o1
  exact ⟨b, a1, q F1 H1 e1 hh1⟩
theorem xt_tB (h : XE te Γ Ω (va T b) Ω1) : XT (tB te) Γ Ω b Ω1 := xt_test (T := T) h
theorem xt_and (h1 : XT t Γ Ω b Ω1) (h2 : b = true → XT u Γ Ω1 c Ω2) (h3 : b = false → Ω1 = Ω2) : XT (tAnd t u) Γ Ω (b && c) Ω2 := fun F σ H e hh Q q => by
  refine h1 F σ H e hh _ fun F1 H1 e1 hh1 => ?_
  cases b with
  | true => rw [if_pos rfl]; exact h2 rfl F1 σ H1 (e.mono e1) hh1 Q fun F2 H2 e2 hh2 => q F2 H2 (e1.trans e2) hh2
  | false => rw [if_neg Bool.false_ne_true]; exact q F1 H1 e1 (h3 rfl ▸ hh1)
theorem xt_or (h1 : XT t Γ Ω b Ω1) (h2 : b = false → XT u Γ Ω1 c Ω2) (h3 : b = true → Ω1 = Ω2) : XT (tOr t u) Γ Ω (b || c) Ω2 := fun F σ H e hh Q q => by
  refine h1 F σ H e hh _ fun F1 H1 e1 hh1 => ?_
  cases b with
  | false => rw [if_neg Bool.false_ne_true]; exact h2 rfl F1 σ H1 (e.mono e1) hh1 Q fun F2 H2 e2 hh2 => q F2 H2 (e1.trans e2) hh2
  | true => rw [if_pos rfl]; exact q F1 H1 e1 (h3 rfl ▸ hh1)
theorem xt_not (h1 : XT t Γ Ω b Ω1) : XT (tNot t) Γ Ω (!b) Ω1 := fun F σ H e hh Q q => h1 F σ H e hh _ q
theorem xt_eq (h : XT t Γ Ω b Ω1) (e : b = c) : XT t Γ Ω c Ω1 := e ▸ h
theorem xe_if (h : XT t Γ Ω b Ω1) (h1 : b = true → XE ta Γ Ω1 A Ω2) (h2 : b = false → XE tb Γ Ω1 A Ω2) : XE (tIf t ta tb) Γ Ω A Ω2 := fun F σ H e hh Q q => by
  refine h F σ H e hh _ fun F1 H1 e1 hh1 => ?_
  cases b with
  | true => rw [if_pos rfl]; exact h1 rfl F1 σ H1 (e.mono e1) hh1 Q fun F2 v H2 Ω' e2 hh2 r => q F2 v H2 Ω' (e1.trans e2) hh2 r
  | false => rw [if_neg Bool.false_ne_true]; exact h2 rfl F1 σ H1 (e.mono e1) hh1 Q fun F2 v H2 Ω' e2 hh2 r => q F2 v H2 Ω' (e1.trans e2) hh2 r
theorem xe_andV (h1 : XE ta Γ Ω (va T b) Ω) (h2 : b = true → XE tb Γ Ω (va T c) Ω) : XE (tAndV ta tb) Γ Ω (va T (b && c)) Ω := fun F σ H e hh Q q => by
  refine h1 F σ H e hh _ fun F1 x H1 Ω' e1 hh1 ⟨a1, o1⟩ => ?_
  subst o1
  refine ⟨b, a1, ?_⟩
  cases b with
  | true => rw [if_pos rfl]; exact h2 rfl F1 σ H1 (e.mono e1) hh1 Q fun F2 v H2 Ω'' e2 hh2 r => q F2 v H2 Ω'' (e1.trans e2) hh2 r
  | false => rw [if_neg Bool.false_ne_true]; exact q F1 _ H1 _ e1 hh1 ⟨rfl, rfl⟩
theorem xe_orV (h1 : XE ta Γ Ω (va T b) Ω) (h2 : b = false → XE tb Γ Ω (va T c) Ω) : XE (tOrV ta tb) Γ Ω (va T (b || c)) Ω := fun F σ H e hh Q q => by
  refine h1 F σ H e hh _ fun F1 x H1 Ω' e1 hh1 ⟨a1, o1⟩ => ?_
  subst o1
  refine ⟨b, a1, ?_⟩
  cases b with
  | false => rw [if_neg Bool.false_ne_true]; exact h2 rfl F1 σ H1 (e.mono e1) hh1 Q fun F2 v H2 Ω'' e2 hh2 r => q F2 v H2 Ω'' (e1.trans e2) hh2 r
  | true => rw [if_pos rfl]; exact q F1 _ H1 _ e1 hh1 ⟨rfl, rfl⟩
theorem xe_notV (h1 : XE ta Γ Ω (va T b) Ω1) : XE (tNotV ta) Γ Ω (va T (!b)) Ω1 := fun F σ H e hh Q q => by
  refine h1 F σ H e hh _ fun F1 x H1 Ω' e1 hh1 ⟨a1, o1⟩ => ?_
  exact ⟨b, a1, q F1 _ H1 _ e1 hh1 ⟨rfl, o1⟩⟩
theorem xe_chain {r r' : R2} {D : VA} {tc : TE} (ha : XE ta Γ Ω A Ω) (hb : XE tb Γ Ω B Ω) (hr : RO r Ω A B (va T b)) (hc : b = true → XE tc Γ Ω D Ω) (hr' : b = true → RO r' Ω B D (va T c)) : XE (tChain r r' ta tb tc) Γ Ω (va T (b && c)) Ω := fun F σ H e hh Q q => by
  refine ha F σ H e hh _ fun F1 x H1 Ω' e1 hh1 ⟨a1, o1⟩ => ?_
  subst o1
  refine hb F1 σ H1 (e.mono e1) hh1 _ fun F2 y H2 Ω'' e2 hh2 ⟨a2, o2⟩ => ?_
  subst o2
  refine hr F2 H2 x y hh2 (A.mono e2 a1) a2 _ fun F3 v H3 e3 hh3 a3 => ⟨b, a3, ?_⟩
  cases b with
  | true =>
    rw [if_pos rfl]
    refine hc rfl F3 σ H3 (e.mono ((e1.trans e2).trans e3)) hh3 _ fun F4 z H4 Ω3 e4 hh4 ⟨a4, o4⟩ => ?_
    subst o4
    exact hr' rfl F4 H4 y z hh4 (B.mono (e3.trans e4) a2) a4 Q fun F5 w H5 e5 hh5 a5 => q F5 w H5 _ ((((e1.trans e2).trans e3).trans e4).trans e5) hh5 ⟨a5, rfl⟩
  | false => rw [if_neg Bool.false_ne_true]; exact q F3 _ H3 _ ((e1.trans e2).trans e3) hh3 ⟨rfl, rfl⟩
end
end VL

set_option Elab.async false
set_option linter.all false
set_option maxRecDepth 100000
/-! lists, fields, calls, statements -/
namespace VL
open PySem L2

/-! ### defs' promises -/
/-- a promise: of the arguments As in the state Ω, what comes of it -/
abbrev PreT := List VA → List OA → (Hp → V → List OA → Prop) → Prop
def mkSp (Pre : PreT) : Sp := fun vs H Q _ => ∃ F Ω As R, Pre As Ω R ∧ AlA F vs As ∧ Holds F Ω H ∧ ∀ F' v H' Ω', Same F F' → Holds F' Ω' H' → R F' v Ω' → Q v H'
/-- hands back a, leaves Ω2 -/
abbrev RV (A : VA) (Ω2 : List OA) : Hp → V → List OA → Prop := fun F v Ω' => A.P F v ∧ Ω' = Ω2
/-- hands back a new changing thing -/
abbrev RN (Ω2 : List OA) (o : Addr → OA) : Hp → V → List OA → Prop := fun F v Ω' => ∃ p, v = .ref p ∧ Ω' = Ω2 ++ [o p]

/-! ### the changing things by place: those of the caller at the places ks, then a def's own -/
def apk (Ω : List OA) : List (Nat × OA) → List OA
  | [] => Ω
  | p :: r => (apk Ω r).set p.1 p.2
def stt (Ω : List OA) (ks : List (Nat × OA)) (L : List OA) : List OA := apk Ω ks ++ L
theorem apk_len {Ω : List OA} : ∀ ks : List (Nat × OA), (apk Ω ks).length = Ω.length
  | [] => rfl
  | p :: r => by unfold apk; rw [List.length_set, apk_len r]
/-- the places differ and are there -/
structure Okk (Ω : List OA) (keys : List Nat) : Prop where
  nd : keys.Nodup
  lt : ∀ k ∈ keys, k < Ω.length
theorem apk_get {Ω : List OA} : ∀ {ks : List (Nat × OA)} {i : Nat} {k : Nat} {o : OA}, (ks.map (·.1)).Nodup → k < Ω.length → ks[i]? = some (k, o) → (apk Ω ks)[k]? = some o
  | [], _, _, _, _, _, h => by simp at h
  | p :: r, 0, k, o, _, lt, h => by
    cases h
    unfold apk
    rw [List.getElem?_set_self (by rw [apk_len]; exact lt)]
  | p :: r, i + 1, k, o, nd, lt, h => by
    have h : r[i]? = some (k, o) := h
    unfold apk
    obtain ⟨h1, h2⟩ := List.nodup_cons.mp (show (p.1 :: r.map (·.1)).Nodup from nd)
    have ne : p.1 ≠ k := fun e => h1 (List.mem_map.mpr ⟨(k, o), List.mem_of_getElem? h, e.symm⟩)
    rw [List.getElem?_set_ne ne]
    exact apk_get h2 lt h
theorem apk_set {Ω : List OA} : ∀ {ks : List (Nat × OA)} {i : Nat} {k : Nat} {o o' : OA}, (ks.map (·.1)).Nodup → ks[i]? = some (k, o) → (apk Ω ks).set k o' = apk Ω (ks.set i (k, o'))
  | [], _, _, _, _, _, h => by simp at h
  | p :: r, 0, k, o, o', _, h => by
    cases h
    show ((apk Ω r).set k o).set k o' = (apk Ω r).set k o'
    rw [List.set_set]
  | p :: r, i + 1, k, o, o', nd, h => by
    have h : r[i]? = some (k, o) := h
    obtain ⟨h1, h2⟩ := List.nodup_cons.mp (show (p.1 :: r.map (·.1)).Nodup from nd)
    have ne : p.1 ≠ k := fun e => h1 (List.mem_map.mpr ⟨(k, o), List.mem_of_getElem? h, e.symm⟩)
    show ((apk Ω r).set p.1 p.2).set k o' = (apk Ω (r.set i (k, o'))).set p.1 p.2
    rw [List.set_comm _ _ ne, apk_set h2 h]
theorem apk_self {Ω : List OA} : ∀ {ks : List (Nat × OA)}, (∀ p ∈ ks, Ω[p.1]? = some p.2) → apk Ω ks = Ω
  | [], _ => rfl
  | p :: r, h => by
    unfold apk
    rw [apk_self fun q hq => h q (List.mem_cons_of_mem _ hq)]
    apply List.ext_getElem?
    intro k
    have hp := h p List.mem_cons_self
    by_cases e : p.1 = k
    · subst e; rw [List.getElem?_set_self (getlt hp), hp]
    · rw [List.getElem?_set_ne e]
section
variable {Ω : List OA} {keys : List Nat} {ks : List (Nat × OA)} {L : List OA} {i j k : Nat} {o o' : OA}
theorem stt_get (ok : Okk Ω keys) (h : ks[i]? = some (k, o)) (hk : ks.map (·.1) = keys := by rfl) : (stt Ω ks L)[k]? = some o := by
  subst hk
  have hm : k ∈ ks.map (·.1) := List.mem_map.mpr ⟨(k, o), List.mem_of_getElem? h, rfl⟩
  have lt := ok.lt k hm
  unfold stt
  rw [List.getElem?_append_left (by rw [apk_len]; exact lt)]
  exact apk_get ok.nd lt h
theorem stt_set (ok : Okk Ω keys) (h : ks[i]? = some (k, o)) (hk : ks.map (·.1) = keys := by rfl) : (stt Ω ks L).set k o' = stt Ω (ks.set i (k, o')) L := by
  subst hk
  have hm : k ∈ ks.map (·.1) := List.mem_map.mpr ⟨(k, o), List.mem_of_getElem? h, rfl⟩
  have lt := ok.lt k hm
  unfold stt
  rw [List.set_append_left _ _ (by rw [apk_len]; exact lt), apk_set ok.nd h]
theorem stt_getL (h : L[j]? = some o) : (stt Ω ks L)[Ω.length + j]? = some o := by
  unfold stt
  rw [List.getElem?_append_right (by rw [apk_len]; omega), apk_len, Nat.add_sub_cancel_left]
  exact h
theorem stt_setL : (stt Ω ks L).set (Ω.length + j) o' = stt Ω ks (L.set j o') := by
  unfold stt
  rw [List.set_append_right _ _ (by rw [apk_len]; omega), apk_len, Nat.add_sub_cancel_left]
theorem stt_app : stt Ω ks L ++ [o] = stt Ω ks (L ++ [o]) := List.append_assoc _ _ _
theorem stt_self (h : ∀ p ∈ ks, Ω[p.1]? = some p.2) : stt Ω ks [] = Ω := by
  unfold stt
  rw [apk_self h, List.append_nil]
theorem stt_nil : stt Ω ks [] = apk Ω ks := List.append_nil _
theorem apk_out {Ω : List OA} : ∀ {ks : List (Nat × OA)}, k ∉ ks.map (·.1) → (apk Ω ks)[k]? = Ω[k]?
  | [], _ => rfl
  | p :: r, h => by
    unfold apk
    have h : k ∉ p.1 :: r.map (·.1) := h
    rw [List.getElem?_set_ne (fun e => h (by rw [e]; exact List.mem_cons_self))]
    exact apk_out fun m => h (List.mem_cons_of_mem _ m)
theorem stt_getU (h : Ω[k]? = some o) (hn : k ∉ ks.map (·.1) := by simp) : (stt Ω ks L)[k]? = some o := by
  unfold stt
  rw [List.getElem?_append_left (by rw [apk_len]; exact getlt h), apk_out hn]
  exact h
theorem ne_kL (h : k < Ω.length) : k ≠ Ω.length + j := by omega
theorem cal0 : stt (stt Ω ks L) [] [] = stt Ω ks L := List.append_nil _
theorem stt_one {Ω : List OA} : stt Ω [(k, o)] [] = Ω.set k o := List.append_nil _
theorem cal1 (ok : Okk Ω keys) (h : ks[i]? = some (k, o)) (hk : ks.map (·.1) = keys := by rfl) : stt (stt Ω ks L) [(k, o')] [] = stt Ω (ks.set i (k, o')) L := stt_one.trans (stt_set ok h hk)
theorem cal1L : stt (stt Ω ks L) [(Ω.length + j, o')] [] = stt Ω ks (L.set j o') := stt_one.trans stt_setL
theorem stt_two {Ω : List OA} {m : Nat} {o2 : OA} : stt Ω [(k, o), (m, o2)] [] = stt (stt Ω [(m, o2)] []) [(k, o)] [] := by
  rw [stt_one, stt_one]
  exact List.append_nil _
theorem okk0 : Okk Ω [] := ⟨by simp, fun k h => by cases h⟩
theorem okk1 (h : Ω[k]? = some o) : Okk Ω [k] := ⟨by simp, fun m hm => by rw [List.mem_singleton.mp hm]; exact getlt h⟩
theorem okk2 (h : Ω[k]? = some o) (h2 : Ω[j]? = some o') (ne : k ≠ j) : Okk Ω [k, j] := ⟨by simp [ne], fun m hm => by
  rcases List.mem_cons.mp hm with e | e
  · rw [e]; exact getlt h
  · rw [List.mem_singleton.mp e]; exact getlt h2⟩
end
section
variable {T : TC} {Γ : List (Option VA)} {Ω Ω1 Ω2 : List OA} {A B C : VA} {As : List VA} {ta tb te : TE} {t u : TT} {i j n m : Int} {b c : Bool}
theorem xg_call {Pre : PreT} {E : XK} {t : TA} {R : Hp → V → List OA → Prop} (ha : XA t Γ Ω As Ω1) (hp : Pre As Ω1 R) : XG (tCall (mkSp Pre) [] E t) Γ Ω R := fun F σ H e hh Q q => by
  refine ha F σ H e hh _ fun F1 xs H1 e1 hh1 a1 => ?_
  refine ⟨F1, Ω1, As, R, hp, by rw [List.append_nil]; exact a1, hh1, fun F' v H' Ω' e' hh' r => q F' v H' Ω' (e1.trans e') hh' r⟩
theorem xg_callD {Pre : PreT} {E : XK} {t : TA} {dvs : List V} {Ds : List VA} {R : Hp → V → List OA → Prop} (ha : XA t Γ Ω As Ω1) (hd : ∀ F, AlA F dvs Ds) (hp : Pre (As ++ Ds) Ω1 R) : XG (tCall (mkSp Pre) dvs E t) Γ Ω R := fun F σ H e hh Q q => by
  refine ha F σ H e hh _ fun F1 xs H1 e1 hh1 a1 => ?_
  exact ⟨F1, Ω1, As ++ Ds, R, hp, a1.app (hd F1), hh1, fun F' v H' Ω' e' hh' r => q F' v H' Ω' (e1.trans e') hh' r⟩
/-- keyword arguments: gV places them -/
theorem xg_callK {Pre : PreT} {E : XK} {t tk : TA} {Ks Bs : List VA} {gV : List V → List V → List V} {R : Hp → V → List OA → Prop} (ha : XA t Γ Ω As Ω1) (hk : XA tk Γ Ω1 Ks Ω2)
    (hg : ∀ F vs zs, AlA F vs As → AlA F zs Ks → AlA F (gV vs zs) Bs) (hp : Pre Bs Ω2 R) : XG (tCallK (mkSp Pre) gV E t tk) Γ Ω R := fun F σ H e hh Q q => by
  refine ha F σ H e hh _ fun F1 xs H1 e1 hh1 a1 => ?_
  refine hk F1 σ H1 (e.mono e1) hh1 _ fun F2 zs H2 e2 hh2 a2 => ?_
  exact ⟨F2, Ω2, Bs, R, hp, hg F2 xs zs (a1.mono e2) a2, hh2, fun F' v H' Ω' e' hh' r => q F' v H' Ω' ((e1.trans e2).trans e') hh' r⟩

/-! ### the state ahead of a statement -/
def NX (F0 : Hp) (Γ : List (Option VA)) (Ω : List OA) : St → Hp → Prop := fun σ H => ∃ F, Same F0 F ∧ Env F σ Γ ∧ Holds F Ω H
def RT (F0 : Hp) (R : Hp → V → List OA → Prop) : VK → Prop := fun Q => ∀ F v H Ω, Same F0 F → Holds F Ω H → R F v Ω → Q v H
def XS (t : TS) (D : Ends) (F0 : Hp) (Γ : List (Option VA)) (Ω : List OA) : Prop := ∀ σ H, NX F0 Γ Ω σ H → t D σ H
theorem RT.mono {F0 F1 : Hp} {R : Hp → V → List OA → Prop} {Q : VK} (k : RT F0 R Q) (e : Same F0 F1) : RT F1 R Q := fun F v H Ω f hh r => k F v H Ω (e.trans f) hh r
variable {D : Ends} {F0 : Hp} {t1 t2 ts : TS} {R : Hp → V → List OA → Prop}
theorem xs_set {k : Nat} (h : XE te Γ Ω A Ω1) (q : XS ts D F0 (Γ.set k (some A)) Ω1) : XS (tSeq (tAsg te (gName k)) ts) D F0 Γ Ω := fun σ H ⟨F, f0, e, hh⟩ =>
  h F σ H e hh _ fun F1 v H1 Ω' e1 hh1 ⟨a1, o1⟩ => q _ H1 ⟨F1, f0.trans e1, (e.mono e1).set a1, o1 ▸ hh1⟩
theorem xs_setN {k : Nat} {o : Addr → OA} (h : XG te Γ Ω (RN Ω1 o)) (q : ∀ p, XS ts D F0 (Γ.set k (some (vr p))) (Ω1 ++ [o p])) : XS (tSeq (tAsg te (gName k)) ts) D F0 Γ Ω := fun σ H ⟨F, f0, e, hh⟩ =>
  h F σ H e hh _ fun F1 v H1 Ω' e1 hh1 ⟨p, a1, o1⟩ => q p _ H1 ⟨F1, f0.trans e1, (e.mono e1).set (A := vr p) a1, o1 ▸ hh1⟩
theorem xs_drop (h : XE te Γ Ω A Ω1) (q : XS ts D F0 Γ Ω1) : XS (tSeq (tDrop te) ts) D F0 Γ Ω := fun σ H ⟨F, f0, e, hh⟩ =>
  h F σ H e hh _ fun F1 v H1 Ω' e1 hh1 ⟨_, o1⟩ => q σ H1 ⟨F1, f0.trans e1, e.mono e1, o1 ▸ hh1⟩
/-- the same as the block's last statement -/
theorem xs_set1 {k : Nat} (h : XE te Γ Ω A Ω1) (q : ∀ σ H, NX F0 (Γ.set k (some A)) Ω1 σ H → D.nx σ H) : XS (tAsg te (gName k)) D F0 Γ Ω := fun σ H ⟨F, f0, e, hh⟩ =>
  h F σ H e hh _ fun F1 v H1 Ω' e1 hh1 ⟨a1, o1⟩ => q _ H1 ⟨F1, f0.trans e1, (e.mono e1).set a1, o1 ▸ hh1⟩
theorem xs_drop1 (h : XE te Γ Ω A Ω1) (q : ∀ σ H, NX F0 Γ Ω1 σ H → D.nx σ H) : XS (tDrop te) D F0 Γ Ω := fun σ H ⟨F, f0, e, hh⟩ =>
  h F σ H e hh _ fun F1 v H1 Ω' e1 hh1 ⟨_, o1⟩ => q σ H1 ⟨F1, f0.trans e1, e.mono e1, o1 ▸ hh1⟩
theorem xs_ret (h : XG te Γ Ω R) (q : RT F0 R D.rt) : XS (tRet te) D F0 Γ Ω := fun σ H ⟨F, f0, e, hh⟩ =>
  h F σ H e hh _ fun F1 v H1 Ω' e1 hh1 r => q F1 v H1 Ω' (f0.trans e1) hh1 r
theorem xs_retN (q : ∀ F H, Same F0 F → Holds F Ω H → R F .non Ω) (k : RT F0 R D.rt) : XS tRetN D F0 Γ Ω := fun σ H ⟨F, f0, e, hh⟩ => k F .non H Ω f0 hh (q F H f0 hh)
/-- what is made in a def and not told is left -/
theorem RT.drop {Q : VK} {A : VA} {o : OA} (k : RT F0 (RV A Ω) Q) : RT F0 (RV A (Ω ++ [o])) Q := fun F v H Ω' f hh ⟨a, e⟩ => by
  subst e
  exact k F v H Ω f hh.drop ⟨a, rfl⟩
theorem RT.fz {α : Type} [Rp α] {Q : VK} {l : List α} {p : Addr} (k : RT F0 (RV (va T (LF.mk l)) Ω) Q) : RT F0 (RV (vr p) (Ω ++ [lstA T p l])) Q := fun F v H Ω' f hh ⟨a, e⟩ => by
  subst e
  obtain ⟨F', t, s1, s2, ⟨vs, ht, al⟩, hh'⟩ := hh.freeze
  exact k F' v H Ω (f.trans s1) hh' ⟨⟨p, vs, a, s2 _ _ ht, al.mono s1⟩, rfl⟩
theorem xs_ifT (h : XT t Γ Ω true Ω1) (q : XS t1 { D with nx := ts D } F0 Γ Ω1) : XS (tSeq (tIfS t t1 t2) ts) D F0 Γ Ω := fun σ H ⟨F, f0, e, hh⟩ =>
  h F σ H e hh _ fun F1 H1 e1 hh1 => by rw [if_pos rfl]; exact q σ H1 ⟨F1, f0.trans e1, e.mono e1, hh1⟩
theorem xs_ifF (h : XT t Γ Ω false Ω1) (q : XS t2 { D with nx := ts D } F0 Γ Ω1) : XS (tSeq (tIfS t t1 t2) ts) D F0 Γ Ω := fun σ H ⟨F, f0, e, hh⟩ =>
  h F σ H e hh _ fun F1 H1 e1 hh1 => by rw [if_neg Bool.false_ne_true]; exact q σ H1 ⟨F1, f0.trans e1, e.mono e1, hh1⟩
theorem xs_ifT1 (h : XT t Γ Ω true Ω1) (q : XS t1 D F0 Γ Ω1) : XS (tIfS t t1 t2) D F0 Γ Ω := fun σ H ⟨F, f0, e, hh⟩ =>
  h F σ H e hh _ fun F1 H1 e1 hh1 => by rw [if_pos rfl]; exact q σ H1 ⟨F1, f0.trans e1, e.mono e1, hh1⟩
theorem xs_ifF1 (h : XT t Γ Ω false Ω1) (q : XS t2 D F0 Γ Ω1) : XS (tIfS t t1 t2) D F0 Γ Ω := fun σ H ⟨F, f0, e, hh⟩ =>
  h F σ H e hh _ fun F1 H1 e1 hh1 => by rw [if_neg Bool.false_ne_true]; exact q σ H1 ⟨F1, f0.trans e1, e.mono e1, hh1⟩
theorem xs_nx (q : ∀ σ H, NX F0 Γ Ω σ H → D.nx σ H) : XS tNext D F0 Γ Ω := q
/-- a statement, a word between, the rest -/
theorem xs_cut {Γ' : List (Option VA)} {Ω' : List OA} (h : XS t1 { D with nx := NX F0 Γ' Ω' } F0 Γ Ω) (k : XS ts D F0 Γ' Ω') : XS (Evl.tCut t1 ts) D F0 Γ Ω := fun σ H n => ⟨NX F0 Γ' Ω', h σ H n, fun σ' H' m => k σ' H' m⟩
/-- what is known is left -/
theorem NX.weak {Γ' : List (Option VA)} {σ : St} {H : Hp} (h : NX F0 Γ Ω σ H) (hl : Γ'.length = Γ.length) (k : ∀ (i : Nat) A, Γ'[i]? = some (some A) → Γ[i]? = some (some A)) : NX F0 Γ' Ω σ H :=
  let ⟨F, f0, e, hh⟩ := h
  ⟨F, f0, e.weak hl k, hh⟩
theorem NX.drop {o : OA} {σ : St} {H : Hp} (h : NX F0 Γ (Ω ++ [o]) σ H) : NX F0 Γ Ω σ H := let ⟨F, f0, e, hh⟩ := h; ⟨F, f0, e, hh.drop⟩
/-- a name's own list becomes frozen -/
theorem NX.fz {α : Type} [Rp α] {l : List α} {p : Addr} {k : Nat} {σ : St} {H : Hp} (h : NX F0 Γ (Ω ++ [lstA T p l]) σ H) (hk : Γ[k]? = some (some (vr p))) : NX F0 (Γ.set k (some (va T (LF.mk l)))) Ω σ H := by
  obtain ⟨F, f0, e, hh⟩ := h
  obtain ⟨F', t, s1, s2, ⟨vs, ht, al⟩, hh'⟩ := hh.freeze
  obtain ⟨v, h1, h2⟩ := e.2 k _ hk
  have e2 := (e.mono s1).set (i := k) (v := v) (A := va T (LF.mk l)) ⟨p, vs, h2, s2 _ _ ht, al.mono s1⟩
  have es : σ.set k (some v) = σ := by
    apply List.ext_getElem?
    intro m
    by_cases hm : k = m
    · subst hm; rw [List.getElem?_set_self (getlt h1)]; exact h1.symm
    · rw [List.getElem?_set_ne hm]
  rw [es] at e2
  exact ⟨F', f0.trans s1, e2, hh'⟩
theorem xs_fz {α : Type} [Rp α] {l : List α} {p : Addr} {k : Nat} (hk : Γ[k]? = some (some (vr p))) (q : XS ts D F0 (Γ.set k (some (va T (LF.mk l)))) Ω) : XS ts D F0 Γ (Ω ++ [lstA T p l]) := fun σ H n => q σ H (n.fz hk)

/-- what an expression makes anew becomes frozen -/
theorem xe_fz {α : Type} [Rp α] {l : List α} (h : XG te Γ Ω (RN Ω1 fun p => lstA T p l)) : XE te Γ Ω (va T (LF.mk l)) Ω1 := fun F σ H e hh Q q =>
  h F σ H e hh Q fun F1 v H1 Ω' e1 hh1 ⟨p, hv, o1⟩ => by
    subst o1
    obtain ⟨F', t, s1, s2, ⟨vs, ht, al⟩, hh'⟩ := hh1.freeze
    exact q F' v H1 _ (e1.trans s1) hh' ⟨⟨p, vs, hv, s2 _ _ ht, al.mono s1⟩, rfl⟩
theorem xs_seq (h : XS t1 { D with nx := ts D } F0 Γ Ω) : XS (tSeq t1 ts) D F0 Γ Ω := h
theorem xs_aug {k : Nat} {g : Int → Int → Int} (hx : Γ[k]? = some (some (va T i))) (h : XE te Γ Ω (va T j) Ω1) (q : XS ts D F0 (Γ.set k (some (va T (g i j)))) Ω1) : XS (tSeq (tAug k te (ipI g)) ts) D F0 Γ Ω := fun σ H ⟨F, f0, e, hh⟩ => by
  obtain ⟨x, h1, h2⟩ := e.2 k _ hx
  refine ⟨x, h1, ?_⟩
  refine h F σ H e hh _ fun F1 v H1 Ω' e1 hh1 ⟨a1, o1⟩ => ?_
  exact ⟨i, j, h2, a1, q _ H1 ⟨F1, f0.trans e1, (e.mono e1).set (A := va T (g i j)) rfl, o1 ▸ hh1⟩⟩
theorem xs_aug1 {k : Nat} {g : Int → Int → Int} (hx : Γ[k]? = some (some (va T i))) (h : XE te Γ Ω (va T j) Ω1) (q : ∀ σ H, NX F0 (Γ.set k (some (va T (g i j)))) Ω1 σ H → D.nx σ H) : XS (tAug k te (ipI g)) D F0 Γ Ω := fun σ H n => xs_aug (ts := tNext) hx h q σ H n
/-! ### tests whose second part may be undefined -/
theorem xt_andO {mb : Option Bool} {v : Bool} (h1 : XT t Γ Ω b Ω) (hm : (if b = true then mb else some false) = some v) (h2 : ∀ v, mb = some v → XT u Γ Ω v Ω) : XT (tAnd t u) Γ Ω v Ω := fun F σ H e hh Q q => by
  refine h1 F σ H e hh _ fun F1 H1 e1 hh1 => ?_
  cases b with
  | true =>
    rw [if_pos rfl] at hm ⊢
    exact h2 v hm F1 σ H1 (e.mono e1) hh1 Q fun F2 H2 e2 hh2 => q F2 H2 (e1.trans e2) hh2
  | false =>
    rw [if_neg Bool.false_ne_true] at hm ⊢
    cases hm
    exact q F1 H1 e1 hh1
theorem xt_orO {mb : Option Bool} {v : Bool} (h1 : XT t Γ Ω b Ω) (hm : (if b = true then some true else mb) = some v) (h2 : ∀ v, mb = some v → XT u Γ Ω v Ω) : XT (tOr t u) Γ Ω v Ω := fun F σ H e hh Q q => by
  refine h1 F σ H e hh _ fun F1 H1 e1 hh1 => ?_
  cases b with
  | false =>
    rw [if_neg Bool.false_ne_true] at hm ⊢
    exact h2 v hm F1 σ H1 (e.mono e1) hh1 Q fun F2 H2 e2 hh2 => q F2 H2 (e1.trans e2) hh2
  | true =>
    rw [if_pos rfl] at hm ⊢
    cases hm
    exact q F1 H1 e1 hh1
/-- a known way through a test -/
theorem xt_orF (h1 : XT t Γ Ω false Ω1) (h2 : XT u Γ Ω1 false Ω2) : XT (tOr t u) Γ Ω false Ω2 := xt_or (b := false) (c := false) h1 (fun _ => h2) (fun h => nomatch h)
theorem xt_andT (h1 : XT t Γ Ω true Ω1) (h2 : XT u Γ Ω1 b Ω2) : XT (tAnd t u) Γ Ω b Ω2 := xt_eq (xt_and (b := true) (c := b) h1 (fun _ => h2) (fun h => nomatch h)) (Bool.true_and b)
theorem xe_andT (h1 : XE ta Γ Ω (va T true) Ω1) (h2 : XE tb Γ Ω1 (va T b) Ω2) : XE (tAndV ta tb) Γ Ω (va T b) Ω2 := fun F σ H e hh Q q => by
  refine h1 F σ H e hh _ fun F1 x H1 Ω' e1 hh1 ⟨a1, o1⟩ => ?_
  subst o1
  refine ⟨true, a1, ?_⟩
  rw [if_pos rfl]
  exact h2 F1 σ H1 (e.mono e1) hh1 Q fun F2 v H2 Ω'' e2 hh2 r => q F2 v H2 Ω'' (e1.trans e2) hh2 r
theorem xt_notF (h1 : XT t Γ Ω true Ω1) : XT (tNot t) Γ Ω false Ω1 := xt_not h1
theorem xt_notT (h1 : XT t Γ Ω false Ω1) : XT (tNot t) Γ Ω true Ω1 := xt_not h1
/-- what an expression's value must be to go on -/
def chk (b : Bool) : Option Unit := if b = true then some () else none
theorem chk_some {b : Bool} {r : Unit} (h : chk b = some r) : b = true := by
  unfold chk at h
  split at h
  · assumption
  · cases h
/-! ### new things by place -/
theorem xn_stt {ks : List (Nat × OA)} {L : List OA} {o : Addr → OA} {Ω0 : List OA} (h : XG te Γ Ω0 (RN (stt Ω ks L) o)) : XG te Γ Ω0 (fun F v Ω' => ∃ p, v = .ref p ∧ Ω' = stt Ω ks (L ++ [o p])) := h.imp fun F v Ω' ⟨p, hv, ho⟩ => ⟨p, hv, by rw [ho, stt_app]⟩
theorem xs_setO {k : Nat} {ks : List (Nat × OA)} {L : List OA} {o : Addr → OA} {Ω0 : List OA} (h : XG te Γ Ω0 (RN (stt Ω ks L) o)) (q : ∀ p, XS ts D F0 (Γ.set k (some (vr p))) (stt Ω ks (L ++ [o p]))) : XS (tSeq (tAsg te (gName k)) ts) D F0 Γ Ω0 :=
  xs_setN h fun p => by rw [stt_app]; exact q p
theorem xe_call {Pre : PreT} {E : XK} {t : TA} {Ω' : List OA} (ha : XA t Γ Ω As Ω1) (hp : Pre As Ω1 (RV A Ω')) (he : Ω' = Ω2) : XE (tCall (mkSp Pre) [] E t) Γ Ω A Ω2 := he ▸ xg_call ha hp
theorem xe_callK {Pre : PreT} {E : XK} {t tk : TA} {Ks Bs : List VA} {gV : List V → List V → List V} {Ω' Ω3 : List OA} (ha : XA t Γ Ω As Ω1) (hk : XA tk Γ Ω1 Ks Ω2) (hg : ∀ F vs zs, AlA F vs As → AlA F zs Ks → AlA F (gV vs zs) Bs) (hp : Pre Bs Ω2 (RV A Ω')) (he : Ω' = Ω3) : XE (tCallK (mkSp Pre) gV E t tk) Γ Ω A Ω3 := he ▸ xg_callK ha hk hg hp
theorem xn_call {Pre : PreT} {E : XK} {t : TA} {Ω' : List OA} {o : Addr → OA} (ha : XA t Γ Ω As Ω1) (hp : Pre As Ω1 (RN Ω' o)) (he : Ω' = Ω2) : XG (tCall (mkSp Pre) [] E t) Γ Ω (RN Ω2 o) := he ▸ xg_call ha hp
theorem xs_fzL {α : Type} [Rp α] {l : List α} {p : Addr} {k : Nat} {ks : List (Nat × OA)} {L : List OA} (hk : Γ[k]? = some (some (vr p))) (q : XS ts D F0 (Γ.set k (some (va T (LF.mk l)))) (stt Ω ks L)) : XS ts D F0 Γ (stt Ω ks (L ++ [lstA T p l])) := by
  rw [← stt_app]
  exact xs_fz hk q
theorem RT.dropL {Q : VK} {A : VA} {o : OA} {ks : List (Nat × OA)} {L : List OA} (k : RT F0 (RV A (stt Ω ks L)) Q) : RT F0 (RV A (stt Ω ks (L ++ [o]))) Q := by
  rw [← stt_app]
  exact k.drop
theorem NX.forget {σ : L2.St} {H : Hp} (h : NX F0 Γ Ω σ H) (k : Nat) : NX F0 (Γ.set k none) Ω σ H := h.weak (by rw [List.length_set]) fun i A q => by
  by_cases e : k = i
  · subst e
    have lt : k < Γ.length := by have := getlt q; rwa [List.length_set] at this
    rw [List.getElem?_set_self lt] at q
    cases q
  · rwa [List.getElem?_set_ne e] at q
theorem NX.dropL {o : OA} {ks : List (Nat × OA)} {L : List OA} {σ : L2.St} {H : Hp} (h : NX F0 Γ (stt Ω ks (L ++ [o])) σ H) : NX F0 Γ (stt Ω ks L) σ H := by
  rw [← stt_app] at h
  exact h.drop
theorem xs_forget (k : Nat) (q : XS ts D F0 (Γ.set k none) Ω) : XS ts D F0 Γ Ω := fun σ H n => q σ H (n.forget k)
theorem xs_dropL {o : OA} {ks : List (Nat × OA)} {L : List OA} (q : XS ts D F0 Γ (stt Ω ks L)) : XS ts D F0 Γ (stt Ω ks (L ++ [o])) := fun σ H n => q σ H n.dropL
/-- nothing -/
def nilA : OA := ⟨fun _ _ => True, fun _ _ => trivial⟩
theorem Holds.freezeAt {F H : Hp} {Ω : List OA} {o : OA} {i : Nat} (h : Holds F Ω H) (q : Ω[i]? = some o) : ∃ F' t, Same F F' ∧ Same t F' ∧ o.P F t ∧ Holds F' (Ω.set i nilA) H := by
  obtain ⟨ts, h1, h2, h3, h4, h5⟩ := h
  have lt := getlt q
  have d : ∀ b x, ts i b = some x → F b = none := fun b x e => h4 i b x lt e
  refine ⟨cup F (ts i), ts i, cup_l, cup_r d, h1 _ _ q, fun k => if k = i then (fun _ => none) else ts k, fun k x r => ?_, fun b x e => ?_, fun k r b x e => ?_, fun k b x r e => ?_, fun k m b x r r2 ne e => ?_⟩
  · show x.P _ (if k = i then (fun _ => none) else ts k)
    by_cases hk : k = i
    · subst hk
      rw [List.getElem?_set_self lt] at r
      cases r
      exact trivial
    · rw [if_neg hk]
      rw [List.getElem?_set_ne (fun z => hk z.symm)] at r
      exact x.mono cup_l (h1 k x r)
  · rcases cup_or e with e | e
    · exact h2 b x e
    · exact h3 i lt b x e
  · rw [List.length_set] at r
    have e : (if k = i then (fun _ => none) else ts k) b = some x := e
    by_cases hk : k = i
    · rw [if_pos hk] at e; cases e
    · rw [if_neg hk] at e; exact h3 k r b x e
  · rw [List.length_set] at r
    have e : (if k = i then (fun _ => none) else ts k) b = some x := e
    by_cases hk : k = i
    · rw [if_pos hk] at e; cases e
    · rw [if_neg hk] at e
      cases z : cup F (ts i) b with
      | none => rfl
      | some y =>
        rcases cup_or z with z | z
        · exact (nn z (h4 k b x r e)).elim
        · exact (nn z (h5 k i b x r lt hk e)).elim
  · rw [List.length_set] at r r2
    have e : (if k = i then (fun _ => none) else ts k) b = some x := e
    show (if m = i then (fun _ => none) else ts m) b = none
    by_cases hm : m = i
    · rw [if_pos hm]
    · rw [if_neg hm]
      by_cases hk : k = i
      · rw [if_pos hk] at e; cases e
      · rw [if_neg hk] at e; exact h5 k m b x r r2 ne e
theorem NX.fzJ {α : Type} [Rp α] {l : List α} {p : Addr} {k j : Nat} {ks : List (Nat × OA)} {L : List OA} {σ : L2.St} {H : Hp} (h : NX F0 Γ (stt Ω ks L) σ H) (hk : Γ[k]? = some (some (vr p))) (hj : L[j]? = some (lstA T p l)) : NX F0 (Γ.set k (some (va T (LF.mk l)))) (stt Ω ks (L.set j nilA)) σ H := by
  obtain ⟨F, f0, e, hh⟩ := h
  obtain ⟨F', t, s1, s2, ⟨vs, ht, al⟩, hh'⟩ := hh.freezeAt (stt_getL hj)
  rw [stt_setL] at hh'
  obtain ⟨v, h1, h2⟩ := e.2 k _ hk
  have e2 := (e.mono s1).set (i := k) (v := v) (A := va T (LF.mk l)) ⟨p, vs, h2, s2 _ _ ht, al.mono s1⟩
  have es : σ.set k (some v) = σ := by
    apply List.ext_getElem?
    intro m
    by_cases hm : k = m
    · subst hm; rw [List.getElem?_set_self (getlt h1)]; exact h1.symm
    · rw [List.getElem?_set_ne hm]
  rw [es] at e2
  exact ⟨F', f0.trans s1, e2, hh'⟩
theorem xs_fzJ {α : Type} [Rp α] {l : List α} {p : Addr} {k j : Nat} {ks : List (Nat × OA)} {L : List OA} (hk : Γ[k]? = some (some (vr p))) (hj : L[j]? = some (lstA T p l)) (q : XS ts D F0 (Γ.set k (some (va T (LF.mk l)))) (stt Ω ks (L.set j nilA))) : XS ts D F0 Γ (stt Ω ks L) := fun σ H n => q σ H (n.fzJ hk hj)
/-- one of a def's own things stays, the others are left -/
theorem Holds.sel {F H : Hp} {Ω L : List OA} {o : OA} {j : Nat} (h : Holds F (Ω ++ L) H) (q : L[j]? = some o) : Holds F (Ω ++ [o]) H := by
  obtain ⟨ts, h1, h2, h3, h4, h5⟩ := h
  have lj := getlt q
  have len : (Ω ++ L).length = Ω.length + L.length := List.length_append
  have len1 : (Ω ++ [o]).length = Ω.length + 1 := by simp
  have ix : ∀ k, k < Ω.length + 1 → (if k = Ω.length then Ω.length + j else k) < (Ω ++ L).length := fun k hk => by
    split <;> omega
  have inj : ∀ k m, k < Ω.length + 1 → m < Ω.length + 1 → k ≠ m → (if k = Ω.length then Ω.length + j else k) ≠ (if m = Ω.length then Ω.length + j else m) := fun k m hk hm ne => by
    split <;> split <;> omega
  refine ⟨fun k => ts (if k = Ω.length then Ω.length + j else k), fun k x r => ?_, h2, fun k r => h3 _ (ix k (by omega)), fun k b x r e => h4 _ b x (ix k (by omega)) e, fun k m b x r r2 ne e => h5 _ _ b x (ix k (by omega)) (ix m (by omega)) (inj k m (by omega) (by omega) ne) e⟩
  by_cases hk : k = Ω.length
  · subst hk
    rw [app_at] at r
    cases r
    show o.P F (ts (if Ω.length = Ω.length then Ω.length + j else Ω.length))
    rw [if_pos rfl]
    refine h1 _ _ ?_
    rw [List.getElem?_append_right (by omega), Nat.add_sub_cancel_left]
    exact q
  · have lt : k < Ω.length := by have := getlt r; omega
    show x.P F (ts (if k = Ω.length then Ω.length + j else k))
    rw [if_neg hk]
    rw [List.getElem?_append_left lt] at r
    refine h1 _ _ ?_
    rw [List.getElem?_append_left lt]
    exact r
theorem Holds.all {F H : Hp} {Ω : List OA} {ks : List (Nat × OA)} {L : List OA} (h : Holds F (stt Ω ks L) H) : Holds F (stt Ω ks []) H := by
  obtain ⟨ts, h1, h2, h3, h4, h5⟩ := h
  have len : (stt Ω ks L).length = (apk Ω ks).length + L.length := List.length_append
  have e : stt Ω ks [] = apk Ω ks := stt_nil
  rw [e]
  exact ⟨ts, fun i o q => h1 i o (by unfold stt; rw [List.getElem?_append_left (getlt q)]; exact q), h2, fun i q => h3 i (by omega), fun i b x q => h4 i b x (by omega), fun i j b x qi qj => h5 i j b x (by omega) (by omega)⟩
theorem RT.all {Q : VK} {A : VA} {ks : List (Nat × OA)} {L : List OA} (k : RT F0 (RV A (stt Ω ks [])) Q) : RT F0 (RV A (stt Ω ks L)) Q := fun F v H Ω' f hh ⟨a, e⟩ => by
  subst e
  exact k F v H _ f hh.all ⟨a, rfl⟩
/-- the thing at j of a def's own is handed back -/
theorem RT.hand {Q : VK} {o : Addr → OA} {p : Addr} {j : Nat} {ks : List (Nat × OA)} {L : List OA} (k : RT F0 (RN (stt Ω ks []) o) Q) (hj : L[j]? = some (o p)) : RT F0 (RV (vr p) (stt Ω ks L)) Q := fun F v H Ω' f hh ⟨a, e⟩ => by
  subst e
  refine k F v H _ f (Holds.sel (Ω := apk Ω ks) hh hj) ⟨p, a, ?_⟩
  rw [stt_nil]
theorem RT.allN {Q : VK} {o : Addr → OA} {ks : List (Nat × OA)} {L : List OA} (k : RT F0 (RN (stt Ω ks []) o) Q) : RT F0 (RN (stt Ω ks L) o) Q := fun F v H Ω' f hh ⟨p, a, e⟩ => by
  subst e
  rw [stt_app] at hh
  refine k F v H _ f (Holds.sel (Ω := apk Ω ks) (o := o p) (j := L.length) hh app_at) ⟨p, a, ?_⟩
  rw [stt_nil]
/-! ### loops -/
inductive Stp (S ρ : Type) where
  | nx (s : S) | rt (r : ρ) | bk (s : S)
def whileM {S ρ : Type} (c : S → Option Bool) (b : S → Option (Stp S ρ)) : Nat → S → Option (Stp S ρ)
  | 0, _ => none
  | n + 1, s => (c s).bind fun v => if v = true then (b s).bind fun
      | .nx s' => whileM c b n s'
      | .rt r => some (.rt r)
      | .bk s' => some (.nx s')
    else some (.nx s)
def forM' {α S ρ : Type} (b : α → S → Option (Stp S ρ)) : List α → S → Option (Stp S ρ)
  | [], s => some (.nx s)
  | x :: r, s => (b x s).bind fun
      | .nx s' => forM' b r s'
      | .rt v => some (.rt v)
      | .bk s' => some (.nx s')
/-- what a loop hands on -/
def nxt {S ρ : Type} : Stp S ρ → Option S
  | .nx s => some s
  | _ => none
theorem nxt_some {S ρ : Type} {st : Stp S ρ} {s : S} (h : nxt st = some s) : st = .nx s := by
  cases st with
  | nx s' => cases h; rfl
  | rt r => cases h
  | bk s' => cases h
def aft {S ρ : Type} (st : Stp S ρ) (k : S → Option ρ) : Option ρ := match st with
  | .nx s => k s
  | .rt r => some r
  | .bk _ => none
/-- what a block's end must lead to: st by the block's own word -/
structure To {S ρ : Type} (D : Ends) (F0 : Hp) (st : Stp S ρ) (N B : S → St → Hp → Prop) (RR : ρ → Hp → V → List OA → Prop) : Prop where
  nx : ∀ s, st = .nx s → ∀ σ H, N s σ H → D.nx σ H
  ct : ∀ s, st = .nx s → ∀ σ H, N s σ H → D.ct σ H
  bk : ∀ s, st = .bk s → ∀ σ H, B s σ H → D.bk σ H
  rt : ∀ r, st = .rt r → RT F0 (RR r) D.rt
theorem bnd_some {α β : Type} {o : Option α} {f : α → Option β} {r : β} (h : o.bind f = some r) : ∃ a, o = some a ∧ f a = some r := by
  cases o with
  | none => cases h
  | some a => exact ⟨a, rfl, h⟩
theorem xs_while {S ρ : Type} {c : S → Option Bool} {bd : S → Option (Stp S ρ)} {fuel : Nat} {s0 : S} {st : Stp S ρ} {tc : TT} {tb : TS} (G : S → List (Option VA)) (O : S → List OA) (RR : ρ → Hp → V → List OA → Prop)
    (hm : whileM c bd fuel s0 = some st)
    (hc : ∀ s v, c s = some v → XT tc (G s) (O s) v (O s))
    (hb : ∀ s s', c s = some true → bd s = some s' → ∀ F1 D', Same F0 F1 → To D' F1 s' (fun s => NX F1 (G s) (O s)) (fun s => NX F1 (G s) (O s)) RR → XS tb D' F1 (G s) (O s))
    (hn : ∀ s, st = .nx s → ∀ σ H, NX F0 (G s) (O s) σ H → D.nx σ H) (hr : ∀ r, st = .rt r → RT F0 (RR r) D.rt) : XS (tWhile tc tb) D F0 (G s0) (O s0) := by
  intro σ H n0
  refine ⟨fun m σ H => ∃ s, whileM c bd m s = some st ∧ NX F0 (G s) (O s) σ H, ⟨fuel, s0, hm, n0⟩, ?_⟩
  rintro m σ H ⟨s, hs, F, f0, e, hh⟩
  cases m with
  | zero => cases hs
  | succ m =>
    obtain ⟨v, hv, hs⟩ := bnd_some hs
    refine hc s v hv F σ H e hh _ fun F1 H1 e1 hh1 => ?_
    cases v with
    | false =>
      rw [if_neg Bool.false_ne_true]
      rw [if_neg Bool.false_ne_true] at hs
      cases hs
      exact hn s rfl σ H1 ⟨F1, f0.trans e1, e.mono e1, hh1⟩
    | true =>
      rw [if_pos rfl] at hs ⊢
      obtain ⟨s', hs', hs⟩ := bnd_some hs
      have hN : ∀ σ' H', (∃ s2, s' = .nx s2 ∧ NX F0 (G s2) (O s2) σ' H') → ∃ m', m' < m + 1 ∧ ∃ s, whileM c bd m' s = some st ∧ NX F0 (G s) (O s) σ' H' := by
        rintro σ' H' ⟨s2, rfl, n2⟩
        exact ⟨m, Nat.lt_succ_self _, s2, hs, n2⟩
      refine ⟨fun σ' H' => ∃ s2, s' = .nx s2 ∧ NX F0 (G s2) (O s2) σ' H', hN, ?_⟩
      refine hb s s' hv hs' F0 { D with nx := fun σ' H' => ∃ s2, s' = .nx s2 ∧ NX F0 (G s2) (O s2) σ' H', ct := fun σ' H' => ∃ s2, s' = .nx s2 ∧ NX F0 (G s2) (O s2) σ' H', bk := D.nx } (Same.refl _) ⟨fun s2 z σ' H' n2 => ⟨s2, z, n2⟩, fun s2 z σ' H' n2 => ⟨s2, z, n2⟩, fun s2 z σ' H' n2 => ?_, fun r z => ?_⟩ σ H1 ⟨F1, f0.trans e1, e.mono e1, hh1⟩
      · subst z
        cases hs
        exact hn s2 rfl σ' H' n2
      · subst z
        cases hs
        exact hr r rfl
/-- what a for's target does with its item -/
def Tgt (g : TG) (A : VA) (f : List (Option VA) → List (Option VA)) (js : List Nat) : Prop := ∀ F σ Γ x H Ω, Env F σ Γ → Holds F Ω H → A.P F x → ∀ Q : L2.St → Hp → Prop,
  (∀ F' σ' H', Same F F' → Env F' σ' (f Γ) → Holds F' Ω H' → (∀ vs, (∀ j ∈ js, j ∈ vs) → wipe σ' vs = wipe σ vs) → Q σ' H') → g x σ H Q
theorem wipe_set {σ : L2.St} {j : Nat} {v : Option V} : ∀ {vs : List Nat}, j ∈ vs → wipe (σ.set j v) vs = wipe σ vs := by
  intro vs hj
  apply List.ext_getElem?
  intro k
  have len : (wipe (σ.set j v) vs).length = (wipe σ vs).length := by rw [wipe_length, wipe_length, List.length_set]
  by_cases hk : k ∈ vs
  · have : ∀ (τ : L2.St) (vs : List Nat), k ∈ vs → k < τ.length → (wipe τ vs)[k]? = some none := by
      intro τ vs
      induction vs with
      | nil => intro h; cases h
      | cons a r ih =>
        intro h lt
        unfold wipe
        by_cases ha : a = k
        · subst ha; rw [List.getElem?_set_self (by rw [wipe_length]; exact lt)]
        · rw [List.getElem?_set_ne ha]
          rcases List.mem_cons.mp h with z | z
          · exact absurd z.symm ha
          · exact ih z lt
    by_cases lt : k < σ.length
    · rw [this σ vs hk lt, this _ vs hk (by rw [List.length_set]; exact lt)]
    · rw [List.getElem?_eq_none (by rw [wipe_length, List.length_set]; omega), List.getElem?_eq_none (by rw [wipe_length]; omega)]
  · rw [wipe_out hk, wipe_out hk]
    have ne : j ≠ k := fun e => hk (e ▸ hj)
    rw [List.getElem?_set_ne ne]
theorem tgt_name {k : Nat} : Tgt (gName k) A (fun Γ => Γ.set k (some A)) [k] := fun F σ Γ x H Ω e hh a Q q => q F _ H (Same.refl F) (e.set a) hh fun vs h => wipe_set (h k List.mem_cons_self)
theorem tgt_pair {α β : Type} [Rp α] [Rp β] {x : α × β} {k l : Nat} : Tgt (gTup T.K 2 (gCons (gName k) (gCons (gName l) gNil))) (va T x) (fun Γ => (Γ.set k (some (va T x.1))).set l (some (va T x.2))) [k, l] := fun F σ Γ v H Ω e hh a Q q => by
  obtain ⟨p, y, z, rfl, ht, ry, rz⟩ := a
  refine ⟨p, [y, z], rfl, Same.tup hh.same ht, rfl, y, [z], rfl, z, [], rfl, rfl, ?_⟩
  exact q F _ H (Same.refl F) ((e.set (A := va T x.1) ry).set (A := va T x.2) rz) hh fun vs h => (wipe_set (h l (by simp))).trans (wipe_set (h k (by simp)))
theorem tgt_triple {α β γ : Type} [Rp α] [Rp β] [Rp γ] {x : T3 α β γ} {k l m : Nat} : Tgt (gTup T.K 3 (gCons (gName k) (gCons (gName l) (gCons (gName m) gNil)))) (va T x) (fun Γ => ((Γ.set k (some (va T x.a))).set l (some (va T x.b))).set m (some (va T x.c))) [k, l, m] := fun F σ Γ v H Ω e hh a Q q => by
  obtain ⟨p, y, z, w, rfl, ht, ry, rz, rw⟩ := a
  refine ⟨p, [y, z, w], rfl, Same.tup hh.same ht, rfl, y, [z, w], rfl, z, [w], rfl, w, [], rfl, rfl, ?_⟩
  exact q F _ H (Same.refl F) (((e.set (A := va T x.a) ry).set (A := va T x.b) rz).set (A := va T x.c) rw) hh fun vs h => (wipe_set (h m (by simp))).trans ((wipe_set (h l (by simp))).trans (wipe_set (h k (by simp))))
structure Wk {α : Type} (J : It) (Sx : Hp → Prop) (xs : List α) (A : α → VA) : Prop where
  mono : ∀ F F', Same F F' → Sx F → Sx F'
  go : ∀ (i : Nat) F Ω H, Sx F → Holds F Ω H → i < xs.length → J.go i H
  stop : ∀ F Ω H, Sx F → Holds F Ω H → J.stop xs.length H
  yld : ∀ (i : Nat) a F Ω H x H', Sx F → Holds F Ω H → xs[i]? = some a → J.yld i H x H' → ∃ F', Same F F' ∧ Holds F' Ω H' ∧ (A a).P F' x
def XI {α : Type} (wi : TI) (Γ : List (Option VA)) (Ω : List OA) (xs : List α) (A : α → VA) (Ω2 : List OA) : Prop :=
  ∀ F σ H, Env F σ Γ → Holds F Ω H → ∀ R : It → Hp → Prop, (∀ F' J H' Sx, Same F F' → Holds F' Ω2 H' → Wk J Sx xs A → Sx F' → R J H') → wi σ H R
theorem xs_for {α S ρ : Type} {bd : α → S → Option (Stp S ρ)} {s0 : S} {st : Stp S ρ} {wi : TI} {tb : TS} {g : TG} {xs : List α} {A : α → VA} {f : α → List (Option VA) → List (Option VA)} (G : S → List (Option VA)) (O : S → List OA) (RR : ρ → Hp → V → List OA → Prop)
    (hm : forM' bd xs s0 = some st) (hi : XI wi (G s0) Ω xs A (O s0)) {js : List Nat} (ht : ∀ a, Tgt g (A a) (f a) js)
    (hb : ∀ a s s', a ∈ xs → bd a s = some s' → ∀ F1 D', Same F0 F1 → To D' F1 s' (fun s => NX F1 (G s) (O s)) (fun s => NX F1 (G s) (O s)) RR → XS tb D' F1 (f a (G s)) (O s))
    (hn : ∀ s, st = .nx s → ∀ σ H, NX F0 (G s) (O s) σ H → D.nx σ H) (hr : ∀ r, st = .rt r → RT F0 (RR r) D.rt) : XS (tFor wi g tb) D F0 (G s0) Ω := by
  rintro σ H ⟨F, f0, e, hh⟩
  refine hi F σ H e hh _ fun F1 J H1 Sx e1 hh1 W sx => ?_
  refine ⟨fun i m σ H => m = xs.length - i ∧ i ≤ xs.length ∧ ∃ s F, forM' bd (xs.drop i) s = some st ∧ Same F0 F ∧ Sx F ∧ Env F σ (G s) ∧ Holds F (O s) H, ⟨xs.length, by simp, Nat.zero_le _, s0, F1, by rw [List.drop_zero]; exact hm, f0.trans e1, sx, e.mono e1, hh1⟩, ?_⟩
  rintro i m σ H ⟨rfl, hi, s, F, hs, f0, sx, e, hh⟩
  by_cases hlt : i < xs.length
  · refine .inr ⟨W.go i F (O s) H sx hh hlt, ?_⟩
    have hx : xs[i]? = some xs[i] := List.getElem?_eq_getElem hlt
    rw [List.drop_eq_getElem_cons hlt] at hs
    obtain ⟨s', h1, hs⟩ := bnd_some hs
    refine ⟨fun σ' H' => ∃ s2, s' = .nx s2 ∧ ∃ F, Same F0 F ∧ Sx F ∧ Env F σ' (G s2) ∧ Holds F (O s2) H', ?_, fun x H' y => ?_⟩
    · rintro σ' H' ⟨s2, rfl, F', f0', sx', e', hh'⟩
      exact ⟨xs.length - (i + 1), by omega, rfl, hlt, s2, F', hs, f0', sx', e', hh'⟩
    · obtain ⟨F2, e2, hh2, a2⟩ := W.yld i _ F (O s) H x H' sx hh hx y
      refine ht xs[i] F2 σ (G s) x H' (O s) (e.mono e2) hh2 a2 _ fun F3 σ3 H3 e3 en3 hh3 _ => ?_
      have sx3 := W.mono _ _ (e2.trans e3) sx
      have f3 : Same F0 F3 := f0.trans (e2.trans e3)
      have gN : ∀ (s2 : S) (σ' : L2.St) (H' : Hp), NX F3 (G s2) (O s2) σ' H' → ∃ F, Same F0 F ∧ Sx F ∧ Env F σ' (G s2) ∧ Holds F (O s2) H' := fun s2 σ' H' ⟨F4, f4, e4, hh4⟩ => ⟨F4, f3.trans f4, W.mono _ _ f4 sx3, e4, hh4⟩
      have gW : ∀ (s2 : S) (σ' : L2.St) (H' : Hp), NX F3 (G s2) (O s2) σ' H' → NX F0 (G s2) (O s2) σ' H' := fun s2 σ' H' ⟨F4, f4, e4, hh4⟩ => ⟨F4, f3.trans f4, e4, hh4⟩
      refine hb xs[i] s s' (List.getElem_mem hlt) h1 F3 { D with nx := fun σ' H' => ∃ s2, s' = .nx s2 ∧ ∃ F, Same F0 F ∧ Sx F ∧ Env F σ' (G s2) ∧ Holds F (O s2) H', ct := fun σ' H' => ∃ s2, s' = .nx s2 ∧ ∃ F, Same F0 F ∧ Sx F ∧ Env F σ' (G s2) ∧ Holds F (O s2) H', bk := D.nx } f3 ⟨fun s2 z σ' H' n2 => ⟨s2, z, gN s2 σ' H' n2⟩, fun s2 z σ' H' n2 => ⟨s2, z, gN s2 σ' H' n2⟩, fun s2 z σ' H' n2 => ?_, fun r z => ?_⟩ σ3 H3 ⟨F3, Same.refl _, en3, hh3⟩
      · subst z
        cases hs
        exact hn s2 rfl σ' H' (gW s2 σ' H' n2)
      · subst z
        cases hs
        exact (hr r rfl).mono f3
  · have ei : i = xs.length := by omega
    subst ei
    refine .inl ⟨W.stop F (O s) H sx hh, ?_⟩
    rw [List.drop_length] at hs
    cases hs
    exact hn s rfl σ H ⟨F, f0, e, hh⟩
theorem xs_whileS {S ρ : Type} {c : S → Option Bool} {bd : S → Option (Stp S ρ)} {fuel : Nat} {s0 : S} {st : Stp S ρ} {tc : TT} {tb : TS} (G : S → List (Option VA)) (O : S → List OA) (RR : ρ → Hp → V → List OA → Prop)
    (hm : whileM c bd fuel s0 = some st)
    (hc : ∀ s v, c s = some v → XT tc (G s) (O s) v (O s))
    (hb : ∀ s s', c s = some true → bd s = some s' → ∀ F1 D', Same F0 F1 → To D' F1 s' (fun s => NX F1 (G s) (O s)) (fun s => NX F1 (G s) (O s)) RR → XS tb D' F1 (G s) (O s))
    (hn : ∀ s, st = .nx s → XS ts D F0 (G s) (O s)) (hr : ∀ r, st = .rt r → RT F0 (RR r) D.rt) : XS (tSeq (tWhile tc tb) ts) D F0 (G s0) (O s0) :=
  xs_seq (xs_while G O RR hm hc hb (fun s e σ H n => hn s e σ H n) hr)
theorem xs_forS {α S ρ : Type} {bd : α → S → Option (Stp S ρ)} {s0 : S} {st : Stp S ρ} {wi : TI} {tb : TS} {g : TG} {xs : List α} {A : α → VA} {f : α → List (Option VA) → List (Option VA)} (G : S → List (Option VA)) (O : S → List OA) (RR : ρ → Hp → V → List OA → Prop)
    (hm : forM' bd xs s0 = some st) (hi : XI wi (G s0) Ω xs A (O s0)) {js : List Nat} (ht : ∀ a, Tgt g (A a) (f a) js)
    (hb : ∀ a s s', a ∈ xs → bd a s = some s' → ∀ F1 D', Same F0 F1 → To D' F1 s' (fun s => NX F1 (G s) (O s)) (fun s => NX F1 (G s) (O s)) RR → XS tb D' F1 (f a (G s)) (O s))
    (hn : ∀ s, st = .nx s → XS ts D F0 (G s) (O s)) (hr : ∀ r, st = .rt r → RT F0 (RR r) D.rt) : XS (tSeq (tFor wi g tb) ts) D F0 (G s0) Ω :=
  xs_seq (xs_for G O RR hm hi ht hb (fun s e σ H n => hn s e σ H n) hr)
end
end VL

set_option Elab.async false
set_option linter.all false
set_option maxRecDepth 100000
/-! lists, fields, the machine, the numbers, defs -/
namespace VL
open PySem L2

theorem paired_map {α β γ : Type} {R : α → γ → Prop} {f : β → γ} : ∀ {l : List α} {m : List β}, Paired (fun a b => R a (f b)) l m → Paired R l (m.map f)
  | _, _, .nil => .nil
  | _, _, .cons h t => .cons h (paired_map t)
theorem alA_map {α : Type} [Rp α] {T : TC} {F : Hp} : ∀ {vs : List V} {l : List α}, AlA F vs (l.map (va T)) → Al T F vs l
  | _, [], h => by cases h; exact .nil
  | _, a :: r, h => by cases h with | cons h t => exact .cons h (alA_map t)
def cut {α : Type} (l : List α) (lo hi : Option Int) : List α := (l.drop (HT.sIx l.length 0 lo)).take (HT.sIx l.length l.length hi - HT.sIx l.length 0 lo)
theorem cut_len {α : Type} (l : List α) (lo hi : Option Int) : (cut l lo hi).length ≤ l.length := by
  unfold cut
  rw [List.length_take, List.length_drop]
  omega
theorem al_cut {α : Type} [Rp α] {T : TC} {F : Hp} {vs : List V} {l : List α} (lo hi : Option Int) (h : Al T F vs l) : Al T F (cutV vs lo hi) (cut l lo hi) := by
  unfold cut cutV
  rw [al_len h]
  exact al_take _ (al_drop _ h)
theorem al_at {α : Type} [Rp α] {T : TC} {F : Hp} {vs : List V} {l : List α} {i : Int} {a : α} (h : Al T F vs l) (e : atI l i = some a) : ∃ v, atI vs i = some v ∧ Rp.rep T F v a := by
  unfold atI at e ⊢
  rw [al_len h]
  cases hx : ixN l.length i with
  | none => rw [hx] at e; cases e
  | some k =>
    rw [hx] at e
    exact al_get h e

section
variable {T : TC} {Γ : List (Option VA)} {Ω Ω1 Ω2 Ω3 : List OA} {A B C : VA} {As : List VA} {ta tb te : TE} {t u : TT} {i j n m : Int} {b c : Bool} {α : Type} [Rp α] {l l2 : List α} {F0 : Hp} {D : Ends} {ts : TS}

/-! ### what a list holds, whoever holds it -/
def IsL (T : TC) (Ω : List OA) (A : VA) (l : List α) : Prop := ∀ F H v, Holds F Ω H → A.P F v → ∃ p vs, v = .ref p ∧ SqL T.K H p vs ∧ Al T F vs l
def IsLs (T : TC) (Ω : List OA) (A : VA) (l : List α) : Prop := ∀ F H v, Holds F Ω H → A.P F v → ∃ p vs, v = .ref p ∧ H p = some (.lst vs) ∧ Al T F vs l
def IsT (T : TC) (Ω : List OA) (A : VA) (l : List α) : Prop := ∀ F H v, Holds F Ω H → A.P F v → ∃ p vs, v = .ref p ∧ SqT T.K H p vs ∧ Al T F vs l
theorem isLs_LF : IsLs T Ω (va T (LF.mk l)) l := fun F H v hh ⟨p, vs, h1, h2, h3⟩ => ⟨p, vs, h1, hh.same _ _ h2, h3⟩
theorem isL_LF : IsL T Ω (va T (LF.mk l)) l := fun F H v hh ⟨p, vs, h1, h2, h3⟩ => ⟨p, vs, h1, SqL.of (hh.same _ _ h2), h3⟩
theorem isL_SF : IsL T Ω (va T (SF.mk l)) l := fun F H v hh ⟨p, vs, h1, h2, h3⟩ => ⟨p, vs, h1, hh.same.seq h2, h3⟩
theorem isT_TF : IsT T Ω (va T (TF.mk l)) l := fun F H v hh ⟨p, vs, h1, h2, h3⟩ => ⟨p, vs, h1, Same.tup hh.same h2, h3⟩
theorem isLs_M {k : Nat} {p : Addr} (h : Ω[k]? = some (lstA T p l)) : IsLs T Ω (vr p) l := fun F H v hh e => by
  obtain ⟨t, ⟨vs, h1, h2⟩, st, _⟩ := hh.get h
  exact ⟨p, vs, e, st _ _ h1, h2⟩
theorem isL_M {k : Nat} {p : Addr} (h : Ω[k]? = some (lstA T p l)) : IsL T Ω (vr p) l := fun F H v hh e => by
  obtain ⟨t, ⟨vs, h1, h2⟩, st, _⟩ := hh.get h
  exact ⟨p, vs, e, SqL.of (st _ _ h1), h2⟩

def rLen (K : PySem.W.Frag) : List V → Hp → VK → Prop := fun xs H Q => ∃ p ys, xs = [.ref p] ∧ (SqL K H p ys ∨ SqT K H p ys) ∧ Q (.int ys.length) H
theorem cr_len {X : Cx} : CallR X (.builtin "len") (rLen X.K) := call_len_seq
theorem alA1 {F : Hp} {vs : List V} (h : AlA F vs [A]) : ∃ v, vs = [v] ∧ A.P F v := by
  cases h with
  | cons h t => cases t; exact ⟨_, rfl, h⟩
theorem alA2 {F : Hp} {vs : List V} (h : AlA F vs [A, B]) : ∃ v w, vs = [v, w] ∧ A.P F v ∧ B.P F w := by
  cases h with
  | cons h t => cases t with | cons h2 t => cases t; exact ⟨_, _, rfl, h, h2⟩
theorem rc_lenL (h : IsL T Ω A l) : RC (rLen T.K) Ω [A] (va T (l.length : Int)) := fun F H vs hh a Q q => by
  obtain ⟨v, rfl, a1⟩ := alA1 a
  obtain ⟨p, ws, e, hs, al⟩ := h F H v hh a1
  refine ⟨p, ws, by rw [e], .inl hs, q F _ H (Same.refl F) hh ?_⟩
  show V.int _ = V.int _
  rw [al_len al]
theorem rc_lenT (h : IsT T Ω A l) : RC (rLen T.K) Ω [A] (va T (l.length : Int)) := fun F H vs hh a Q q => by
  obtain ⟨v, rfl, a1⟩ := alA1 a
  obtain ⟨p, ws, e, hs, al⟩ := h F H v hh a1
  refine ⟨p, ws, by rw [e], .inr hs, q F _ H (Same.refl F) hh ?_⟩
  show V.int _ = V.int _
  rw [al_len al]
theorem xe_lenL (ha : XE te Γ Ω A Ω1) (h : IsL T Ω1 A l) : XE (tCB (rLen T.K) (tCons te tNil)) Γ Ω (va T (l.length : Int)) Ω1 := xe_cb (xa_cons ha xa_nil) (rc_lenL h)
theorem xe_lenT (ha : XE te Γ Ω A Ω1) (h : IsT T Ω1 A l) : XE (tCB (rLen T.K) (tCons te tNil)) Γ Ω (va T (l.length : Int)) Ω1 := xe_cb (xa_cons ha xa_nil) (rc_lenT h)
theorem ro_ixL {a : α} (h : IsL T Ω A l) (e : atI l i = some a) : RO (rIx T.K) Ω A (va T i) (va T a) := fun F H x y hh a1 a2 Q q => by
  obtain ⟨p, ws, rfl, hs, al⟩ := h F H x hh a1
  obtain ⟨v, hv, rv⟩ := al_at al e
  exact .inl ⟨p, ws, i, v, rfl, a2, hs, hv, q F v H (Same.refl F) hh rv⟩
theorem ro_ixT {a : α} (h : IsT T Ω A l) (e : atI l i = some a) : RO (rIx T.K) Ω A (va T i) (va T a) := fun F H x y hh a1 a2 Q q => by
  obtain ⟨p, ws, rfl, hs, al⟩ := h F H x hh a1
  obtain ⟨v, hv, rv⟩ := al_at al e
  exact .inr (.inl ⟨p, ws, i, v, rfl, a2, hs, hv, q F v H (Same.refl F) hh rv⟩)

/-! new lists -/
theorem xe_lst {ta : TA} (h : XA ta Γ Ω (l.map (va T)) Ω1) (hz : l.length ≤ sizeLine) : XE (tLst ta) Γ Ω (va T (LF.mk l)) Ω1 := fun F σ H e hh Q q => by
  refine h F σ H e hh _ fun F1 xs H1 e1 hh1 a1 => ?_
  have al := alA_map a1
  refine ⟨by rw [al_len al]; exact hz, fun p hp => ?_⟩
  obtain ⟨hh2, e2⟩ := hh1.newF (u := .lst xs) hp
  exact q _ _ _ _ (e1.trans e2) hh2 ⟨⟨p, xs, rfl, upd_same, al.mono e2⟩, rfl⟩
theorem xn_lst {ta : TA} (h : XA ta Γ Ω (l.map (va T)) Ω1) (hz : l.length ≤ sizeLine) : XG (tLst ta) Γ Ω (RN Ω1 fun p => lstA T p l) := fun F σ H e hh Q q => by
  refine h F σ H e hh _ fun F1 xs H1 e1 hh1 a1 => ?_
  have al := alA_map a1
  refine ⟨by rw [al_len al]; exact hz, fun p hp => ?_⟩
  exact q F1 _ _ _ e1 (hh1.newL (o := lstA T p l) hp ⟨xs, upd_same, al⟩) ⟨p, rfl, rfl⟩
theorem xe_tup2 {β : Type} [Rp β] {a : α} {x : β} {ta : TA} (h : XA ta Γ Ω [va T a, va T x] Ω1) : XE (tTup ta) Γ Ω (va T (a, x)) Ω1 := fun F σ H e hh Q q => by
  refine h F σ H e hh _ fun F1 xs H1 e1 hh1 a1 => ?_
  obtain ⟨v, w, rfl, h1, h2⟩ := alA2 a1
  refine ⟨by show 2 ≤ sizeLine; decide, fun p hp => ?_⟩
  obtain ⟨hh2, e2⟩ := hh1.newF (u := .tup [v, w]) hp
  exact q _ _ _ _ (e1.trans e2) hh2 ⟨⟨p, v, w, rfl, SqT.of upd_same, Rp.mono e2 h1, Rp.mono e2 h2⟩, rfl⟩
theorem xe_tup3 {β γ : Type} [Rp β] [Rp γ] {a : α} {x : β} {y : γ} {ta : TA} (h : XA ta Γ Ω [va T a, va T x, va T y] Ω1) : XE (tTup ta) Γ Ω (va T (T3.mk a x y)) Ω1 := fun F σ H e hh Q q => by
  refine h F σ H e hh _ fun F1 xs H1 e1 hh1 a1 => ?_
  cases a1 with
  | cons h1 a1 =>
    obtain ⟨v, w, rfl, h2, h3⟩ := alA2 a1
    refine ⟨by show 3 ≤ sizeLine; decide, fun p hp => ?_⟩
    obtain ⟨hh2, e2⟩ := hh1.newF (u := .tup [_, v, w]) hp
    exact q _ _ _ _ (e1.trans e2) hh2 ⟨⟨p, _, v, w, rfl, SqT.of upd_same, Rp.mono e2 h1, Rp.mono e2 h2, Rp.mono e2 h3⟩, rfl⟩
theorem xe_tupF {ta : TA} (h : XA ta Γ Ω (l.map (va T)) Ω1) (hz : l.length ≤ sizeLine) : XE (tTup ta) Γ Ω (va T (TF.mk l)) Ω1 := fun F σ H e hh Q q => by
  refine h F σ H e hh _ fun F1 xs H1 e1 hh1 a1 => ?_
  have al := alA_map a1
  refine ⟨by rw [al_len al]; exact hz, fun p hp => ?_⟩
  obtain ⟨hh2, e2⟩ := hh1.newF (u := .tup xs) hp
  exact q _ _ _ _ (e1.trans e2) hh2 ⟨⟨p, xs, rfl, SqT.of upd_same, al.mono e2⟩, rfl⟩
/-- xs + ys -/
theorem ro_cat (h : IsLs T Ω A l) (h2 : IsLs T Ω B l2) (hz : l.length + l2.length ≤ sizeLine) : RO rCat Ω A B (va T (LF.mk (l ++ l2))) := fun F H x y hh a1 a2 Q q => by
  obtain ⟨p, vs, rfl, hp, al⟩ := h F H x hh a1
  obtain ⟨p2, vs2, rfl, hp2, al2⟩ := h2 F H y hh a2
  refine ⟨p, p2, vs, vs2, rfl, rfl, hp, hp2, by rw [al_len al, al_len al2]; exact hz, fun d hd => ?_⟩
  obtain ⟨hh2, e2⟩ := hh.newF (u := .lst (vs ++ vs2)) hd
  exact q _ _ _ e2 hh2 ⟨d, _, rfl, upd_same, (al_app al al2).mono e2⟩
theorem rep_flat {β : Type} (x : β) : ∀ n : Nat, (List.replicate n [x]).flatten = List.replicate n x
  | 0 => rfl
  | n + 1 => by rw [List.replicate_succ, List.flatten_cons, rep_flat x n, List.replicate_succ]; rfl
theorem al_repF {vs : List V} {F : Hp} (h : Al T F vs l) : ∀ n : Nat, Al T F (List.replicate n vs).flatten (List.replicate n l).flatten
  | 0 => .nil
  | n + 1 => by rw [List.replicate_succ, List.flatten_cons, List.replicate_succ, List.flatten_cons]; exact al_app h (al_repF h n)
theorem ro_rep (h : IsLs T Ω A l) (h1 : -(2 ^ 63) ≤ i) (h2 : i < 2 ^ 63) (hz : l.length * i.toNat ≤ sizeLine) : RO rRep Ω A (va T i) (va T (LF.mk (List.replicate i.toNat l).flatten)) := fun F H x y hh a1 a2 Q q => by
  obtain ⟨p, vs, rfl, hp, al⟩ := h F H x hh a1
  refine ⟨p, i, vs, rfl, a2, hp, h1, h2, by rw [al_len al]; exact hz, fun d hd => ?_⟩
  obtain ⟨hh2, e2⟩ := hh.newF (u := .lst (List.replicate i.toNat vs).flatten) hd
  exact q _ _ _ e2 hh2 ⟨d, _, rfl, upd_same, (al_repF al _).mono e2⟩
/-- the same into a changing list -/
theorem xn_op {r : R2} {o : Addr → OA} (ha : XE ta Γ Ω A Ω1) (hb : XE tb Γ Ω1 B Ω2) (hr : ∀ F H x y, Holds F Ω2 H → A.P F x → B.P F y → ∀ Q : VK, (∀ p H', Holds F (Ω2 ++ [o p]) H' → Q (.ref p) H') → r x y H Q) : XG (tOp r ta tb) Γ Ω (RN Ω2 o) := fun F σ H e hh Q q => by
  refine ha F σ H e hh _ fun F1 x H1 Ω' e1 hh1 ⟨a1, o1⟩ => ?_
  subst o1
  refine hb F1 σ H1 (e.mono e1) hh1 _ fun F2 y H2 Ω'' e2 hh2 ⟨a2, o2⟩ => ?_
  subst o2
  exact hr F2 H2 x y hh2 (A.mono e2 a1) a2 Q fun p H3 hh3 => q F2 _ H3 _ (e1.trans e2) hh3 ⟨p, rfl, rfl⟩
theorem xn_rep (ha : XE ta Γ Ω A Ω1) (hb : XE tb Γ Ω1 (va T i) Ω2) (h : IsLs T Ω2 A l) (h1 : -(2 ^ 63) ≤ i) (h2 : i < 2 ^ 63) (hz : l.length * i.toNat ≤ sizeLine) : XG (tOp rRep ta tb) Γ Ω (RN Ω2 fun p => lstA T p (List.replicate i.toNat l).flatten) :=
  xn_op ha hb fun F H x y hh a1 a2 Q q => by
    obtain ⟨p, vs, rfl, hp, al⟩ := h F H x hh a1
    refine ⟨p, i, vs, rfl, a2, hp, h1, h2, by rw [al_len al]; exact hz, fun d hd => ?_⟩
    exact q d _ (hh.newL (o := lstA T d _) hd ⟨_, upd_same, al_repF al _⟩)
/-- list(xs) -/
def rList (K : PySem.W.Frag) : List V → Hp → VK → Prop := fun xs H Q => ∃ p ys, xs = [.ref p] ∧ (SqL K H p ys ∨ SqT K H p ys) ∧ ∀ l, H l = none → Q (.ref l) (upd H l (.lst ys))
theorem cr_list {X : Cx} : CallR X (.type "list") (rList X.K) := call_list_of
theorem xe_listL (ha : XE te Γ Ω A Ω1) (h : IsL T Ω1 A l) : XE (tCB (rList T.K) (tCons te tNil)) Γ Ω (va T (LF.mk l)) Ω1 := xe_cb (xa_cons ha xa_nil) fun F H vs hh a Q q => by
  obtain ⟨v, rfl, a1⟩ := alA1 a
  obtain ⟨p, ws, e, hs, al⟩ := h F H v hh a1
  refine ⟨p, ws, by rw [e], .inl hs, fun d hd => ?_⟩
  obtain ⟨hh2, e2⟩ := hh.newF (u := .lst ws) hd
  exact q _ _ _ e2 hh2 ⟨d, _, rfl, upd_same, al.mono e2⟩
theorem xe_listT (ha : XE te Γ Ω A Ω1) (h : IsT T Ω1 A l) : XE (tCB (rList T.K) (tCons te tNil)) Γ Ω (va T (LF.mk l)) Ω1 := xe_cb (xa_cons ha xa_nil) fun F H vs hh a Q q => by
  obtain ⟨v, rfl, a1⟩ := alA1 a
  obtain ⟨p, ws, e, hs, al⟩ := h F H v hh a1
  refine ⟨p, ws, by rw [e], .inr hs, fun d hd => ?_⟩
  obtain ⟨hh2, e2⟩ := hh.newF (u := .lst ws) hd
  exact q _ _ _ e2 hh2 ⟨d, _, rfl, upd_same, al.mono e2⟩
theorem xn_listL (ha : XE te Γ Ω A Ω1) (h : IsL T Ω1 A l) : XG (tCB (rList T.K) (tCons te tNil)) Γ Ω (RN Ω1 fun p => lstA T p l) := fun F σ H e hh Q q => by
  refine xa_cons ha xa_nil F σ H e hh _ fun F1 xs H1 e1 hh1 a => ?_
  obtain ⟨v, rfl, a1⟩ := alA1 a
  obtain ⟨p, ws, ev, hs, al⟩ := h F1 H1 v hh1 a1
  exact ⟨p, ws, by rw [ev], .inl hs, fun d hd => q F1 _ _ _ e1 (hh1.newL (o := lstA T d l) hd ⟨_, upd_same, al⟩) ⟨d, rfl, rfl⟩⟩
/-- tuple(xs): of a list, a new one; of a tuple, itself -/
def rTuple (K : PySem.W.Frag) : List V → Hp → VK → Prop := fun xs H Q => ∃ p ys, xs = [.ref p] ∧ ((SqL K H p ys ∧ ∀ l, H l = none → Q (.ref l) (upd H l (.tup ys))) ∨ (SqT K H p ys ∧ Q (.ref p) H))
theorem cr_tuple {X : Cx} : CallR X (.type "tuple") (rTuple X.K) := call_tuple_of
theorem xe_tupleL (ha : XE te Γ Ω A Ω1) (h : IsL T Ω1 A l) : XE (tCB (rTuple T.K) (tCons te tNil)) Γ Ω (va T (TF.mk l)) Ω1 := xe_cb (xa_cons ha xa_nil) fun F H vs hh a Q q => by
  obtain ⟨v, rfl, a1⟩ := alA1 a
  obtain ⟨p, ws, e, hs, al⟩ := h F H v hh a1
  refine ⟨p, ws, by rw [e], .inl ⟨hs, fun d hd => ?_⟩⟩
  obtain ⟨hh2, e2⟩ := hh.newF (u := .tup ws) hd
  exact q _ _ _ e2 hh2 ⟨d, _, rfl, SqT.of upd_same, al.mono e2⟩
theorem xe_tupleT (ha : XE te Γ Ω (va T (TF.mk l)) Ω1) : XE (tCB (rTuple T.K) (tCons te tNil)) Γ Ω (va T (TF.mk l)) Ω1 := xe_cb (xa_cons ha xa_nil) fun F H vs hh a Q q => by
  obtain ⟨v, rfl, a1⟩ := alA1 a
  obtain ⟨p, ws, e, hs, al⟩ := id a1
  exact ⟨p, ws, by rw [e], .inr ⟨Same.tup hh.same hs, q F _ H (Same.refl F) hh (e ▸ a1)⟩⟩
/-! slices -/
def XO (to : TO) (Γ : List (Option VA)) (Ω : List OA) (o : Option Int) : Prop := ∀ F σ H, Env F σ Γ → Holds F Ω H → ∀ Q : Option Int → Hp → Prop, (∀ F' H', Same F F' → Holds F' Ω H' → Q o H') → to σ H Q
theorem xo_none : XO tNoPart Γ Ω none := fun F σ H e hh Q q => q F H (Same.refl F) hh
theorem xo_some (h : XE te Γ Ω (va T i) Ω) : XO (tPart te) Γ Ω (some i) := fun F σ H e hh Q q => by
  refine h F σ H e hh _ fun F1 x H1 Ω' e1 hh1 ⟨a1, o1⟩ => ?_
  subst o1
  exact ⟨i, a1, q F1 H1 e1 hh1⟩
theorem xe_sliceL {tl th : TO} {lo hi : Option Int} (ha : XE te Γ Ω A Ω1) (hl : XO tl Γ Ω1 lo) (hu : XO th Γ Ω1 hi) (h : IsL T Ω1 A l) : XE (tSl (rSlL T.K) te tl th) Γ Ω (va T (LF.mk (cut l lo hi))) Ω1 := fun F σ H e hh Q q => by
  refine ha F σ H e hh _ fun F1 x H1 Ω' e1 hh1 ⟨a1, o1⟩ => ?_
  subst o1
  refine hl F1 σ H1 (e.mono e1) hh1 _ fun F2 H2 e2 hh2 => ?_
  refine hu F2 σ H2 ((e.mono e1).mono e2) hh2 _ fun F3 H3 e3 hh3 => ?_
  obtain ⟨p, ws, rfl, hs, al⟩ := h F3 H3 x hh3 (A.mono (e2.trans e3) a1)
  refine ⟨p, ws, rfl, hs, fun d hd => ?_⟩
  obtain ⟨hh4, e4⟩ := hh3.newF (u := .lst (cutV ws lo hi)) hd
  exact q _ _ _ _ (((e1.trans e2).trans e3).trans e4) hh4 ⟨⟨d, _, rfl, upd_same, (al_cut lo hi al).mono e4⟩, rfl⟩
theorem xe_revL (ha : XE te Γ Ω A Ω1) (h : IsL T Ω1 A l) : XE (tRevL T.K te) Γ Ω (va T (LF.mk l.reverse)) Ω1 := fun F σ H e hh Q q => by
  refine ha F σ H e hh _ fun F1 x H1 Ω' e1 hh1 ⟨a1, o1⟩ => ?_
  subst o1
  obtain ⟨p, ws, rfl, hs, al⟩ := h F1 H1 x hh1 a1
  refine ⟨p, ws, rfl, hs, fun d hd => ?_⟩
  obtain ⟨hh4, e4⟩ := hh1.newF (u := .lst ws.reverse) hd
  exact q _ _ _ _ (e1.trans e4) hh4 ⟨⟨d, _, rfl, upd_same, (al_rev al).mono e4⟩, rfl⟩
/-! lists that change -/
theorem xe_app {k : Nat} {p : Addr} {a : α} (h0 : Ω[k]? = some (lstA T p l2)) (hk : Ω1[k]? = some (lstA T p l)) (ha : XE ta Γ Ω (vr p) Ω) (hb : XE tb Γ Ω (va T a) Ω1) (hz : l.length < sizeLine) :
    XE (tBM T.K "list" rAppend ta (tCons tb tNil)) Γ Ω (va T ()) (Ω1.set k (lstA T p (l ++ [a]))) := fun F σ H e hh Q q => by
  refine ha F σ H e hh _ fun F1 x H1 Ω' e1 hh1 ⟨a1, o1⟩ => ?_
  subst o1
  obtain ⟨p0, vs0, e0, h00, _⟩ := isLs_M h0 F1 H1 x hh1 a1
  have a1 : x = .ref p := a1
  subst a1
  cases e0
  refine ⟨.inl ⟨rfl, _, SqL.of h00⟩, ?_⟩
  refine hb F1 σ H1 (e.mono e1) hh1 _ fun F2 y H2 Ω'' e2 hh2 ⟨a2, o2⟩ => ?_
  subst o2
  obtain ⟨t, ⟨vs, h1, al⟩, st, _, wr⟩ := hh2.get hk
  refine ⟨p, vs, y, rfl, rfl, st _ _ h1, by rw [al_len al]; exact hz, ?_⟩
  exact q F2 _ _ _ (e1.trans e2) (wr (lstA T p (l ++ [a])) p _ _ h1 ⟨_, upd_same, al_app al (.cons a2 .nil)⟩) ⟨rfl, rfl⟩
/-- xs[i] = e, xs a name's own list -/
theorem xs_setL {k : Nat} {p : Addr} {a : α} {to ti : TE} {jn : Nat} (hv : XE te Γ Ω (va T a) Ω1) (ho : XE to Γ Ω1 (vr p) Ω1) (hi : XE ti Γ Ω1 (va T i) Ω1) (hk : Ω1[k]? = some (lstA T p l)) (hj : ixN l.length i = some jn) (q : XS ts D F0 Γ (Ω1.set k (lstA T p (l.set jn a)))) :
    XS (tSeq (tAsg te (gSub to ti rSetL)) ts) D F0 Γ Ω := fun σ H ⟨F, f0, e, hh⟩ => by
  refine hv F σ H e hh _ fun F1 v H1 Ω' e1 hh1 ⟨a1, o1⟩ => ?_
  subst o1
  refine ho F1 σ H1 (e.mono e1) hh1 _ fun F2 o H2 Ω' e2 hh2 ⟨a2, o2⟩ => ?_
  subst o2
  refine hi F2 σ H2 ((e.mono e1).mono e2) hh2 _ fun F3 x H3 Ω' e3 hh3 ⟨a3, o3⟩ => ?_
  subst o3
  obtain ⟨t, ⟨vs, h1, al⟩, st, _, wr⟩ := hh3.get hk
  refine ⟨p, vs, i, jn, a2, a3, st _ _ h1, by rw [al_len al]; exact hj, ?_⟩
  exact q σ _ ⟨F3, f0.trans ((e1.trans e2).trans e3), ((e.mono e1).mono e2).mono e3, wr (lstA T p (l.set jn a)) p _ _ h1 ⟨_, upd_same, al_set (Rp.mono (e2.trans e3) a1) jn al⟩⟩
theorem xs_setL1 {k : Nat} {p : Addr} {a : α} {to ti : TE} {jn : Nat} (hv : XE te Γ Ω (va T a) Ω1) (ho : XE to Γ Ω1 (vr p) Ω1) (hi : XE ti Γ Ω1 (va T i) Ω1) (hk : Ω1[k]? = some (lstA T p l)) (hj : ixN l.length i = some jn) (q : ∀ σ H, NX F0 Γ (Ω1.set k (lstA T p (l.set jn a))) σ H → D.nx σ H) :
    XS (tAsg te (gSub to ti rSetL)) D F0 Γ Ω := fun σ H n => xs_setL (ts := tNext) hv ho hi hk hj q σ H n
/-! walks -/
theorem wk_list {p : Addr} {vs : List V} : Wk (Itl T.K p) (fun F => SqL T.K F p vs ∧ Al T F vs l) l (fun a => va T a) where
  mono := fun F F' e ⟨h1, h2⟩ => ⟨e.seq h1, h2.mono e⟩
  go := fun i F Ω H ⟨h1, h2⟩ hh hi => ⟨vs, vs[i]'(by rw [al_len h2]; exact hi), hh.same.seq h1, List.getElem?_eq_getElem _⟩
  stop := fun F Ω H ⟨h1, h2⟩ hh => ⟨vs, hh.same.seq h1, by rw [al_len h2]; exact Nat.le_refl _⟩
  yld := fun i a F Ω H x H' ⟨h1, h2⟩ hh hx y => by
    obtain ⟨e, y⟩ := y
    subst e
    obtain ⟨v, hv, rv⟩ := al_get h2 hx
    have ev := y vs (hh.same.seq h1)
    rw [hv] at ev
    cases ev
    exact ⟨F, Same.refl F, hh, rv⟩
theorem wk_tup {p : Addr} {vs : List V} : Wk (Itt T.K p) (fun F => SqT T.K F p vs ∧ Al T F vs l) l (fun a => va T a) where
  mono := fun F F' e ⟨h1, h2⟩ => ⟨Same.tup e h1, h2.mono e⟩
  go := fun i F Ω H ⟨h1, h2⟩ hh hi => ⟨vs, vs[i]'(by rw [al_len h2]; exact hi), Same.tup hh.same h1, List.getElem?_eq_getElem _⟩
  stop := fun F Ω H ⟨h1, h2⟩ hh => ⟨vs, Same.tup hh.same h1, by rw [al_len h2]; exact Nat.le_refl _⟩
  yld := fun i a F Ω H x H' ⟨h1, h2⟩ hh hx y => by
    obtain ⟨e, y⟩ := y
    subst e
    obtain ⟨v, hv, rv⟩ := al_get h2 hx
    have ev := y vs (Same.tup hh.same h1)
    rw [hv] at ev
    cases ev
    exact ⟨F, Same.refl F, hh, rv⟩
theorem wk_range {n : Nat} {lo : Int} : Wk (Itr lo n) (fun _ => True) ((List.range n).map fun (k : Nat) => lo + (k : Int)) (fun a => va T a) where
  mono := fun _ _ _ _ => trivial
  go := fun i F Ω H _ _ hi => by
    have hi : i < n := by simpa using hi
    exact hi
  stop := fun F Ω H _ _ => by show n ≤ _; simp
  yld := fun i a F Ω H x H' _ hh hx y => by
    obtain ⟨e, y⟩ := y
    subst e y
    refine ⟨F, Same.refl F, hh, ?_⟩
    show V.int _ = V.int a
    rw [List.getElem?_map] at hx
    cases hr : (List.range n)[i]? with
    | none => rw [hr] at hx; cases hx
    | some k =>
      rw [hr] at hx
      have hk : i = k := by
        obtain ⟨h1, h2⟩ := List.getElem?_eq_some_iff.mp hr
        rw [List.getElem_range] at h2
        exact h2
      subst hk
      cases hx
      rfl
theorem xi_list (ha : XE te Γ Ω A Ω1) (h : ∀ F v, A.P F v → ∃ p vs, v = .ref p ∧ SqL T.K F p vs ∧ Al T F vs l) : XI (iList T.K te) Γ Ω l (fun a => va T a) Ω1 := fun F σ H e hh R r => by
  refine ha F σ H e hh _ fun F1 x H1 Ω' e1 hh1 ⟨a1, o1⟩ => ?_
  subst o1
  obtain ⟨p, vs, rfl, h1, al⟩ := h F1 x a1
  exact ⟨p, rfl, ⟨vs, hh1.same.seq h1⟩, r F1 _ H1 _ e1 hh1 wk_list ⟨h1, al⟩⟩
theorem xi_LF (ha : XE te Γ Ω (va T (LF.mk l)) Ω1) : XI (iList T.K te) Γ Ω l (fun a => va T a) Ω1 := xi_list ha fun F v ⟨p, vs, h1, h2, h3⟩ => ⟨p, vs, h1, SqL.of h2, h3⟩
theorem xi_SF (ha : XE te Γ Ω (va T (SF.mk l)) Ω1) : XI (iList T.K te) Γ Ω l (fun a => va T a) Ω1 := xi_list ha fun F v h => h
theorem xi_TF (ha : XE te Γ Ω (va T (TF.mk l)) Ω1) : XI (iTup T.K te) Γ Ω l (fun a => va T a) Ω1 := fun F σ H e hh R r => by
  refine ha F σ H e hh _ fun F1 x H1 Ω' e1 hh1 ⟨a1, o1⟩ => ?_
  subst o1
  obtain ⟨p, vs, rfl, h1, al⟩ := id a1
  exact ⟨p, rfl, ⟨vs, Same.tup hh1.same h1⟩, r F1 _ H1 _ e1 hh1 wk_tup ⟨h1, al⟩⟩
/-- the ints from lo on, so many -/
def rng (lo : Int) (n : Nat) : List Int := (List.range n).map fun (k : Nat) => lo + (k : Int)
theorem xi_range1 {ta : TA} (ha : XA ta Γ Ω [va T i] Ω1) (h1 : -(2 ^ 62) ≤ i) (h2 : i < 2 ^ 62) : XI (iRng1 ta) Γ Ω (rng 0 i.toNat) (fun a => va T a) Ω1 := fun F σ H e hh R r => by
  refine ha F σ H e hh _ fun F1 vs H1 e1 hh1 a1 => ?_
  obtain ⟨v, rfl, b1⟩ := alA1 a1
  have b1 : v = .int i := b1
  subst b1
  exact ⟨i, rfl, h1, h2, r F1 _ H1 _ e1 hh1 wk_range trivial⟩
theorem xi_range2 {ta : TA} (ha : XA ta Γ Ω [va T i, va T j] Ω1) (h1 : -(2 ^ 62) ≤ i ∧ i < 2 ^ 62 ∧ -(2 ^ 62) ≤ j ∧ j < 2 ^ 62) : XI (iRng2 ta) Γ Ω (rng i (j - i).toNat) (fun a => va T a) Ω1 := fun F σ H e hh R r => by
  refine ha F σ H e hh _ fun F1 vs H1 e1 hh1 a1 => ?_
  obtain ⟨v, w, rfl, a1, a2⟩ := alA2 a1
  have a1 : v = .int i := a1
  have a2 : w = .int j := a2
  subst a1 a2
  exact ⟨i, j, rfl, h1, r F1 _ H1 _ e1 hh1 wk_range trivial⟩
theorem rev_get {β : Type} {xs : List β} {i : Nat} {a : β} (h : xs.reverse[i]? = some a) : i < xs.length ∧ xs[xs.length - 1 - i]? = some a := by
  have lt : i < xs.length := by have := getlt h; rwa [List.length_reverse] at this
  rw [List.getElem?_reverse lt] at h
  exact ⟨lt, h⟩
theorem wk_revL {p : Addr} {vs : List V} : Wk (Itv T.K p vs.length) (fun F => SqL T.K F p vs ∧ Al T F vs l) l.reverse (fun a => va T a) where
  mono := fun F F' e ⟨h1, h2⟩ => ⟨e.seq h1, h2.mono e⟩
  go := fun i F Ω H ⟨h1, h2⟩ hh hi => by
    rw [List.length_reverse, ← al_len h2] at hi
    exact ⟨hi, vs, _, hh.same.seq h1, List.getElem?_eq_getElem (by omega)⟩
  stop := fun F Ω H ⟨h1, h2⟩ hh => by show vs.length ≤ _; rw [List.length_reverse, al_len h2]; exact Nat.le_refl _
  yld := fun i a F Ω H x H' ⟨h1, h2⟩ hh hx y => by
    obtain ⟨e, y⟩ := y
    subst e
    obtain ⟨lt, hx⟩ := rev_get hx
    obtain ⟨v, hv, rv⟩ := al_get h2 hx
    have ev := y vs (hh.same.seq h1)
    rw [al_len h2, hv] at ev
    cases ev
    exact ⟨F, Same.refl F, hh, rv⟩
theorem wk_revT {p : Addr} {vs : List V} : Wk (_root_.RT.ItvT T.K p vs.length) (fun F => SqT T.K F p vs ∧ Al T F vs l) l.reverse (fun a => va T a) where
  mono := fun F F' e ⟨h1, h2⟩ => ⟨Same.tup e h1, h2.mono e⟩
  go := fun i F Ω H ⟨h1, h2⟩ hh hi => by
    rw [List.length_reverse, ← al_len h2] at hi
    exact ⟨hi, vs, _, Same.tup hh.same h1, List.getElem?_eq_getElem (by omega)⟩
  stop := fun F Ω H ⟨h1, h2⟩ hh => by show vs.length ≤ _; rw [List.length_reverse, al_len h2]; exact Nat.le_refl _
  yld := fun i a F Ω H x H' ⟨h1, h2⟩ hh hx y => by
    obtain ⟨e, y⟩ := y
    subst e
    obtain ⟨lt, hx⟩ := rev_get hx
    obtain ⟨v, hv, rv⟩ := al_get h2 hx
    have ev := y vs (Same.tup hh.same h1)
    rw [al_len h2, hv] at ev
    cases ev
    exact ⟨F, Same.refl F, hh, rv⟩
theorem xi_revT (ha : XE te Γ Ω (va T (TF.mk l)) Ω1) : XI (_root_.RT.iRevA T.K te) Γ Ω l.reverse (fun a => va T a) Ω1 := fun F σ H e hh R r => by
  refine ha F σ H e hh _ fun F1 x H1 Ω' e1 hh1 ⟨a1, o1⟩ => ?_
  subst o1
  obtain ⟨p, vs, rfl, h1, al⟩ := id a1
  exact ⟨p, vs, rfl, .inr ⟨Same.tup hh1.same h1, r F1 _ H1 _ e1 hh1 wk_revT ⟨h1, al⟩⟩⟩
theorem xi_revL (ha : XE te Γ Ω (va T (LF.mk l)) Ω1) : XI (_root_.RT.iRevA T.K te) Γ Ω l.reverse (fun a => va T a) Ω1 := fun F σ H e hh R r => by
  refine ha F σ H e hh _ fun F1 x H1 Ω' e1 hh1 ⟨a1, o1⟩ => ?_
  subst o1
  obtain ⟨p, vs, rfl, h1, al⟩ := id a1
  exact ⟨p, vs, rfl, .inl ⟨SqL.of (hh1.same _ _ h1), r F1 _ H1 _ e1 hh1 wk_revL ⟨SqL.of h1, al⟩⟩⟩

/-! ### a list comprehension -/
/-- b x s: whether the item is taken, its value, the state behind -/
def lcM {β γ S : Type} (b : β → S → Option (Option γ × S)) : List β → S → Option (List γ × S)
  | [], s => some ([], s)
  | x :: r, s => (b x s).bind fun (o, s') => (lcM b r s').bind fun (ys, s'') => some ((match o with | some y => y :: ys | none => ys), s'')
/-- what is known behind the wiping of the slots vs -/
def wip (Γ : List (Option VA)) : List Nat → List (Option VA)
  | [] => Γ
  | i :: r => (wip Γ r).set i none
theorem env_none {F : Hp} {σ : L2.St} {k : Nat} (h : Env F σ Γ) : Env F (σ.set k none) (Γ.set k none) := by
  refine ⟨by rw [List.length_set, List.length_set]; exact h.1, fun i A q => ?_⟩
  by_cases hk : k = i
  · subst hk
    have lt : k < Γ.length := by have := getlt q; rwa [List.length_set] at this
    rw [List.getElem?_set_self lt] at q
    cases q
  · rw [List.getElem?_set_ne hk] at q
    obtain ⟨w, h1, h2⟩ := h.2 i A q
    exact ⟨w, by rw [List.getElem?_set_ne hk]; exact h1, h2⟩
theorem wip_env {F : Hp} {σ : L2.St} (h : Env F σ Γ) : ∀ vs : List Nat, Env F (wipe σ vs) (wip Γ vs)
  | [] => h
  | i :: r => env_none (wip_env h r)
theorem wipe_wipe {σ : L2.St} (vs : List Nat) : wipe (wipe σ vs) vs = wipe σ vs := by
  have : ∀ (r : List Nat) (τ : L2.St), (∀ i ∈ r, i ∈ vs) → wipe (wipe τ r) vs = wipe τ vs := by
    intro r
    induction r with
    | nil => intro τ _; rfl
    | cons a r ih =>
      intro τ h
      show wipe ((wipe τ r).set a none) vs = _
      rw [wipe_set (h a List.mem_cons_self)]
      exact ih τ fun i hi => h i (List.mem_cons_of_mem _ hi)
  exact this vs σ fun _ h => h
theorem set_app {β : Type} {l : List β} {a b : β} {k : Nat} (h : k < l.length) : (l ++ [a]).set k b = l.set k b ++ [a] := List.set_append_left k b h
theorem set_last {β : Type} {l : List β} {a b : β} : (l ++ [a]).set l.length b = l ++ [b] := by
  rw [List.set_append_right _ _ (Nat.le_refl _)]; simp
theorem xn_lc {β γ S : Type} [Rp γ] {b : β → S → Option (Option γ × S)} {xs : List β} {s0 s1 : S} {ys : List γ} {wi : TI} {g : TG} {tt : TT} {vs : List Nat} {A : β → VA} {f : β → List (Option VA) → List (Option VA)} {js : List Nat} (O : S → List OA)
    (hm : lcM b xs s0 = some (ys, s1)) (hi : XI wi Γ Ω xs A (O s0)) (ht : ∀ a, Tgt g (A a) (f a) js) (hj : ∀ j ∈ js, j ∈ vs) (hz : xs.length ≤ sizeLine)
    (hb : ∀ a s o s', a ∈ xs → b a s = some (o, s') → ∀ X : OA, (o = none → XT tt (f a (wip Γ vs)) (O s ++ [X]) false (O s' ++ [X])) ∧
      (∀ y, o = some y → XT tt (f a (wip Γ vs)) (O s ++ [X]) true (O s ++ [X]) ∧ XE te (f a (wip Γ vs)) (O s ++ [X]) (va T y) (O s' ++ [X]))) :
    XG (tLc wi g tt te vs) Γ Ω (RN (O s1) fun p => lstA T p ys) := by
  intro F σ H e hh Q q
  refine hi F σ H e hh _ fun F1 J H1 Sx e1 hh1 W sx => fun d hd => ?_
  refine ⟨fun i m H => m = xs.length - i ∧ i ≤ xs.length ∧ ∃ s F acc r, lcM b (xs.drop i) s = some (r, s1) ∧ acc ++ r = ys ∧ acc.length ≤ i ∧ Same F1 F ∧ Sx F ∧ Holds F (O s ++ [lstA T d acc]) H,
    ⟨xs.length, by simp, Nat.zero_le _, s0, F1, [], ys, by rw [List.drop_zero]; exact hm, rfl, Nat.zero_le _, Same.refl _, sx, hh1.newL (o := lstA T d ([] : List γ)) hd ⟨[], upd_same, .nil⟩⟩, ?_⟩
  rintro i m H ⟨rfl, hi, s, F, acc, r, hs, he, hl, f1, sx, hh⟩
  by_cases hlt : i < xs.length
  · refine .inr ⟨W.go i F _ H sx hh hlt, ?_⟩
    have hx : xs[i]? = some xs[i] := List.getElem?_eq_getElem hlt
    rw [List.drop_eq_getElem_cons hlt] at hs
    obtain ⟨⟨o, s'⟩, h1, hs⟩ := bnd_some hs
    obtain ⟨⟨r2, s2⟩, h2, hs⟩ := bnd_some hs
    cases hs
    refine ⟨fun H' => ∃ s F acc r, lcM b (xs.drop (i + 1)) s = some (r, s1) ∧ acc ++ r = ys ∧ acc.length ≤ i + 1 ∧ Same F1 F ∧ Sx F ∧ Holds F (O s ++ [lstA T d acc]) H', fun H' n => ⟨xs.length - (i + 1), by omega, rfl, hlt, n⟩, fun x H' y => ?_⟩
    obtain ⟨F2, e2, hh2, a2⟩ := W.yld i _ F _ H x H' sx hh hx y
    have en : Env F2 (wipe σ vs) (wip Γ vs) := wip_env ((e.mono e1).mono (f1.trans e2)) vs
    refine ht xs[i] F2 (wipe σ vs) (wip Γ vs) x H' _ en hh2 a2 _ fun F3 σ3 H3 e3 en3 hh3 hw => ⟨(hw vs hj).trans (wipe_wipe vs), ?_⟩
    obtain ⟨c1, c2⟩ := hb xs[i] s o s' (List.getElem_mem hlt) h1 (lstA T d acc)
    have f3 : Same F1 F3 := f1.trans (e2.trans e3)
    have sx3 := W.mono _ _ (e2.trans e3) sx
    cases o with
    | none =>
      refine c1 rfl F3 σ3 H3 en3 hh3 _ fun F4 H4 e4 hh4 => ?_
      rw [if_neg Bool.false_ne_true]
      exact ⟨s', F4, acc, r2, h2, he, by omega, f3.trans e4, W.mono _ _ e4 sx3, hh4⟩
    | some y =>
      obtain ⟨c3, c4⟩ := c2 y rfl
      refine c3 F3 σ3 H3 en3 hh3 _ fun F4 H4 e4 hh4 => ?_
      rw [if_pos rfl]
      refine c4 F4 σ3 H4 (en3.mono e4) hh4 _ fun F5 v H5 Ω5 e5 hh5 ⟨a5, o5⟩ => ?_
      subst o5
      have hk : (O s' ++ [lstA T d acc])[(O s').length]? = some (lstA T d acc) := app_at
      obtain ⟨t, ⟨ws, w1, al⟩, st, _, wr⟩ := hh5.get hk
      refine ⟨ws, st _ _ w1, by rw [al_len al]; omega, ?_⟩
      have hh6 := wr (lstA T d (acc ++ [y])) d _ (.lst (ws ++ [v])) w1 ⟨_, upd_same, al_app al (.cons a5 .nil)⟩
      rw [set_last] at hh6
      refine ⟨s', F5, acc ++ [y], r2, h2, by rw [List.append_assoc]; exact he, by rw [List.length_append]; simp; omega, f3.trans (e4.trans e5), W.mono _ _ (e4.trans e5) sx3, hh6⟩
  · have ei : i = xs.length := by omega
    subst ei
    refine .inl ⟨W.stop F _ H sx hh, ?_⟩
    rw [List.drop_length] at hs
    cases hs
    rw [List.append_nil] at he
    subst he
    exact q F (.ref d) H _ (e1.trans f1) hh ⟨d, rfl, rfl⟩
theorem xn_lcS {β γ S : Type} [Rp γ] {b : β → S → Option (Option γ × S)} {xs : List β} {s0 s1 : S} {ys : List γ} {wi : TI} {g : TG} {tt : TT} {vs : List Nat} {A : β → VA} {f : β → List (Option VA) → List (Option VA)} {js : List Nat} {Ω0 : List OA} (ks : S → List (Nat × OA)) (L : S → List OA)
    (hm : lcM b xs s0 = some (ys, s1)) (hi : XI wi Γ Ω0 xs A (stt Ω (ks s0) (L s0))) (ht : ∀ a, Tgt g (A a) (f a) js) (hj : ∀ j ∈ js, j ∈ vs) (hz : xs.length ≤ sizeLine)
    (hb : ∀ a s o s', a ∈ xs → b a s = some (o, s') → ∀ X : OA, (o = none → XT tt (f a (wip Γ vs)) (stt Ω (ks s) (L s ++ [X])) false (stt Ω (ks s') (L s' ++ [X]))) ∧
      (∀ y, o = some y → XT tt (f a (wip Γ vs)) (stt Ω (ks s) (L s ++ [X])) true (stt Ω (ks s) (L s ++ [X])) ∧ XE te (f a (wip Γ vs)) (stt Ω (ks s) (L s ++ [X])) (va T y) (stt Ω (ks s') (L s' ++ [X])))) :
    XG (tLc wi g tt te vs) Γ Ω0 (RN (stt Ω (ks s1) (L s1)) fun p => lstA T p ys) :=
  xn_lc (fun s => stt Ω (ks s) (L s)) hm hi ht hj hz fun a s o s' ha h X => by
    simp only [stt_app]
    exact hb a s o s' ha h X
/-- no test -/
theorem xt_yes : XT tYes Γ Ω true Ω := fun F σ H e hh Q q => q F H (Same.refl F) hh
end
end VL

set_option Elab.async false
set_option linter.all false
set_option maxRecDepth 100000
/-! defs, the machine, the numbers -/
namespace VL
open PySem L2
open PyProof.Rows (envOfC)

/-! ### a def by its body -/
/-- a body at a promise's arguments -/
def Bod (X : Cx) (body : List Stmt) (Γ : List (Option VA)) (Ω : List OA) (F0 : Hp) (R : Hp → V → List OA → Prop) : Prop :=
  ∃ t, PSs X body t ∧ ∀ D : Ends, RT F0 R D.rt → (∀ F σ H Ω', Same F0 F → Holds F Ω' H → R F .non Ω' → D.nx σ H) → XS t D F0 Γ Ω
theorem start_env {F : Hp} {N : List Str} {vs : List V} {As : List VA} (h : AlA F vs As) : Env F (L2.start N vs) (As.map some ++ List.replicate (N.length - As.length) none) := by
  have hl := h.len
  refine ⟨by unfold L2.start; simp [hl], fun i A q => ?_⟩
  by_cases hi : i < As.length
  · rw [List.getElem?_append_left (by simpa using hi), List.getElem?_map] at q
    have : ∀ {vs : List V} {As : List VA} {i : Nat}, AlA F vs As → (As[i]?).map some = some (some A) → ∃ v, vs[i]? = some v ∧ A.P F v := by
      intro vs As i h
      induction h generalizing i with
      | nil => intro q; simp at q
      | cons a t ih =>
        intro q
        cases i with
        | zero => simp at q; subst q; exact ⟨_, rfl, a⟩
        | succ i => simpa using ih (by simpa using q)
    obtain ⟨v, h1, h2⟩ := this h q
    refine ⟨v, ?_, h2⟩
    unfold L2.start
    rw [List.getElem?_append_left (by rw [List.length_map]; exact getlt h1), List.getElem?_map, h1]
    rfl
  · rw [List.getElem?_append_right (by simpa using hi), List.getElem?_replicate] at q
    split at q <;> cases q
section
variable {P : Program} {w : World} {K : PySem.W.Frag} {mg : Str → Option Value} {base : Heap}
theorem fn_ok {x qual : Str} {st : Stmt} {f : Addr} {fd : FuncData} {N ps : List Str} {k : Nat} {Pre : PreT} (F : Fun K x qual st f fd) (S : FnScope N ps (defScope st)) (hl : ∀ As Ω R, Pre As Ω R → As.length = ps.length)
    (hb : ∀ (cdv : Value) (A : Around) (outer : List PySem.Env) (s : Shared) (H : Hp) (E : XK), Room k (A.deeper (envOfC qual (defScope st) s.heap.objs.size f cdv)) → ∀ As Ω R F0, Pre As Ω R →
      Bod (cxOf CX0 P w K mg base N qual (defScope st) f cdv A outer s H E).nox (defBody st) (As.map some ++ List.replicate (N.length - As.length) none) Ω F0 R) : FnOk P w K mg base CX0 (k + 1) f fd ps (mkSp Pre) := by
  refine F.ok S (fun vs H Q E h => ?_) (fun cdv A outer s H vs Q E hr h => ?_)
  · obtain ⟨F, Ω, As, R, hp, ha, _⟩ := h
    rw [ha.len]; exact hl _ _ _ hp
  · obtain ⟨F0, Ω, As, R, hp, ha, hh, hq⟩ := h
    obtain ⟨t, h1, h2⟩ := hb cdv A outer s H E hr As Ω R F0 hp
    refine ⟨t, h1, h2 _ (fun F v H Ω' e hh r => hq F v H Ω' e hh r) (fun F σ H Ω' e hh r => hq F .non H Ω' e hh r) _ _ ⟨F0, Same.refl F0, start_env ha, hh⟩⟩

/-! ### a def that may be called -/
structure Cal (P : Program) (w : World) (K : PySem.W.Frag) (mg : Str → Option Value) (base : Heap) (k : Nat) (x : Str) (ps : List Str) (sp : Sp) : Prop where
  ex : ∃ f fd, FnOk P w K mg base CX0 k f fd ps sp ∧ mg x = some (.ref f) ∧ PySem.W.keepIn K (.ref f) = true ∧ Binds K fd ps []
theorem pe_cal {X : Cx} {k : Nat} {x : Str} {ps : List Str} {sp : Sp} {p pos : Pos} {e : Expr} {es : List Expr} {t : TA} (C : Cal X.prog X.w X.K X.mg X.base k x ps sp) (hr : Room k X.A) (hg : Gl X x) (ha : PA X (e :: es) t)
    (hdb : (x == ("__debug__" : Str)) = false := by decide) (he : starEach (e :: es) X.env = (false, eval e X.env) :: starEach es X.env := by rfl) (hpl : (backTo pos (starEach es X.env)).any (·.1) = false := by rfl) :
    PE X (.Call (.Name x p) (e :: es) [] pos) (tCall sp [] E0 t) := by
  obtain ⟨f, fd, F, hm, hk, hb⟩ := C.ex
  exact pe_call F hr hg hm hk hb .nil pass0 ha hdb he hpl
/-- a method -/
structure CalM (P : Program) (w : World) (K : PySem.W.Frag) (mg : Str → Option Value) (base : Heap) (k : Nat) (C : Addr) (m : Str) (ps : List Str) (sp : Sp) : Prop where
  ex : ∃ f fd, FnOk P w K mg base CX0 k f fd ps sp ∧ Meth K C m f ∧ Binds K fd ps []
  cl : Cls K C
end

/-! ### the machine -/
structure MS where
  w : Int
  c : Int
  cnt : Str → Int
  wk : List (T3 Str Int Int)
def mwords : List Str := ["short", "sum", "product", "quotient", "corrected", "restored", "shifted", "combined", "complemented", "looked"]
def mf (s : MS) (d e : Addr) : List (Str × V) := [("width", .int s.w), ("cutoff", .int s.c), ("counts", .ref d), ("entered", .ref e)]
def mkv (s : MS) : List (Key × V) := mwords.map fun w => (Sum.inr w, V.int (s.cnt w))
def MachAt (T : TC) (p dx d e : Addr) (ws : List V) (s : MS) (F t : Hp) : Prop := t p = some (.ins (T.C 0) dx (mf s d e)) ∧ t d = some (.dK (mkv s)) ∧ t e = some (.lst ws) ∧ Al T F ws s.wk
def machA (T : TC) (p : Addr) (s : MS) : OA := ⟨fun F t => ∃ dx d e ws, MachAt T p dx d e ws s F t, fun h ⟨dx, d, e, ws, h1, h2, h3, h4⟩ => ⟨dx, d, e, ws, h1, h2, h3, h4.mono h⟩⟩
section
variable {T : TC} {Γ : List (Option VA)} {Ω Ω1 Ω2 : List OA} {A B C : VA} {ta tb te : TE} {s : MS} {p : Addr} {k : Nat}
/-- machine.width, machine.cutoff -/
theorem xe_mw (cl : Cls T.K (T.C 0)) (na : NoAttr T.K (T.C 0) "width") (ha : XE ta Γ Ω (vr p) Ω1) (hk : Ω1[k]? = some (machA T p s)) : XE (tFld T.K ta "width") Γ Ω (va T s.w) Ω1 := fun F σ H e hh Q q => by
  refine ha F σ H e hh _ fun F1 x H1 Ω' e1 hh1 ⟨a1, o1⟩ => ?_
  subst o1
  obtain ⟨t, ⟨dx, d, en, ws, h1, h2, h3, h4⟩, st, _⟩ := hh1.get hk
  exact ⟨p, _, dx, _, _, a1, st _ _ h1, cl, na, rfl, q F1 _ H1 _ e1 hh1 ⟨rfl, rfl⟩⟩
theorem xe_mc (cl : Cls T.K (T.C 0)) (na : NoAttr T.K (T.C 0) "cutoff") (ha : XE ta Γ Ω (vr p) Ω1) (hk : Ω1[k]? = some (machA T p s)) : XE (tFld T.K ta "cutoff") Γ Ω (va T s.c) Ω1 := fun F σ H e hh Q q => by
  refine ha F σ H e hh _ fun F1 x H1 Ω' e1 hh1 ⟨a1, o1⟩ => ?_
  subst o1
  obtain ⟨t, ⟨dx, d, en, ws, h1, h2, h3, h4⟩, st, _⟩ := hh1.get hk
  exact ⟨p, _, dx, _, _, a1, st _ _ h1, cl, na, rfl, q F1 _ H1 _ e1 hh1 ⟨rfl, rfl⟩⟩
end

/-! ### the numbers -/
structure Bg where
  w : Int
  row : List Int
  v : Int
/-- the sign of a number -/
def sgn (v : Int) : Int := if v < 0 then -1 else if v = 0 then 0 else 1
instance : Rp Bg := ⟨fun T F v b => ∃ p dx r vs, v = .ref p ∧ F p = some (.ins (T.C 1) dx [("width", .int b.w), ("side", .int (sgn b.v)), ("row", .ref r), ("value", .int b.v)]) ∧ SqT T.K F r vs ∧ Al T F vs b.row,
  fun e ⟨p, dx, r, vs, h1, h2, h3, h4⟩ => ⟨p, dx, r, vs, h1, e _ _ h2, Same.tup e h3, h4.mono e⟩⟩
section
variable {T : TC} {Γ : List (Option VA)} {Ω Ω1 Ω2 : List OA} {A B C : VA} {ta tb te : TE} {x : Bg} {p : Addr} {k : Nat}
theorem xe_bw (cl : Cls T.K (T.C 1)) (na : NoAttr T.K (T.C 1) "width") (ha : XE ta Γ Ω (va T x) Ω1) : XE (tFld T.K ta "width") Γ Ω (va T x.w) Ω1 := fun F σ H e hh Q q => by
  refine ha F σ H e hh _ fun F1 v H1 Ω' e1 hh1 ⟨⟨p, dx, r, vs, h1, h2, h3, h4⟩, o1⟩ => ?_
  subst o1
  exact ⟨p, _, dx, _, _, h1, hh1.same _ _ h2, cl, na, rfl, q F1 _ H1 _ e1 hh1 ⟨rfl, rfl⟩⟩
theorem xe_bs (cl : Cls T.K (T.C 1)) (na : NoAttr T.K (T.C 1) "side") (ha : XE ta Γ Ω (va T x) Ω1) : XE (tFld T.K ta "side") Γ Ω (va T (sgn x.v)) Ω1 := fun F σ H e hh Q q => by
  refine ha F σ H e hh _ fun F1 v H1 Ω' e1 hh1 ⟨⟨p, dx, r, vs, h1, h2, h3, h4⟩, o1⟩ => ?_
  subst o1
  exact ⟨p, _, dx, _, _, h1, hh1.same _ _ h2, cl, na, rfl, q F1 _ H1 _ e1 hh1 ⟨rfl, rfl⟩⟩
theorem xe_br (cl : Cls T.K (T.C 1)) (na : NoAttr T.K (T.C 1) "row") (ha : XE ta Γ Ω (va T x) Ω1) : XE (tFld T.K ta "row") Γ Ω (va T (TF.mk x.row)) Ω1 := fun F σ H e hh Q q => by
  refine ha F σ H e hh _ fun F1 v H1 Ω' e1 hh1 ⟨⟨p, dx, r, vs, h1, h2, h3, h4⟩, o1⟩ => ?_
  subst o1
  exact ⟨p, _, dx, _, _, h1, hh1.same _ _ h2, cl, na, rfl, q F1 _ H1 _ e1 hh1 ⟨⟨r, vs, rfl, h3, h4⟩, rfl⟩⟩
theorem xe_bv (cl : Cls T.K (T.C 1)) (na : NoAttr T.K (T.C 1) "value") (ha : XE ta Γ Ω (va T x) Ω1) : XE (tFld T.K ta "value") Γ Ω (va T x.v) Ω1 := fun F σ H e hh Q q => by
  refine ha F σ H e hh _ fun F1 v H1 Ω' e1 hh1 ⟨⟨p, dx, r, vs, h1, h2, h3, h4⟩, o1⟩ => ?_
  subst o1
  exact ⟨p, _, dx, _, _, h1, hh1.same _ _ h2, cl, na, rfl, q F1 _ H1 _ e1 hh1 ⟨rfl, rfl⟩⟩
end
/-! ### things in the making -/
def rawA (t0 : Hp) : OA := ⟨fun _ t => Same t0 t, fun _ h => h⟩
section
variable {F F' H H' : Hp} {Ω : List OA} {o o' : OA} {i j : Nat} {a p : Addr} {u u' : HO}
theorem Holds.conv (h : Holds F Ω H) (q : Ω[i]? = some o) (k : ∀ t, o.P F t → o'.P F t) : Holds F (Ω.set i o') H := by
  obtain ⟨ts, h1, h2, h3, h4, h5⟩ := h
  have lt := getlt q
  refine ⟨ts, fun k x r => ?_, h2, fun k r => h3 k (by rwa [List.length_set] at r), fun k b x r => h4 k b x (by rwa [List.length_set] at r), fun k m b x r r2 => h5 k m b x (by rwa [List.length_set] at r) (by rwa [List.length_set] at r2)⟩
  by_cases hk : i = k
  · subst hk
    rw [List.getElem?_set_self lt] at r
    cases r
    exact k _ (h1 _ _ q)
  · rw [List.getElem?_set_ne hk] at r
    exact h1 k x r
/-- the thing at i, its part of the heap laid open -/
theorem Holds.opened (h : Holds F Ω H) (q : Ω[i]? = some o) : ∃ t, o.P F t ∧ Same t H ∧ Holds F (Ω.set i (rawA t)) H := by
  obtain ⟨ts, h1, h2, h3, h4, h5⟩ := h
  have lt := getlt q
  refine ⟨ts i, h1 i o q, h3 i lt, ts, fun k x r => ?_, h2, fun k r => h3 k (by rwa [List.length_set] at r), fun k b x r => h4 k b x (by rwa [List.length_set] at r), fun k m b x r r2 => h5 k m b x (by rwa [List.length_set] at r) (by rwa [List.length_set] at r2)⟩
  by_cases hk : i = k
  · subst hk
    rw [List.getElem?_set_self lt] at r
    cases r
    exact Same.refl _
  · rw [List.getElem?_set_ne hk] at r
    exact h1 k x r
theorem Holds.rawWrite {t : Hp} (h : Holds F Ω H) (q : Ω[i]? = some (rawA t)) (ha : t a = some u) : Holds F (Ω.set i (rawA (upd t a u'))) (upd H a u') := by
  obtain ⟨t2, s2, st, _, wr⟩ := h.get q
  refine wr (rawA (upd t a u')) a u u' (s2 _ _ ha) fun b x e => ?_
  by_cases hb : b = a
  · subst hb; rw [upd_same] at e ⊢; exact e
  · rw [upd_ne hb] at e ⊢; exact s2 _ _ e
theorem Holds.rawHas {t : Hp} (h : Holds F Ω H) (q : Ω[i]? = some (rawA t)) : Same t H := let ⟨_, s2, st, _⟩ := h.get q; fun b x e => st _ _ (s2 b x e)
/-- a new object is taken into the thing at i -/
theorem Holds.rawNew {t : Hp} (h : Holds F Ω H) (q : Ω[i]? = some (rawA t)) (n : H a = none) : Holds F (Ω.set i (rawA (upd t a u))) (upd H a u) := by
  have h2 := h.newL (o := rawA (upd (fun _ => none) a u)) n (Same.refl _)
  obtain ⟨t1, t2, s1, s2, _, _, dj, k⟩ := h2.merge q
  have nt : t a = none := (h.rawHas q).free n
  refine k (rawA (upd t a u)) fun b x e => ?_
  by_cases hb : b = a
  · subst hb
    rw [upd_same] at e
    cases e
    have e2 : t2 b = some u := s2 b u upd_same
    refine cup_r (fun c y r => ?_) b u e2
    cases z : t1 c with
    | none => rfl
    | some w => exact (nn r (dj c w z)).elim
  · rw [upd_ne hb] at e
    exact cup_l b x (s1 b x e)
end
/-- a new instance, nothing in it -/
def newA (C p : Addr) : OA := ⟨fun _ t => ∃ dx, t p = some (.ins C dx []), fun _ h => h⟩
section
variable {T : TC} {Γ : List (Option VA)} {Ω Ω1 Ω2 : List OA} {A B C : VA} {As Ds : List VA} {ta tb te : TE} {D : Ends} {F0 : Hp} {ts : TS}
theorem xn_make {C : Addr} {Pre : PreT} {E : XK} {t : TA} {dvs : List V} {o : Addr → OA} (ha : XA t Γ Ω As Ω1) (hd : ∀ F, AlA F dvs Ds) (hp : ∀ x, Pre (vr x :: (As ++ Ds)) (Ω1 ++ [newA C x]) (RV (va T ()) (Ω1 ++ [o x]))) :
    XG (tMake C (mkSp Pre) dvs E t) Γ Ω (RN Ω1 o) := fun F σ H e hh Q q => by
  refine ha F σ H e hh _ fun F1 xs H1 e1 hh1 a1 => ?_
  intro x dx nx ndx nex
  have hh2 : Holds F1 (Ω1 ++ [newA C x]) (upd (upd H1 dx (.own x)) x (.ins C dx [])) := by
    refine hh1.newO (t := upd (fun _ => none) x (.ins C dx [])) (fun b y r => by rw [sng_some r]; exact nx) (fun b y r => ?_) (fun b y r => ?_) ⟨dx, upd_same⟩
    · rw [upd_ne (ne_of_none r nx), upd_ne (ne_of_none r ndx)]; exact r
    · have hb := sng_some r
      subst hb
      rw [upd_same] at r ⊢; exact r
  refine ⟨F1, Ω1 ++ [newA C x], vr x :: (As ++ Ds), _, hp x, .cons rfl (a1.app (hd F1)), hh2, fun F' v H' Ω' e' hh' ⟨hv, ho⟩ => ⟨hv, ?_⟩⟩
  subst ho
  exact q F' _ H' _ (e1.trans e') hh' ⟨x, rfl, rfl⟩
def bigA (T : TC) (p : Addr) (b : Bg) : OA := ⟨fun F t => ∃ dx r vs, t p = some (.ins (T.C 1) dx [("width", .int b.w), ("side", .int (sgn b.v)), ("row", .ref r), ("value", .int b.v)]) ∧ SqT T.K F r vs ∧ Al T F vs b.row,
  fun e ⟨dx, r, vs, h2, h3, h4⟩ => ⟨dx, r, vs, h2, Same.tup e h3, h4.mono e⟩⟩
theorem xe_fzB {b : Bg} (h : XG te Γ Ω (RN Ω1 fun p => bigA T p b)) : XE te Γ Ω (va T b) Ω1 := fun F σ H e hh Q q =>
  h F σ H e hh Q fun F1 v H1 Ω' e1 hh1 ⟨p, hv, o1⟩ => by
    subst o1
    obtain ⟨F', t, s1, s2, ⟨dx, r, vs, h2, h3, h4⟩, hh'⟩ := hh1.freeze
    exact q F' v H1 _ (e1.trans s1) hh' ⟨⟨p, dx, r, vs, hv, s2 _ _ h2, Same.tup s1 h3, h4.mono s1⟩, rfl⟩
end
/-! ### what the machine's methods do -/
def MS.step (s : MS) (w : Str) (n : Int) : MS := { s with cnt := fun x => if x = w then s.cnt x + n else s.cnt x }
def MS.enter (s : MS) (w : Str) (m n : Int) : MS := { s with wk := if s.wk.length < 1000 then s.wk ++ [T3.mk w m n] else s.wk }
def MS.fresh (w c : Int) : MS := ⟨w, c, fun _ => 0, []⟩
def MS.reset (s : MS) : MS := MS.fresh s.w s.c
theorem mwords_nd : mwords.Nodup := by decide +kernel
theorem val_words {f : Str → Int} : ∀ {ws : List Str} {w : Str}, w ∈ ws → valV (ws.map fun w => ((Sum.inr w : Key), V.int (f w))) (Sum.inr w) = some (V.int (f w)) := by
  intro ws w hw
  unfold valV
  induction ws with
  | nil => cases hw
  | cons a r ih =>
    rw [List.map_cons, List.find?_cons]
    by_cases h : a = w
    · subst h; simp
    · have : decide ((Sum.inr a : Key) = Sum.inr w) = false := decide_eq_false fun e => h (Sum.inr.inj e)
      simp only [this]
      rcases List.mem_cons.mp hw with e | e
      · exact absurd e.symm h
      · exact ih e
end VL

set_option Elab.async false
set_option linter.all false
set_option maxRecDepth 100000
/-! the machine's methods, the numbers' -/
namespace VL
open PySem L2
theorem putK_words {f : Str → Int} {w : Str} (n : Int) {ws : List Str} (hw : w ∈ ws) :
    putK (ws.map fun x => ((Sum.inr x : Key), V.int (f x))) (Sum.inr w) (V.int n) = ws.map fun x => ((Sum.inr x : Key), V.int (if x = w then n else f x)) := by
  have any : ((ws.map fun x => ((Sum.inr x : Key), V.int (f x))).any fun kv => decide (kv.1 = Sum.inr w)) = true :=
    List.any_eq_true.mpr ⟨_, List.mem_map.mpr ⟨w, hw, rfl⟩, decide_eq_true rfl⟩
  unfold putK
  rw [if_pos any, List.map_map]
  apply List.map_congr_left
  intro x _
  show (if (Sum.inr x : Key) = Sum.inr w then ((Sum.inr x : Key), V.int n) else (Sum.inr x, V.int (f x))) = _
  by_cases e : x = w
  · rw [if_pos (by rw [e]), if_pos e]
  · rw [if_neg (fun z => e (Sum.inr.inj z)), if_neg e]
theorem mwords_len (s : MS) : (mkv s).length < sizeLine := by
  unfold mkv
  rw [List.length_map]
  decide +kernel
section
variable {T : TC} {Γ : List (Option VA)} {Ω Ω1 Ω2 : List OA} {A B C : VA} {As Ds : List VA} {ta tb te : TE} {D : Ends} {F0 : Hp} {ts : TS} {s : MS} {p : Addr} {k : Nat}
/-- what the machine's class must be -/
structure MCls (K : PySem.W.Frag) (C : Addr) : Prop where
  cl : Cls K C
  nw : NoAttr K C "width"
  nc : NoAttr K C "cutoff"
  nt : NoAttr K C "counts"
  ne : NoAttr K C "entered"
structure BCls (K : PySem.W.Frag) (C : Addr) : Prop where
  cl : Cls K C
  nw : NoAttr K C "width"
  ns : NoAttr K C "side"
  nr : NoAttr K C "row"
  nv : NoAttr K C "value"
theorem look_ne {a b : Str} {v : V} {fs : List (Str × V)} (h : (b == a) = false) : ((a, v) :: fs).lookup b = fs.lookup b := by
  rw [List.lookup_cons, h]
theorem mf_counts (d e : Addr) : (mf s d e).lookup ("counts" : Str) = some (V.ref d) := by
  unfold mf
  rw [look_ne (by decide +kernel), look_ne (by decide +kernel)]
  rfl
theorem mf_entered (d e : Addr) : (mf s d e).lookup ("entered" : Str) = some (V.ref e) := by
  unfold mf
  rw [look_ne (by decide +kernel), look_ne (by decide +kernel), look_ne (by decide +kernel)]
  rfl
theorem putF_hit {f : Str} {v x : V} {fs : List (Str × V)} : putF f v ((f, x) :: fs) = (f, v) :: fs := by
  show (if f = f then (f, v) :: fs else _) = _
  rw [if_pos rfl]
theorem putF_miss {f g : Str} {v x : V} {fs : List (Str × V)} (h : ¬ g = f) : putF f v ((g, x) :: fs) = (g, x) :: putF f v fs := by
  show (if g = f then _ else (g, x) :: putF f v fs) = _
  rw [if_neg h]
/-- self.counts[word] += many -/
theorem xs_step {wd : Str} {n : Int} (mc : MCls T.K (T.C 0)) (h0 : Γ[0]? = some (some (vr p))) (h1 : Γ[1]? = some (some (va T wd))) (h2 : Γ[2]? = some (some (va T n))) (hk : Ω[k]? = some (machA T p s)) (hw : wd ∈ mwords)
    (q : ∀ σ H, NX F0 Γ (Ω.set k (machA T p (s.step wd n))) σ H → D.nx σ H) : XS (sDAug (tFld T.K (tVar 0) "counts") (tVar 1) (tVar 2) rAdd) D F0 Γ Ω := fun σ H ⟨F, f0, e, hh⟩ => by
  obtain ⟨v0, a0, b0⟩ := e.2 0 _ h0
  obtain ⟨v1, a1, b1⟩ := e.2 1 _ h1
  obtain ⟨v2, a2, b2⟩ := e.2 2 _ h2
  have b1 : v1 = .str wd := b1
  have b2 : v2 = .int n := b2
  subst b1 b2
  obtain ⟨t, ⟨dx, d, en, ws, m1, m2, m3, m4⟩, st, _, wr⟩ := hh.get hk
  refine ⟨v0, a0, p, _, dx, _, _, b0, st _ _ m1, mc.cl, mc.nt, mf_counts d en, .str wd, a1, d, .int (s.cnt wd), rfl, ?_, .int n, a2, s.cnt wd, n, rfl, rfl, ?_⟩
  · have g := DGet.k (k := Sum.inr wd) (st _ _ m2)
    rw [show valV (mkv s) (Sum.inr wd) = some (V.int (s.cnt wd)) from val_words hw] at g
    exact g
  · refine ⟨_, DPut.k (k := Sum.inr wd) (st _ _ m2) (mwords_len s), q σ _ ⟨F, f0, e, wr (machA T p (s.step wd n)) d _ _ m2 ⟨dx, d, en, ws, ?_, ?_, ?_, m4⟩⟩⟩
    · rw [upd_ne (by intro z; rw [z, m2] at m1; cases m1)]; exact m1
    · rw [upd_same]
      unfold mkv
      rw [putK_words _ hw]
      congr 2
      apply List.map_congr_left
      intro x _
      show (Sum.inr x, V.int _) = (Sum.inr x, V.int (if x = wd then s.cnt x + n else s.cnt x))
      by_cases z : x = wd
      · rw [if_pos z, if_pos z, z]
      · rw [if_neg z, if_neg z]
    · rw [upd_ne (by intro z; rw [z, m2] at m3; cases m3)]; exact m3
/-- if len(self.entered) < 1000: self.entered.append((word, m, n)) -/
theorem xs_enter {wd : Str} {m n : Int} (mc : MCls T.K (T.C 0)) (h0 : Γ[0]? = some (some (vr p))) (h1 : Γ[1]? = some (some (va T wd))) (h2 : Γ[2]? = some (some (va T m))) (h3 : Γ[3]? = some (some (va T n))) (hk : Ω[k]? = some (machA T p s))
    (q : ∀ σ H, NX F0 Γ (Ω.set k (machA T p (s.enter wd m n))) σ H → D.nx σ H) :
    XS (tIfS (tTest (tOp (rI0 fun i j => .bl (decide (i < j))) (tCB (rLen T.K) (tCons (tFld T.K (tVar 0) "entered") tNil)) (tC (.int 1000))))
      (tDrop (tBM T.K "list" rAppend (tFld T.K (tVar 0) "entered") (tCons (tTup (tCons (tVar 1) (tCons (tVar 2) (tCons (tVar 3) tNil)))) tNil))) tNext) D F0 Γ Ω := fun σ H ⟨F, f0, e, hh⟩ => by
  obtain ⟨v0, a0, b0⟩ := e.2 0 _ h0
  obtain ⟨v1, a1, b1⟩ := e.2 1 _ h1
  obtain ⟨v2, a2, b2⟩ := e.2 2 _ h2
  obtain ⟨v3, a3, b3⟩ := e.2 3 _ h3
  obtain ⟨t, ⟨dx, d, en, ws, m1, m2, m3, m4⟩, st, _, wr⟩ := hh.get hk
  refine ⟨v0, a0, p, _, dx, _, _, b0, st _ _ m1, mc.cl, mc.ne, mf_entered d en, en, ws, rfl, .inl (SqL.of (st _ _ m3)), (ws.length : Int), 1000, rfl, rfl, _, rfl, ite2 (fun h => ?_) (fun h => ?_)⟩
  · have lt : ws.length < 1000 := by have := of_decide_eq_true h; omega
    refine ⟨v0, a0, p, _, dx, _, _, b0, st _ _ m1, mc.cl, mc.ne, mf_entered d en, .inl ⟨rfl, _, SqL.of (st _ _ m3)⟩, v1, a1, v2, a2, v3, a3, by show 3 ≤ sizeLine; decide, fun x hx => ?_⟩
    obtain ⟨hh2, e2⟩ := hh.newF (u := .tup [v1, v2, v3]) hx
    obtain ⟨t', ⟨dx', d', en', ws', m1', m2', m3', m4'⟩, st', _, wr'⟩ := hh2.get hk
    have nx : ∀ b y, H b = some y → b ≠ x := fun b y r => ne_of_none r hx
    have i1 := (st' _ _ m1').symm.trans ((upd_ne (nx _ _ (st _ _ m1))).trans (st _ _ m1))
    have i1 : mf s d' en' = mf s d en := by
      have := Option.some.inj i1
      injection this
    have i2 : en' = en := by
      unfold mf at i1
      injection i1 with _ i1
      injection i1 with _ i1
      injection i1 with _ i1
      injection i1 with i1 _
      injection i1 with _ i1
      injection i1
    subst i2
    have i3 := (st' _ _ m3').symm.trans ((upd_ne (nx _ _ (st _ _ m3))).trans (st _ _ m3))
    cases i3
    refine ⟨en', ws, _, rfl, rfl, st' _ _ m3', Nat.lt_trans lt (by decide), q σ _ ⟨_, f0.trans e2, e.mono e2, wr' (machA T p (s.enter wd m n)) en' _ _ m3' ⟨dx', d', en', _, ?_, ?_, upd_same, ?_⟩⟩⟩
    · rw [upd_ne (by intro z; rw [z, m3'] at m1'; cases m1')]; exact m1'
    · rw [upd_ne (by intro z; rw [z, m3'] at m2'; cases m2')]; exact m2'
    · have hl : s.wk.length < 1000 := by rw [← al_len m4]; exact lt
      show Al T _ _ (if s.wk.length < 1000 then s.wk ++ [T3.mk wd m n] else s.wk)
      rw [if_pos hl]
      exact al_app m4' (.cons ⟨x, v1, v2, v3, rfl, SqT.of upd_same, Rp.mono (α := Str) e2 b1, Rp.mono (α := Int) e2 b2, Rp.mono (α := Int) e2 b3⟩ .nil)
  · have ge : ¬ s.wk.length < 1000 := by
      intro z
      apply h
      rw [← al_len m4] at z
      exact decide_eq_true (by omega)
    refine q σ H ⟨F, f0, e, ?_⟩
    have es : s.enter wd m n = s := by
      unfold MS.enter
      rw [if_neg ge]
    rw [es]
    have : Ω.set k (machA T p s) = Ω := by
      apply List.ext_getElem?
      intro j
      by_cases z : k = j
      · subst z; rw [List.getElem?_set_self (getlt hk), hk]
      · rw [List.getElem?_set_ne z]
    rw [this]
    exact hh
/-! ### a thing in the making: its attributes stored one by one -/
theorem xs_fldV {C : Addr} {f : Str} {v0 : V} {t : Hp} {dx : Addr} {fs : List (Str × V)} {j : Nat} (cl : Cls T.K C) (na : NoAttr T.K C f) (h : XE te Γ Ω (vx v0) Ω) (hj : Γ[j]? = some (some (vr p))) (hk : Ω[k]? = some (rawA t)) (ht : t p = some (.ins C dx fs)) (hl : fs.length < 1000)
    (q : XS ts D F0 Γ (Ω.set k (rawA (upd t p (.ins C dx (putF f v0 fs)))))) : XS (tSeq (sFld T.K (tVar j) te f) ts) D F0 Γ Ω := fun σ H ⟨F, f0, e, hh⟩ => by
  refine h F σ H e hh _ fun F1 v H1 Ω' e1 hh1 ⟨a1, o1⟩ => ?_
  subst o1
  have a1 : v = v0 := a1
  subst a1
  obtain ⟨x, h1, h2⟩ := e.2 j _ hj
  refine ⟨x, h1, p, C, dx, fs, h2, hh1.rawHas hk _ _ ht, cl, na, hl, ?_⟩
  exact q σ _ ⟨F1, f0.trans e1, e.mono e1, hh1.rawWrite hk ht⟩
theorem set_of {l : List OA} {k : Nat} {o : OA} (h : l[k]? = some o) : l.set k o = l := by
  apply List.ext_getElem?
  intro j
  by_cases z : k = j
  · subst z; rw [List.getElem?_set_self (getlt h), h]
  · rw [List.getElem?_set_ne z]
theorem xs_fldN {C : Addr} {f : Str} {u : HO} {t : Hp} {dx : Addr} {fs : List (Str × V)} {j : Nat} (cl : Cls T.K C) (na : NoAttr T.K C f) (h : XG te Γ Ω (RN Ω fun r => rawA (upd (fun _ => none) r u))) (hj : Γ[j]? = some (some (vr p))) (hk : Ω[k]? = some (rawA t)) (ht : t p = some (.ins C dx fs)) (hl : fs.length < 1000)
    (q : ∀ r, t r = none → XS ts D F0 Γ (Ω.set k (rawA (upd (upd t r u) p (.ins C dx (putF f (.ref r) fs)))))) : XS (tSeq (sFld T.K (tVar j) te f) ts) D F0 Γ Ω := fun σ H ⟨F, f0, e, hh⟩ => by
  refine h F σ H e hh _ fun F1 v H1 Ω' e1 hh1 ⟨r, a1, o1⟩ => ?_
  subst o1 a1
  obtain ⟨x, h1, h2⟩ := e.2 j _ hj
  obtain ⟨t1, t2, s1, s2, _, _, dj, kk⟩ := hh1.merge hk
  have nt : t r = none := by
    cases z : t r with
    | none => rfl
    | some y => exact (nn (s2 r u upd_same) (dj r y (s1 _ _ z))).elim
  have hh2 : Holds F1 (Ω.set k (rawA (upd t r u))) H1 := kk _ fun b y e => by
    by_cases hb : b = r
    · subst hb
      rw [upd_same] at e
      cases e
      refine cup_r (fun c y z => ?_) b u (s2 b u upd_same)
      cases w : t1 c with
      | none => rfl
      | some y2 => exact (nn z (dj c y2 w)).elim
    · rw [upd_ne hb] at e
      exact cup_l b y (s1 b y e)
  have hk2 : (Ω.set k (rawA (upd t r u)))[k]? = some (rawA (upd t r u)) := List.getElem?_set_self (getlt hk)
  have np : p ≠ r := ne_of_none ht nt
  have ht2 : upd t r u p = some (.ins C dx fs) := by rw [upd_ne np]; exact ht
  refine ⟨x, h1, p, C, dx, fs, h2, hh2.rawHas hk2 _ _ ht2, cl, na, hl, ?_⟩
  have hh3 := hh2.rawWrite (u' := .ins C dx (putF f (.ref r) fs)) hk2 ht2
  rw [List.set_set] at hh3
  exact q r nt σ _ ⟨F1, f0.trans e1, e.mono e1, hh3⟩
/-- the thing at k is opened, closed -/
theorem xs_open {o : OA} (hk : Ω[k]? = some o) (q : ∀ F t, o.P F t → ∀ σ H, (∃ F1, Same F0 F ∧ Same F F1 ∧ Env F1 σ Γ ∧ Holds F1 (Ω.set k (rawA t)) H) → ts D σ H) : XS ts D F0 Γ Ω := fun σ H ⟨F, f0, e, hh⟩ => by
  obtain ⟨t, ot, _, hh2⟩ := hh.opened hk
  exact q F t ot σ H ⟨F, f0, Same.refl F, e, hh2⟩
theorem xs_base {F1 : Hp} (h : Same F0 F1) (q : XS ts D F0 Γ Ω) : XS ts D F1 Γ Ω := fun σ H ⟨F, f0, e, hh⟩ => q σ H ⟨F, h.trans f0, e, hh⟩
theorem NX.conv {o o' : OA} {σ : L2.St} {H : Hp} (h : NX F0 Γ Ω σ H) (hk : Ω[k]? = some o) (c : ∀ F t, Same F0 F → o.P F t → o'.P F t) : NX F0 Γ (Ω.set k o') σ H :=
  let ⟨F, f0, e, hh⟩ := h
  ⟨F, f0, e, hh.conv hk fun t => c F t f0⟩
/-- {word: 0 for word in WORDS} -/
theorem xn_zeros {aW : Addr} {i : Nat} {vs : List Nat} (hW : ∀ H, SqT T.K H aW (mwords.map V.str)) (hi : i ∈ vs) (hlt : i < Γ.length) :
    XG (tDc (iTup T.K (tC (.ref aW))) (gName i) tYes (tVar i) (tC (.int 0)) vs) Γ Ω (RN Ω fun r => rawA (upd (fun _ => none) r (.dK (mwords.map fun w => (Sum.inr w, V.int 0))))) := fun F σ H e hh Q q => by
  refine ⟨aW, rfl, ⟨_, hW H⟩, fun d hd => ?_⟩
  refine dc_tup (xs := mwords.map V.str) (fun m H' => Holds F (Ω ++ [rawA (upd (fun _ => none) d (.dK ((mwords.take m).map fun w => (Sum.inr w, V.int 0))))]) H') (hh.newL hd (Same.refl _)) (fun _ H' _ _ => hW H') (fun m x H' hx p => ?_) (fun H' p => ?_)
  · rw [List.getElem?_map] at hx
    cases hw : mwords[m]? with
    | none => rw [hw] at hx; cases hx
    | some wd =>
      rw [hw] at hx
      cases hx
      refine ⟨(wipe_set hi).trans (wipe_wipe vs), ?_⟩
      simp only [tYes, ↓reduceIte]
      have li : i < (wipe σ vs).length := by rw [wipe_length, e.1]; exact hlt
      refine ⟨.str wd, by rw [List.getElem?_set_self li], _, Sum.inr wd, rfl, p.rawHas app_at d _ upd_same, ?_, ?_⟩
      · rw [List.length_map, List.length_take]
        exact Nat.lt_of_le_of_lt (Nat.min_le_right _ _) (by decide +kernel)
      · have hh2 := p.rawWrite (u' := .dK (putK ((mwords.take m).map fun w => ((Sum.inr w : Key), V.int 0)) (Sum.inr wd) (.int 0))) app_at upd_same
        rw [set_last, upd_upd] at hh2
        have nin : valV ((mwords.take m).map fun w => ((Sum.inr w : Key), V.int 0)) (Sum.inr wd) = none := by
          cases z : valV ((mwords.take m).map fun w => ((Sum.inr w : Key), V.int 0)) (Sum.inr wd) with
          | none => rfl
          | some y =>
            have hm := valV_in z
            rw [List.map_map] at hm
            obtain ⟨w2, h2, e2⟩ := List.mem_map.mp hm
            have e2 : w2 = wd := Sum.inr.inj e2
            subst e2
            obtain ⟨j2, h3, h4⟩ := List.mem_take_iff_getElem.mp h2
            have hlt3 : j2 < mwords.length := by omega
            have eq2 : mwords[j2]? = some w2 := by rw [List.getElem?_eq_getElem hlt3, h4]
            have := nd_ix mwords_nd eq2 hw
            omega
        rw [putK_new _ nin] at hh2
        rw [List.take_add_one, hw, List.map_append, putK_new _ nin]
        exact hh2
  · rw [show (mwords.map V.str).length = mwords.length from List.length_map _, List.take_length] at p
    exact q F (.ref d) H' _ (Same.refl F) p ⟨d, rfl, rfl⟩
/-- the whole of a machine's __init__ behind its checks: four stores -/
theorem mf_put {w c : Int} {d e : Addr} : putF "entered" (.ref e) (putF "counts" (.ref d) (putF "cutoff" (.int c) (putF "width" (.int w) []))) = ([("width", .int w), ("cutoff", .int c), ("counts", .ref d), ("entered", .ref e)] : List (Str × V)) := by
  rw [show putF "width" (.int w) [] = [(("width" : Str), V.int w)] from rfl, putF_miss (f := "cutoff") (g := "width") (by decide +kernel), show putF "cutoff" (.int c) [] = [(("cutoff" : Str), V.int c)] from rfl,
    putF_miss (f := "counts") (g := "width") (by decide +kernel), putF_miss (f := "counts") (g := "cutoff") (by decide +kernel), show putF "counts" (.ref d) [] = [(("counts" : Str), V.ref d)] from rfl,
    putF_miss (f := "entered") (g := "width") (by decide +kernel), putF_miss (f := "entered") (g := "cutoff") (by decide +kernel), putF_miss (f := "entered") (g := "counts") (by decide +kernel)]
  all_goals rfl
theorem mf_reset {d e d2 e2 : Addr} : putF "entered" (.ref e2) (putF "counts" (.ref d2) (mf s d e)) = mf s d2 e2 := by
  unfold mf
  rw [putF_miss (f := "counts") (g := "width") (by decide +kernel), putF_miss (f := "counts") (g := "cutoff") (by decide +kernel), putF_hit,
    putF_miss (f := "entered") (g := "width") (by decide +kernel), putF_miss (f := "entered") (g := "cutoff") (by decide +kernel), putF_miss (f := "entered") (g := "counts") (by decide +kernel), putF_hit]
theorem set_get {l : List OA} {k : Nat} {o o' : OA} (h : l[k]? = some o) : (l.set k o')[k]? = some o' := List.getElem?_set_self (getlt h)
/-- self.width = bits; self.cutoff = cutoff; self.counts = {..}; self.entered = [] -/
theorem xs_minit {w c : Int} {aW : Addr} {i : Nat} {vs : List Nat} (mc : MCls T.K (T.C 0)) (hW : ∀ H, SqT T.K H aW (mwords.map V.str)) (hi : i ∈ vs) (hlt : i < Γ.length)
    (h0 : Γ[0]? = some (some (vr p))) (h1 : Γ[1]? = some (some (va T w))) (h2 : Γ[2]? = some (some (va T c))) (hk : Ω[k]? = some (newA (T.C 0) p)) (q : ∀ σ H, NX F0 Γ (Ω.set k (machA T p (MS.fresh w c))) σ H → D.nx σ H) :
    XS (tSeq (sFld T.K (tVar 0) (tVar 1) "width") (tSeq (sFld T.K (tVar 0) (tVar 2) "cutoff") (tSeq (sFld T.K (tVar 0) (tDc (iTup T.K (tC (.ref aW))) (gName i) tYes (tVar i) (tC (.int 0)) vs) "counts") (sFld T.K (tVar 0) (tLst tNil) "entered")))) D F0 Γ Ω := by
  intro σ H ⟨F, f0, e, hh⟩
  obtain ⟨t, ⟨dx, ht⟩, _, hh2⟩ := hh.opened hk
  have hk2 : (Ω.set k (rawA t))[k]? = some (rawA t) := set_get hk
  have iv : ∀ {j : Nat} {n : Int} {Ω' : List OA}, Γ[j]? = some (some (va T n)) → XE (tVar j) Γ Ω' (vx (.int n)) Ω' := fun h => (xe_var h).to fun F v a => a
  refine xs_fldV (D := D) (ts := (tSeq (sFld T.K (tVar 0) (tVar 2) "cutoff") (tSeq (sFld T.K (tVar 0) (tDc (iTup T.K (tC (.ref aW))) (gName i) tYes (tVar i) (tC (.int 0)) vs) "counts") (sFld T.K (tVar 0) (tLst tNil) "entered")))) mc.cl mc.nw (iv h1) h0 hk2 ht (by decide) ?_ σ H ⟨F, Same.refl F, e, hh2⟩
  rw [List.set_set]
  refine xs_fldV mc.cl mc.nc (iv h2) h0 (set_get hk) upd_same (by show 1 < 1000; decide) ?_
  rw [List.set_set, upd_upd]
  refine xs_fldN mc.cl mc.nt (xn_zeros hW hi hlt) h0 (set_get hk) upd_same (by rw [show putF "width" (V.int w) [] = [(("width" : Str), V.int w)] from rfl, putF_miss (by decide +kernel)]; show 2 < 1000; decide) fun d hd => ?_
  rw [List.set_set]
  refine fun σ H n => xs_fldN (ts := tNext) mc.cl mc.ne (u := .lst []) (p := p) ?_ h0 (set_get hk) upd_same ?_ (fun en he => ?_) σ H n
  · exact fun F σ H e hh Q q => ⟨Nat.zero_le _, fun r hr => q F (.ref r) _ _ (Same.refl F) (hh.newL (o := rawA (upd (fun _ => none) r (.lst []))) hr (Same.refl _)) ⟨r, rfl, rfl⟩⟩
  · rw [show putF "width" (V.int w) [] = [(("width" : Str), V.int w)] from rfl, putF_miss (by decide +kernel), show putF "cutoff" (V.int c) [] = [(("cutoff" : Str), V.int c)] from rfl, putF_miss (by decide +kernel), putF_miss (by decide +kernel)]
    show 3 < 1000
    decide
  · rw [List.set_set, mf_put]
    intro σ H n
    have npd : d ≠ p := fun z => by rw [z, upd_same] at hd; cases hd
    have npe : en ≠ p := fun z => by rw [z, upd_same] at he; cases he
    have nde : d ≠ en := fun z => by rw [← z, upd_ne npd, upd_same] at he; cases he
    have n2 := n.conv (o' := machA T p (MS.fresh w c)) (set_get hk) fun F t f st => ⟨dx, d, en, [], st p _ upd_same, st d _ (by rw [upd_ne npd, upd_ne nde, upd_ne npd, upd_same]; rfl), st en _ (by rw [upd_ne npe, upd_same]), .nil⟩
    rw [List.set_set] at n2
    obtain ⟨F2, f2, e2, hh3⟩ := n2
    exact q σ H ⟨F2, f0.trans f2, e2, hh3⟩
/-- self.counts = {..}; self.entered = [] -/
theorem xs_mreset {aW : Addr} {i : Nat} {vs : List Nat} (mc : MCls T.K (T.C 0)) (hW : ∀ H, SqT T.K H aW (mwords.map V.str)) (hi : i ∈ vs) (hlt : i < Γ.length)
    (h0 : Γ[0]? = some (some (vr p))) (hk : Ω[k]? = some (machA T p s)) (q : ∀ σ H, NX F0 Γ (Ω.set k (machA T p s.reset)) σ H → D.nx σ H) :
    XS (tSeq (sFld T.K (tVar 0) (tDc (iTup T.K (tC (.ref aW))) (gName i) tYes (tVar i) (tC (.int 0)) vs) "counts") (sFld T.K (tVar 0) (tLst tNil) "entered")) D F0 Γ Ω := by
  intro σ H ⟨F, f0, e, hh⟩
  obtain ⟨t, ⟨dx, d0, e0, ws, ht, _⟩, _, hh2⟩ := hh.opened hk
  have hk2 : (Ω.set k (rawA t))[k]? = some (rawA t) := set_get hk
  refine xs_fldN (D := D) (ts := sFld T.K (tVar 0) (tLst tNil) "entered") mc.cl mc.nt (xn_zeros hW hi hlt) h0 hk2 ht (by show 4 < 1000; decide) (fun d hd => ?_) σ H ⟨F, Same.refl F, e, hh2⟩
  rw [List.set_set]
  refine fun σ H n => xs_fldN (ts := tNext) mc.cl mc.ne (u := .lst []) (p := p) ?_ h0 (set_get hk) upd_same ?_ (fun en he => ?_) σ H n
  · exact fun F σ H e hh Q q => ⟨Nat.zero_le _, fun r hr => q F (.ref r) _ _ (Same.refl F) (hh.newL (o := rawA (upd (fun _ => none) r (.lst []))) hr (Same.refl _)) ⟨r, rfl, rfl⟩⟩
  · unfold mf
    rw [putF_miss (by decide +kernel), putF_miss (by decide +kernel), putF_hit]
    show 4 < 1000
    decide
  · rw [List.set_set, mf_reset]
    intro σ H n
    have npd : d ≠ p := fun z => by rw [z, ht] at hd; cases hd
    have npe : en ≠ p := fun z => by rw [z, upd_same] at he; cases he
    have nde : d ≠ en := fun z => by rw [← z, upd_ne npd, upd_same] at he; cases he
    have n2 := n.conv (o' := machA T p s.reset) (set_get hk) fun F t f st => ⟨dx, d, en, [], st p _ upd_same, st d _ (by rw [upd_ne npd, upd_ne nde, upd_ne npd, upd_same]; rfl), st en _ (by rw [upd_ne npe, upd_same]), .nil⟩
    rw [List.set_set] at n2
    obtain ⟨F2, f2, e2, hh3⟩ := n2
    exact q σ H ⟨F2, f0.trans f2, e2, hh3⟩
/-- self.counts[word] -/
theorem xe_cnt {wd : Str} {i j : Nat} (mc : MCls T.K (T.C 0)) (ha : Γ[j]? = some (some (vr p))) (hy : Γ[i]? = some (some (va T wd))) (hk : Ω[k]? = some (machA T p s)) (hw : wd ∈ mwords) : XE (tDGet (tFld T.K (tVar j) "counts") (tVar i)) Γ Ω (va T (s.cnt wd)) Ω := fun F σ H e hh Q q => by
  obtain ⟨v0, a0, b0⟩ := e.2 j _ ha
  obtain ⟨v1, a1, b1⟩ := e.2 i _ hy
  have b1 : v1 = .str wd := b1
  subst b1
  obtain ⟨t, ⟨dx, d, en, ws, m1, m2, m3, m4⟩, st, _⟩ := hh.get hk
  refine ⟨v0, a0, p, _, dx, _, _, b0, st _ _ m1, mc.cl, mc.nt, mf_counts d en, .str wd, a1, d, .int (s.cnt wd), rfl, ?_, q F _ H _ (Same.refl F) hh ⟨rfl, rfl⟩⟩
  have g := DGet.k (k := Sum.inr wd) (st _ _ m2)
  rw [show valV (mkv s) (Sum.inr wd) = some (V.int (s.cnt wd)) from val_words hw] at g
  exact g
/-- self.entered, as a list -/
theorem xe_walk {j : Nat} (mc : MCls T.K (T.C 0)) (ha : Γ[j]? = some (some (vr p))) (hk : Ω[k]? = some (machA T p s)) : XE (tCB (rList T.K) (tCons (tFld T.K (tVar j) "entered") tNil)) Γ Ω (va T (LF.mk s.wk)) Ω := fun F σ H e hh Q q => by
  obtain ⟨v0, a0, b0⟩ := e.2 j _ ha
  obtain ⟨t, ⟨dx, d, en, ws, m1, m2, m3, m4⟩, st, _⟩ := hh.get hk
  refine ⟨v0, a0, p, _, dx, _, _, b0, st _ _ m1, mc.cl, mc.ne, mf_entered d en, en, ws, rfl, .inl (SqL.of (st _ _ m3)), fun l hl => ?_⟩
  obtain ⟨hh2, e2⟩ := hh.newF (u := .lst ws) hl
  exact q _ _ _ _ e2 hh2 ⟨⟨l, ws, rfl, upd_same, m4.mono e2⟩, rfl⟩
/-- the words of the tally -/
theorem xi_words {aW : Addr} (hW : ∀ H, SqT T.K H aW (mwords.map V.str)) : XI (iTup T.K (tC (.ref aW))) Γ Ω mwords (fun a => va T a) Ω := fun F σ H e hh R r => by
  have al : ∀ l : List Str, Al T F (l.map V.str) l := fun l => by
    induction l with
    | nil => exact .nil
    | cons a r ih => exact .cons rfl ih
  exact ⟨aW, rfl, ⟨_, hW H⟩, r F _ H _ (Same.refl F) hh wk_tup ⟨hW F, al mwords⟩⟩
theorem lcM_all {β γ : Type} (f : β → γ) : ∀ l : List β, lcM (fun x (_ : Unit) => some (some (f x), ())) l () = some (l.map f, ())
  | [] => rfl
  | x :: r => by
    show ((lcM (fun x (_ : Unit) => some (some (f x), ())) r ()).bind fun (ys, s'') => some (f x :: ys, s'')) = _
    rw [lcM_all f r]
    rfl
def MS.tally (s : MS) : List (Str × Int) := mwords.map fun w => (w, s.cnt w)
theorem xe_tally {aW : Addr} {i j : Nat} {vs : List Nat} (mc : MCls T.K (T.C 0)) (hW : ∀ H, SqT T.K H aW (mwords.map V.str)) (hi : i ∈ vs) (ha : ((wip Γ vs).set i none)[j]? = some (some (vr p))) (hlt : i < (wip Γ vs).length) (hk : Ω[k]? = some (machA T p s)) :
    XE (tLc (iTup T.K (tC (.ref aW))) (gName i) tYes (tTup (tCons (tVar i) (tCons (tDGet (tFld T.K (tVar j) "counts") (tVar i)) tNil))) vs) Γ Ω (va T (LF.mk s.tally)) Ω := by
  refine xe_fz (xn_lc (fun _ : Unit => Ω) (lcM_all (fun w => (w, s.cnt w)) mwords) (xi_words hW) (fun a => tgt_name) (fun m hm => by rw [List.mem_singleton.mp hm]; exact hi) (by decide +kernel) fun a s1 o s2 hm h X => ⟨fun e => ?_, fun y e => ?_⟩)
  · subst e; cases h
  · subst e
    cases h
    have hj : ((wip Γ vs).set i (some (va T a)))[j]? = some (some (vr p)) := by
      have ne : i ≠ j := fun z => by
        subst z
        rw [List.getElem?_set_self hlt] at ha
        cases ha
      rw [List.getElem?_set_ne ne] at ha ⊢
      exact ha
    have hi' : ((wip Γ vs).set i (some (va T a)))[i]? = some (some (va T a)) := List.getElem?_set_self hlt
    exact ⟨xt_yes, xe_tup2 (xa_cons (xe_var hi') (xa_cons (xe_cnt mc hj hi' (app_lt hk) hm) xa_nil))⟩
/-- a frozen thing stored -/
theorem xs_fldR {C : Addr} {f : Str} {t : Hp} {dx : Addr} {fs : List (Str × V)} {j : Nat} {row : List Int} (cl : Cls T.K C) (na : NoAttr T.K C f) (h : ∀ Ω', XE te Γ Ω' (va T (TF.mk row)) Ω') (hj : Γ[j]? = some (some (vr p))) (hk : Ω[k]? = some (rawA t)) (ht : t p = some (.ins C dx fs)) (hl : fs.length < 1000)
    (q : ∀ F1 r vs, Same F0 F1 → SqT T.K F1 r vs → Al T F1 vs row → XS ts D F1 Γ (Ω.set k (rawA (upd t p (.ins C dx (putF f (.ref r) fs)))))) : XS (tSeq (sFld T.K (tVar j) te f) ts) D F0 Γ Ω := fun σ H ⟨F, f0, e, hh⟩ => by
  refine h Ω F σ H e hh _ fun F1 v H1 Ω' e1 hh1 ⟨⟨r, vs, hv, s1, a1⟩, o1⟩ => ?_
  subst o1 hv
  obtain ⟨x, h1, h2⟩ := e.2 j _ hj
  refine ⟨x, h1, p, C, dx, fs, h2, hh1.rawHas hk _ _ ht, cl, na, hl, ?_⟩
  exact q F1 r vs (f0.trans e1) s1 a1 σ _ ⟨F1, Same.refl F1, e.mono e1, hh1.rawWrite hk ht⟩
/-- a number's __init__ -/
theorem bg_put {w s v : Int} {r : Addr} : putF "value" (.int v) (putF "row" (.ref r) (putF "side" (.int s) (putF "width" (.int w) []))) = ([("width", .int w), ("side", .int s), ("row", .ref r), ("value", .int v)] : List (Str × V)) := by
  rw [show putF "width" (V.int w) [] = [(("width" : Str), V.int w)] from rfl, putF_miss (f := "side") (g := "width") (by decide +kernel), show putF "side" (V.int s) [] = [(("side" : Str), V.int s)] from rfl,
    putF_miss (f := "row") (g := "width") (by decide +kernel), putF_miss (f := "row") (g := "side") (by decide +kernel), show putF "row" (V.ref r) [] = [(("row" : Str), V.ref r)] from rfl,
    putF_miss (f := "value") (g := "width") (by decide +kernel), putF_miss (f := "value") (g := "side") (by decide +kernel), putF_miss (f := "value") (g := "row") (by decide +kernel)]
  rfl
theorem xs_binit {ts1 : TE} {w v : Int} {row : List Int} (bc : BCls T.K (T.C 1)) (h0 : Γ[0]? = some (some (vr p))) (h1 : Γ[1]? = some (some (va T w))) (h2 : Γ[2]? = some (some (va T v)))
    (hs : ∀ Ω', XE ts1 Γ Ω' (va T (sgn v)) Ω') (h3 : ∀ Ω', XE te Γ Ω' (va T (TF.mk row)) Ω') (hk : Ω[k]? = some (newA (T.C 1) p)) (q : ∀ σ H, NX F0 Γ (Ω.set k (bigA T p ⟨w, row, v⟩)) σ H → D.nx σ H) :
    XS (tSeq (sFld T.K (tVar 0) (tVar 1) "width") (tSeq (sFld T.K (tVar 0) ts1 "side") (tSeq (sFld T.K (tVar 0) te "row") (sFld T.K (tVar 0) (tVar 2) "value")))) D F0 Γ Ω := by
  intro σ H ⟨F, f0, e, hh⟩
  obtain ⟨t, ⟨dx, ht⟩, _, hh2⟩ := hh.opened hk
  have hk2 : (Ω.set k (rawA t))[k]? = some (rawA t) := set_get hk
  have iv : ∀ {j : Nat} {n : Int} {Ω' : List OA}, Γ[j]? = some (some (va T n)) → XE (tVar j) Γ Ω' (vx (.int n)) Ω' := fun h => (xe_var h).to fun F v a => a
  refine xs_fldV (D := D) (ts := (tSeq (sFld T.K (tVar 0) ts1 "side") (tSeq (sFld T.K (tVar 0) te "row") (sFld T.K (tVar 0) (tVar 2) "value")))) bc.cl bc.nw (iv h1) h0 hk2 ht (by decide) ?_ σ H ⟨F, Same.refl F, e, hh2⟩
  rw [List.set_set]
  refine xs_fldV (v0 := .int (sgn v)) bc.cl bc.ns ((hs _).to fun F u a => a) h0 (set_get hk) upd_same (by show 1 < 1000; decide) ?_
  rw [List.set_set, upd_upd]
  refine xs_fldR bc.cl bc.nr h3 h0 (set_get hk) upd_same (by rw [show putF "width" (V.int w) [] = [(("width" : Str), V.int w)] from rfl, putF_miss (by decide +kernel)]; show 2 < 1000; decide) fun F1 r vs e1 s1 a1 => ?_
  rw [List.set_set, upd_upd]
  refine fun σ H n => xs_fldV (ts := tNext) bc.cl bc.nv (iv h2) h0 (set_get hk) upd_same ?_ ?_ σ H n
  · rw [show putF "width" (V.int w) [] = [(("width" : Str), V.int w)] from rfl, putF_miss (by decide +kernel), show putF "side" (V.int (sgn v)) [] = [(("side" : Str), V.int (sgn v))] from rfl, putF_miss (by decide +kernel), putF_miss (by decide +kernel)]
    show 3 < 1000
    decide
  · rw [List.set_set, upd_upd, bg_put]
    intro σ H n
    have n2 := n.conv (o' := bigA T p ⟨w, row, v⟩) (set_get hk) fun F t f st => ⟨dx, r, vs, st p _ upd_same, Same.tup f s1, a1.mono f⟩
    rw [List.set_set] at n2
    obtain ⟨F2, f2, e2, hh3⟩ := n2
    exact q σ H ⟨F2, f0.trans (e1.trans f2), e2, hh3⟩
end
end VL

set_option Elab.async false
set_option linter.all false
set_option maxRecDepth 100000
/-! what the printed texts lean on -/
namespace VL
open PySem L2
open PyProof.Rows (envOfC)
section
variable {P : Program} {w : World} {K : PySem.W.Frag} {mg : Str → Option Value} {base : Heap}
theorem fn_okD {x qual : Str} {params : Arguments} {body : List Stmt} {scope : Scope} {dvs : List V} {f : Addr} {fd : FuncData} {N ps : List Str} {k : Nat} {Pre : PreT} (F : FunD K x qual params body scope dvs [] f fd) (S : FnScope N ps scope) (hl : ∀ As Ω R, Pre As Ω R → As.length = ps.length)
    (hb : ∀ (cdv : Value) (A : Around) (outer : List PySem.Env) (s : Shared) (H : Hp) (E : XK), Room k (A.deeper (envOfC qual scope s.heap.objs.size f cdv)) → ∀ As Ω R F0, Pre As Ω R →
      Bod (cxOf CX0 P w K mg base N qual scope f cdv A outer s H E).nox body (As.map some ++ List.replicate (N.length - As.length) none) Ω F0 R) : FnOk P w K mg base CX0 (k + 1) f fd ps (mkSp Pre) := by
  refine F.ok S (fun vs H Q E h => ?_) (fun cdv A outer s H vs Q E hr h => ?_)
  · obtain ⟨F, Ω, As, R, hp, ha, _⟩ := h
    rw [ha.len]; exact hl _ _ _ hp
  · obtain ⟨F0, Ω, As, R, hp, ha, hh, hq⟩ := h
    obtain ⟨t, h1, h2⟩ := hb cdv A outer s H E hr As Ω R F0 hp
    exact ⟨t, h1.nox, h2 _ (fun F v H Ω' e hh r => hq F v H Ω' e hh r) (fun F σ H Ω' e hh r => hq F .non H Ω' e hh r) _ _ ⟨F0, Same.refl F0, start_env ha, hh⟩⟩
/-- a class that may be made: dvs fill up what is not written -/
structure CalC (P : Program) (w : World) (K : PySem.W.Frag) (mg : Str → Option Value) (base : Heap) (k : Nat) (x : Str) (C : Addr) (ps : List Str) (dvs : List V) (sp : Sp) : Prop where
  ex : ∃ f fd ds, FnOk P w K mg base CX0 k f fd ps sp ∧ mg x = some (.ref C) ∧ Mk K C f ∧ Vals dvs ds ∧ Binds K fd ps ds
section
variable {X : Cx} {k : Nat} {x m : Str} {C : Addr} {ps : List Str} {dvs : List V} {sp : Sp} {p pos apos : Pos} {e o : Expr} {es : List Expr} {t : TA} {ta : TE}
theorem pe_calC (c : CalC X.prog X.w X.K X.mg X.base k x C ps dvs sp) (hr : Room (k + 1) X.A) (hg : Gl X x) (ha : PA X (e :: es) t)
    (hdb : (x == ("__debug__" : Str)) = false := by decide) (he : starEach (e :: es) X.env = (false, eval e X.env) :: starEach es X.env := by rfl) (hpl : (backTo pos (starEach es X.env)).any (·.1) = false := by rfl) :
    PE X (.Call (.Name x p) (e :: es) [] pos) (tMake C sp dvs E0 t) := by
  obtain ⟨f, fd, ds, F, hm, M, hv, hb⟩ := c.ex
  exact pe_make M F hr hg hm hb hv pass0 ha hdb he hpl
theorem pe_calC0 (c : CalC X.prog X.w X.K X.mg X.base k x C ps dvs sp) (hr : Room (k + 1) X.A) (hg : Gl X x)
    (hdb : (x == ("__debug__" : Str)) = false := by decide) :
    PE X (.Call (.Name x p) [] [] pos) (tMake C sp dvs E0 tNil) := by
  obtain ⟨f, fd, ds, F, hm, M, hv, hb⟩ := c.ex
  exact pe_make0 M F hr hg hm hb hv pass0 hdb
theorem pe_calM {pl : Sem Bool} (he : PE X o ta) (c : CalM X.prog X.w X.K X.mg X.base k C m ps sp) (hr : Room k X.A) (ha : PA X (e :: es) t)
    (hst : starEach (e :: es) X.env = (false, eval e X.env) :: starEach es X.env := by rfl) (hpl : (backTo pos (starEach es X.env)).any (·.1) = false := by rfl)
    (ht : eval (.Call (.Attribute o m apos) (e :: es) [] pos) X.env = (do
      let ov ← eval o X.env
      standAt apos.atName
      let (f, first) ← holding [ov] (getMethod ov m pl)
      callWith pos f first (backTo pos (starEach (e :: es) X.env)) (backToKw pos (keywordEach [] X.env))) := by rfl) :
    PE X (.Call (.Attribute o m apos) (e :: es) [] pos) (tMeth C m sp [] E0 ta t) := by
  obtain ⟨f, fd, F, hm, hb⟩ := c.ex
  exact pe_meth he c.cl hm F hr hb .nil pass0 ha hst hpl ht
theorem pe_calM0 {pl : Sem Bool} (he : PE X o ta) (c : CalM X.prog X.w X.K X.mg X.base k C m ps sp) (hr : Room k X.A)
    (ht : eval (.Call (.Attribute o m apos) [] [] pos) X.env = (do
      let ov ← eval o X.env
      standAt apos.atName
      let (f, first) ← holding [ov] (getMethod ov m pl)
      callWith pos f first (backTo pos (starEach [] X.env)) (backToKw pos (keywordEach [] X.env))) := by rfl) :
    PE X (.Call (.Attribute o m apos) [] [] pos) (tMeth C m sp [] E0 ta tNil) := by
  obtain ⟨f, fd, F, hm, hb⟩ := c.ex
  exact pe_meth0 he c.cl hm F hr hb .nil pass0 ht
/-- a module's constant -/
theorem pe_gl {x : Str} {v : V} {pos : Pos} (hg : Gl X x) (hm : ∃ u, X.mg x = some u ∧ RelV v u) (hd : (x == ("__debug__" : Str)) = false := by decide) : PE X (.Name x pos) (tC v) := by
  obtain ⟨u, h1, h2⟩ := hm
  exact pe_glob hg h1 h2 hd
end
end
section
variable {X : Cx}
theorem op_mulG : OpR X (binaryOp .Mult) (rI IntMulOk fun i j => .int (i * j)) := L2.opI fun _ _ _ _ _ _ _ hc q => PyProof.Rows.mul_int q hc
/-- + of ints, of lists; * of ints, of a list and an int -/
def rAddQ : R2 := fun x y H Q => rI0 (fun i j => .int (i + j)) x y H Q ∨ rCat x y H Q
theorem op_addQ : OpR X (binaryOp .Add) rAddQ := op_add.or op_cat
def rMulQ : R2 := fun x y H Q => rI IntMulOk (fun i j => .int (i * j)) x y H Q ∨ rRep x y H Q
theorem op_mulQ : OpR X (binaryOp .Mult) rMulQ := op_mulG.or op_rep
/-- int(x) -/
def rInt : List V → Hp → VK → Prop := fun xs H Q => (∃ i, xs = [.int i] ∧ Q (.int i) H) ∨ ∃ k, xs = [.bl k] ∧ Q (.int (if k then 1 else 0)) H
theorem cr_int : CallR X (.type "int") rInt := call_int1
def rAbs : List V → Hp → VK → Prop := fun xs H Q => ∃ i, xs = [.int i] ∧ Q (.int (if i < 0 then -i else i)) H
theorem cr_abs : CallR X (.builtin "abs") rAbs := call_abs
def rMax2 : List V → Hp → VK → Prop := fun xs H Q => ∃ i j, xs = [.int i, .int j] ∧ Q (.int (if j > i then j else i)) H
theorem cr_max2 (hc : X.calm = true) : CallR X (.builtin "max") rMax2 := call_max2 hc
def rMin2 : List V → Hp → VK → Prop := fun xs H Q => ∃ i j, xs = [.int i, .int j] ∧ Q (.int (if j < i then j else i)) H
theorem cr_min2 (hc : X.calm = true) : CallR X (.builtin "min") rMin2 := call_min2 hc
/-- x op= y by the operator's rule -/
theorem ip_of {op : Operator} {r : R2} (h : OpR X (inplaceOp op) r) : PIp X op r := h
end
section
variable {T : TC} {Γ : List (Option VA)} {Ω Ω1 Ω2 : List OA} {A B C : VA} {As Ds : List VA} {ta tb te : TE} {t u : TT} {D : Ends} {F0 : Hp} {ts : TS} {i j : Int} {b c : Bool} {α : Type} [Rp α] {l l2 : List α} {p : Addr} {k : Nat} {s : MS} {R : Hp → V → List OA → Prop}
theorem ro_or1 {r r' : R2} (h : RO r Ω A B C) : RO (fun x y H Q => r x y H Q ∨ r' x y H Q) Ω A B C := fun F H x y hh a1 a2 Q q => .inl (h F H x y hh a1 a2 Q q)
theorem ro_or2 {r r' : R2} (h : RO r' Ω A B C) : RO (fun x y H Q => r x y H Q ∨ r' x y H Q) Ω A B C := fun F H x y hh a1 a2 Q q => .inr (h F H x y hh a1 a2 Q q)
theorem xe_add (ha : XE ta Γ Ω (va T i) Ω1) (hb : XE tb Γ Ω1 (va T j) Ω2) : XE (tOp rAddQ ta tb) Γ Ω (va T (i + j)) Ω2 := xe_op ha hb (ro_or1 ro_int)
theorem xe_sub (ha : XE ta Γ Ω (va T i) Ω1) (hb : XE tb Γ Ω1 (va T j) Ω2) : XE (tOp (rI0 fun i j => .int (i - j)) ta tb) Γ Ω (va T (i - j)) Ω2 := xe_op ha hb ro_int
theorem xe_mul (h : IntMulOk i j) (ha : XE ta Γ Ω (va T i) Ω1) (hb : XE tb Γ Ω1 (va T j) Ω2) : XE (tOp rMulQ ta tb) Γ Ω (va T (i * j)) Ω2 := xe_op ha hb (ro_or1 (ro_intD h))
theorem xe_fdiv (h : CDivW i j) (ha : XE ta Γ Ω (va T i) Ω1) (hb : XE tb Γ Ω1 (va T j) Ω2) : XE (tOp (rI CDivW fun i j => .int (i / j)) ta tb) Γ Ω (va T (i / j)) Ω2 := xe_op ha hb (ro_intD h)
theorem xe_mod (h : 0 < j) (ha : XE ta Γ Ω (va T i) Ω1) (hb : XE tb Γ Ω1 (va T j) Ω2) : XE (tOp (rI (fun _ j => 0 < j) fun i j => .int (i % j)) ta tb) Γ Ω (va T (i % j)) Ω2 := xe_op ha hb (ro_intD (D := fun _ j => 0 < j) h)
theorem xe_shl (h : CShl i j) (ha : XE ta Γ Ω (va T i) Ω1) (hb : XE tb Γ Ω1 (va T j) Ω2) : XE (tOp (rI CShl fun i j => .int (i * 2 ^ j.toNat)) ta tb) Γ Ω (va T (i * 2 ^ j.toNat)) Ω2 := xe_op ha hb (ro_intD h)
theorem xe_shr (h : 0 ≤ j) (ha : XE ta Γ Ω (va T i) Ω1) (hb : XE tb Γ Ω1 (va T j) Ω2) : XE (tOp (rI (fun _ j => 0 ≤ j) fun i j => .int (i / 2 ^ j.toNat)) ta tb) Γ Ω (va T (i / 2 ^ j.toNat)) Ω2 := xe_op ha hb (ro_intD (D := fun _ j => 0 ≤ j) h)
theorem xe_pow (h : CPow i j) (ha : XE ta Γ Ω (va T i) Ω1) (hb : XE tb Γ Ω1 (va T j) Ω2) : XE (tOp (rI CPow fun i j => .int (i ^ j.toNat)) ta tb) Γ Ω (va T (i ^ j.toNat)) Ω2 := xe_op ha hb (ro_intD h)
theorem xe_band (ha : XE ta Γ Ω (va T i) Ω1) (hb : XE tb Γ Ω1 (va T j) Ω2) : XE (tOp (rI0 fun i j => .int (Builtin.bitAnd i j)) ta tb) Γ Ω (va T (Builtin.bitAnd i j)) Ω2 := xe_op ha hb ro_int
theorem xe_neg (ha : XE ta Γ Ω (va T i) Ω1) : XE (tUn (rU fun i => .int (-i)) ta) Γ Ω (va T (-i)) Ω1 := xe_un ha ru_int
theorem xe_cat {A B : VA} (ha : XE ta Γ Ω A Ω1) (hb : XE tb Γ Ω1 B Ω2) (h : IsLs T Ω2 A l) (h2 : IsLs T Ω2 B l2) (hz : l.length + l2.length ≤ sizeLine) : XE (tOp rAddQ ta tb) Γ Ω (va T (LF.mk (l ++ l2))) Ω2 := xe_op ha hb (ro_or2 (ro_cat h h2 hz))
theorem xe_rep {A : VA} (ha : XE ta Γ Ω A Ω1) (hb : XE tb Γ Ω1 (va T i) Ω2) (h : IsLs T Ω2 A l) (h1 : (-(2 ^ 63) ≤ i ∧ i < 2 ^ 63) ∧ l.length * i.toNat ≤ sizeLine) : XE (tOp rMulQ ta tb) Γ Ω (va T (LF.mk (List.replicate i.toNat l).flatten)) Ω2 := xe_op ha hb (ro_or2 (ro_rep h h1.1.1 h1.1.2 h1.2))
theorem xn_opX {r r' : R2} {o : Addr → OA} (h : XG (tOp r' ta tb) Γ Ω (RN Ω2 o)) : True := trivial
theorem xe_ix {A : VA} {a : α} (ha : XE ta Γ Ω A Ω1) (hb : XE tb Γ Ω1 (va T i) Ω2) (h : IsL T Ω2 A l) (e : atI l i = some a) : XE (tOp (rIx T.K) ta tb) Γ Ω (va T a) Ω2 := xe_op ha hb (ro_ixL h e)
theorem xe_ixt {A : VA} {a : α} (ha : XE ta Γ Ω A Ω1) (hb : XE tb Γ Ω1 (va T i) Ω2) (h : IsT T Ω2 A l) (e : atI l i = some a) : XE (tOp (rIx T.K) ta tb) Γ Ω (va T a) Ω2 := xe_op ha hb (ro_ixT h e)
theorem xe_int1 (ha : XE te Γ Ω (va T i) Ω1) : XE (tCB rInt (tCons te tNil)) Γ Ω (va T i) Ω1 := xe_cb (xa_cons ha xa_nil) fun F H vs hh a Q q => by
  obtain ⟨v, rfl, a1⟩ := alA1 a
  have a1 : v = .int i := a1
  subst a1
  exact .inl ⟨i, rfl, q F _ H (Same.refl F) hh rfl⟩
theorem xe_intb (ha : XE te Γ Ω (va T b) Ω1) : XE (tCB rInt (tCons te tNil)) Γ Ω (va T (if b = true then (1 : Int) else 0)) Ω1 := xe_cb (xa_cons ha xa_nil) fun F H vs hh a Q q => by
  obtain ⟨v, rfl, a1⟩ := alA1 a
  have a1 : v = .bl b := a1
  subst a1
  refine .inr ⟨b, rfl, q F _ H (Same.refl F) hh ?_⟩
  cases b <;> rfl
theorem xe_abs (ha : XE te Γ Ω (va T i) Ω1) : XE (tCB rAbs (tCons te tNil)) Γ Ω (va T ((i.natAbs : Nat) : Int)) Ω1 := xe_cb (xa_cons ha xa_nil) fun F H vs hh a Q q => by
  obtain ⟨v, rfl, a1⟩ := alA1 a
  have a1 : v = .int i := a1
  subst a1
  refine ⟨i, rfl, q F _ H (Same.refl F) hh ?_⟩
  show V.int _ = V.int _
  congr 1
  split <;> omega
theorem xe_max2 (ha : XE ta Γ Ω (va T i) Ω1) (hb : XE tb Γ Ω1 (va T j) Ω2) : XE (tCB rMax2 (tCons ta (tCons tb tNil))) Γ Ω (va T (max i j)) Ω2 := xe_cb (xa_cons ha (xa_cons hb xa_nil)) fun F H vs hh a Q q => by
  obtain ⟨v, w, rfl, a1, a2⟩ := alA2 a
  have a1 : v = .int i := a1
  have a2 : w = .int j := a2
  subst a1 a2
  refine ⟨i, j, rfl, q F _ H (Same.refl F) hh ?_⟩
  show V.int _ = V.int _
  congr 1
  split <;> omega
theorem xe_min2 (ha : XE ta Γ Ω (va T i) Ω1) (hb : XE tb Γ Ω1 (va T j) Ω2) : XE (tCB rMin2 (tCons ta (tCons tb tNil))) Γ Ω (va T (min i j)) Ω2 := xe_cb (xa_cons ha (xa_cons hb xa_nil)) fun F H vs hh a Q q => by
  obtain ⟨v, w, rfl, a1, a2⟩ := alA2 a
  have a1 : v = .int i := a1
  have a2 : w = .int j := a2
  subst a1 a2
  refine ⟨i, j, rfl, q F _ H (Same.refl F) hh ?_⟩
  show V.int _ = V.int _
  congr 1
  split <;> omega
theorem xe_sum {l : List Int} {A : VA} (ha : XE te Γ Ω A Ω1) (h : IsL T Ω1 A l) : XE (tCB (rSum T.K) (tCons te tNil)) Γ Ω (va T l.sum) Ω1 := xe_cb (xa_cons ha xa_nil) fun F H vs hh a Q q => by
  obtain ⟨v, rfl, a1⟩ := alA1 a
  obtain ⟨p, ws, e, hs, al⟩ := h F H v hh a1
  rw [al_int al] at hs
  exact ⟨p, l, by rw [e], hs, q F _ H (Same.refl F) hh rfl⟩
theorem xe_bits (ha : XE te Γ Ω (va T i) Ω1) : XE (tBits te) Γ Ω (va T ((Builtin.Int.intBits i : Nat) : Int)) Ω1 := fun F σ H e hh Q q => by
  refine ha F σ H e hh _ fun F1 x H1 Ω' e1 hh1 ⟨a1, o1⟩ => ?_
  subst o1
  exact ⟨i, a1, q F1 _ H1 _ e1 hh1 ⟨rfl, rfl⟩⟩
theorem xe_ite {a a' : α} (h : XT t Γ Ω b Ω1) (h1 : XE ta Γ Ω1 (va T a) Ω2) (h2 : XE tb Γ Ω1 (va T a') Ω2) : XE (tIf t ta tb) Γ Ω (va T (if b = true then a else a')) Ω2 :=
  xe_if h (fun e => xe_eq h1 (by rw [if_pos e])) (fun e => xe_eq h2 (by rw [if_neg (by rw [e]; exact Bool.false_ne_true)]))
theorem xe_ifT (h : XT t Γ Ω true Ω1) (h1 : XE ta Γ Ω1 A Ω2) : XE (tIf t ta tb) Γ Ω A Ω2 := xe_if h (fun _ => h1) (fun e => nomatch e)
theorem xe_ifF (h : XT t Γ Ω false Ω1) (h1 : XE tb Γ Ω1 A Ω2) : XE (tIf t ta tb) Γ Ω A Ω2 := xe_if h (fun e => nomatch e) (fun _ => h1)
theorem xt_lt (ha : XE ta Γ Ω (va T i) Ω1) (hb : XE tb Γ Ω1 (va T j) Ω2) : XT (tTest (tOp (rI0 fun i j => .bl (decide (i < j))) ta tb)) Γ Ω (decide (i < j)) Ω2 := xt_test (T := T) (xe_op ha hb ro_bl)
theorem xt_le (ha : XE ta Γ Ω (va T i) Ω1) (hb : XE tb Γ Ω1 (va T j) Ω2) : XT (tTest (tOp (rI0 fun i j => .bl (decide (i ≤ j))) ta tb)) Γ Ω (decide (i ≤ j)) Ω2 := xt_test (T := T) (xe_op ha hb ro_bl)
theorem xt_gt (ha : XE ta Γ Ω (va T i) Ω1) (hb : XE tb Γ Ω1 (va T j) Ω2) : XT (tTest (tOp (rI0 fun i j => .bl (decide (j < i))) ta tb)) Γ Ω (decide (j < i)) Ω2 := xt_test (T := T) (xe_op ha hb (ro_bl (g := fun i j => decide (j < i))))
theorem xt_ge (ha : XE ta Γ Ω (va T i) Ω1) (hb : XE tb Γ Ω1 (va T j) Ω2) : XT (tTest (tOp (rI0 fun i j => .bl (decide (j ≤ i))) ta tb)) Γ Ω (decide (j ≤ i)) Ω2 := xt_test (T := T) (xe_op ha hb (ro_bl (g := fun i j => decide (j ≤ i))))
theorem xe_lt (ha : XE ta Γ Ω (va T i) Ω1) (hb : XE tb Γ Ω1 (va T j) Ω2) : XE (tOp (rI0 fun i j => .bl (decide (i < j))) ta tb) Γ Ω (va T (decide (i < j))) Ω2 := (xe_op ha hb ro_bl)
theorem xe_le (ha : XE ta Γ Ω (va T i) Ω1) (hb : XE tb Γ Ω1 (va T j) Ω2) : XE (tOp (rI0 fun i j => .bl (decide (i ≤ j))) ta tb) Γ Ω (va T (decide (i ≤ j))) Ω2 := (xe_op ha hb ro_bl)
theorem xe_gt (ha : XE ta Γ Ω (va T i) Ω1) (hb : XE tb Γ Ω1 (va T j) Ω2) : XE (tOp (rI0 fun i j => .bl (decide (j < i))) ta tb) Γ Ω (va T (decide (j < i))) Ω2 := (xe_op ha hb (ro_bl (g := fun i j => decide (j < i))))
theorem xe_ge (ha : XE ta Γ Ω (va T i) Ω1) (hb : XE tb Γ Ω1 (va T j) Ω2) : XE (tOp (rI0 fun i j => .bl (decide (j ≤ i))) ta tb) Γ Ω (va T (decide (j ≤ i))) Ω2 := (xe_op ha hb (ro_bl (g := fun i j => decide (j ≤ i))))
/-! == by values, by data -/
def rEqX (K : PySem.W.Frag) : R2 := fun x y H Q => rEq x y H Q ∨ rEqD K x y H Q
theorem op_eqX {X : Cx} (hu : X.A.units + 64 < cLine) : OpR X (compareOp .Eq) (rEqX X.K) := op_eq.or (op_eqD hu)
def rNeX (K : PySem.W.Frag) : R2 := fun x y H Q => rNe x y H Q ∨ rNeD K x y H Q
theorem op_neX {X : Cx} (hu : X.A.units + 64 < cLine) : OpR X (compareOp .NotEq) (rNeX X.K) := op_ne.or (op_neD hu)
theorem xe_eqI (ha : XE ta Γ Ω (va T i) Ω1) (hb : XE tb Γ Ω1 (va T j) Ω2) : XE (tOp (rEqX T.K) ta tb) Γ Ω (va T (decide (i = j))) Ω2 := xe_op ha hb (ro_or1 ro_eqI)
theorem xe_neI (ha : XE ta Γ Ω (va T i) Ω1) (hb : XE tb Γ Ω1 (va T j) Ω2) : XE (tOp (rNeX T.K) ta tb) Γ Ω (va T (!decide (i = j))) Ω2 := xe_op ha hb (ro_or1 ro_neI)
theorem xe_eqB (ha : XE ta Γ Ω (va T b) Ω1) (hb : XE tb Γ Ω1 (va T c) Ω2) : XE (tOp (rEqX T.K) ta tb) Γ Ω (va T (decide (b = c))) Ω2 := xe_op ha hb (ro_or1 ro_eqB)
theorem xe_neB (ha : XE ta Γ Ω (va T b) Ω1) (hb : XE tb Γ Ω1 (va T c) Ω2) : XE (tOp (rNeX T.K) ta tb) Γ Ω (va T (!decide (b = c))) Ω2 := xe_op ha hb (ro_or1 ro_neB)
/-! statements, further -/
theorem xs_ifN {t1 : TS} (h : XT t Γ Ω false Ω1) (q : XS ts D F0 Γ Ω1) : XS (tSeq (tIfS t t1 tNext) ts) D F0 Γ Ω := xs_ifF h q
theorem nt {b : Bool} (h : ¬ b = true) : b = false := by cases b with
  | true => exact absurd rfl h
  | false => rfl
variable {n : Int}
theorem xs_augI {k : Nat} {g : Int → Int → Int} (hx : Γ[k]? = some (some (va T i))) (h : XE te Γ Ω (va T j) Ω1) (e : g i j = n) (q : XS ts D F0 (Γ.set k (some (va T n))) Ω1) : XS (tSeq (tAug k te (rI0 fun i j => .int (g i j))) ts) D F0 Γ Ω := fun σ H ⟨F, f0, en, hh⟩ => by
  subst e
  obtain ⟨x, h1, h2⟩ := en.2 k _ hx
  refine ⟨x, h1, ?_⟩
  refine h F σ H en hh _ fun F1 v H1 Ω' e1 hh1 ⟨a1, o1⟩ => ?_
  exact ⟨i, j, h2, a1, q _ H1 ⟨F1, f0.trans e1, (en.mono e1).set (A := va T (g i j)) rfl, o1 ▸ hh1⟩⟩
theorem xs_augI1 {k : Nat} {g : Int → Int → Int} (hx : Γ[k]? = some (some (va T i))) (h : XE te Γ Ω (va T j) Ω1) (e : g i j = n) (q : ∀ σ H, NX F0 (Γ.set k (some (va T n))) Ω1 σ H → D.nx σ H) : XS (tAug k te (rI0 fun i j => .int (g i j))) D F0 Γ Ω := fun σ H m => xs_augI (ts := tNext) hx h e q σ H m
theorem xs_augD {k : Nat} {Dd : Int → Int → Prop} {g : Int → Int → Int} (hx : Γ[k]? = some (some (va T i))) (hd : Dd i j) (h : XE te Γ Ω (va T j) Ω1) (e : g i j = n) (q : XS ts D F0 (Γ.set k (some (va T n))) Ω1) : XS (tSeq (tAug k te (rI Dd fun i j => .int (g i j))) ts) D F0 Γ Ω := fun σ H ⟨F, f0, en, hh⟩ => by
  subst e
  obtain ⟨x, h1, h2⟩ := en.2 k _ hx
  refine ⟨x, h1, ?_⟩
  refine h F σ H en hh _ fun F1 v H1 Ω' e1 hh1 ⟨a1, o1⟩ => ?_
  exact ⟨i, j, h2, a1, hd, q _ H1 ⟨F1, f0.trans e1, (en.mono e1).set (A := va T (g i j)) rfl, o1 ▸ hh1⟩⟩
theorem xs_augD1 {k : Nat} {Dd : Int → Int → Prop} {g : Int → Int → Int} (hx : Γ[k]? = some (some (va T i))) (hd : Dd i j) (h : XE te Γ Ω (va T j) Ω1) (e : g i j = n) (q : ∀ σ H, NX F0 (Γ.set k (some (va T n))) Ω1 σ H → D.nx σ H) : XS (tAug k te (rI Dd fun i j => .int (g i j))) D F0 Γ Ω := fun σ H m => xs_augD (ts := tNext) hx hd h e q σ H m
theorem xs_par2 {k l : Nat} {ta : TA} (h : XA ta Γ Ω [A, B] Ω1) (q : XS ts D F0 ((Γ.set k (some A)).set l (some B)) Ω1) : XS (tSeq (tPar k l ta) ts) D F0 Γ Ω := fun σ H ⟨F, f0, en, hh⟩ => by
  refine h F σ H en hh _ fun F1 vs H1 e1 hh1 a1 => ?_
  obtain ⟨v, w, rfl, b1, b2⟩ := alA2 a1
  exact ⟨v, w, rfl, q _ H1 ⟨F1, f0.trans e1, ((en.mono e1).set b1).set b2, hh1⟩⟩
theorem xs_par3 {k l m : Nat} {ta : TA} (h : XA ta Γ Ω [A, B, C] Ω1) (q : XS ts D F0 (((Γ.set k (some A)).set l (some B)).set m (some C)) Ω1) : XS (tSeq (tPar3 k l m ta) ts) D F0 Γ Ω := fun σ H ⟨F, f0, en, hh⟩ => by
  refine h F σ H en hh _ fun F1 vs H1 e1 hh1 a1 => ?_
  cases a1 with
  | cons b0 a1 =>
    obtain ⟨v, w, rfl, b1, b2⟩ := alA2 a1
    exact ⟨_, v, w, rfl, q _ H1 ⟨F1, f0.trans e1, (((en.mono e1).set b0).set b1).set b2, hh1⟩⟩
theorem xs_par21 {k l : Nat} {ta : TA} (h : XA ta Γ Ω [A, B] Ω1) (q : ∀ σ H, NX F0 ((Γ.set k (some A)).set l (some B)) Ω1 σ H → D.nx σ H) : XS (tPar k l ta) D F0 Γ Ω := fun σ H n => xs_par2 (ts := tNext) h q σ H n
theorem xs_par31 {k l m : Nat} {ta : TA} (h : XA ta Γ Ω [A, B, C] Ω1) (q : ∀ σ H, NX F0 (((Γ.set k (some A)).set l (some B)).set m (some C)) Ω1 σ H → D.nx σ H) : XS (tPar3 k l m ta) D F0 Γ Ω := fun σ H n => xs_par3 (ts := tNext) h q σ H n
theorem xs_asgG {g : TG} {f : List (Option VA) → List (Option VA)} {js : List Nat} (h : XE te Γ Ω A Ω1) (ht : Tgt g A f js) (q : XS ts D F0 (f Γ) Ω1) : XS (tSeq (tAsg te g) ts) D F0 Γ Ω := fun σ H ⟨F, f0, en, hh⟩ => by
  refine h F σ H en hh _ fun F1 v H1 Ω' e1 hh1 ⟨a1, o1⟩ => ?_
  subst o1
  exact ht F1 σ Γ v H1 _ (en.mono e1) hh1 a1 _ fun F2 σ2 H2 e2 en2 hh2 _ => q σ2 H2 ⟨F2, f0.trans (e1.trans e2), en2, hh2⟩
theorem xs_asgG1 {g : TG} {f : List (Option VA) → List (Option VA)} {js : List Nat} (h : XE te Γ Ω A Ω1) (ht : Tgt g A f js) (q : ∀ σ H, NX F0 (f Γ) Ω1 σ H → D.nx σ H) : XS (tAsg te g) D F0 Γ Ω := fun σ H n => xs_asgG (ts := tNext) h ht q σ H n
theorem mf_none {m : Str} {d e : Addr} (h : (m == "width" || m == "cutoff" || m == "counts" || m == "entered") = false) : (mf s d e).lookup m = none := by
  simp only [Bool.or_eq_false_iff] at h
  unfold mf
  rw [look_ne h.1.1.1, look_ne h.1.1.2, look_ne h.1.2, look_ne h.2]
  rfl
/-- a method of the machine -/
theorem xe_mcall {m : Str} {Pre : PreT} {E : XK} {ta : TE} {t : TA} {Ω' : List OA} (ha : XE ta Γ Ω (vr p) Ω) (hk : Ω[k]? = some (machA T p s)) (hx : XA t Γ Ω As Ω1) (hp : Pre (vr p :: As) Ω1 (RV A Ω')) (he : Ω' = Ω2)
    (hm : (m == "width" || m == "cutoff" || m == "counts" || m == "entered") = false := by decide +kernel) : XE (tMeth (T.C 0) m (mkSp Pre) [] E ta t) Γ Ω A Ω2 := fun F σ H e hh Q q => by
  subst he
  refine ha F σ H e hh _ fun F1 x H1 Ωa e1 hh1 ⟨a1, o1⟩ => ?_
  subst o1
  obtain ⟨t0, ⟨dx, d, en, ws, m1, m2, m3, m4⟩, st, _⟩ := hh1.get hk
  refine ⟨p, dx, _, a1, st _ _ m1, mf_none hm, ?_⟩
  refine hx F1 σ H1 (e.mono e1) hh1 _ fun F2 vs H2 e2 hh2 a2 => ?_
  refine ⟨F2, Ω1, vr p :: As, _, hp, ?_, hh2, fun F' v H' Ω3 e' hh' r => q F' v H' Ω3 ((e1.trans e2).trans e') hh' r⟩
  rw [List.append_nil]
  exact .cons a1 a2
end
section
variable {T : TC} {Γ : List (Option VA)} {Ω Ω1 Ω2 : List OA} {A B C : VA} {ta tb te tc : TE} {i j : Int} {b : Bool}
def rIsi (K : PySem.W.Frag) : List V → Hp → VK → Prop := fun xs H Q => ∃ (x c : V) (t u : Value) (b : Bool), xs = [x, c] ∧ ClsV c u ∧ TyX K H x t ∧ PySem.W.kitOne K t u = some b ∧ Q (.bl b) H
theorem cr_isi {X : Cx} : CallR X (.builtin "isinstance") (rIsi X.K) := call_isi
/-- what a class must be that isinstance asks for -/
structure ICls (K : PySem.W.Frag) (C : Addr) : Prop where
  cl : Cls K C
  ha : PySem.W.findIn K (.ref C) "__class__" = some (some (.builtin "object.__class__"))
  hn : PySem.W.specialIn K (.builtin "object.__class__") "__get__" = some (some (.builtin "getset_descriptor.__get__"))
  htk : PySem.W.takesIn K (.builtin "object.__class__") = some true
  hm : PySem.W.mroIn K C (.type "object") = some true
  kit : PySem.W.kitOne K (.ref C) (.ref C) = some true
theorem xe_isi {c : V} {t u : Value} (ha : XE ta Γ Ω A Ω1) (hb : XE tc Γ Ω1 (vx c) Ω1) (hc : ClsV c u) (ht : ∀ F H v, Holds F Ω1 H → A.P F v → TyX T.K H v t) (hk : PySem.W.kitOne T.K t u = some b) :
    XE (tCB (rIsi T.K) (tCons ta (tCons tc tNil))) Γ Ω (va T b) Ω1 := xe_cb (xa_cons ha (xa_cons hb xa_nil)) fun F H vs hh a Q q => by
  obtain ⟨v, w, rfl, a1, a2⟩ := alA2 a
  have a2 : w = c := a2
  subst a2
  exact ⟨v, w, t, u, b, rfl, hc, ht F H v hh a1, hk, q F _ H (Same.refl F) hh rfl⟩
theorem xe_vx {c : V} : XE (tC c) Γ Ω (vx c) Ω := xe_c fun _ => rfl
theorem ty_int {F H : Hp} {v : V} (_ : Holds F Ω H) (a : (va T i).P F v) : TyX T.K H v (.type "int") := by
  have a : v = .int i := a
  subst a
  exact .base (.int i)
theorem ty_mach {F H : Hp} {v : V} {p : Addr} {k : Nat} {s : MS} (ic : ICls T.K (T.C 0)) (hk : Ω[k]? = some (machA T p s)) (hh : Holds F Ω H) (a : (vr p).P F v) : TyX T.K H v (.ref (T.C 0)) := by
  have a : v = .ref p := a
  subst a
  obtain ⟨t, ⟨dx, d, en, ws, m1, _⟩, st, _⟩ := hh.get hk
  exact .base (.ins (st _ _ m1) ic.cl ic.ha ic.hn ic.htk ic.hm)
theorem ty_big {F H : Hp} {v : V} {x : Bg} (ic : ICls T.K (T.C 1)) (hh : Holds F Ω H) (a : (va T x).P F v) : TyX T.K H v (.ref (T.C 1)) := by
  obtain ⟨p, dx, r, vs, rfl, h2, _⟩ := a
  exact .base (.ins (hh.same _ _ h2) ic.cl ic.ha ic.hn ic.htk ic.hm)
end
section
variable {X : Cx} {K : PySem.W.Frag} {e o tg l : Expr} {es : List Expr} {f m name : Str} {pos p1 p2 p3 apos cpos : Pos} {te ta tl : TE} {t : TA} {k : Nat} {id Tn : String} {r : V → List V → Hp → VK → Prop}
/-! the rules, the written part named (within a comprehension's block) -/
theorem pe_fldK (he : PE X e ta) (hb : attributeBase e f X.env (eval e X.env) = eval e X.env) (hK : X.K = K) : PE X (.Attribute e f pos) (tFld K ta f) := hK ▸ pe_fld he hb
theorem cr_lenK (hK : X.K = K) : CallR X (.builtin "len") (rLen K) := hK ▸ cr_len
theorem cr_listK (hK : X.K = K) : CallR X (.type "list") (rList K) := hK ▸ cr_list
theorem cr_tupleK (hK : X.K = K) : CallR X (.type "tuple") (rTuple K) := hK ▸ cr_tuple
theorem cr_isiK (hK : X.K = K) : CallR X (.builtin "isinstance") (rIsi K) := hK ▸ cr_isi
theorem cr_sumK (hc : X.calm = true) (hK : X.K = K) : CallR X (.builtin "sum") (rSum K) := hK ▸ cr_sum hc
theorem ix_seqK (hK : X.K = K) : IxR X (rIx K) := hK ▸ ix_seq
theorem sl_listK (hK : X.K = K) : SlR X (rSlL K) := hK ▸ sl_list
theorem op_eqXK (hu : X.A.units + 64 < cLine) (hK : X.K = K) : OpR X (compareOp .Eq) (rEqX K) := hK ▸ op_eqX hu
theorem op_neXK (hu : X.A.units + 64 < cLine) (hK : X.K = K) : OpR X (compareOp .NotEq) (rNeX K) := hK ▸ op_neX hu
theorem pe_revLK (he : PE X e te) (hK : X.K = K) : PE X (.Subscript e (.Slice none none (some (.UnaryOp .USub (.Constant (.int 1) k p1) p2)) p3) pos) (tRevL K te) := hK ▸ pe_revL he
theorem pi_listK (hl : PE X l tl) (hK : X.K = K) : PI X tg l (iList K tl) := hK ▸ pi_list hl
theorem pg_tupK {es : List Expr} {k : Nat} {t : TGs} {n : Nat} (hK : X.K = K) (hc : X.calm = true) (h : PGs X es t)
    (hn : (assignEach es X.env).length = n := by rfl) (hst : (assignEach es X.env).findIdx? (·.1) = none := by rfl) : PG X (.Tuple es k pos) (gTup K n t) := hK ▸ pg_tup hc h hn hst
theorem pi_tupK (hl : PE X l tl) (hK : X.K = K) : PI X tg l (iTup K tl) := hK ▸ pi_tup hl
end
theorem neK_ {α : Type} [DecidableEq α] {a b : α} (h : a = b) : (!decide (a = b)) = false := by rw [decide_eq_true h]; rfl
theorem neU_ {α : Type} [DecidableEq α] {a b : α} (h : a ≠ b) : (!decide (a = b)) = true := by rw [decide_eq_false h]; rfl
/-! ### promises of the machine's and the numbers' methods -/
def Pre_Mach_step (T : TC) : PreT := fun As Ω R => ∃ (k : Nat) (p : Addr) (s : MS) (wd : Str) (n : Int), As = [vr p, va T wd, va T n] ∧ Ω[k]? = some (machA T p s) ∧ wd ∈ mwords ∧ R = RV (va T ()) (stt Ω [(k, machA T p (s.step wd n))] [])
def Pre_Mach_enter (T : TC) : PreT := fun As Ω R => ∃ (k : Nat) (p : Addr) (s : MS) (wd : Str) (m n : Int), As = [vr p, va T wd, va T m, va T n] ∧ Ω[k]? = some (machA T p s) ∧ R = RV (va T ()) (stt Ω [(k, machA T p (s.enter wd m n))] [])
def Pre_Mach_reset (T : TC) : PreT := fun As Ω R => ∃ (k : Nat) (p : Addr) (s : MS), As = [vr p] ∧ Ω[k]? = some (machA T p s) ∧ R = RV (va T ()) (stt Ω [(k, machA T p s.reset)] [])
def Pre_Mach_tally (T : TC) : PreT := fun As Ω R => ∃ (k : Nat) (p : Addr) (s : MS), As = [vr p] ∧ Ω[k]? = some (machA T p s) ∧ R = RV (va T (LF.mk s.tally)) Ω
def Pre_Mach_walk (T : TC) : PreT := fun As Ω R => ∃ (k : Nat) (p : Addr) (s : MS), As = [vr p] ∧ Ω[k]? = some (machA T p s) ∧ R = RV (va T (LF.mk s.wk)) Ω
def Pre_Mach_parts (T : TC) : PreT := fun As Ω R => ∃ (k : Nat) (p : Addr) (s : MS), As = [vr p] ∧ Ω[k]? = some (machA T p s) ∧ R = RV (va T (s.w, s.c)) Ω
def Pre_Machine (T : TC) : PreT := fun As Ω R => ∃ (Ω0 : List OA) (p : Addr) (w c : Int), As = [vr p, va T w, va T c] ∧ ((8 ≤ w ∧ w ≤ 30) ∧ 2 ≤ c ∧ c ≤ 1000) ∧ Ω = Ω0 ++ [newA (T.C 0) p] ∧ R = RV (va T ()) (Ω0 ++ [machA T p (MS.fresh w c)])
def Pre_Big (T : TC) : PreT := fun As Ω R => ∃ (Ω0 : List OA) (p : Addr) (w v : Int) (row : List Int) (B : VA), (B = va T (LF.mk row) ∨ B = va T (TF.mk row)) ∧ As = [vr p, va T w, va T v, B] ∧ Ω = Ω0 ++ [newA (T.C 1) p] ∧ R = RV (va T ()) (Ω0 ++ [bigA T p ⟨w, row, v⟩])
/-- what must hold to go on -/
noncomputable def chkP (p : Prop) : Option Unit := @ite _ p (Classical.propDecidable p) (some ()) none
theorem chkP_some {p : Prop} {r : Unit} (h : chkP p = some r) : p := by
  unfold chkP at h
  split at h
  · assumption
  · cases h
theorem chkP_of {p : Prop} (h : p) : chkP p = some () := by unfold chkP; exact if_pos h
end VL

set_option Elab.async false
set_option linter.all false
set_option maxRecDepth 100000
/-! == of data; new things side by side -/
namespace VL
open PySem L2
class Dat (α : Type) [Rp α] where
  dat : α → PyData
  ok : α → Prop
  dep : Nat
  dp : ∀ {T : TC} {F H : Hp} {v : V} {a : α}, Same F H → Rp.rep T F v a → Dp T.K H v (dat a)
  lay : ∀ {a : α}, ok a → (dat a).canLay0 = true
  depth : ∀ {a : α}, (dat a).depth ≤ dep
  eqv : ∀ {a b : α}, PyData.eqv (dat a) (dat b) = true ↔ a = b
instance : Dat Int := ⟨.int, fun _ => True, 0, fun _ h => by
    rw [show _ = V.int _ from h]; exact .int _, fun _ => rfl, Nat.le_refl _, fun {a b} => by
    show (a == b) = true ↔ a = b
    exact beq_iff_eq⟩
instance : Dat Bool := ⟨.bool, fun _ => True, 0, fun _ h => by
    rw [show _ = V.bl _ from h]; exact .bl _, fun _ => rfl, Nat.le_refl _, fun {a b} => by
    show (a == b) = true ↔ a = b
    exact beq_iff_eq⟩
instance : Dat Str := ⟨.str, fun s => (PyData.str s).canLay0 = true, 0, fun _ h => by
    rw [show _ = V.str _ from h]; exact .str _, fun h => h, Nat.le_refl _, fun {a b} => by
    show (a == b) = true ↔ a = b
    exact beq_iff_eq⟩
section
variable {α : Type} [Rp α] [Dat α]
theorem dp_all {T : TC} {F H : Hp} (e : Same F H) : ∀ {vs : List V} {l : List α}, Al T F vs l → DpAll T.K H vs (l.map Dat.dat)
  | _, _, .nil => .nil
  | _, _, .cons h t => .cons (Dat.dp e h) (dp_all e t)
theorem lay_all : ∀ {l : List α}, (∀ x ∈ l, Dat.ok x) → PyData.canLayAll0 (l.map Dat.dat) = true
  | [], _ => rfl
  | x :: r, h => by
    show (PyData.canLay0 (Dat.dat x) && PyData.canLayAll0 (r.map Dat.dat)) = true
    rw [Dat.lay (h x List.mem_cons_self), lay_all fun y hy => h y (List.mem_cons_of_mem _ hy)]
    rfl
theorem dep_all : ∀ {l : List α}, PyData.depthAll (l.map Dat.dat) ≤ Dat.dep α
  | [] => Nat.zero_le _
  | x :: r => by
    show max (PyData.depth (Dat.dat x)) (PyData.depthAll (r.map Dat.dat)) ≤ _
    exact Nat.max_le.mpr ⟨Dat.depth, dep_all⟩
theorem eqv_all : ∀ {l m : List α}, PyData.eqvAll (l.map Dat.dat) (m.map Dat.dat) = true ↔ l = m
  | [], [] => by simp [PyData.eqvAll]
  | [], _ :: _ => by simp [PyData.eqvAll]
  | _ :: _, [] => by simp [PyData.eqvAll]
  | x :: r, y :: s => by
    simp only [List.map_cons, PyData.eqvAll, Bool.and_eq_true, Dat.eqv, eqv_all, List.cons.injEq]
end
theorem depth_list {ds : List PyData} : (PyData.list ds).depth = PyData.depthAll ds + 1 := by simp [PyData.depth]
theorem depth_tuple {ds : List PyData} : (PyData.tuple ds).depth = PyData.depthAll ds + 1 := by simp [PyData.depth]
instance {α : Type} [Rp α] [Dat α] : Dat (LF α) := ⟨fun l => .list (l.l.map Dat.dat), fun l => ∀ x ∈ l.l, Dat.ok x, Dat.dep α + 1, fun e ⟨p, vs, h1, h2, h3⟩ => by
    rw [h1]; exact .lst (SqL.of (e _ _ h2)) (dp_all e h3), fun h => by show PyData.canLayAll0 _ = true; exact lay_all h, fun {a} => by rw [depth_list]; exact Nat.succ_le_succ dep_all, fun {a b} => by
    show PyData.eqvAll _ _ = true ↔ a = b
    rw [eqv_all]
    cases a; cases b; simp⟩
instance {α : Type} [Rp α] [Dat α] : Dat (TF α) := ⟨fun l => .tuple (l.l.map Dat.dat), fun l => ∀ x ∈ l.l, Dat.ok x, Dat.dep α + 1, fun e ⟨p, vs, h1, h2, h3⟩ => by
    rw [h1]; exact .tup (Same.tup e h2) (dp_all e h3), fun h => by show PyData.canLayAll0 _ = true; exact lay_all h, fun {a} => by rw [depth_tuple]; exact Nat.succ_le_succ dep_all, fun {a b} => by
    show PyData.eqvAll _ _ = true ↔ a = b
    rw [eqv_all]
    cases a; cases b; simp⟩
instance {α β : Type} [Rp α] [Rp β] [Dat α] [Dat β] : Dat (α × β) := ⟨fun l => .tuple [Dat.dat l.1, Dat.dat l.2], fun l => Dat.ok l.1 ∧ Dat.ok l.2, max (Dat.dep α) (Dat.dep β) + 1, fun e ⟨p, x, y, h1, h2, h3, h4⟩ => by
    rw [h1]; exact .tup (Same.tup e h2) (.cons (Dat.dp e h3) (.cons (Dat.dp e h4) .nil)), fun h => by
    show (PyData.canLay0 (Dat.dat _) && (PyData.canLay0 (Dat.dat _) && true)) = true
    rw [Dat.lay h.1, Dat.lay h.2]; rfl, fun {a} => by
    rw [depth_tuple]
    refine Nat.succ_le_succ ?_
    show max (PyData.depth (Dat.dat a.1)) (max (PyData.depth (Dat.dat a.2)) 0) ≤ _
    have h1 := Dat.depth (a := a.1)
    have h2 := Dat.depth (a := a.2)
    omega, fun {a b} => by
    show (PyData.eqv (Dat.dat a.1) (Dat.dat b.1) && (PyData.eqv (Dat.dat a.2) (Dat.dat b.2) && true)) = true ↔ a = b
    rw [Bool.and_true, Bool.and_eq_true, Dat.eqv, Dat.eqv]
    exact Prod.ext_iff.symm⟩
instance {α β γ : Type} [Rp α] [Rp β] [Rp γ] [Dat α] [Dat β] [Dat γ] : Dat (T3 α β γ) := ⟨fun l => .tuple [Dat.dat l.a, Dat.dat l.b, Dat.dat l.c], fun l => Dat.ok l.a ∧ Dat.ok l.b ∧ Dat.ok l.c, max (Dat.dep α) (max (Dat.dep β) (Dat.dep γ)) + 1, fun e ⟨p, x, y, z, h1, h2, h3, h4, h5⟩ => by
    rw [h1]; exact .tup (Same.tup e h2) (.cons (Dat.dp e h3) (.cons (Dat.dp e h4) (.cons (Dat.dp e h5) .nil))), fun h => by
    show (PyData.canLay0 (Dat.dat _) && (PyData.canLay0 (Dat.dat _) && (PyData.canLay0 (Dat.dat _) && true))) = true
    rw [Dat.lay h.1, Dat.lay h.2.1, Dat.lay h.2.2]; rfl, fun {a} => by
    rw [depth_tuple]
    refine Nat.succ_le_succ ?_
    show max (PyData.depth (Dat.dat a.a)) (max (PyData.depth (Dat.dat a.b)) (max (PyData.depth (Dat.dat a.c)) 0)) ≤ _
    have h1 := Dat.depth (a := a.a)
    have h2 := Dat.depth (a := a.b)
    have h3 := Dat.depth (a := a.c)
    omega, fun {a b} => by
    show (PyData.eqv (Dat.dat a.a) (Dat.dat b.a) && (PyData.eqv (Dat.dat a.b) (Dat.dat b.b) && (PyData.eqv (Dat.dat a.c) (Dat.dat b.c) && true))) = true ↔ a = b
    rw [Bool.and_true, Bool.and_eq_true, Bool.and_eq_true, Dat.eqv, Dat.eqv, Dat.eqv]
    cases a; cases b; simp⟩
/-- == -/
def eqD {α : Type} [Rp α] [Dat α] (x y : α) : Bool := PyData.eqv (Dat.dat x) (Dat.dat y)
theorem eqD_iff {α : Type} [Rp α] [Dat α] {x y : α} : eqD x y = true ↔ x = y := Dat.eqv
/-- A is data d -/
def IsD (T : TC) (Ω : List OA) (A : VA) (d : PyData) : Prop := ∀ F H v, Holds F Ω H → A.P F v → Dp T.K H v d
section
variable {T : TC} {Γ : List (Option VA)} {Ω Ω1 Ω2 Ω3 : List OA} {A B C : VA} {ta tb te : TE} {D : Ends} {F0 : Hp} {ts : TS} {b : Bool} {α : Type} [Rp α] [Dat α] {x y : α} {l m : List α} {p : Addr} {k : Nat}
theorem isD_va : IsD T Ω (va T x) (Dat.dat x) := fun F H v hh a => Dat.dp hh.same a
theorem isD_M (h : Ω[k]? = some (lstA T p l)) : IsD T Ω (vr p) (Dat.dat (LF.mk l)) := fun F H v hh a => by
  have a : v = .ref p := a
  subst a
  obtain ⟨t, ⟨vs, h1, h2⟩, st, _⟩ := hh.get h
  exact .lst (SqL.of (st _ _ h1)) (dp_all hh.same h2)
theorem shp {x : α} (h : Dat.ok x) (hd : Dat.dep α ≤ 64) : SeqAt.shaped (Dat.dat x) = true := by
  unfold SeqAt.shaped
  rw [Dat.lay h, Bool.true_and]
  exact decide_eq_true (Nat.le_trans Dat.depth hd)
theorem ro_eqD {d e : PyData} (h1 : IsD T Ω A d) (h2 : IsD T Ω B e) (s1 : SeqAt.shaped d = true) (s2 : SeqAt.shaped e = true) : RO (rEqX T.K) Ω A B (va T (PyData.eqv d e)) := fun F H x y hh a1 a2 Q q =>
  .inr ⟨d, e, h1 F H x hh a1, h2 F H y hh a2, s1, s2, q F _ H (Same.refl F) hh rfl⟩
theorem ro_neD {d e : PyData} (h1 : IsD T Ω A d) (h2 : IsD T Ω B e) (s1 : SeqAt.shaped d = true) (s2 : SeqAt.shaped e = true) : RO (rNeX T.K) Ω A B (va T (!PyData.eqv d e)) := fun F H x y hh a1 a2 Q q =>
  .inr ⟨d, e, h1 F H x hh a1, h2 F H y hh a2, s1, s2, q F _ H (Same.refl F) hh rfl⟩
/-- equal data -/
theorem xe_eqK (h : x = y ∧ Dat.ok x) (hd : Dat.dep α ≤ 64) (ha : XE ta Γ Ω A Ω1) (hb : XE tb Γ Ω1 B Ω2) (i1 : IsD T Ω2 A (Dat.dat x)) (i2 : IsD T Ω2 B (Dat.dat y)) : XE (tOp (rEqX T.K) ta tb) Γ Ω (va T true) Ω2 := by
  obtain ⟨h, o⟩ := h
  subst h
  have := xe_op ha hb (ro_eqD i1 i2 (shp o hd) (shp o hd))
  rw [Dat.eqv.mpr rfl] at this
  exact this
theorem xe_neK (h : x = y ∧ Dat.ok x) (hd : Dat.dep α ≤ 64) (ha : XE ta Γ Ω A Ω1) (hb : XE tb Γ Ω1 B Ω2) (i1 : IsD T Ω2 A (Dat.dat x)) (i2 : IsD T Ω2 B (Dat.dat y)) : XE (tOp (rNeX T.K) ta tb) Γ Ω (va T false) Ω2 := by
  obtain ⟨h, o⟩ := h
  subst h
  have := xe_op ha hb (ro_neD i1 i2 (shp o hd) (shp o hd))
  rw [Dat.eqv.mpr rfl] at this
  exact this
/-- unlike data -/
theorem xe_neU (h : x ≠ y ∧ Dat.ok x ∧ Dat.ok y) (hd : Dat.dep α ≤ 64) (ha : XE ta Γ Ω A Ω1) (hb : XE tb Γ Ω1 B Ω2) (i1 : IsD T Ω2 A (Dat.dat x)) (i2 : IsD T Ω2 B (Dat.dat y)) : XE (tOp (rNeX T.K) ta tb) Γ Ω (va T true) Ω2 := by
  have := xe_op ha hb (ro_neD i1 i2 (shp h.2.1 hd) (shp h.2.2 hd))
  rw [show PyData.eqv (Dat.dat x) (Dat.dat y) = false from Bool.eq_false_iff.mpr fun z => h.1 (Dat.eqv.mp z)] at this
  exact this
theorem xe_eqU (h : x ≠ y ∧ Dat.ok x ∧ Dat.ok y) (hd : Dat.dep α ≤ 64) (ha : XE ta Γ Ω A Ω1) (hb : XE tb Γ Ω1 B Ω2) (i1 : IsD T Ω2 A (Dat.dat x)) (i2 : IsD T Ω2 B (Dat.dat y)) : XE (tOp (rEqX T.K) ta tb) Γ Ω (va T false) Ω2 := by
  have := xe_op ha hb (ro_eqD i1 i2 (shp h.2.1 hd) (shp h.2.2 hd))
  rw [show PyData.eqv (Dat.dat x) (Dat.dat y) = false from Bool.eq_false_iff.mpr fun z => h.1 (Dat.eqv.mp z)] at this
  exact this
theorem xe_appE {k : Nat} {p : Addr} {a : α} {l l2 : List α} {Ω2 : List OA} (h0 : Ω[k]? = some (lstA T p l2)) (hk : Ω1[k]? = some (lstA T p l)) (ha : XE ta Γ Ω (vr p) Ω) (hb : XE tb Γ Ω (va T a) Ω1) (hz : l.length < sizeLine) (he : Ω1.set k (lstA T p (l ++ [a])) = Ω2) :
    XE (tBM T.K "list" rAppend ta (tCons tb tNil)) Γ Ω (va T ()) Ω2 := he ▸ xe_app h0 hk ha hb hz
/-- == of data -/
theorem xe_eqD (h : Dat.ok x ∧ Dat.ok y) (hd : Dat.dep α ≤ 64) (ha : XE ta Γ Ω A Ω1) (hb : XE tb Γ Ω1 B Ω2) (i1 : IsD T Ω2 A (Dat.dat x)) (i2 : IsD T Ω2 B (Dat.dat y)) : XE (tOp (rEqX T.K) ta tb) Γ Ω (va T (eqD x y)) Ω2 := xe_op ha hb (ro_eqD i1 i2 (shp h.1 hd) (shp h.2 hd))
theorem xe_neD (h : Dat.ok x ∧ Dat.ok y) (hd : Dat.dep α ≤ 64) (ha : XE ta Γ Ω A Ω1) (hb : XE tb Γ Ω1 B Ω2) (i1 : IsD T Ω2 A (Dat.dat x)) (i2 : IsD T Ω2 B (Dat.dat y)) : XE (tOp (rNeX T.K) ta tb) Γ Ω (va T (!eqD x y)) Ω2 := xe_op ha hb (ro_neD i1 i2 (shp h.1 hd) (shp h.2 hd))
/-- a + b, a new changing list -/
theorem xn_cat {l m : List α} (ha : XE ta Γ Ω A Ω1) (hb : XE tb Γ Ω1 B Ω2) (h : IsLs T Ω2 A l) (h2 : IsLs T Ω2 B m) (hz : l.length + m.length ≤ sizeLine) : XG (tOp rAddQ ta tb) Γ Ω (RN Ω2 fun p => lstA T p (l ++ m)) :=
  xn_op ha hb fun F H x y hh a1 a2 Q q => by
    obtain ⟨p, vs, rfl, hp, al⟩ := h F H x hh a1
    obtain ⟨p2, vs2, rfl, hp2, al2⟩ := h2 F H y hh a2
    refine .inr ⟨p, p2, vs, vs2, rfl, rfl, hp, hp2, by rw [al_len al, al_len al2]; exact hz, fun d hd => ?_⟩
    exact q d _ (hh.newL (o := lstA T d (l ++ m)) hd ⟨_, upd_same, al_app al al2⟩)
/-- x, y = two new things -/
theorem xs_parNN {i j : Nat} {ks ks2 : List (Nat × OA)} {L1 : List OA} {L2 : Addr → List OA} {o1 o2 : Addr → OA} {Ω0 : List OA} (h1 : XG ta Γ Ω0 (RN (stt Ω ks L1) o1)) (h2 : ∀ p, XG tb Γ (stt Ω ks (L1 ++ [o1 p])) (RN (stt Ω ks2 (L2 p)) o2))
    (q : ∀ p1 p2, XS ts D F0 ((Γ.set i (some (vr p1))).set j (some (vr p2))) (stt Ω ks2 (L2 p1 ++ [o2 p2]))) : XS (tSeq (tPar i j (tCons ta (tCons tb tNil))) ts) D F0 Γ Ω0 := fun σ H ⟨F, f0, e, hh⟩ => by
  refine h1 F σ H e hh _ fun F1 x H1 Ω' e1 hh1 ⟨p1, a1, o⟩ => ?_
  subst a1 o
  rw [stt_app] at hh1
  refine h2 p1 F1 σ H1 (e.mono e1) hh1 _ fun F2 y H2 Ω' e2 hh2 ⟨p2, a2, o⟩ => ?_
  subst a2 o
  rw [stt_app] at hh2
  exact ⟨_, _, rfl, q p1 p2 _ H2 ⟨F2, f0.trans (e1.trans e2), (((e.mono e1).mono e2).set (A := vr p1) rfl).set (A := vr p2) rfl, hh2⟩⟩
/-- things made in a turn are left -/
theorem Holds.cutL {F H : Hp} {Ω : List OA} {ks : List (Nat × OA)} {L M : List OA} (h : Holds F (stt Ω ks (L ++ M)) H) : Holds F (stt Ω ks L) H := by
  have e : stt Ω ks (L ++ M) = stt Ω ks L ++ M := (List.append_assoc _ _ _).symm
  rw [e] at h
  obtain ⟨ts, h1, h2, h3, h4, h5⟩ := h
  have len : (stt Ω ks L ++ M).length = (stt Ω ks L).length + M.length := List.length_append
  exact ⟨ts, fun i o q => h1 i o (by rw [List.getElem?_append_left (getlt q)]; exact q), h2, fun i q => h3 i (by omega), fun i b x q => h4 i b x (by omega), fun i j b x qi qj => h5 i j b x (by omega) (by omega)⟩
theorem NX.cutL {ks : List (Nat × OA)} {σ : L2.St} {H : Hp} {L' : List OA} (L M : List OA) (h : NX F0 Γ (stt Ω ks L') σ H) (e : L' = L ++ M := by rfl) : NX F0 Γ (stt Ω ks L) σ H := by
  subst e
  let ⟨F, f0, en, hh⟩ := h
  exact ⟨F, f0, en, hh.cutL⟩
end
/-! ### keyword arguments -/
/-- the parameters' values out of those that are written, by place -/
def prm {α : Type} (ix : List Nat) (l : List α) : List α := ix.filterMap fun i => l[i]?
theorem prm_rel {R : V → Value → Prop} : ∀ (ix : List Nat) {vs : List V} {us : List Value}, Paired R vs us → Paired R (prm ix vs) (prm ix us)
  | [], _, _, _ => .nil
  | i :: r, vs, us, h => by
    have hl := PySem.Paired.length h
    have ih := prm_rel r h
    have key : ∀ (vs : List V) (us : List Value), Paired R vs us → ∀ i : Nat, (vs[i]? = none ∧ us[i]? = none) ∨ ∃ v u, vs[i]? = some v ∧ us[i]? = some u ∧ R v u := by
      intro vs us h
      induction h with
      | nil => intro i; exact .inl ⟨by simp, by simp⟩
      | cons a t ih =>
        intro i
        cases i with
        | zero => exact .inr ⟨_, _, rfl, rfl, a⟩
        | succ i => simpa using ih i
    unfold prm
    rw [List.filterMap_cons, List.filterMap_cons]
    rcases key vs us h i with ⟨h1, h2⟩ | ⟨v, u, h1, h2, rr⟩
    · rw [h1, h2]; exact ih
    · rw [h1, h2]; exact .cons rr ih
theorem prm_relA {F : Hp} : ∀ (ix : List Nat) {vs : List V} {As : List VA}, AlA F vs As → AlA F (prm ix vs) (prm ix As)
  | [], _, _, _ => .nil
  | i :: r, vs, As, h => by
    have ih := prm_relA r h
    have key : ∀ (vs : List V) (As : List VA), AlA F vs As → ∀ i : Nat, (vs[i]? = none ∧ As[i]? = none) ∨ ∃ v A, vs[i]? = some v ∧ As[i]? = some A ∧ A.P F v := by
      intro vs As h
      induction h with
      | nil => intro i; exact .inl ⟨by simp, by simp⟩
      | cons a t ih =>
        intro i
        cases i with
        | zero => exact .inr ⟨_, _, rfl, rfl, a⟩
        | succ i => simpa using ih i
    unfold prm
    rw [List.filterMap_cons, List.filterMap_cons]
    rcases key vs As h i with ⟨h1, h2⟩ | ⟨v, u, h1, h2, rr⟩
    · rw [h1, h2]; exact ih
    · rw [h1, h2]; exact .cons rr ih
structure CalK (P : Program) (w : World) (K : PySem.W.Frag) (mg : Str → Option Value) (base : Heap) (k : Nat) (x : Str) (ps : List Str) (n : Nat) (ks : List Str) (ix : List Nat) (sp : Sp) : Prop where
  ex : ∃ f fd, FnOk P w K mg base CX0 k f fd ps sp ∧ mg x = some (.ref f) ∧ PySem.W.keepIn K (.ref f) = true ∧ KBn K fd ps n ks (fun us ws => prm ix (us ++ ws)) (fun vs zs => prm ix (vs ++ zs))
theorem kbn_of {K : PySem.W.Frag} {x qual : Str} {st : Stmt} {f : Addr} {fd : FuncData} {ps ks : List Str} {n : Nat} {ix : List Nat} (F : Fun K x qual st f fd)
    (h : ∀ (kV doc pm : Value) (an : Option Addr) (cdv ct : Value) (us ws : List Value), us.length = n → ws.length = ks.length → bindArgs (PySem.W.fnOf x qual (defArgs st) (defBody st) (defScope st) .none kV doc pm an cdv ct) ⟨us, ks.zip ws⟩ = pure (ps.zip (prm ix (us ++ ws)))) :
    KBn K fd ps n ks (fun us ws => prm ix (us ++ ws)) (fun vs zs => prm ix (vs ++ zs)) := by
  obtain ⟨oc, od, kV, doc, pm, an, cdv, ct, osl, rfl, lk, hcd⟩ := F.ex
  exact ⟨fun s us ws _ h1 h2 => .of_eq (h kV doc pm an cdv ct us ws h1 h2), fun r1 r2 => prm_rel ix (Vals.append r1 r2)⟩
section
variable {X : Cx} {k n : Nat} {x : Str} {ps ks : List Str} {ix : List Nat} {sp : Sp} {p pos : Pos} {e : Expr} {es : List Expr} {kws : List Keyword} {t tk : TA}
theorem pe_calK (c : CalK X.prog X.w X.K X.mg X.base k x ps n ks ix sp) (hr : Room k X.A) (hg : Gl X x)
    (ha : PA X (e :: es) t) (hkw : PK X kws tk) (hall : (backToKw pos (keywordEach kws X.env)).all (·.1.isSome) = true := by rfl) (hks : (backToKw pos (keywordEach kws X.env)).filterMap (·.1) = ks := by rfl)
    (hdb : (x == ("__debug__" : Str)) = false := by decide) (he : starEach (e :: es) X.env = (false, eval e X.env) :: starEach es X.env := by rfl)
    (hpl : ((backTo pos (starEach (e :: es) X.env)).any (·.1) || (backToKw pos (keywordEach kws X.env)).any (·.1.isNone)) = false := by rfl) :
    PE X (.Call (.Name x p) (e :: es) kws pos) (tCallN n ks.length sp (fun vs zs => prm ix (vs ++ zs)) E0 t tk) := by
  obtain ⟨f, fd, F, hm, hk, hb⟩ := c.ex
  exact pe_callN F hr hg hm hk hb pass0 ha hkw hall hks hdb he hpl
/-- keywords alone -/
theorem pe_calK0 (c : CalK X.prog X.w X.K X.mg X.base k x ps 0 ks ix sp) (hr : Room k X.A) (hg : Gl X x)
    (hkw : PK X kws tk) (hall : (backToKw pos (keywordEach kws X.env)).all (·.1.isSome) = true := by rfl) (hks : (backToKw pos (keywordEach kws X.env)).filterMap (·.1) = ks := by rfl)
    (hdb : (x == ("__debug__" : Str)) = false := by decide)
    (hpl : ((backTo pos (starEach [] X.env)).any (·.1) || (backToKw pos (keywordEach kws X.env)).any (·.1.isNone)) = false := by rfl) :
    PE X (.Call (.Name x p) [] kws pos) (tCallN 0 ks.length sp (fun vs zs => prm ix (vs ++ zs)) E0 tNil tk) := by
  obtain ⟨f, fd, F, hm, hk, hb⟩ := c.ex
  refine ⟨fun pins s σ H Q I h => ?_⟩
  refine PySem.wpAny_Call_Name_kw (ld_glob I hg hm ?_ hdb)
  refine PySem.W.callWith_KW0 (h₀ := X.base) I.ok.mod.kin hk hall ?_ hpl
  refine L2.thn (hkw.run pos pins s σ H _ I h) fun ws s2 ⟨zs, H2, I2, rz, l1, l2, q2⟩ => ⟨I2.kIn, ?_⟩
  rw [hks]
  exact run_fnN (us := []) (vs := []) F hr hb pass0 I2 .nil rz l1 l2 q2
end
section
variable {T : TC} {Γ : List (Option VA)} {Ω Ω1 Ω2 Ω3 : List OA} {A : VA} {As Ks : List VA}
theorem xe_callN {Pre : PreT} {E : XK} {t tk : TA} {ix : List Nat} {n m : Nat} {Ω' : List OA} (ha : XA t Γ Ω As Ω1) (hk : XA tk Γ Ω1 Ks Ω2) (hp : Pre (prm ix (As ++ Ks)) Ω2 (RV A Ω')) (he : Ω' = Ω3) (h1 : As.length = n := by rfl) (h2 : Ks.length = m := by rfl) :
    XE (tCallN n m (mkSp Pre) (fun vs zs => prm ix (vs ++ zs)) E t tk) Γ Ω A Ω3 := fun F σ H e hh Q q => by
  subst he
  refine ha F σ H e hh _ fun F1 xs H1 e1 hh1 a1 => ?_
  refine hk F1 σ H1 (e.mono e1) hh1 _ fun F2 zs H2 e2 hh2 a2 => ?_
  refine ⟨a1.len.trans h1, a2.len.trans h2, F2, Ω2, _, _, hp, prm_relA ix ((a1.mono e2).app a2), hh2, fun F' v H' Ω4 e' hh' r => q F' v H' Ω4 ((e1.trans e2).trans e') hh' r⟩
end
end VL

set_option Elab.async false
set_option linter.all false
set_option maxRecDepth 100000
/-! frozen dicts from texts to ints; zip; pairs by place -/
namespace VL
open PySem L2 PyProof.Rows
structure DF where
  l : List (Str × Int)
def dkv (l : List (Str × Int)) : List (Key × V) := l.map fun q => (Sum.inr q.1, V.int q.2)
instance : Rp DF := ⟨fun T F v d => ∃ p od, v = .ref p ∧ F p = some (.frz od (.dK (dkv d.l))), fun e ⟨p, od, h1, h2⟩ => ⟨p, od, h1, e _ _ h2⟩⟩
/-- what an expression makes is locked for good -/
def tFz (te : TE) : TE := fun σ H Q => te σ H fun v H1 => ∃ p kvs, v = .ref p ∧ H1 p = some (.dK kvs) ∧ ∀ od, Q v (upd H1 p (.frz od (.dK kvs)))
theorem pe_fz {X : Cx} {e : Expr} {te : TE} (he : PE X e te) : PE X e (tFz te) := by
  refine ⟨fun pins s σ H Q I hw => ?_⟩
  refine thn (he.run pins s σ H _ I hw) fun u s1 ⟨x, H1, I1, rx, p, kvs, ex, hp, q⟩ => ?_
  obtain ⟨od, I2⟩ := I1.lock hp trivial
  exact ⟨x, _, I2, rx, q od⟩
/-! ### a dict on its way -/
def rawD (p : Addr) (kvs : List (Key × V)) : OA := ⟨fun _ t => t p = some (.dK kvs), fun _ h => h⟩
theorem Holds.newD {F H : Hp} {Ω : List OA} {p : Addr} {kvs : List (Key × V)} (h : Holds F Ω H) (n : H p = none) : Holds F (Ω ++ [rawD p kvs]) (upd H p (.dK kvs)) := by
  refine h.newO (t := upd (fun _ => none) p (.dK kvs)) (fun b x e => ?_) (same_upd n) (fun b x e => ?_) upd_same
  · by_cases hb : b = p
    · rw [hb]; exact n
    · rw [upd_ne hb] at e; cases e
  · by_cases hb : b = p
    · subst hb; rw [upd_same] at e ⊢; exact e
    · rw [upd_ne hb] at e; cases e
theorem Holds.fzD {F H : Hp} {Ω : List OA} {p : Addr} {kvs : List (Key × V)} {u : HO} (h : Holds F (Ω ++ [rawD p kvs]) H) : H p = some (.dK kvs) ∧ Holds (upd F p u) Ω (upd H p u) ∧ Same F (upd F p u) := by
  obtain ⟨ts, h1, h2, h3, h4, h5⟩ := h
  have len : (Ω ++ [rawD p kvs]).length = Ω.length + 1 := by simp
  have tp : ts Ω.length p = some (.dK kvs) := h1 Ω.length (rawD p kvs) app_at
  have nF : F p = none := h4 Ω.length p _ (by omega) tp
  have sF : Same F (upd F p u) := same_upd nF
  have nt : ∀ i, i < Ω.length → ts i p = none := fun i q => h5 Ω.length i p _ (by omega) (by omega) (by omega) tp
  refine ⟨h3 Ω.length (by omega) p _ tp, ⟨ts, fun i o q => o.mono sF (h1 i o (app_lt q)), fun b x e => ?_, fun i q b x e => ?_, fun i b x q e => ?_, fun i j b x qi qj ne e => h5 i j b x (by omega) (by omega) ne e⟩, sF⟩
  · by_cases hb : b = p
    · subst hb; rw [upd_same] at e ⊢; exact e
    · rw [upd_ne hb] at e ⊢; exact h2 b x e
  · by_cases hb : b = p
    · subst hb; rw [nt i q] at e; cases e
    · rw [upd_ne hb]; exact h3 i (by omega) b x e
  · by_cases hb : b = p
    · subst hb; rw [nt i q] at e; cases e
    · rw [upd_ne hb]; exact h4 i b x (by omega) e
section
variable {T : TC} {Γ : List (Option VA)} {Ω Ω1 Ω2 Ω3 : List OA} {A B C : VA} {ta tb te : TE} {D : Ends} {F0 : Hp} {ts : TS}
/-- keys that differ: merging leaves them as they are -/
theorem any_dkv {k : Str} : ∀ {l : List (Str × Int)}, (k ∉ l.map (·.1)) → ((dkv l).any fun kv => decide (kv.1 = (Sum.inr k : Key))) = false := by
  intro l h
  rw [List.any_eq_false]
  intro x hx
  obtain ⟨y, hy, rfl⟩ := List.mem_map.mp hx
  have : y.1 ≠ k := fun e => h (List.mem_map.mpr ⟨y, hy, e⟩)
  simp [this]
theorem merge_dkv : ∀ {l acc : List (Str × Int)}, ((acc ++ l).map (·.1)).Nodup → mergeK (dkv acc) (dkv l) = dkv (acc ++ l)
  | [], acc, _ => by rw [List.append_nil]; rfl
  | x :: r, acc, h => by
    have hx : x.1 ∉ acc.map (·.1) := fun m => by
      rw [List.map_append, List.nodup_append] at h
      exact h.2.2 _ m _ (by simp) rfl
    have e : mergeK (dkv acc) (dkv (x :: r)) = mergeK (putK (dkv acc) (Sum.inr x.1) (V.int x.2)) (dkv r) := rfl
    have e2 : putK (dkv acc) (Sum.inr x.1) (V.int x.2) = dkv (acc ++ [x]) := by
      unfold putK
      rw [any_dkv hx]
      show dkv acc ++ [(Sum.inr x.1, V.int x.2)] = _
      unfold dkv
      rw [List.map_append]
      rfl
    rw [e, e2, merge_dkv (l := r) (acc := acc ++ [x]) (by rw [List.append_assoc]; exact h), List.append_assoc]
    rfl
theorem merge0 {l : List (Str × Int)} (h : (l.map (·.1)).Nodup) : mergeK [] (dkv l) = dkv l := merge_dkv (acc := []) h
theorem val_dkv {k : Str} {v : Int} : ∀ {l : List (Str × Int)}, l.lookup k = some v → valV (dkv l) (Sum.inr k) = some (V.int v)
  | [], h => by cases h
  | x :: r, h => by
    by_cases e : x.1 = k
    · have hb : (k == x.1) = true := by rw [e]; exact beq_self_eq_true k
      have h2 : (match k == x.1 with | true => some x.2 | false => r.lookup k) = some v := h
      rw [hb] at h2
      have h3 : x.2 = v := Option.some.inj h2
      show valV ((Sum.inr x.1, V.int x.2) :: dkv r) (Sum.inr k) = _
      rw [valV_pos (p := ((Sum.inr x.1 : Key), V.int x.2)) (by show (Sum.inr x.1 : Key) = Sum.inr k; rw [e])]
      show some (V.int x.2) = _
      rw [h3]
    · have hb : (k == x.1) = false := by
        cases q : k == x.1 with
        | false => rfl
        | true => exact absurd (beq_iff_eq.mp q).symm e
      have h2 : (match k == x.1 with | true => some x.2 | false => r.lookup k) = some v := h
      rw [hb] at h2
      have ih := val_dkv (l := r) h2
      show valV ((Sum.inr x.1, V.int x.2) :: dkv r) (Sum.inr k) = _
      unfold valV at ih ⊢
      rw [List.find?_cons_of_neg (by simp [e])]
      exact ih
/-! ### a display -/
def XPs (trs : List (TE × TE)) (Γ : List (Option VA)) (Ω : List OA) (kvs : List (Str × Int)) : Prop :=
  ∀ F σ H, Env F σ Γ → Holds F Ω H → ∀ Q : List (V × V) → Hp → Prop, (∀ F' H', Same F F' → Holds F' Ω H' → Q (kvs.map fun q => (V.str q.1, V.int q.2)) H') → tPairs trs σ H Q
theorem xps_nil : XPs [] Γ Ω [] := fun F σ H e hh Q q => q F H (Same.refl F) hh
theorem xps_cons {tk tv : TE} {trs : List (TE × TE)} {k : Str} {v : Int} {r : List (Str × Int)} (hk : XE tk Γ Ω (va T k) Ω) (hv : XE tv Γ Ω (va T v) Ω) (hr : XPs trs Γ Ω r) : XPs ((tk, tv) :: trs) Γ Ω ((k, v) :: r) := fun F σ H e hh Q q => by
  refine hk F σ H e hh _ fun F1 x H1 Ω' e1 hh1 ⟨a1, o1⟩ => ?_
  subst o1
  refine hv F1 σ H1 (e.mono e1) hh1 _ fun F2 y H2 Ω' e2 hh2 ⟨a2, o2⟩ => ?_
  subst o2
  have a1 : x = V.str k := a1
  have a2 : y = V.int v := a2
  subst a1 a2
  exact hr F2 σ H2 ((e.mono e1).mono e2) hh2 _ fun F3 H3 e3 hh3 => q F3 H3 ((e1.trans e2).trans e3) hh3
theorem xe_disp {trs : List (TE × TE)} {kvs : List (Str × Int)} {ks : List (Nat × OA)} {L : List OA} (h : ∀ X, XPs trs Γ (stt Ω ks (L ++ [X])) kvs) (hn : (kvs.map (·.1)).Nodup) (h15 : kvs.length ≤ 15) : XE (tFz (tDisp trs)) Γ (stt Ω ks L) (va T (DF.mk kvs)) (stt Ω ks L) := fun F σ H e hh Q q => by
  intro p hp
  have hh1 := hh.newD (kvs := []) hp
  rw [stt_app] at hh1
  refine h (rawD p []) F σ _ e hh1 _ fun F2 H2 e2 hh2 => ?_
  rw [← stt_app] at hh2
  refine ⟨(hh2.fzD (u := .dK [])).1, dkv kvs, ?_, by unfold dkv; rw [List.length_map]; exact h15, p, _, rfl, upd_same, fun od => ?_⟩
  · unfold dkv
    rw [List.map_map]
    rfl
  · obtain ⟨_, hh3, e3⟩ := hh2.fzD (u := .frz od (.dK (mergeK [] (dkv kvs))))
    have eu : upd (upd H2 p (.dK (mergeK [] (dkv kvs)))) p (.frz od (.dK (mergeK [] (dkv kvs)))) = upd H2 p (.frz od (.dK (mergeK [] (dkv kvs)))) := by
      funext b
      by_cases hb : b = p
      · subst hb; rw [upd_same, upd_same]
      · rw [upd_ne hb, upd_ne hb, upd_ne hb]
    rw [eu]
    exact q _ _ _ _ (e2.trans e3) hh3 ⟨⟨p, od, rfl, by rw [upd_same, merge0 hn]⟩, rfl⟩
theorem xe_disp0 : XE (tFz tDNewK) Γ Ω (va T (DF.mk [])) Ω := fun F σ H e hh Q q => by
  intro p hp
  refine ⟨p, [], rfl, upd_same, fun od => ?_⟩
  have eu : upd (upd H p (.dK [])) p (.frz od (.dK [])) = upd H p (.frz od (.dK [])) := by
    funext b
    by_cases hb : b = p
    · subst hb; rw [upd_same, upd_same]
    · rw [upd_ne hb, upd_ne hb, upd_ne hb]
  rw [eu]
  obtain ⟨hh3, e3⟩ := hh.newF (u := .frz od (.dK [])) hp
  exact q _ _ _ _ e3 hh3 ⟨⟨p, od, rfl, upd_same⟩, rfl⟩

/-! ### dict(pairs) -/
def rDictP (K : PySem.W.Frag) : List V → Hp → VK → Prop := fun xs H Q => ∃ (a : Addr) (ps : List Addr) (kvs : List (Key × V)), xs = [.ref a] ∧ SqL K H a (ps.map V.ref) ∧ Paired (fun p kv => SqT K H p [kV kv.1, kv.2]) ps kvs ∧
    ∀ p, H p = none → Q (.ref p) (upd H p (.dK (mergeK [] kvs)))
theorem cr_dictPK {X : Cx} {K : PySem.W.Frag} (hc : X.calm = true) (hK : X.K = K) : CallR X (.type "dict") (rDictP K) := hK ▸ call_dictP hc
theorem pairs_al {F : Hp} : ∀ {vs : List V} {l : List (Str × Int)}, Al T F vs l → ∃ ps : List Addr, vs = ps.map V.ref ∧ Paired (fun p kv => SqT T.K F p [kV kv.1, kv.2]) ps (dkv l)
  | _, _, .nil => ⟨[], rfl, .nil⟩
  | _, _, .cons h t => by
    obtain ⟨p, x, y, hv, hs, h1, h2⟩ := h
    have h1 : x = V.str _ := h1
    have h2 : y = V.int _ := h2
    obtain ⟨ps, e, pr⟩ := pairs_al t
    subst h1 h2
    exact ⟨p :: ps, by rw [hv, e]; rfl, .cons hs pr⟩
theorem paired_imp {α β : Type} {R R' : α → β → Prop} (k : ∀ a b, R a b → R' a b) : ∀ {xs : List α} {ys : List β}, Paired R xs ys → Paired R' xs ys
  | _, _, .nil => .nil
  | _, _, .cons h t => .cons (k _ _ h) (paired_imp k t)
theorem fz_upd {H : Hp} {p : Addr} {u u' : HO} : upd (upd H p u) p u' = upd H p u' := by
  funext b
  by_cases hb : b = p
  · subst hb; rw [upd_same, upd_same]
  · rw [upd_ne hb, upd_ne hb, upd_ne hb]
theorem xe_dictP {l : List (Str × Int)} (ha : XE te Γ Ω A Ω1) (h : IsL T Ω1 A l) (hn : (l.map (·.1)).Nodup) : XE (tFz (tCB (rDictP T.K) (tCons te tNil))) Γ Ω (va T (DF.mk l)) Ω1 := fun F σ H e hh Q q => by
  refine ha F σ H e hh _ fun F1 x H1 Ω' e1 hh1 ⟨a1, o1⟩ => ?_
  subst o1
  obtain ⟨p, ws, ev, hs, al⟩ := h F1 H1 x hh1 a1
  obtain ⟨ps, ew, pr⟩ := pairs_al al
  refine ⟨p, ps, dkv l, by rw [ev], (by rw [← ew]; exact hs), paired_imp (fun a b q => Same.tup hh1.same q) pr, fun d hd => ?_⟩
  refine ⟨d, _, rfl, upd_same, fun od => ?_⟩
  rw [fz_upd]
  obtain ⟨hh3, e3⟩ := hh1.newF (u := .frz od (.dK (mergeK [] (dkv l)))) hd
  exact q _ _ _ _ (e1.trans e3) hh3 ⟨⟨d, od, rfl, by rw [upd_same, merge0 hn]⟩, rfl⟩
/-! ### the keys walked, d[k], k in d -/
theorem wk_keys {p : Addr} {od : Obj} {l : List (Str × Int)} : Wk (Itk p od (dkv l)) (fun F => F p = some (.frz od (.dK (dkv l)))) (l.map (·.1)) (fun a => va T a) where
  mono := fun F F' e h => e _ _ h
  go := fun i F Ω H h hh hi => ⟨hh.same _ _ h, by unfold dkv; rw [List.length_map] at hi ⊢; exact hi⟩
  stop := fun F Ω H h hh => ⟨hh.same _ _ h, by unfold dkv; rw [List.length_map, List.length_map]; exact Nat.le_refl _⟩
  yld := fun i a F Ω H x H' h hh hx y => by
    obtain ⟨e, k, v, hk, hv⟩ := y
    subst e hv
    refine ⟨F, Same.refl F, hh, ?_⟩
    unfold dkv at hk
    rw [List.getElem?_map] at hx hk
    cases hl : l[i]? with
    | none => rw [hl] at hx; cases hx
    | some z =>
      rw [hl] at hx hk
      have e1 : z.1 = a := Option.some.inj hx
      have e2 : ((Sum.inr z.1 : Key), V.int z.2) = (k, v) := Option.some.inj hk
      have e3 : k = Sum.inr z.1 := (Prod.mk.inj e2).1.symm
      subst e3 e1
      rfl
theorem xi_keys {l : List (Str × Int)} (ha : XE te Γ Ω (va T (DF.mk l)) Ω1) : XI (iKeys te) Γ Ω (l.map (·.1)) (fun a => va T a) Ω1 := fun F σ H e hh R r => by
  refine ha F σ H e hh _ fun F1 x H1 Ω' e1 hh1 ⟨a1, o1⟩ => ?_
  subst o1
  obtain ⟨p, od, rfl, hp⟩ := a1
  exact ⟨p, od, rfl, .inl ⟨dkv l, hh1.same _ _ hp, r F1 _ H1 _ e1 hh1 wk_keys hp⟩⟩
theorem xe_dget {l : List (Str × Int)} {k : Str} {v : Int} (ha : XE ta Γ Ω (va T (DF.mk l)) Ω1) (hb : XE tb Γ Ω1 (va T k) Ω2) (h : l.lookup k = some v) : XE (tDGet ta tb) Γ Ω (va T v) Ω2 := fun F σ H e hh Q q => by
  refine ha F σ H e hh _ fun F1 x H1 Ω' e1 hh1 ⟨a1, o1⟩ => ?_
  subst o1
  refine hb F1 σ H1 (e.mono e1) hh1 _ fun F2 y H2 Ω' e2 hh2 ⟨a2, o2⟩ => ?_
  subst o2
  obtain ⟨p, od, rfl, hp⟩ := a1
  have a2 : y = V.str k := a2
  subst a2
  exact ⟨p, V.int v, rfl, .inl ⟨dkv l, Sum.inr k, .inr ⟨od, hh2.same _ _ (e2 _ _ hp)⟩, rfl, (val_dkv h).symm⟩, q F2 _ H2 _ (e1.trans e2) hh2 ⟨rfl, rfl⟩⟩
/-! ### == where it is known to hold -/
def rEqF : R2 := fun x y H Q => ∃ a b oa ob ks ls, x = .ref a ∧ y = .ref b ∧ H a = some (.frz oa (.dK ks)) ∧ H b = some (.frz ob (.dK ls)) ∧ ks.length = ls.length ∧ (∀ p ∈ ks, valV ls p.1 = some p.2 ∧ flatB p.2 = true) ∧ Q (.bl true) H
theorem op_eqF {X : Cx} (units : X.A.units < cLine) : OpR X (compareOp .Eq) rEqF := by
  intro pins s σ H x y v u Q inv r1 r2 h
  obtain ⟨a, b, oa, ob, ks, ls, rfl, rfl, ha, hb, len, vals, q⟩ := h
  obtain rfl : v = Value.ref a := r1
  obtain rfl : u = Value.ref b := r2
  have okA : ObjOk X.prog X.w H s.heap a (.dK ks) := (show s.heap.get? a = some oa ∧ ObjOk X.prog X.w H s.heap a (.dK ks) from inv.hok a _ ha).2
  have okB : ObjOk X.prog X.w H s.heap b (.dK ls) := (show s.heap.get? b = some ob ∧ ObjOk X.prog X.w H s.heap b (.dK ls) from inv.hok b _ hb).2
  obtain ⟨_, n1, w1, k1, d1⟩ := okA
  obtain ⟨_, n2, w2, k2, d2⟩ := okB
  have same : w1.length = w2.length := by rw [← k1.length, ← k2.length]; exact len
  exact PySem.W.keq_eq (r := true) (knd := mixKind X.prog X.w) n1 n2 d1 d2 units (fun _ => hits_all k2 k1 vals) (fin_bl inv q (by simp [same]))
/-- the same keys, the same numbers -/
def sameD (l m : List (Str × Int)) : Prop := l.length = m.length ∧ ∀ x ∈ l, m.lookup x.1 = some x.2
theorem xe_eqDF {l m : List (Str × Int)} (ha : XE ta Γ Ω (va T (DF.mk l)) Ω1) (hb : XE tb Γ Ω1 (va T (DF.mk m)) Ω2) (h : sameD l m) : XE (tOp rEqF ta tb) Γ Ω (va T true) Ω2 := xe_op ha hb fun F H x y hh a1 a2 Q q => by
  obtain ⟨p, o1, rfl, h1⟩ := a1
  obtain ⟨p2, o2, rfl, h2⟩ := a2
  refine ⟨p, p2, o1, o2, dkv l, dkv m, rfl, rfl, hh.same _ _ h1, hh.same _ _ h2, by unfold dkv; rw [List.length_map, List.length_map]; exact h.1, fun z hz => ?_, q F _ H (Same.refl F) hh rfl⟩
  obtain ⟨x, hx, rfl⟩ := List.mem_map.mp hz
  exact ⟨val_dkv (h.2 x hx), rfl⟩
/-! ### zip of two lists -/
theorem wk_zip {α β : Type} [Rp α] [Rp β] {l : List α} {m : List β} {a b : Addr} {vs ws : List V} : Wk (Itz T.K a b) (fun F => (SqL T.K F a vs ∧ Al T F vs l) ∧ SqL T.K F b ws ∧ Al T F ws m) (l.zip m) (fun z => va T z) where
  mono := fun F F' e ⟨⟨h1, h2⟩, h3, h4⟩ => ⟨⟨e.seq h1, h2.mono e⟩, e.seq h3, h4.mono e⟩
  go := fun i F Ω H ⟨⟨h1, h2⟩, h3, h4⟩ hh hi => by
    rw [List.length_zip] at hi
    have i1 : i < vs.length := by rw [al_len h2]; omega
    have i2 : i < ws.length := by rw [al_len h4]; omega
    exact ⟨vs, ws, vs[i], ws[i], hh.same.seq h1, hh.same.seq h3, List.getElem?_eq_getElem i1, List.getElem?_eq_getElem i2⟩
  stop := fun F Ω H ⟨⟨h1, h2⟩, h3, h4⟩ hh => ⟨vs, ws, hh.same.seq h1, hh.same.seq h3, by rw [al_len h2, al_len h4, List.length_zip]; omega⟩
  yld := fun i z F Ω H x H' ⟨⟨h1, h2⟩, h3, h4⟩ hh hz y => by
    obtain ⟨p, u, v, ev, hp, eH, k1, k2⟩ := y
    subst ev eH
    have hz2 : l[i]? = some z.1 ∧ m[i]? = some z.2 := by
      rw [List.getElem?_zip_eq_some] at hz
      exact hz
    obtain ⟨u', hu, ru⟩ := al_get h2 hz2.1
    obtain ⟨v', hv, rv⟩ := al_get h4 hz2.2
    have eu := k1 vs (hh.same.seq h1)
    have ev := k2 ws (hh.same.seq h3)
    rw [hu] at eu
    rw [hv] at ev
    cases eu
    cases ev
    obtain ⟨hh2, e2⟩ := hh.newF (u := .tup [u, v]) hp
    exact ⟨_, e2, hh2, p, u, v, rfl, SqT.of upd_same, Rp.mono e2 ru, Rp.mono e2 rv⟩
theorem xi_zip {α β : Type} [Rp α] [Rp β] {l : List α} {m : List β} (ha : XE ta Γ Ω (va T (LF.mk l)) Ω1) (hb : XE tb Γ Ω1 (va T (LF.mk m)) Ω2) : XI (iZip T.K (tCons ta (tCons tb tNil))) Γ Ω (l.zip m) (fun z => va T z) Ω2 := fun F σ H e hh R r => by
  refine xa_cons ha (xa_cons hb xa_nil) F σ H e hh _ fun F1 vs H1 e1 hh1 a1 => ?_
  obtain ⟨v, w, rfl, b1, b2⟩ := alA2 a1
  obtain ⟨p, xs, rfl, h1, al⟩ := b1
  obtain ⟨p2, ys, rfl, h2, al2⟩ := b2
  exact ⟨p, p2, xs, ys, rfl, SqL.of (hh1.same _ _ h1), SqL.of (hh1.same _ _ h2), r F1 _ H1 _ e1 hh1 wk_zip ⟨⟨SqL.of h1, al⟩, SqL.of h2, al2⟩⟩
theorem pi_zipK {X : Cx} {K : PySem.W.Frag} {e e2 : Expr} {ta : TA} {p pos tpos : Pos} {elts : List Expr} {kk : Nat} (hK : X.K = K) (hg : Gl X "zip") (hm : X.mg "zip" = none) (ha : PA X [e, e2] ta)
    (hs : starEach [e, e2] X.env = (false, eval e X.env) :: starEach [e2] X.env := by rfl) (hpl : (backTo pos (starEach [e2] X.env)).any (·.1) = false := by rfl) :
    PI X (.Tuple elts kk tpos) (.Call (.Name "zip" p) [e, e2] [] pos) (iZip K ta) := hK ▸ pi_zip hg hm ha hs hpl
/-! ### a pair's part -/
theorem xe_fst {α β : Type} [Rp α] [Rp β] {z : α × β} (ha : XE te Γ Ω (va T z) Ω1) : XE (tOp (rIx T.K) te (tC (.int 0))) Γ Ω (va T z.1) Ω1 := xe_op ha (xe_int (T := T) (n := 0)) fun F H x y hh a1 a2 Q q => by
  obtain ⟨p, u, v, rfl, hs, r1, r2⟩ := a1
  exact .inr (.inl ⟨p, _, 0, u, rfl, a2, Same.tup hh.same hs, rfl, q F u H (Same.refl F) hh r1⟩)
theorem xe_snd {α β : Type} [Rp α] [Rp β] {z : α × β} (ha : XE te Γ Ω (va T z) Ω1) : XE (tOp (rIx T.K) te (tC (.int 1))) Γ Ω (va T z.2) Ω1 := xe_op ha (xe_int (T := T) (n := 1)) fun F H x y hh a1 a2 Q q => by
  obtain ⟨p, u, v, rfl, hs, r1, r2⟩ := a1
  exact .inr (.inl ⟨p, _, 1, v, rfl, a2, Same.tup hh.same hs, rfl, q F v H (Same.refl F) hh r2⟩)
/-! ### x, y = a value, a new thing -/
theorem xs_parVN {i j : Nat} {ks : List (Nat × OA)} {L : List OA} {o : Addr → OA} {Ω0 : List OA} (h1 : XE ta Γ Ω0 A Ω1) (h2 : XG tb Γ Ω1 (RN (stt Ω ks L) o))
    (q : ∀ p, XS ts D F0 ((Γ.set i (some A)).set j (some (vr p))) (stt Ω ks (L ++ [o p]))) : XS (tSeq (tPar i j (tCons ta (tCons tb tNil))) ts) D F0 Γ Ω0 := fun σ H ⟨F, f0, e, hh⟩ => by
  refine h1 F σ H e hh _ fun F1 x H1 Ω' e1 hh1 ⟨a1, o1⟩ => ?_
  subst o1
  refine h2 F1 σ H1 (e.mono e1) hh1 _ fun F2 y H2 Ω' e2 hh2 ⟨p, a2, o2⟩ => ?_
  subst a2 o2
  rw [stt_app] at hh2
  exact ⟨_, _, rfl, q p _ H2 ⟨F2, f0.trans (e1.trans e2), (((e.mono e1).mono e2).set (A.mono e2 a1)).set (A := vr p) rfl, hh2⟩⟩
theorem xs_parNV {i j : Nat} {ks ks2 : List (Nat × OA)} {L : List OA} {M : Addr → List OA} {o : Addr → OA} {Ω0 : List OA} (h1 : XG ta Γ Ω0 (RN (stt Ω ks L) o)) (h2 : ∀ p, XE tb Γ (stt Ω ks (L ++ [o p])) A (stt Ω ks2 (M p)))
    (q : ∀ p, XS ts D F0 ((Γ.set i (some (vr p))).set j (some A)) (stt Ω ks2 (M p))) : XS (tSeq (tPar i j (tCons ta (tCons tb tNil))) ts) D F0 Γ Ω0 := fun σ H ⟨F, f0, e, hh⟩ => by
  refine h1 F σ H e hh _ fun F1 x H1 Ω' e1 hh1 ⟨p, a1, o1⟩ => ?_
  subst a1 o1
  rw [stt_app] at hh1
  refine h2 p F1 σ H1 (e.mono e1) hh1 _ fun F2 y H2 Ω' e2 hh2 ⟨a2, o2⟩ => ?_
  subst o2
  exact ⟨_, _, rfl, q p _ H2 ⟨F2, f0.trans (e1.trans e2), (((e.mono e1).mono e2).set (A := vr p) rfl).set a2, hh2⟩⟩
/-! ### the sum of a tuple of ints -/
theorem sum_tup {prog : Program} {w : World} {Ar : Around} {E : Value → Shared → Prop} {s : Shared} {l : Addr} {its : List Value} {ns : List Int} {Q : Value → Shared → Prop} (hh : Ar.handled = none) (hl : s.heap.IsTuple l its.toArray) (hi : IntsAre its ns)
    (h : ∀ h' tk t', (∀ b o, s.heap.get? b = some o → h'.get? b = some o) → Q (.int ns.sum t') { s with heap := h', toks := tk }) : wpAny (model prog w) Ar (call (.builtin "sum") [.ref l]) Q E s := by
  obtain ⟨xs, ex⟩ := hi.allInts.items
  have en : numsOf (intItems xs).toList = ns := by rw [← ex]; exact hi.numsOf
  rw [nums_intItems] at en
  rw [ex] at hl
  have lt : l < s.heap.objs.size := by obtain ⟨_, q, _⟩ := hl; exact Heap.lt_size q
  refine PySem.call_sum_walkG (PySem.wpAny_pyIter_tuple hl ?_)
  refine ⟨_, [_, l], [_], _, _, _, numAt xs, rfl, Walks.tuple (A := Ar.in1) hh _ l (Nat.ne_of_lt lt) (intItems xs), ⟨⟨_, Heap.get?_push_size _ rfl, rfl, rfl⟩, hl.push _⟩, fun c hc => ?_, (fun _ _ => intItems_at), fun h' tk t' hk => ?_⟩
  · show c < (s.heap.push _).objs.size
    rw [Heap.size_push]
    have hc : c = s.heap.objs.size ∨ c = l := by simpa using hc
    rcases hc with rfl | rfl
    · exact Nat.lt_succ_self _
    · exact Nat.lt_succ_of_lt lt
  · have keep : ∀ b o, s.heap.get? b = some o → h'.get? b = some o := fun b o e => by
      refine hk b o (fun hm => ?_) (Heap.get?_push_of_some _ e)
      have eb : b = s.heap.objs.size := by simpa using hm
      rw [eb] at e
      exact absurd (Heap.lt_size e) (Nat.lt_irrefl _)
    have r := h h' tk t' keep
    have sz : preSum (numAt xs) (intItems xs).size = ns.sum := by
      rw [show (intItems xs).size = xs.size from by simp [intItems], preSum_eq, List.take_of_length_le (by simp), en]
    rw [sz]
    exact r
def rSumT (K : PySem.W.Frag) : List V → Hp → VK → Prop := fun vs H Q => ∃ (a : Addr) (ns : List Int), vs = [V.ref a] ∧ SqT K H a (ns.map V.int) ∧ Q (.int ns.sum) H
theorem cr_sumT {X : Cx} (calm : X.calm = true) : CallR X (.builtin "sum") (rSumT X.K) := by
  intro pins s σ H vs us Q inv r h
  obtain ⟨a, ns, rfl, hs, q⟩ := h
  obtain ⟨its, rv, ht, _⟩ := inv.tuple hs
  rw [Vals.ref1 r]
  exact sum_tup (inv.ok.hd calm) ht rv.ints fun h' tk t' hk => ⟨.int _, H, inv.kept hk, ⟨_, rfl⟩, q⟩
theorem cr_sumTK {X : Cx} {K : PySem.W.Frag} (hc : X.calm = true) (hK : X.K = K) : CallR X (.builtin "sum") (rSumT K) := hK ▸ cr_sumT hc
theorem xe_sumT {l : List Int} {A : VA} (ha : XE te Γ Ω A Ω1) (h : IsT T Ω1 A l) : XE (tCB (rSumT T.K) (tCons te tNil)) Γ Ω (va T l.sum) Ω1 := xe_cb (xa_cons ha xa_nil) fun F H vs hh a Q q => by
  obtain ⟨v, rfl, a1⟩ := alA1 a
  obtain ⟨p, ws, e, hs, al⟩ := h F H v hh a1
  rw [al_int al] at hs
  exact ⟨p, l, by rw [e], hs, q F _ H (Same.refl F) hh rfl⟩
end
end VL

set_option Elab.async false
set_option linter.all false
set_option maxRecDepth 100000
/-! enumerate over a tuple; a truth whose second part may have no value; slices of tuples -/
namespace VL
open PySem L2 PyProof.Rows
set_option maxHeartbeats 1000000 in
theorem meets_enum1 {v : Value} {o : Obj} {G : Heap → Prop} (B : Begins v o G) :
    Meets (Builtin.«enumerate.__new__» ⟨[.type "enumerate", v], []⟩) (fun _ R s => G s.heap ∧
      R (.ok (.ret (.ref (s.heap.push o).objs.size))) { s with heap := (s.heap.push o).push { cls := .type "enumerate", data := .fields #[.none, .bool false, .ref s.heap.objs.size, rawInt 0, .none, .none] } }) :=
  .of_wp fun prog w A R s hs => by
    obtain ⟨hp, g, d, tk, os⟩ := s
    obtain ⟨b1, b2⟩ := hs
    have hsub := sub_enumerate
    have begin1 : ∀ {A' : Around} {E : Value → Shared → Prop} {Q : Value → Shared → Prop}, Q (.ref hp.objs.size) ⟨hp.push o, g, d, tk, os⟩ → wpAny (model prog w) A' (pyIter v) Q E ⟨hp, g, d, tk, os⟩ :=
      fun q => B.iter prog w _ _ ⟨hp, g, d, tk, os⟩ _ b1 q
    wp_walk using begin1
    refine wpAny_stack_any fun st => wpAny_pure ?_
    split
    · rename_i c _ _ _ _ _
      cases (c == Value.type "enumerate")
      · wp_walk using begin1
        exact ⟨_, rfl, b2⟩
      · wp_walk using begin1
        exact ⟨_, rfl, b2⟩
    · wp_walk using begin1
      exact ⟨_, rfl, b2⟩
theorem call_enum1 {prog : Program} {w : World} {A : Around} {E : Value → Shared → Prop} {s : Shared} {v : Value} {o : Obj} {G : Heap → Prop} {Q : Value → Shared → Prop} (B : Begins v o G) (h1 : G s.heap)
    (h : ∀ h', IsEnum h' (s.heap.objs.size + 1) s.heap.objs.size 0 .none → h'.get? s.heap.objs.size = some o → h'.objs.size = s.heap.objs.size + 2 → (∀ b u, s.heap.get? b = some u → h'.get? b = some u) → Q (.ref (s.heap.objs.size + 1)) { s with heap := h' }) :
    wpAny (model prog w) A (call (.type "enumerate") [v]) Q E s := by
  refine callType_new F.called_enumerate (by decide) (F.typeCall_enumerate_1 _) (F.newCall_enumerate_1 _) (fun obj => F.args_object_init_2 obj _) F.entry_enumerate_new (meets_enum1 B) ⟨h1, ?_⟩
  have sz : (s.heap.push o).objs.size = s.heap.objs.size + 1 := Heap.size_push ..
  have made : IsEnum ((s.heap.push o).push { cls := .type "enumerate", data := .fields #[.none, .bool false, .ref s.heap.objs.size, rawInt 0, .none, .none] }) (s.heap.objs.size + 1) s.heap.objs.size 0 .none := by
    have q := Heap.get?_push_size (s.heap.push o) (o := { cls := .type "enumerate", data := .fields #[.none, .bool false, .ref s.heap.objs.size, rawInt 0, .none, .none] }) rfl
    rw [sz] at q
    exact q
  show _ ∧ _
  rw [sz]
  exact ⟨⟨_, made, rfl⟩, h _ made (Heap.get?_push_of_some _ (Heap.get?_push_size _ B.free)) (by rw [Heap.size_push, sz]) fun b u x => Heap.get?_push_of_some _ (Heap.get?_push_of_some _ x)⟩
/-- the tuple at a, its items in new pairs with their places -/
def IteT (K : PySem.W.Frag) (a : Addr) : It :=
  ⟨fun i H => ∃ xs x, SqT K H a xs ∧ xs[i]? = some x, fun i H v H' => ∃ p x, v = .ref p ∧ H p = none ∧ H' = upd H p (.tup [.int (i : Nat), x]) ∧ ∀ xs, SqT K H a xs → xs[i]? = some x, fun i H => ∃ xs, SqT K H a xs ∧ xs.length = i⟩
theorem turn_enumT {P : Program} {w : World} {K : PySem.W.Frag} {elts : List Expr} {kk : Nat} {tpos : Pos} (a e it : Addr) :
    Turn P w K (.Tuple elts kk tpos) (IteT K a) [e, it] e (fun i h => (∃ old, IsEnum h e it ((i : Nat) : Int) old) ∧ h.IsTupleIter it a i ∧ e ≠ it ∧ e ≠ a ∧ it ≠ a) where
  mem := by simp
  obj := fun i h st b hb => by
    obtain ⟨⟨old, made⟩, ⟨o, ho, hc, hd⟩, _⟩ := st
    have which : b = e ∨ b = it := by simpa using hb
    rcases which with z | z
    · subst z; exact ⟨_, made, fun v q => nomatch q⟩
    · subst z; exact ⟨o, ho, fun v q => by rw [hd] at q; cases q⟩
  keep := fun i h h' st k => let ⟨⟨old, made⟩, hi, n1, n2, n3⟩ := st; ⟨⟨old, k e (by simp) _ made⟩, hi.at fun o q => k it (by simp) o q, n1, n2, n3⟩
  item := by
    intro X hP hw hK calm i pins s σ H E I fresh st go
    subst hP hw hK
    obtain ⟨⟨old, made⟩, hit, n1, n2, n3⟩ := st
    obtain ⟨xs, x, hq, hx⟩ := go
    obtain ⟨its, rv, tupA, _⟩ := I.tuple hq
    obtain ⟨u, hu, ru⟩ := rv.get hx
    have tupA : s.heap.IsTuple a its.toArray := tupA
    have le : e < s.heap.objs.size := Heap.lt_size made
    have li : it < s.heap.objs.size := by obtain ⟨_, q, _⟩ := hit; exact Heap.lt_size q
    have lx : i < its.toArray.size := by have := getlt hu; simpa using this
    refine wpAny_pyNext_enum_itemC (Draws.tuple (A := X.A.in1) (I.ok.hd calm) it a (Ne.symm n3) its.toArray) made ⟨hit, tupA⟩ lx n1 (by simp [n1, n2]) fun y h' tk hy out st' hT hsz hk => ?_
    have ey : y = u := by
      have q : its.toArray[i]? = some y := hy
      rw [List.getElem?_toArray, hu] at q
      exact (Option.some.inj q).symm
    subst ey
    refine ⟨_, rfl, wpAny_letOwnedTupleGo_enum (s := { s with heap := h', toks := tk + 1 }) out fun h'' he' sb => ?_⟩
    have hT2 : h''.get? s.heap.objs.size = some { cls := .type "tuple", data := .seq #[.int i tk, y] } := (sb.2 _ (Nat.ne_of_gt le)).trans hT
    have new : ObjOk X.prog X.w (upd H s.heap.objs.size (.tup [.int (i : Nat), x])) h'' s.heap.objs.size (.tup [.int (i : Nat), x]) :=
      ⟨by show 2 ≤ sizeLine; decide, [.int i tk, y], .cons ⟨_, rfl⟩ (.cons ru .nil), ⟨_, hT2, rfl, _, rfl⟩⟩
    have I1 : Inv X pins σ (upd H s.heap.objs.size (.tup [.int (i : Nat), x])) { s with heap := h'', toks := tk + 1 } :=
      I.turnedNew (ch := [e, it]) (fun b ob hb q => (sb.2 b (fun z => hb (by simp [z]))).trans (hk b ob (fun z => hb (by simp [z])) (fun z => hb (by simp [z])) q)) fresh (Nat.le_refl _) new
    refine ⟨.ref s.heap.objs.size, _, I1, rfl, ⟨_, x, rfl, I.hok.fresh (Nat.le_refl _), rfl, fun ys hy => by rw [I.tuple_inj hy hq]; exact hx⟩, ⟨⟨y, ?_⟩, st'.1.at fun o q => (sb.2 it (Ne.symm n1)).trans q, n1, n2, n3⟩, fun b hb => ?_⟩
    · rw [show ((i + 1 : Nat) : Int) = (i : Int) + 1 from by omega]
      exact he'
    · have which : b = e ∨ b = it := by simpa using hb
      have lb : b < s.heap.objs.size := by
        rcases which with z | z
        · rw [z]; exact le
        · rw [z]; exact li
      rw [upd_ne (Nat.ne_of_lt lb)]
      exact (fresh b hb).1
  done := by
    intro X hP hw hK calm i pins s σ H E I fresh st go
    subst hP hw hK
    obtain ⟨⟨old, made⟩, hit, n1, n2, n3⟩ := st
    obtain ⟨xs, hq, hx⟩ := go
    obtain ⟨its, rv, tupA, _⟩ := I.tuple hq
    obtain ⟨f0, f1, f2, f3, f4, f5⟩ := fresh it (by simp)
    have len : its.toArray.size = i := by
      have q := rv.length
      rw [List.size_toArray]
      omega
    have D := Draws.tuple (prog := X.prog) (w := X.w) (A := X.A.in1) (I.ok.hd calm) it a (Ne.symm n3) its.toArray
    rw [len] at D
    exact wpAny_pyNext_enum_endD D made ⟨hit, show s.heap.IsTuple a its.toArray from tupA⟩ fun h' eb => ⟨rfl, I.turned (t' := s.toks) (fun b o hb q => eb b o hb q) f0 f1 f3 f4 f5⟩
  self := fun A i s Q E st h => let ⟨⟨_, made⟩, _⟩ := st; wpAny_pyIter_enum made h
def iEnumT (K : PySem.W.Frag) (ta : TA) : TI := fun σ H R => ta σ H fun vs H1 => ∃ a xs, vs = [.ref a] ∧ SqT K H1 a xs ∧ R (IteT K a) H1
theorem pi_enumT {X : Cx} {e : Expr} {ta : TA} {p pos tpos : Pos} {elts : List Expr} {kk : Nat} (hg : Gl X "enumerate") (hm : X.mg "enumerate" = none) (ha : PA X [e] ta) (hs : starEach [e] X.env = [(false, eval e X.env)] := by rfl) :
    PI X (.Tuple elts kk tpos) (.Call (.Name "enumerate" p) [e] [] pos) (iEnumT X.K ta) := by
  refine ⟨fun pins s σ H R I h => ?_⟩
  refine Call_ (ld_blt I hg hm boot_enumerate (PyProof.Rows.callWith_type1 (thn (ha.run pos pins s σ H _ I h) fun us s1 ⟨vs, H1, I1, rel, q1⟩ => ?_) hs rfl))
  obtain ⟨a, xs, ex, hq, q⟩ := q1
  subst ex
  obtain ⟨its, rv, tupA, _⟩ := I1.tuple hq
  rw [Vals.ref1 rel]
  have tupA : s1.heap.IsTuple a its.toArray := tupA
  have la : a < s1.heap.objs.size := by obtain ⟨_, q, _⟩ := tupA; exact Heap.lt_size q
  refine call_enum1 (begins_tuple a its.toArray) tupA fun h' made hit hsz hk => wpAny_pyIter_enum made ?_
  have I2 : Inv X pins σ H1 { s1 with heap := h' } := I1.kept (t' := s1.toks) hk
  refine ⟨s1.heap.objs.size + 1, [s1.heap.objs.size + 1, s1.heap.objs.size], _, _, H1, rfl, I2, turn_enumT a (s1.heap.objs.size + 1) s1.heap.objs.size, ⟨⟨.none, made⟩, ⟨_, hit, rfl, rfl⟩, Nat.succ_ne_self _, Nat.ne_of_gt (Nat.lt_succ_of_lt la), Nat.ne_of_gt la⟩, fun b hb => ?_, q⟩
  have which : b = s1.heap.objs.size + 1 ∨ b = s1.heap.objs.size := by simpa using hb
  have lb : s1.heap.objs.size ≤ b := by
    rcases which with z | z
    · rw [z]; exact Nat.le_add_right _ _
    · rw [z]; exact Nat.le_refl _
  exact I1.fpOk lb (I1.hok.fresh lb)
theorem pi_enumTK {X : Cx} {K : PySem.W.Frag} {e : Expr} {ta : TA} {p pos tpos : Pos} {elts : List Expr} {kk : Nat} (hK : X.K = K) (hg : Gl X "enumerate") (hm : X.mg "enumerate" = none) (ha : PA X [e] ta) (hs : starEach [e] X.env = [(false, eval e X.env)] := by rfl) :
    PI X (.Tuple elts kk tpos) (.Call (.Name "enumerate" p) [e] [] pos) (iEnumT K ta) := hK ▸ pi_enumT hg hm ha hs
section
variable {T : TC} {Γ : List (Option VA)} {Ω Ω1 Ω2 Ω3 : List OA} {A B C : VA} {ta tb te : TE} {b : Bool} {α : Type} [Rp α] {l : List α}
/-- the items with their places -/
def nums (l : List α) : List (Int × α) := (rng 0 l.length).zip l
theorem nums_get {l : List α} {i : Nat} {x : α} (h : l[i]? = some x) : (nums l)[i]? = some ((i : Int), x) := by
  unfold nums
  rw [List.getElem?_zip_eq_some]
  refine ⟨?_, h⟩
  unfold rng
  rw [List.getElem?_map, List.getElem?_range (getlt h)]
  show some ((0 : Int) + (i : Int)) = some (i : Int)
  rw [Int.zero_add]
theorem nums_len {l : List α} : (nums l).length = l.length := by
  unfold nums rng
  rw [List.length_zip, List.length_map, List.length_range, Nat.min_self]
theorem wk_enumT {a : Addr} {vs : List V} : Wk (IteT T.K a) (fun F => SqT T.K F a vs ∧ Al T F vs l) (nums l) (fun z => va T z) where
  mono := fun F F' e ⟨h1, h2⟩ => ⟨Same.tup e h1, h2.mono e⟩
  go := fun i F Ω H ⟨h1, h2⟩ hh hi => ⟨vs, vs[i]'(by rw [al_len h2, ← nums_len (l := l)]; exact hi), Same.tup hh.same h1, List.getElem?_eq_getElem _⟩
  stop := fun F Ω H ⟨h1, h2⟩ hh => ⟨vs, Same.tup hh.same h1, by rw [al_len h2, nums_len]⟩
  yld := fun i z F Ω H v H' ⟨h1, h2⟩ hh hz y => by
    obtain ⟨p, x, ev, hp, eH, k⟩ := y
    subst ev eH
    have lt : i < l.length := by have := getlt hz; rwa [nums_len] at this
    have hl : l[i]? = some l[i] := List.getElem?_eq_getElem lt
    rw [nums_get hl] at hz
    have ez := Option.some.inj hz
    subst ez
    obtain ⟨u, hu, ru⟩ := al_get h2 hl
    have ex := k vs (Same.tup hh.same h1)
    rw [hu] at ex
    cases ex
    obtain ⟨hh2, e2⟩ := hh.newF (u := .tup [.int (i : Nat), x]) hp
    exact ⟨_, e2, hh2, p, _, x, rfl, SqT.of upd_same, rfl, Rp.mono e2 ru⟩
theorem xi_enumT (ha : XE te Γ Ω (va T (TF.mk l)) Ω1) : XI (iEnumT T.K (tCons te tNil)) Γ Ω (nums l) (fun z => va T z) Ω1 := fun F σ H e hh R r => by
  refine xa_cons ha xa_nil F σ H e hh _ fun F1 vs H1 e1 hh1 a1 => ?_
  obtain ⟨v, rfl, b1⟩ := alA1 a1
  obtain ⟨p, xs, rfl, h1, al⟩ := b1
  exact ⟨p, xs, rfl, Same.tup hh1.same h1, r F1 _ H1 _ e1 hh1 wk_enumT ⟨h1, al⟩⟩
/-! ### a truth whose second part may have no value -/
theorem xe_andO {mb : Option Bool} {v : Bool} (h1 : XE ta Γ Ω (va T b) Ω) (hm : (if b = true then mb else some false) = some v) (h2 : ∀ v, mb = some v → XE tb Γ Ω (va T v) Ω) : XE (tAndV ta tb) Γ Ω (va T v) Ω := fun F σ H e hh Q q => by
  refine h1 F σ H e hh _ fun F1 x H1 Ω' e1 hh1 ⟨a1, o1⟩ => ?_
  subst o1
  refine ⟨b, a1, ?_⟩
  cases b with
  | true =>
    rw [if_pos rfl] at hm ⊢
    exact h2 v hm F1 σ H1 (e.mono e1) hh1 Q fun F2 y H2 Ω'' e2 hh2 r => q F2 y H2 Ω'' (e1.trans e2) hh2 r
  | false =>
    rw [if_neg Bool.false_ne_true] at hm ⊢
    cases hm
    exact q F1 _ H1 _ e1 hh1 ⟨rfl, rfl⟩
theorem xe_orO {mb : Option Bool} {v : Bool} (h1 : XE ta Γ Ω (va T b) Ω) (hm : (if b = true then some true else mb) = some v) (h2 : ∀ v, mb = some v → XE tb Γ Ω (va T v) Ω) : XE (tOrV ta tb) Γ Ω (va T v) Ω := fun F σ H e hh Q q => by
  refine h1 F σ H e hh _ fun F1 x H1 Ω' e1 hh1 ⟨a1, o1⟩ => ?_
  subst o1
  refine ⟨b, a1, ?_⟩
  cases b with
  | false =>
    rw [if_neg Bool.false_ne_true] at hm ⊢
    exact h2 v hm F1 σ H1 (e.mono e1) hh1 Q fun F2 y H2 Ω'' e2 hh2 r => q F2 y H2 Ω'' (e1.trans e2) hh2 r
  | true =>
    rw [if_pos rfl] at hm ⊢
    cases hm
    exact q F1 _ H1 _ e1 hh1 ⟨rfl, rfl⟩
/-! ### slices of tuples -/
theorem al_cutW {F : Hp} {ws : List V} {lo hi : Option Int} (h : Al T F ws l) (e : HT.sIx ws.length 0 lo = 0 ∧ HT.sIx ws.length ws.length hi = ws.length) : cut l lo hi = l := by
  have q := al_len h
  unfold cut
  rw [← q, e.1, e.2, q, List.drop_zero, Nat.sub_zero, List.take_length]
theorem xe_sliceT {tl th : TO} {lo hi : Option Int} (ha : XE te Γ Ω (va T (TF.mk l)) Ω1) (hl : XO tl Γ Ω1 lo) (hu : XO th Γ Ω1 hi) : XE (tSl (rSlA T.K) te tl th) Γ Ω (va T (TF.mk (cut l lo hi))) Ω1 := fun F σ H e hh Q q => by
  refine ha F σ H e hh _ fun F1 x H1 Ω' e1 hh1 ⟨a1, o1⟩ => ?_
  subst o1
  refine hl F1 σ H1 (e.mono e1) hh1 _ fun F2 H2 e2 hh2 => ?_
  refine hu F2 σ H2 ((e.mono e1).mono e2) hh2 _ fun F3 H3 e3 hh3 => ?_
  obtain ⟨p, ws, rfl, hs, al⟩ := a1
  have hs3 := Same.tup (e2.trans e3) hs
  have al3 := al.mono (e2.trans e3)
  refine ⟨p, ws, rfl, Same.tup hh3.same hs3, fun whole => ?_, fun part d hd => ?_⟩
  · exact q F3 _ H3 _ ((e1.trans e2).trans e3) hh3 ⟨⟨p, ws, rfl, hs3, by show Al T F3 ws (cut l lo hi); rw [al_cutW al3 whole]; exact al3⟩, rfl⟩
  · obtain ⟨hh4, e4⟩ := hh3.newF (u := .tup (cutV ws lo hi)) hd
    exact q _ _ _ _ (((e1.trans e2).trans e3).trans e4) hh4 ⟨⟨d, _, rfl, SqT.of upd_same, (al_cut lo hi al3).mono e4⟩, rfl⟩
theorem sl_tupAK {X : Cx} {K : PySem.W.Frag} (hK : X.K = K) : SlR X (rSlA K) := hK ▸ sl_tupA
/-! ### a pair of a new list and a value -/
def RNP (T : TC) (Ω2 : List OA) (o : Addr → OA) (B : VA) : Hp → V → List OA → Prop := fun F v Ω' => ∃ p t w, v = .ref t ∧ SqT T.K F t [.ref p, w] ∧ B.P F w ∧ Ω' = Ω2 ++ [o p]
def RNQ (T : TC) (Ω2 : List OA) (p : Addr) (B : VA) : Hp → V → List OA → Prop := fun F v Ω' => ∃ t w, v = .ref t ∧ SqT T.K F t [.ref p, w] ∧ B.P F w ∧ Ω' = Ω2
theorem xg_tupNP {p : Addr} {t : TA} (h : XA t Γ Ω [vr p, B] Ω1) : XG (tTup t) Γ Ω (RNQ T Ω1 p B) := fun F σ H e hh Q q => by
  refine h F σ H e hh _ fun F1 xs H1 e1 hh1 a1 => ?_
  obtain ⟨v, w, rfl, b1, b2⟩ := alA2 a1
  have b1 : v = V.ref p := b1
  subst b1
  refine ⟨by show 2 ≤ sizeLine; decide, fun d hd => ?_⟩
  obtain ⟨hh2, e2⟩ := hh1.newF (u := .tup [.ref p, w]) hd
  exact q _ _ _ _ (e1.trans e2) hh2 ⟨d, w, rfl, SqT.of upd_same, B.mono e2 b2, rfl⟩
theorem RT.handNP {F0 : Hp} {Q : VK} {o : Addr → OA} {p : Addr} {j : Nat} {ks : List (Nat × OA)} {L : List OA} (k : RT F0 (RNP T (stt Ω ks []) o B) Q) (hj : L[j]? = some (o p)) : RT F0 (RNQ T (stt Ω ks L) p B) Q := fun F v H Ω' f hh ⟨t, w, a, b, c, e⟩ => by
  subst e
  refine k F v H _ f (Holds.sel (Ω := apk Ω ks) hh hj) ⟨p, t, w, a, b, c, ?_⟩
  rw [stt_nil]
theorem RT.allNP {F0 : Hp} {Q : VK} {o : Addr → OA} {ks : List (Nat × OA)} {L : List OA} (k : RT F0 (RNP T (stt Ω ks []) o B) Q) : RT F0 (RNP T (stt Ω ks L) o B) Q := fun F v H Ω' f hh ⟨p, t, w, a, b, c, e⟩ => by
  subst e
  rw [stt_app] at hh
  refine k F v H _ f (Holds.sel (Ω := apk Ω ks) (o := o p) (j := L.length) hh app_at) ⟨p, t, w, a, b, c, ?_⟩
  rw [stt_nil]
theorem xn_callNP {Pre : PreT} {E : XK} {t : TA} {As : List VA} {Ω' : List OA} {o : Addr → OA} (ha : XA t Γ Ω As Ω1) (hp : Pre As Ω1 (RNP T Ω' o B)) (he : Ω' = Ω2) : XG (tCall (mkSp Pre) [] E t) Γ Ω (RNP T Ω2 o B) := he ▸ xg_call ha hp
theorem xs_asgNP {D : Ends} {F0 : Hp} {ts : TS} {i j : Nat} {ks : List (Nat × OA)} {L : List OA} {o : Addr → OA} {Ω0 : List OA} (h : XG te Γ Ω0 (RNP T (stt Ω ks L) o B))
    (q : ∀ p, XS ts D F0 ((Γ.set i (some (vr p))).set j (some B)) (stt Ω ks (L ++ [o p]))) : XS (tSeq (tAsg te (gTup T.K 2 (gCons (gName i) (gCons (gName j) gNil)))) ts) D F0 Γ Ω0 := fun σ H ⟨F, f0, e, hh⟩ =>
  h F σ H e hh _ fun F1 v H1 Ω' e1 hh1 ⟨p, t, w, a, b, c, eo⟩ => by
    subst eo
    rw [stt_app] at hh1
    exact ⟨t, [.ref p, w], a, Same.tup hh1.same b, rfl, .ref p, [w], rfl, w, [], rfl, rfl, q p _ H1 ⟨F1, f0.trans e1, ((e.mono e1).set (A := vr p) rfl).set c, hh1⟩⟩
theorem xe_fzNP {β : Type} [Rp β] {m : List β} {x : α} (h : XG te Γ Ω (RNP T Ω1 (fun p => lstA T p m) (va T x))) : XE te Γ Ω (va T (LF.mk m, x)) Ω1 := fun F σ H e hh Q q =>
  h F σ H e hh Q fun F1 v H1 Ω' e1 hh1 ⟨p, t, w, a, b, c, eo⟩ => by
    subst eo
    obtain ⟨F', u, s1, s2, ⟨vs, ht, al⟩, hh'⟩ := hh1.freeze
    exact q F' v H1 _ (e1.trans s1) hh' ⟨⟨t, .ref p, w, a, Same.tup s1 b, ⟨p, vs, rfl, s2 _ _ ht, al.mono s1⟩, Rp.mono s1 c⟩, rfl⟩
end
end VL

set_option Elab.async false
set_option linter.all false
set_option maxRecDepth 100000
/-! == and != by the text's own __eq__ -/
namespace VL
open PySem L2 PyProof.Rows
/-- the class at C: a plain one, with its own __eq__ at f, without __ne__ -/
def ownB (K : PySem.W.Frag) (C f : Addr) : Bool := match K.lookup C with
  | some ⟨.type t, _, .cls cd, sl⟩ => (match cd.mro, sl.toList with
    | [.ref C', .type b], [_, _, _, _, some (.builtin n), _] => decide (t = "type") && (decide (C' = C) && (decide (b = "object") && (!cd.hasDel && (PySem.W.nsOkIn K cd.ns && (He.eqO (PySem.W.nsIn K cd.ns "__ne__") (some none) && (He.eqO (PySem.W.nsIn K cd.ns "__eq__") (some (some (.ref f))) &&
        (match K.lookup f with
          | some ⟨.type u, _, _, _⟩ => decide (u = "function")
          | _ => false)))))))
    | _, _ => false)
  | _ => false
theorem ns_some {K : PySem.W.Frag} {h : Heap} {N : Addr} {mp : Str → Option Value} {k : Str} {v : Value} (X : K.In h) (ns : h.Ns N mp) (found : PySem.W.nsIn K N k = some (some v)) : mp k = some v := by
  obtain ⟨ob, ents, cnt, at1, data1, _, find1⟩ := ns
  unfold PySem.W.nsIn at found
  split at found
  · rename_i c d ents2 n' sl q
    have same := X _ _ q
    rw [at1] at same
    cases same
    cases data1
    split at found
    · rename_i entry hit
      cases found
      rw [← find1]
      unfold nsFind findBy
      rw [← Array.find?_toList, hit] <;> rfl
    · split at found <;> cases found
  · cases found
theorem lookup_eq : typeLookup (.type "object") "__eq__" = pure (some (.builtin "object.__eq__")) := by rw [typeLookup_type, builtinLookup_eq_fast]; kernel_rfl
theorem own_ne {K : PySem.W.Frag} {h : Heap} {C f x dx : Addr} {mA : Str → Option Value} (X : K.In h) (q : ownB K C f = true) (hx : ObjM h x dx C mA) : h.OwnEqNoNe x C f "object" [.type "object"] := by
  unfold ownB at q
  split at q
  · rename_i t dd cd sl lk
    split at q
    · rename_i C' b k0 k1 k2 k3 n k5 em es
      obtain ⟨q1, q⟩ := He.ba q
      obtain ⟨q2, q⟩ := He.ba q
      obtain ⟨q3, q⟩ := He.ba q
      obtain ⟨q4, q⟩ := He.ba q
      obtain ⟨q5, q⟩ := He.ba q
      obtain ⟨q6, q⟩ := He.ba q
      obtain ⟨q7, q8⟩ := He.ba q
      have q1 := of_decide_eq_true q1
      have q2 := of_decide_eq_true q2
      have q3 := of_decide_eq_true q3
      subst q1 q2 q3
      obtain ⟨nm, bases, mro, ns, qn, hd, sn, sub, ab, col, del⟩ := cd
      simp only [Bool.not_eq_true'] at em q4 q5 q6 q7
      subst em q4
      obtain ⟨sl⟩ := sl
      simp only at es
      subst es
      split at q8
      · rename_i u fd2 fdt fsl lf
        have q8 := of_decide_eq_true q8
        subst q8
        exact ⟨_, _, nm, qn, ns, bases, hd, sn, sub, ab, col, dd, k0, k1, k2, k3, k5, n, _, _, hx.obj, rfl, X _ _ lk, .of_isNs (PySem.W.isNs_of_in X q5), (ns_some X (.of_isNs (PySem.W.isNs_of_in X q5)) (He.eqO_ok q7)), X _ _ lf, rfl, PySem.F.mro_object, lookup_eq, PySem.W.nsMap_none_of_in X q5 (He.eqO_ok q6)⟩
      · cases q8
    · cases q
  · cases q
/-- x == y, x != y of two instances of the class at C: what its own __eq__ promises -/
def rOwnEq (C : Addr) (sp : Sp) : R2 := fun x y H Q => ∃ a b dx dy fs gs, x = .ref a ∧ y = .ref b ∧ H a = some (.ins C dx fs) ∧ H b = some (.ins C dy gs) ∧ sp [x, y] H (fun v H' => ∃ r, v = .bl r ∧ Q (.bl r) H') E0
def rOwnNe (C : Addr) (sp : Sp) : R2 := fun x y H Q => ∃ a b dx dy fs gs, x = .ref a ∧ y = .ref b ∧ H a = some (.ins C dx fs) ∧ H b = some (.ins C dy gs) ∧ sp [x, y] H (fun v H' => ∃ r, v = .bl r ∧ Q (.bl (!r)) H') E0
section
variable {X : Cx} {n : Nat} {C f : Addr} {fd : FuncData} {ps : List Str} {sp : Sp}
/-- the call of __eq__ at a place with room -/
theorem call_own {A : Around} (F : FnOk X.prog X.w X.K X.mg X.base CX0 n f fd ps sp) (hb : Binds X.K fd ps []) (room : Room n A) (fr : A.frames = X.A.frames) {pins : List (Addr × Obj)} {σ : L2.St} {H : Hp} {s : Shared} {x y : V} {u v : Value} {Q : VK} (I : Inv X pins σ H s) (r1 : RelV x u) (r2 : RelV y v) (q : sp [x, y] H Q E0) :
    wpAny (model X.prog X.w) A (call (.ref f) [u, v]) (EP X pins σ Q) X.xe s := by
  have e0 : Env0 X.prog X.w X.K X.mg X.base A X.stack s H := by
    have b := I.env0
    exact ⟨by rw [fr]; exact b.frames, b.mod, b.bs, b.bsz, b.funs, b.frf, b.hok, b.bare⟩
  have len := F.len _ _ _ _ q
  have two : Vals [x, y] [u, v] := .cons r1 (.cons r2 .nil)
  refine wpAny_call (codeAny_mono (F.run A X.stack s H ⟨[u, v], []⟩ [u, v] [x, y] Q E0 room e0 (by
    have z := hb s [u, v] I.kIn (by simpa using len)
    simpa using z) two q) fun res s' out => ?_)
  cases res with
  | error e => exact False.elim out
  | ok fl =>
    cases fl with
    | ret w => exact I.after out
    | next => exact False.elim out
    | brk => exact False.elim out
    | cont => exact False.elim out
theorem op_ownNe (F : FnOk X.prog X.w X.K X.mg X.base CX0 n f fd ps sp) (own : ownB X.K C f = true) (hb : Binds X.K fd ps []) (room : Room (n + 1) X.A) : OpR X (compareOp .NotEq) (rOwnNe C sp) := by
  intro pins s σ H x y v u Q I r1 r2 h
  obtain ⟨a, b, dx, dy, fs, gs, rfl, rfl, ha, hb', q⟩ := h
  obtain rfl : v = Value.ref a := r1
  obtain rfl : u = Value.ref b := r2
  obtain ⟨mA, J, _⟩ := ins_get I.hok ha
  obtain ⟨mB, J', _⟩ := ins_get I.hok hb'
  have ne := own_ne I.kIn own J
  have hy := J'.obj
  have r3 := call_own F hb room.in1 rfl I (show RelV (V.ref a) (Value.ref a) from rfl) (show RelV (V.ref b) (Value.ref b) from rfl) q
  obtain ⟨hp, g, d, t, os⟩ := s
  refine compareOp_ne_ownEq PySem.F.cmp_object ne hy rfl ?_ (wpAny_mono r3 (fun w s' z => ?_) fun _ _ z => z)
  · have := room.un
    omega
  · obtain ⟨z, H', I', rz, r, ez, q'⟩ := z
    subst ez
    obtain rfl : w = Value.bool r := rz
    exact ⟨r, rfl, .bl (!r), H', I', rfl, q'⟩
theorem op_ownEq (F : FnOk X.prog X.w X.K X.mg X.base CX0 n f fd ps sp) (own : PySem.W.findIn X.K (.ref C) "__eq__" = some (some (.ref f))) (isf : PySem.W.isFn X.K (.ref f) = true) (hb : Binds X.K fd ps []) (room : Room n X.A) : OpR X (compareOp .Eq) (rOwnEq C sp) := by
  intro pins s σ H x y v u Q I r1 r2 h
  obtain ⟨a, b, dx, dy, fs, gs, rfl, rfl, ha, hb', q⟩ := h
  obtain rfl : v = Value.ref a := r1
  obtain rfl : u = Value.ref b := r2
  obtain ⟨mA, J, _⟩ := ins_get I.hok ha
  obtain ⟨mB, J', _⟩ := ins_get I.hok hb'
  obtain ⟨od, J, _⟩ := J.look
  obtain ⟨od', J', _⟩ := J'.look
  obtain ⟨m, fr⟩ := I.fr
  have r3 := call_own F hb room rfl I (show RelV (V.ref a) (Value.ref a) from rfl) (show RelV (V.ref b) (Value.ref b) from rfl) q
  show wpAny (model X.prog X.w) X.A (richCompare .Eq (.ref a) (.ref b)) (EP X pins σ Q) X.xe s
  refine PySem.W.cmp_K (tb := .ref C) (op := .Eq) room.units0 fr I.ok.mod.kin J J'.type (by simp [PySem.W.notFirst]) own isf (wpAny_mono r3 (fun w s' z => ?_) fun _ _ z => z)
  obtain ⟨z, H', I', rz, r, ez, q'⟩ := z
  subst ez
  obtain rfl : w = Value.bool r := rz
  exact ⟨.bl r, H', I', rfl, q'⟩
end
section
variable {T : TC} {Γ : List (Option VA)} {Ω Ω1 Ω2 Ω3 : List OA} {A B C : VA} {ta tb te : TE} {x y : Bg} {r : Bool}
theorem xe_ownNe {Pre : PreT} {Ω' : List OA} (ha : XE ta Γ Ω (va T x) Ω1) (hb : XE tb Γ Ω1 (va T y) Ω2) (hp : Pre [va T x, va T y] Ω2 (RV (va T r) Ω')) (he : Ω' = Ω2) : XE (tOp (rOwnNe (T.C 1) (mkSp Pre)) ta tb) Γ Ω (va T (!r)) Ω2 := xe_op ha hb fun F H u v hh a1 a2 Q q => by
  subst he
  obtain ⟨p, dx, r1, vs, rfl, h1, h2, h3⟩ := id a1
  obtain ⟨p2, dx2, r2, vs2, rfl, g1, g2, g3⟩ := id a2
  refine ⟨p, p2, dx, dx2, _, _, rfl, rfl, hh.same _ _ h1, hh.same _ _ g1, F, _, _, _, hp, .cons a1 (.cons a2 .nil), hh, fun F' w H' Ω'' s' hh' ⟨aw, eo⟩ => ?_⟩
  subst eo
  exact ⟨r, aw, q F' _ H' s' hh' rfl⟩
theorem xe_ownEq {Pre : PreT} {Ω' : List OA} (ha : XE ta Γ Ω (va T x) Ω1) (hb : XE tb Γ Ω1 (va T y) Ω2) (hp : Pre [va T x, va T y] Ω2 (RV (va T r) Ω')) (he : Ω' = Ω2) : XE (tOp (rOwnEq (T.C 1) (mkSp Pre)) ta tb) Γ Ω (va T r) Ω2 := xe_op ha hb fun F H u v hh a1 a2 Q q => by
  subst he
  obtain ⟨p, dx, r1, vs, rfl, h1, h2, h3⟩ := id a1
  obtain ⟨p2, dx2, r2, vs2, rfl, g1, g2, g3⟩ := id a2
  refine ⟨p, p2, dx, dx2, _, _, rfl, rfl, hh.same _ _ h1, hh.same _ _ g1, F, _, _, _, hp, .cons a1 (.cons a2 .nil), hh, fun F' w H' Ω'' s' hh' ⟨aw, eo⟩ => ?_⟩
  subst eo
  exact ⟨r, aw, q F' _ H' s' hh' rfl⟩
/-- a method of a number -/
theorem xe_mcallB {m : Str} {Pre : PreT} {E : XK} {t : TA} {As : List VA} {Ω' : List OA} (ha : XE ta Γ Ω (va T x) Ω1) (hx : XA t Γ Ω1 As Ω2) (hp : Pre (va T x :: As) Ω2 (RV A Ω')) (he : Ω' = Ω3)
    (hm : (m == "width" || m == "side" || m == "row" || m == "value") = false := by decide +kernel) : XE (tMeth (T.C 1) m (mkSp Pre) [] E ta t) Γ Ω A Ω3 := fun F σ H e hh Q q => by
  subst he
  refine ha F σ H e hh _ fun F1 v H1 Ωa e1 hh1 ⟨a1, o1⟩ => ?_
  subst o1
  obtain ⟨p, dx, r1, vs, rfl, h1, h2, h3⟩ := id a1
  simp only [Bool.or_eq_false_iff] at hm
  refine ⟨p, dx, _, rfl, hh1.same _ _ h1, by rw [look_ne hm.1.1.1, look_ne hm.1.1.2, look_ne hm.1.2, look_ne hm.2]; rfl, ?_⟩
  refine hx F1 σ H1 (e.mono e1) hh1 _ fun F2 ws H2 e2 hh2 a2 => ?_
  refine ⟨F2, Ω2, va T x :: As, _, hp, ?_, hh2, fun F' w H' Ω3 e' hh' r => q F' w H' Ω3 ((e1.trans e2).trans e') hh' r⟩
  rw [List.append_nil]
  exact .cons ((va T x).mono e2 a1) a2
end
structure CalEq (P : Program) (w : World) (K : PySem.W.Frag) (mg : Str → Option Value) (base : Heap) (n : Nat) (C : Addr) (sp : Sp) : Prop where
  ex : ∃ f fd, FnOk P w K mg base CX0 n f fd ["self", "other"] sp ∧ ownB K C f = true ∧ Meth K C "__eq__" f ∧ Binds K fd ["self", "other"] []
section
variable {X : Cx} {n : Nat} {C : Addr} {sp : Sp}
theorem op_neC (c : CalEq X.prog X.w X.K X.mg X.base n C sp) (room : Room (n + 1) X.A) : OpR X (compareOp .NotEq) (rOwnNe C sp) := by
  obtain ⟨f, fd, F, own, _, hb⟩ := c.ex
  exact op_ownNe F own hb room
theorem op_eqC (c : CalEq X.prog X.w X.K X.mg X.base n C sp) (room : Room (n + 1) X.A) : OpR X (compareOp .Eq) (rOwnEq C sp) := by
  obtain ⟨f, fd, F, own, me, hb⟩ := c.ex
  exact op_ownEq F me.1 me.2 hb (room.mono (Nat.le_succ n))
end
end VL

set_option Elab.async false
set_option linter.all false
set_option maxRecDepth 100000
/-! bits joined; tuples of four -/
namespace VL
open PySem L2
structure T4 (α β γ δ : Type) where
  a : α
  b : β
  c : γ
  d : δ
instance {α β γ δ : Type} [Rp α] [Rp β] [Rp γ] [Rp δ] : Rp (T4 α β γ δ) := ⟨fun T F v l => ∃ p x y z u, v = .ref p ∧ SqT T.K F p [x, y, z, u] ∧ Rp.rep T F x l.a ∧ Rp.rep T F y l.b ∧ Rp.rep T F z l.c ∧ Rp.rep T F u l.d,
  fun e ⟨p, x, y, z, u, h1, h2, h3, h4, h5, h6⟩ => ⟨p, x, y, z, u, h1, Same.tup e h2, Rp.mono e h3, Rp.mono e h4, Rp.mono e h5, Rp.mono e h6⟩⟩
section
variable {T : TC} {Γ : List (Option VA)} {Ω Ω1 Ω2 Ω3 : List OA} {A B C : VA} {As : List VA} {ta tb te : TE} {t u : TT} {i j n m : Int} {b c : Bool}
theorem xe_bor (ha : XE ta Γ Ω (va T i) Ω1) (hb : XE tb Γ Ω1 (va T j) Ω2) : XE (tOp (rI0 fun i j => .int (Builtin.bitOr i j)) ta tb) Γ Ω (va T (Builtin.bitOr i j)) Ω2 := xe_op ha hb ro_int
theorem xe_bxor (ha : XE ta Γ Ω (va T i) Ω1) (hb : XE tb Γ Ω1 (va T j) Ω2) : XE (tOp (rI0 fun i j => .int (Builtin.bitXor i j)) ta tb) Γ Ω (va T (Builtin.bitXor i j)) Ω2 := xe_op ha hb ro_int
theorem xe_bnot (ha : XE ta Γ Ω (va T i) Ω1) : XE (tUn (rU fun i => .int (Builtin.bitNot i)) ta) Γ Ω (va T (Builtin.bitNot i)) Ω1 := xe_un ha ru_int
theorem xe_tup4 {α β γ δ : Type} [Rp α] [Rp β] [Rp γ] [Rp δ] {a : α} {x : β} {y : γ} {z : δ} {ta : TA} (h : XA ta Γ Ω [va T a, va T x, va T y, va T z] Ω1) : XE (tTup ta) Γ Ω (va T (T4.mk a x y z)) Ω1 := fun F σ H e hh Q q => by
  refine h F σ H e hh _ fun F1 xs H1 e1 hh1 a1 => ?_
  cases a1 with
  | cons h1 a1 =>
    cases a1 with
    | cons h2 a1 =>
      obtain ⟨v, w, rfl, h3, h4⟩ := alA2 a1
      refine ⟨by show 4 ≤ sizeLine; decide, fun p hp => ?_⟩
      obtain ⟨hh2, e2⟩ := hh1.newF (u := .tup [_, _, v, w]) hp
      exact q _ _ _ _ (e1.trans e2) hh2 ⟨⟨p, _, _, v, w, rfl, SqT.of upd_same, Rp.mono e2 h1, Rp.mono e2 h2, Rp.mono e2 h3, Rp.mono e2 h4⟩, rfl⟩
theorem tgt_quad {α β γ δ : Type} [Rp α] [Rp β] [Rp γ] [Rp δ] {x : T4 α β γ δ} {k l m n : Nat} : Tgt (gTup T.K 4 (gCons (gName k) (gCons (gName l) (gCons (gName m) (gCons (gName n) gNil))))) (va T x) (fun Γ => (((Γ.set k (some (va T x.a))).set l (some (va T x.b))).set m (some (va T x.c))).set n (some (va T x.d))) [k, l, m, n] := fun F σ Γ v H Ω e hh a Q q => by
  obtain ⟨p, y, z, w, u, rfl, ht, ry, rz, rw, ru⟩ := a
  refine ⟨p, [y, z, w, u], rfl, Same.tup hh.same ht, rfl, y, [z, w, u], rfl, z, [w, u], rfl, w, [u], rfl, u, [], rfl, rfl, ?_⟩
  exact q F _ H (Same.refl F) ((((e.set (A := va T x.a) ry).set (A := va T x.b) rz).set (A := va T x.c) rw).set (A := va T x.d) ru) hh fun vs h => (wipe_set (h n (by simp))).trans ((wipe_set (h m (by simp))).trans ((wipe_set (h l (by simp))).trans (wipe_set (h k (by simp)))))
theorem xe_a4 {α β γ δ : Type} [Rp α] [Rp β] [Rp γ] [Rp δ] {x : T4 α β γ δ} (ha : XE te Γ Ω (va T x) Ω1) (hi : XE ti Γ Ω1 (va T (2 : Int)) Ω1) : XE (tOp (rIx T.K) te ti) Γ Ω (va T x.c) Ω1 := xe_op ha hi fun F H v w hh a1 a2 Q q => by
  obtain ⟨p, y, z, u, o, rfl, ht, ry, rz, rw, ru⟩ := a1
  exact .inr (.inl ⟨p, [y, z, u, o], 2, u, rfl, a2, Same.tup hh.same ht, rfl, q F u H (Same.refl F) hh rw⟩)
theorem xe_b4 {α β γ δ : Type} [Rp α] [Rp β] [Rp γ] [Rp δ] {x : T4 α β γ δ} (ha : XE te Γ Ω (va T x) Ω1) (hi : XE ti Γ Ω1 (va T (1 : Int)) Ω1) : XE (tOp (rIx T.K) te ti) Γ Ω (va T x.b) Ω1 := xe_op ha hi fun F H v w hh a1 a2 Q q => by
  obtain ⟨p, y, z, u, o, rfl, ht, ry, rz, rw, ru⟩ := a1
  exact .inr (.inl ⟨p, [y, z, u, o], 1, z, rfl, a2, Same.tup hh.same ht, rfl, q F z H (Same.refl F) hh rz⟩)
theorem cal0' {Ω : List OA} : stt Ω [] [] = Ω := List.append_nil _
end
end VL

set_option Elab.async false
set_option linter.all false
set_option maxRecDepth 100000
/-! texts compared; items of a dict; enumerate over a list; lists unpacked; extend -/
namespace VL
open PySem L2
section
variable {T : TC} {Γ : List (Option VA)} {Ω Ω1 Ω2 Ω3 : List OA} {A B C : VA} {As : List VA} {ta tb te ti : TE} {t u : TT} {i j n m : Int} {b c : Bool} {x y : Str}
theorem ro_eqS : RO rEq Ω (va T x) (va T y) (va T (decide (x = y))) := fun F H v w hh a1 a2 Q q => by
  have a1 : v = .str x := a1
  have a2 : w = .str y := a2
  subst a1 a2
  refine ⟨rfl, q F _ H (Same.refl F) hh ?_⟩
  show V.bl _ = V.bl _
  congr 1
  exact decide_eq_decide.mpr ⟨V.str.inj, fun h => by rw [h]⟩
theorem ro_neS : RO rNe Ω (va T x) (va T y) (va T (!decide (x = y))) := fun F H v w hh a1 a2 Q q => by
  have a1 : v = .str x := a1
  have a2 : w = .str y := a2
  subst a1 a2
  refine ⟨rfl, q F _ H (Same.refl F) hh ?_⟩
  show V.bl _ = V.bl _
  congr 2
  exact decide_eq_decide.mpr ⟨V.str.inj, fun h => by rw [h]⟩
theorem xe_eqS (ha : XE ta Γ Ω (va T x) Ω1) (hb : XE tb Γ Ω1 (va T y) Ω2) : XE (tOp (rEqX T.K) ta tb) Γ Ω (va T (decide (x = y))) Ω2 := xe_op ha hb (ro_or1 ro_eqS)
theorem xe_neS (ha : XE ta Γ Ω (va T x) Ω1) (hb : XE tb Γ Ω1 (va T y) Ω2) : XE (tOp (rNeX T.K) ta tb) Γ Ω (va T (!decide (x = y))) Ω2 := xe_op ha hb (ro_or1 ro_neS)
/-! isinstance of a list, a tuple, a truth -/
theorem ty_lst {α : Type} [Rp α] {l : List α} {F H : Hp} {v : V} (hh : Holds F Ω H) (a : (va T (LF.mk l)).P F v) : TyX T.K H v (.type "list") := by
  obtain ⟨p, vs, rfl, h, _⟩ := a
  exact .base (.lst (hh.same _ _ h))
theorem ty_bool {F H : Hp} {v : V} (_ : Holds F Ω H) (a : (va T b).P F v) : TyX T.K H v (.type "bool") := by
  have a : v = .bl b := a
  subst a
  exact .base (.bl b)
/-! all(xs), xs a list of truths -/
theorem al_bool {F : Hp} : ∀ {vs : List V} {l : List Bool}, Al T F vs l → vs = l.map V.bl
  | _, _, .nil => rfl
  | _, _, .cons h t => by rw [List.map_cons, ← al_bool t, show _ = V.bl _ from h]
theorem xe_all {l : List Bool} (ha : XE te Γ Ω A Ω1) (h : IsL T Ω1 A l) : XE (tCB (rAll T.K) (tCons te tNil)) Γ Ω (va T (l.all id)) Ω1 := xe_cb (xa_cons ha xa_nil) fun F H vs hh a Q q => by
  obtain ⟨v, rfl, a1⟩ := alA1 a
  obtain ⟨p, ws, e, hs, al⟩ := h F H v hh a1
  subst e
  refine ⟨p, l, rfl, ?_, q F _ H (Same.refl F) hh rfl⟩
  rw [← al_bool al]
  exact hs
/-! unpacking a list -/
theorem tgt_lst2 {α : Type} [Rp α] {a b : α} {k l : Nat} : Tgt (gLst T.K 2 (gCons (gName k) (gCons (gName l) gNil))) (va T (LF.mk [a, b])) (fun Γ => (Γ.set k (some (va T a))).set l (some (va T b))) [k, l] := fun F σ Γ v H Ω e hh h Q q => by
  obtain ⟨p, vs, rfl, hp, al⟩ := h
  obtain ⟨y, z, rfl, ry, rz⟩ : ∃ y z, vs = [y, z] ∧ Rp.rep T F y a ∧ Rp.rep T F z b := by
    cases al with
    | cons h1 al => cases al with
      | cons h2 al => cases al; exact ⟨_, _, rfl, h1, h2⟩
  refine ⟨p, [y, z], rfl, SqL.of (hh.same _ _ hp), rfl, y, [z], rfl, z, [], rfl, rfl, ?_⟩
  exact q F _ H (Same.refl F) ((e.set (A := va T a) ry).set (A := va T b) rz) hh fun vs h => (wipe_set (h l (by simp))).trans (wipe_set (h k (by simp)))
def un2 {α : Type} : List α → Option (α × α)
  | [a, b] => some (a, b)
  | _ => none
theorem un2_some {α : Type} {l : List α} {p : α × α} (h : un2 l = some p) : l = [p.1, p.2] := by
  unfold un2 at h
  split at h
  · cases h; rfl
  · cases h
/-! items of a dict -/
theorem wk_items {p : Addr} {od : Obj} {l : List (Str × Int)} : Wk (Iti p od (dkv l)) (fun F => F p = some (.frz od (.dK (dkv l)))) l (fun z => va T z) where
  mono := fun F F' e h => e _ _ h
  go := fun i F Ω H h hh hi => ⟨hh.same _ _ h, by unfold dkv; rw [List.length_map]; exact hi⟩
  stop := fun F Ω H h hh => ⟨hh.same _ _ h, by unfold dkv; rw [List.length_map]; exact Nat.le_refl _⟩
  yld := fun i z F Ω H v H' h hh hz y => by
    obtain ⟨q, k, w, hk, ev, hq, eH⟩ := y
    subst ev eH
    unfold dkv at hk
    rw [List.getElem?_map, hz] at hk
    have hk := Option.some.inj hk
    have h1 : k = Sum.inr z.1 := (congrArg Prod.fst hk).symm
    have h2 : w = V.int z.2 := (congrArg Prod.snd hk).symm
    subst h1 h2
    obtain ⟨hh2, e2⟩ := hh.newF (u := .tup [kV (Sum.inr z.1), V.int z.2]) hq
    exact ⟨_, e2, hh2, q, _, _, rfl, SqT.of upd_same, rfl, rfl⟩
theorem xi_items {l : List (Str × Int)} (ha : XE te Γ Ω (va T (DF.mk l)) Ω1) : XI (iItems te) Γ Ω l (fun a => va T a) Ω1 := fun F σ H e hh R r => by
  refine ha F σ H e hh _ fun F1 x H1 Ω' e1 hh1 ⟨a1, o1⟩ => ?_
  subst o1
  obtain ⟨p, od, rfl, hp⟩ := a1
  exact ⟨p, od, dkv l, rfl, hh1.same _ _ hp, r F1 _ H1 _ e1 hh1 wk_items hp⟩
/-! enumerate over a list -/
theorem wk_enumL {α : Type} [Rp α] {l : List α} {a : Addr} {vs : List V} : Wk (Ite T.K a) (fun F => SqL T.K F a vs ∧ Al T F vs l) (nums l) (fun z => va T z) where
  mono := fun F F' e ⟨h1, h2⟩ => ⟨e.seq h1, h2.mono e⟩
  go := fun i F Ω H ⟨h1, h2⟩ hh hi => ⟨vs, vs[i]'(by rw [al_len h2, ← nums_len (l := l)]; exact hi), hh.same.seq h1, List.getElem?_eq_getElem _⟩
  stop := fun F Ω H ⟨h1, h2⟩ hh => ⟨vs, hh.same.seq h1, by rw [al_len h2, nums_len]; exact Nat.le_refl _⟩
  yld := fun i z F Ω H v H' ⟨h1, h2⟩ hh hz y => by
    obtain ⟨p, x, ev, hp, eH, k⟩ := y
    subst ev eH
    have lt : i < l.length := by have := getlt hz; rwa [nums_len] at this
    have hl : l[i]? = some l[i] := List.getElem?_eq_getElem lt
    rw [nums_get hl] at hz
    have ez := Option.some.inj hz
    subst ez
    obtain ⟨u, hu, ru⟩ := al_get h2 hl
    have ex := k vs (hh.same.seq h1)
    rw [hu] at ex
    cases ex
    obtain ⟨hh2, e2⟩ := hh.newF (u := .tup [.int (i : Nat), x]) hp
    exact ⟨_, e2, hh2, p, _, x, rfl, SqT.of upd_same, rfl, Rp.mono e2 ru⟩
theorem xi_enumL {α : Type} [Rp α] {l : List α} (ha : XE te Γ Ω (va T (LF.mk l)) Ω1) : XI (iEnum T.K (tCons te tNil)) Γ Ω (nums l) (fun z => va T z) Ω1 := fun F σ H e hh R r => by
  refine xa_cons ha xa_nil F σ H e hh _ fun F1 vs H1 e1 hh1 a1 => ?_
  obtain ⟨v, rfl, b1⟩ := alA1 a1
  obtain ⟨p, xs, rfl, h1, al⟩ := b1
  have s1 : SqL T.K F1 p xs := SqL.of h1
  exact ⟨p, xs, rfl, hh1.same.seq s1, r F1 _ H1 _ e1 hh1 wk_enumL ⟨s1, al⟩⟩
/-! xs.extend(ys) -/
theorem xe_ext {α : Type} [Rp α] {l l2 m : List α} {k : Nat} {p : Addr} {Ω2 : List OA} (h0 : Ω[k]? = some (lstA T p l2)) (hk : Ω1[k]? = some (lstA T p l)) (ha : XE ta Γ Ω (vr p) Ω) (hb : XE tb Γ Ω (va T (LF.mk m)) Ω1) (hz : l.length + m.length ≤ sizeLine) (he : Ω1.set k (lstA T p (l ++ m)) = Ω2) :
    XE (tBM T.K "list" rExtend ta (tCons tb tNil)) Γ Ω (va T ()) Ω2 := fun F σ H e hh Q q => by
  subst he
  refine ha F σ H e hh _ fun F1 x H1 Ω' e1 hh1 ⟨a1, o1⟩ => ?_
  subst o1
  obtain ⟨p0, vs0, e0, h00, _⟩ := isLs_M h0 F1 H1 x hh1 a1
  have a1 : x = .ref p := a1
  subst a1
  cases e0
  refine ⟨.inl ⟨rfl, _, SqL.of h00⟩, ?_⟩
  refine hb F1 σ H1 (e.mono e1) hh1 _ fun F2 y H2 Ω'' e2 hh2 ⟨a2, o2⟩ => ?_
  subst o2
  obtain ⟨t, ⟨vs, h1, al⟩, st, _, wr⟩ := hh2.get hk
  obtain ⟨b, ws, rfl, hb2, al2⟩ := a2
  refine ⟨p, b, vs, ws, rfl, rfl, st _ _ h1, hh2.same _ _ hb2, by rw [al_len al, al_len al2]; exact hz, ?_⟩
  exact q F2 _ _ _ (e1.trans e2) (wr (lstA T p (l ++ m)) p _ _ h1 ⟨_, upd_same, al_app al al2⟩) ⟨rfl, rfl⟩
end
instance {α β γ δ : Type} [Rp α] [Rp β] [Rp γ] [Rp δ] [Dat α] [Dat β] [Dat γ] [Dat δ] : Dat (T4 α β γ δ) := ⟨fun l => .tuple [Dat.dat l.a, Dat.dat l.b, Dat.dat l.c, Dat.dat l.d], fun l => Dat.ok l.a ∧ Dat.ok l.b ∧ Dat.ok l.c ∧ Dat.ok l.d, max (Dat.dep α) (max (Dat.dep β) (max (Dat.dep γ) (Dat.dep δ))) + 1, fun e ⟨p, x, y, z, u, h1, h2, h3, h4, h5, h6⟩ => by
    rw [h1]; exact .tup (Same.tup e h2) (.cons (Dat.dp e h3) (.cons (Dat.dp e h4) (.cons (Dat.dp e h5) (.cons (Dat.dp e h6) .nil)))), fun h => by
    show (PyData.canLay0 (Dat.dat _) && (PyData.canLay0 (Dat.dat _) && (PyData.canLay0 (Dat.dat _) && (PyData.canLay0 (Dat.dat _) && true)))) = true
    rw [Dat.lay h.1, Dat.lay h.2.1, Dat.lay h.2.2.1, Dat.lay h.2.2.2]; rfl, fun {a} => by
    rw [depth_tuple]
    refine Nat.succ_le_succ ?_
    show max (PyData.depth (Dat.dat a.a)) (max (PyData.depth (Dat.dat a.b)) (max (PyData.depth (Dat.dat a.c)) (max (PyData.depth (Dat.dat a.d)) 0))) ≤ _
    have h1 := Dat.depth (a := a.a)
    have h2 := Dat.depth (a := a.b)
    have h3 := Dat.depth (a := a.c)
    have h4 := Dat.depth (a := a.d)
    omega, fun {a b} => by
    show (PyData.eqv (Dat.dat a.a) (Dat.dat b.a) && (PyData.eqv (Dat.dat a.b) (Dat.dat b.b) && (PyData.eqv (Dat.dat a.c) (Dat.dat b.c) && (PyData.eqv (Dat.dat a.d) (Dat.dat b.d) && true)))) = true ↔ a = b
    rw [Bool.and_true, Bool.and_eq_true, Bool.and_eq_true, Bool.and_eq_true, Dat.eqv, Dat.eqv, Dat.eqv, Dat.eqv]
    cases a; cases b; simp⟩
section
variable {X : Cx} {K : PySem.W.Frag} {e : Expr} {ta : TA} {p pos tpos : Pos} {elts : List Expr} {kk : Nat}
theorem pi_enumK (hK : X.K = K) (hg : Gl X "enumerate") (hm : X.mg "enumerate" = none) (ha : PA X [e] ta) (hs : starEach [e] X.env = [(false, eval e X.env)] := by rfl) :
    PI X (.Tuple elts kk tpos) (.Call (.Name "enumerate" p) [e] [] pos) (iEnum K ta) := hK ▸ pi_enum hg hm ha hs
theorem cr_allK (hK : X.K = K) (hc : X.calm = true) : CallR X (.builtin "all") (rAll K) := hK ▸ cr_all hc
theorem pg_lstK {es : List Expr} {k : Nat} {t : TGs} {n : Nat} (hK : X.K = K) (hc : X.calm = true) (h : PGs X es t)
    (hn : (assignEach es X.env).length = n := by rfl) (hst : (assignEach es X.env).findIdx? (·.1) = none := by rfl) : PG X (.Tuple es k pos) (gLst K n t) := hK ▸ pg_lst hc h hn hst
end
end VL

set_option Elab.async false
set_option linter.all false
set_option maxRecDepth 100000
/-! != of tuples item by item; == and != of pairs (frozen dict, data) that are equal -/
namespace VNe
open PySem
/-- != of two tuples of one size whose items, pair by pair, are seen to be equal in this very state -/
theorem tupNe {P : Program} {w : World} {A : Around} {p q : Addr} {us ws : Array Value} {Z : Shared} {E Q : Value → Shared → Prop} (room : A.units < cLine) (len : us.size = ws.size) (hp : Z.heap.IsTuple p us) (hq : Z.heap.IsTuple q ws)
    (each : ∀ z ∈ us.toList.zip ws.toList, SeqAt.EqP P w A.in1 Z z.1 z.2 true) (k : Q (.bool false) Z) : wpAny (model P w) A (richCompare .NotEq (.ref p) (.ref q)) Q E Z := by
  obtain ⟨o1, g1, c1, m1, d1⟩ := id hp
  obtain ⟨o2, g2, c2, m2, d2⟩ := id hq
  refine wpAny_richCompare_same_room (op := .NotEq) ⟨o1, g1, c1⟩ ⟨o2, g2, c2⟩ F.slot_tuple_ne (GQ.call_here F.slot_tuple_ne ⟨o1, g1, c1⟩ F.entry_tuple_ne (F.args_tuple_ne_2 _ _) ?_) room
  have k2 : wants (fun v Z' => v ≠ .notImplemented ∧ Q v Z') E (.ok (.ret (.bool false))) Z := ⟨(fun x => nomatch x), k⟩
  have tt := AutoSeq1.sub_tuple_tuple
  cases o1; cases o2
  cases c1; cases c2; cases d1; cases d2
  obtain ⟨z0, z1, z2, z3, z4⟩ := Z
  wp_walk using AutoSeq1.wpAny_loadPart' g1, AutoSeq1.wpAny_loadPart' g2, wpAny_forIn_list _ (fun left b Z' => b.1 = none ∧ Z' = ⟨z0, z1, z2, z3, z4⟩ ∧ ∀ z ∈ left, SeqAt.EqP P w A.in1 ⟨z0, z1, z2, z3, z4⟩ z.1 z.2 true) _
  case turn =>
    intro z left b Z' ⟨_, e, all⟩
    subst e
    refine wpAny_bind (all z List.mem_cons_self _ _ ?_)
    wp_walk
    exact ⟨rfl, rfl, fun y hy => all y (List.mem_cons_of_mem _ hy)⟩
  case fin =>
    intro b Z' ⟨e0, e, _⟩
    subst e
    cases b
    cases e0
    wp_walk
    simpa [Builtin.Tuple.tupleCompareSizes, len] using k2
  case h => exact ⟨rfl, rfl, each⟩
end VNe
namespace VL
open PySem L2 PyProof.Rows
/-- two frozen dicts of the same keys and flat values -/
def FD (H : Hp) (x y : V) : Prop := ∃ a b oa ob ks ls, x = .ref a ∧ y = .ref b ∧ H a = some (.frz oa (.dK ks)) ∧ H b = some (.frz ob (.dK ls)) ∧ ks.length = ls.length ∧ ∀ p ∈ ks, valV ls p.1 = some p.2 ∧ flatB p.2 = true
/-- the same data -/
def FS (K : PySem.W.Frag) (H : Hp) (x y : V) : Prop := ∃ d, Dp K H x d ∧ Dp K H y d ∧ d.canLay0 = true ∧ d.depth ≤ 60 ∧ PyData.eqv d d = true
section
variable {X : Cx} {pins : List (Addr × Obj)} {σ : L2.St} {H : Hp} {s : Shared}
theorem fd_eqP (I : Inv X pins σ H s) {A : Around} (hu : A.units + 60 < cLine) {x y : V} {v u : Value} (h : FD H x y) (rx : RelV x v) (ry : RelV y u) : SeqAt.EqP X.prog X.w A s v u true := by
  obtain ⟨a, b, oa, ob, ks, ls, rfl, rfl, ha, hb, hl, hp⟩ := h
  cases (show v = Value.ref a from rx)
  cases (show u = Value.ref b from ry)
  by_cases e : a = b
  · subst e
    exact (SeqAt.EqAt.same _).eqP
  · refine SeqAt.eqP_refs e fun E Q q => ?_
    have okA : ObjOk X.prog X.w H s.heap a (.dK ks) := (show s.heap.get? a = some oa ∧ ObjOk X.prog X.w H s.heap a (.dK ks) from I.hok a _ ha).2
    have okB : ObjOk X.prog X.w H s.heap b (.dK ls) := (show s.heap.get? b = some ob ∧ ObjOk X.prog X.w H s.heap b (.dK ls) from I.hok b _ hb).2
    obtain ⟨_, ya, va, ra, da⟩ := okA
    obtain ⟨_, yb, vb, rb, db⟩ := okB
    refine PySem.W.rcP_dicts (knd := mixKind X.prog X.w) (r := true) ya yb da db (by omega) (fun _ => hits_run (F := fun x y => x = y ∧ flatB x = true) (fun x y v u h r1 r2 => ?_) rb ra fun p hm => ⟨p.2, (hp p hm).1, rfl, (hp p hm).2⟩) E Q ?_
    · obtain ⟨rfl, f⟩ := h
      exact (eqAt_same r1 r2 f).eqP
    · have e : va.length = vb.length := by rw [← ra.length, ← rb.length]; exact hl
      rw [show (va.length == vb.length && true) = true from by rw [e]; simp]
      exact q
theorem fs_eqP (I : Inv X pins σ H s) {A : Around} (hu : A.units + 60 < cLine) {x y : V} {v u : Value} (h : FS X.K H x y) (rx : RelV x v) (ry : RelV y u) : SeqAt.EqP X.prog X.w A s v u true := by
  obtain ⟨d, h1, h2, sh, hd, e⟩ := h
  obtain ⟨as, r1⟩ := Dp.reads I d x v h1 rx
  obtain ⟨bs, r2⟩ := Dp.reads I d y u h2 ry
  have := SeqAt.eqAt_reads d d A s v u as bs r1 r2 sh sh (by rw [Nat.min_self]; omega)
  rw [e] at this
  exact this.eqP
end
def PkE (K : PySem.W.Frag) (x y : V) (H : Hp) : Prop := ∃ a b x1 x2 y1 y2, x = .ref a ∧ y = .ref b ∧ SqT K H a [x1, x2] ∧ SqT K H b [y1, y2] ∧ FD H x1 y1 ∧ FS K H x2 y2
def rPkEq (K : PySem.W.Frag) : R2 := fun x y H Q => PkE K x y H ∧ Q (.bl true) H
def rPkNe (K : PySem.W.Frag) : R2 := fun x y H Q => PkE K x y H ∧ Q (.bl false) H
section
variable {X : Cx} {pins : List (Addr × Obj)} {σ : L2.St} {H : Hp} {s : Shared}
theorem pk_all (I : Inv X pins σ H s) {A : Around} (hu : A.units + 60 < cLine) {x1 x2 y1 y2 : V} (f1 : FD H x1 y1) (f2 : FS X.K H x2 y2) {us ws : List Value} (r1 : Vals [x1, x2] us) (r2 : Vals [y1, y2] ws) : ∀ z ∈ us.zip ws, SeqAt.EqP X.prog X.w A s z.1 z.2 true := by
  have two : ∀ {a b : V} {us : List Value}, Vals [a, b] us → ∃ u v, us = [u, v] ∧ RelV a u ∧ RelV b v := fun r => by
    cases r with | cons h t => cases t with | cons h2 t => cases t; exact ⟨_, _, rfl, h, h2⟩
  obtain ⟨u1, u2, rfl, a1, a2⟩ := two r1
  obtain ⟨w1, w2, rfl, b1, b2⟩ := two r2
  intro z hz
  simp only [List.zip_cons_cons, List.zip_nil_left, List.mem_cons, List.not_mem_nil, or_false] at hz
  rcases hz with e | e <;> subst e
  · exact fd_eqP I hu f1 a1 b1
  · exact fs_eqP I hu f2 a2 b2
theorem op_pkEq (hu : X.A.units + 64 < cLine) : OpR X (compareOp .Eq) (rPkEq X.K) := by
  intro pins s σ H x y v u Q I rx ry ⟨h, q⟩
  obtain ⟨a, b, x1, x2, y1, y2, rfl, rfl, ha, hb, f1, f2⟩ := h
  cases rx
  cases ry
  obtain ⟨us, r1, e1, _⟩ := I.tuple ha
  obtain ⟨ws, r2, e2, _⟩ := I.tuple hb
  have len : us.length = ws.length := by rw [← r1.length, ← r2.length]; rfl
  have all := pk_all I (A := X.A.in1) (by show X.A.units + 1 + 60 < cLine; omega) f1 f2 r1 r2
  refine GQ.rc_tupG (by simpa using len) (by omega) (fun _ z => z = s) e1 e2 (fun i h1 h2 z ez => ?_) (fun z ez => ⟨.bl true, H, ez ▸ I, rfl, q⟩) rfl
  subst ez
  have h1 : i < us.length := by simpa using h1
  have h2 : i < ws.length := by simpa using h2
  have := all (us[i], ws[i]) (List.mem_iff_getElem.mpr ⟨i, by rw [List.length_zip]; omega, List.getElem_zip⟩) X.xe (fun r z' => r = true ∧ z' = z) ⟨rfl, rfl⟩
  simpa using this
theorem op_pkNe (hu : X.A.units + 64 < cLine) : OpR X (compareOp .NotEq) (rPkNe X.K) := by
  intro pins s σ H x y v u Q I rx ry ⟨h, q⟩
  obtain ⟨a, b, x1, x2, y1, y2, rfl, rfl, ha, hb, f1, f2⟩ := h
  cases rx
  cases ry
  obtain ⟨us, r1, e1, _⟩ := I.tuple ha
  obtain ⟨ws, r2, e2, _⟩ := I.tuple hb
  have len : us.length = ws.length := by rw [← r1.length, ← r2.length]; rfl
  exact VNe.tupNe (by omega) (by simpa using len) e1 e2 (by simpa using pk_all I (A := X.A.in1) (by show X.A.units + 1 + 60 < cLine; omega) f1 f2 r1 r2) ⟨.bl false, H, I, rfl, q⟩
theorem op_pkEqK {K : PySem.W.Frag} (hK : X.K = K) (hu : X.A.units + 64 < cLine) : OpR X (compareOp .Eq) (rPkEq K) := hK ▸ op_pkEq hu
theorem op_pkNeK {K : PySem.W.Frag} (hK : X.K = K) (hu : X.A.units + 64 < cLine) : OpR X (compareOp .NotEq) (rPkNe K) := hK ▸ op_pkNe hu
end
section
variable {T : TC} {Γ : List (Option VA)} {Ω Ω1 Ω2 : List OA} {ta tb : TE} {α : Type} [Rp α] [Dat α] {x y : DF × α}
theorem pkE_of (h : sameD x.1.l y.1.l ∧ x.2 = y.2 ∧ Dat.ok x.2) (hd : Dat.dep α ≤ 60) {F H : Hp} {v w : V} (hh : Holds F Ω H) (a1 : (va T x).P F v) (a2 : (va T y).P F w) : PkE T.K v w H := by
  obtain ⟨s1, s2, s3⟩ := h
  obtain ⟨p, v1, v2, rfl, t1, b1, b2⟩ := a1
  obtain ⟨q, w1, w2, rfl, t2, c1, c2⟩ := a2
  refine ⟨p, q, v1, v2, w1, w2, rfl, rfl, Same.tup hh.same t1, Same.tup hh.same t2, ?_, Dat.dat x.2, Dat.dp hh.same b2, ?_, Dat.lay s3, Nat.le_trans Dat.depth hd, Dat.eqv.mpr rfl⟩
  · obtain ⟨a, oa, rfl, h1⟩ := b1
    obtain ⟨b, ob, rfl, h2⟩ := c1
    refine ⟨a, b, oa, ob, dkv x.1.l, dkv y.1.l, rfl, rfl, hh.same _ _ h1, hh.same _ _ h2, by unfold dkv; rw [List.length_map, List.length_map]; exact s1.1, fun z hz => ?_⟩
    obtain ⟨u, hu, rfl⟩ := List.mem_map.mp hz
    exact ⟨val_dkv (s1.2 u hu), rfl⟩
  · rw [s2]
    exact Dat.dp hh.same c2
theorem xe_pkEq (h : sameD x.1.l y.1.l ∧ x.2 = y.2 ∧ Dat.ok x.2) (hd : Dat.dep α ≤ 60) (ha : XE ta Γ Ω (va T x) Ω1) (hb : XE tb Γ Ω1 (va T y) Ω2) : XE (tOp (rPkEq T.K) ta tb) Γ Ω (va T true) Ω2 := xe_op ha hb fun F H v w hh a1 a2 Q q =>
  ⟨pkE_of h hd hh a1 a2, q F _ H (Same.refl F) hh rfl⟩
theorem xe_pkNe (h : sameD x.1.l y.1.l ∧ x.2 = y.2 ∧ Dat.ok x.2) (hd : Dat.dep α ≤ 60) (ha : XE ta Γ Ω (va T x) Ω1) (hb : XE tb Γ Ω1 (va T y) Ω2) : XE (tOp (rPkNe T.K) ta tb) Γ Ω (va T false) Ω2 := xe_op ha hb fun F H v w hh a1 a2 Q q =>
  ⟨pkE_of h hd hh a1 a2, q F _ H (Same.refl F) hh rfl⟩
end
/-! d.get(k, x) -/
theorem val_dkvN {k : Str} : ∀ {l : List (Str × Int)}, l.lookup k = none → valV (dkv l) (Sum.inr k) = none
  | [], _ => rfl
  | x :: r, h => by
    have e : (k == x.1) = false := by
      cases q : k == x.1 with
      | false => rfl
      | true =>
        have h2 : (match k == x.1 with | true => some x.2 | false => r.lookup k) = none := h
        rw [q] at h2
        cases h2
    have h2 : (match k == x.1 with | true => some x.2 | false => r.lookup k) = none := h
    rw [e] at h2
    have ih := val_dkvN (l := r) h2
    have ne : x.1 ≠ k := fun z => by rw [z, beq_self_eq_true] at e; cases e
    show valV ((Sum.inr x.1, V.int x.2) :: dkv r) (Sum.inr k) = _
    unfold valV at ih ⊢
    rw [List.find?_cons_of_neg (by simp [ne])]
    exact ih
theorem val_dkvO {k : Str} {l : List (Str × Int)} : valV (dkv l) (Sum.inr k) = (l.lookup k).map V.int := by
  cases h : l.lookup k with
  | some v => exact val_dkv h
  | none => exact val_dkvN h
section
variable {T : TC} {Γ : List (Option VA)} {Ω Ω1 Ω2 Ω3 : List OA} {ta tb tc : TE}
theorem xe_dget2 {l : List (Str × Int)} {k : Str} {d : Int} (ha : XE ta Γ Ω (va T (DF.mk l)) Ω1) (hb : XE tb Γ Ω1 (va T k) Ω2) (hc : XE tc Γ Ω2 (va T d) Ω3) : XE (tDGet2 ta tb tc) Γ Ω (va T ((l.lookup k).getD d)) Ω3 := fun F σ H e hh Q q => by
  refine ha F σ H e hh _ fun F1 x H1 Ω' e1 hh1 ⟨a1, o1⟩ => ?_
  subst o1
  obtain ⟨p, od, rfl, hp⟩ := a1
  refine ⟨p, rfl, .inl ⟨dkv l, .inr ⟨od, hh1.same _ _ hp⟩⟩, ?_⟩
  refine hb F1 σ H1 (e.mono e1) hh1 _ fun F2 y H2 Ω' e2 hh2 ⟨a2, o2⟩ => ?_
  subst o2
  refine hc F2 σ H2 (e.mono (e1.trans e2)) hh2 _ fun F3 z H3 Ω' e3 hh3 ⟨a3, o3⟩ => ?_
  subst o3
  have a2 : y = V.str k := a2
  have a3 : z = V.int d := a3
  subst a2 a3
  refine ⟨(l.lookup k).map V.int, .inl ⟨dkv l, Sum.inr k, .inr ⟨od, hh3.same _ _ ((e2.trans e3) _ _ hp)⟩, rfl, val_dkvO.symm⟩, ?_⟩
  have ez : ((l.lookup k).map V.int).getD (V.int d) = V.int ((l.lookup k).getD d) := by cases l.lookup k <;> rfl
  rw [ez]
  exact q F3 _ H3 _ ((e1.trans e2).trans e3) hh3 ⟨rfl, rfl⟩
end
end VL

set_option Elab.async false
set_option linter.all false
set_option maxRecDepth 100000
/-! != of lists whose items have a text's own __eq__; a list unpacked into three -/
namespace VNe
open PySem PySem.SeqAt
/-- != of two lists, item by item from place j on: none is unlike, and J tells what holds at each place -/
theorem goNe {P : Program} {w : World} {A : Around} {R : Result → Shared → Prop} {p q : Addr} {N : Nat} {J : Nat → Shared → Prop} (each : GQ.ListI P w A (fun e Z => R (.error e) Z) p q N J) (done : ∀ Z, J N Z → R (.ok (.ret (.bool false))) Z) :
    ∀ (left j : Nat), j + left = N → ∀ Z, J j Z → wpAny (model P w) A.in1 (Builtin.«list.__eq__.loop» ⟨[.ref p, .ref q, rawInt j, rawInt 3], []⟩) (GQ.FinOf P w A R) (fun e Z => R (.error e) Z) Z := by
  intro left
  induction left with
  | zero =>
    intro j e Z q
    obtain ⟨us, ws, _, _, gu, gw, su, sw, _⟩ := each _ _ q
    have e : j = N := e
    have k := done Z (e ▸ q)
    have ou : us[((j : Nat) : Int).toNat]? = none := Array.getElem?_eq_none (by rw [Int.toNat_natCast]; omega)
    have ow : ws[((j : Nat) : Int).toNat]? = none := Array.getElem?_eq_none (by rw [Int.toNat_natCast]; omega)
    cases Z
    wp_walk using AutoSeq1.wpAny_loadPart' gu, AutoSeq1.wpAny_loadPart' gw
    rw [ou, ow]
    wp_walk using AutoSeq1.wpAny_loadPart' gu, AutoSeq1.wpAny_loadPart' gw
    have same : (us.size != ws.size) = false := by rw [su, sw, bne_self_eq_false]
    show R (.ok (.ret (.bool (us.size != ws.size)))) _
    rw [same]
    exact k
  | succ left more =>
    intro j e Z q
    obtain ⟨us, ws, _, _, gu, gw, su, sw, turn⟩ := each _ _ q
    have lu : j < us.size := by omega
    have lw : j < ws.size := by omega
    have step := turn lu lw
    have ou : us[((j : Nat) : Int).toNat]? = some us[j] := by rw [Int.toNat_natCast, Array.getElem?_eq_getElem lu]
    have ow : ws[((j : Nat) : Int).toNat]? = some ws[j] := by rw [Int.toNat_natCast, Array.getElem?_eq_getElem lw]
    cases Z
    wp_walk using AutoSeq1.wpAny_loadPart' gu, AutoSeq1.wpAny_loadPart' gw
    rw [ou, ow]
    refine wpAny_bind (wpAny_mono step (fun r Z2 y => ?_) fun _ _ x => x)
    have next := more (j + 1) (by omega) Z2 y.2
    rw [y.1]
    cases Z2
    wp_walk
    rw [show (j : Int) + 1 = ((j + 1 : Nat) : Int) from rfl]
    refine ⟨plainId_quiet PySem.MeetsSeq3.plain_eq_loop _, codeAny_builtin PySem.MeetsSeq3.entry_eq_loop ?_⟩
    rw [Around.under_plainId PySem.MeetsSeq3.plain_eq_loop _]
    exact next
theorem listNe {P : Program} {w : World} {A : Around} {Z : Shared} {E Q : Value → Shared → Prop} {p q : Addr} {N : Nat} {J : Nat → Shared → Prop} (room : A.units < cLine) (each : GQ.ListI P w A E p q N J)
    (done : ∀ Z, J N Z → Q (.bool false) Z) (start : J 0 Z) : wpAny (model P w) A (richCompare .NotEq (.ref p) (.ref q)) Q E Z := by
  obtain ⟨us, ws, _, _, gu, gw, su, sw, _⟩ := each _ _ start
  have go := goNe (R := wants (fun v Z' => v ≠ .notImplemented ∧ Q v Z') E) each (fun Z' k => ⟨(fun x => nomatch x), done Z' k⟩) N 0 (Nat.zero_add N) Z start
  refine wpAny_richCompare_same_room (op := .NotEq) ⟨_, gu, rfl⟩ ⟨_, gw, rfl⟩ F.slot_list_ne (GQ.call_here F.slot_list_ne ⟨_, gu, rfl⟩ F.entry_list_ne (F.args_list_ne_2 _ _) ?_) room
  have ll := AutoSeq1.sub_list_list
  have same : ¬ (us.size != ws.size) = true := by rw [su, sw, bne_self_eq_false]; exact Bool.false_ne_true
  cases Z
  wp_walk using AutoSeq1.wpAny_loadPart' gu, AutoSeq1.wpAny_loadPart' gw
  refine ⟨plainId_quiet PySem.MeetsSeq3.plain_eq_loop _, codeAny_builtin PySem.MeetsSeq3.entry_eq_loop ?_⟩
  rw [Around.under_plainId PySem.MeetsSeq3.plain_eq_loop _]
  exact go
end VNe
namespace VL
open PySem L2 PyProof.Rows
/-- pair by pair the own __eq__ says yes; both lists stay -/
def WL (C : Addr) (sp : Sp) (a b : Addr) (xs ys : List V) : List (V × V) → Hp → (Hp → Prop) → Prop
  | [], H, Q => Q H
  | z :: r, H, Q => ∃ p q dx dy fs gs, z.1 = .ref p ∧ z.2 = .ref q ∧ H p = some (.ins C dx fs) ∧ H q = some (.ins C dy gs) ∧ (p = q → WL C sp a b xs ys r H Q) ∧
    (p ≠ q → sp [z.1, z.2] H (fun v H' => v = .bl true ∧ H' a = some (.lst xs) ∧ H' b = some (.lst ys) ∧ WL C sp a b xs ys r H' Q) E0)
def rOwnL (C : Addr) (sp : Sp) (r : Bool) : R2 := fun x y H Q => ∃ a b xs ys, x = .ref a ∧ y = .ref b ∧ H a = some (.lst xs) ∧ H b = some (.lst ys) ∧ xs.length = ys.length ∧ WL C sp a b xs ys (xs.zip ys) H (fun H' => Q (.bl r) H')
section
variable {X : Cx} {n : Nat} {C f : Addr} {fd : FuncData} {ps : List Str} {sp : Sp}
/-- what the loop keeps -/
def LI (X : Cx) (pins : List (Addr × Obj)) (σ : L2.St) (C : Addr) (sp : Sp) (a b : Addr) (xs ys : List V) (Q : Hp → Prop) (i : Nat) (s : Shared) : Prop := ∃ H, Inv X pins σ H s ∧ H a = some (.lst xs) ∧ H b = some (.lst ys) ∧ WL C sp a b xs ys ((xs.zip ys).drop i) H Q
theorem li_turn (F : FnOk X.prog X.w X.K X.mg X.base CX0 n f fd ps sp) (own : PySem.W.findIn X.K (.ref C) "__eq__" = some (some (.ref f))) (isf : PySem.W.isFn X.K (.ref f) = true) (hb : Binds X.K fd ps []) (room : Room (n + 1) X.A)
    {pins : List (Addr × Obj)} {σ : L2.St} {a b : Addr} {xs ys : List V} {Q : Hp → Prop} (len : xs.length = ys.length) : GQ.ListI X.prog X.w X.A X.xe a b xs.length (LI X pins σ C sp a b xs ys Q) := by
  intro i s q
  obtain ⟨H, I, ha, hb1, w⟩ := id q
  obtain ⟨z, its, k, r, e⟩ := I.hok a _ ha
  obtain ⟨z2, its2, k2, r2, e2⟩ := I.hok b _ hb1
  refine ⟨its.toArray, its2.toArray, k, k2, e, e2, by rw [List.size_toArray, ← r.length], by rw [List.size_toArray, ← r2.length, ← len], fun h1 h2 => ?_⟩
  have k1 : i < xs.length := by have := r.length; have : i < its.length := (by simpa using h1); omega
  have k2 : i < ys.length := len ▸ k1
  obtain ⟨u, hu, ru⟩ := r.get (List.getElem?_eq_getElem k1)
  obtain ⟨v, hv, rv⟩ := r2.get (List.getElem?_eq_getElem k2)
  have eu : its.toArray[i] = u := by obtain ⟨_, e⟩ := List.getElem?_eq_some_iff.mp hu; simpa using e
  have ev : its2.toArray[i] = v := by obtain ⟨_, e⟩ := List.getElem?_eq_some_iff.mp hv; simpa using e
  rw [eu, ev]
  have hz : i < (xs.zip ys).length := by rw [List.length_zip]; omega
  have ez : (xs.zip ys)[i] = (xs[i], ys[i]) := List.getElem_zip
  rw [List.drop_eq_getElem_cons hz, ez] at w
  obtain ⟨p, q, dx, dy, fs, gs, ex, ey, hp, hq, w1, w2⟩ := w
  have ex : xs[i] = V.ref p := ex
  have ey : ys[i] = V.ref q := ey
  rw [ex] at ru
  rw [ey] at rv
  cases (show u = Value.ref p from ru)
  cases (show v = Value.ref q from rv)
  by_cases pq : p = q
  · subst pq
    exact SeqAt.EqAt.same _ X.prog X.w X.xe _ ⟨rfl, H, I, ha, hb1, w1 rfl⟩
  · have w2 := w2 pq
    rw [ex, ey] at w2
    obtain ⟨mA, J, _⟩ := ins_get I.hok hp
    obtain ⟨mB, J', _⟩ := ins_get I.hok hq
    obtain ⟨od, J, _⟩ := J.look
    obtain ⟨od', J', _⟩ := J'.look
    obtain ⟨m, fr⟩ := I.fr
    have r3 := call_own F hb room.in1 rfl I (show RelV (V.ref p) (Value.ref p) from rfl) (show RelV (V.ref q) (Value.ref q) from rfl) w2
    refine GQ.eqBool_refG pq ?_
    refine PySem.W.cmp_K (tb := .ref C) (op := .Eq) room.in1.units0 fr I.ok.mod.kin J J'.type (by simp [PySem.W.notFirst]) own isf (wpAny_mono r3 (fun w s' z => ?_) fun _ _ z => z)
    obtain ⟨z, H', I', rz, ez, l1, l2, w'⟩ := z
    subst ez
    obtain rfl : w = Value.bool true := rz
    exact ⟨true, rfl, rfl, H', I', l1, l2, w'⟩
theorem op_ownLNe (F : FnOk X.prog X.w X.K X.mg X.base CX0 n f fd ps sp) (own : PySem.W.findIn X.K (.ref C) "__eq__" = some (some (.ref f))) (isf : PySem.W.isFn X.K (.ref f) = true) (hb : Binds X.K fd ps []) (room : Room (n + 1) X.A) : OpR X (compareOp .NotEq) (rOwnL C sp false) := by
  intro pins s σ H x y v u Q I r1 r2 h
  obtain ⟨a, b, xs, ys, rfl, rfl, ha, hb', len, w⟩ := h
  cases (show v = Value.ref a from r1)
  cases (show u = Value.ref b from r2)
  refine VNe.listNe (N := xs.length) (J := LI X pins σ C sp a b xs ys fun H' => Q (.bl false) H') room.units0 (li_turn F own isf hb room len) (fun s' q => ?_) ⟨H, I, ha, hb', w⟩
  obtain ⟨H', I', _, _, w'⟩ := q
  rw [List.drop_of_length_le (by rw [List.length_zip]; omega)] at w'
  exact ⟨.bl false, H', I', rfl, w'⟩
theorem op_ownLEq (F : FnOk X.prog X.w X.K X.mg X.base CX0 n f fd ps sp) (own : PySem.W.findIn X.K (.ref C) "__eq__" = some (some (.ref f))) (isf : PySem.W.isFn X.K (.ref f) = true) (hb : Binds X.K fd ps []) (room : Room (n + 1) X.A) : OpR X (compareOp .Eq) (rOwnL C sp true) := by
  intro pins s σ H x y v u Q I r1 r2 h
  obtain ⟨a, b, xs, ys, rfl, rfl, ha, hb', len, w⟩ := h
  cases (show v = Value.ref a from r1)
  cases (show u = Value.ref b from r2)
  refine GQ.rc_listG (N := xs.length) room.units0 (LI X pins σ C sp a b xs ys fun H' => Q (.bl true) H') (li_turn F own isf hb room len) (fun s' q => ?_) ⟨H, I, ha, hb', w⟩
  obtain ⟨H', I', _, _, w'⟩ := q
  rw [List.drop_of_length_le (by rw [List.length_zip]; omega)] at w'
  exact ⟨.bl true, H', I', rfl, w'⟩
theorem op_lneC (c : CalEq X.prog X.w X.K X.mg X.base n C sp) (room : Room (n + 1) X.A) : OpR X (compareOp .NotEq) (rOwnL C sp false) := by
  obtain ⟨f, fd, F, _, me, hb⟩ := c.ex
  exact op_ownLNe F me.1 me.2 hb room
theorem op_leqC (c : CalEq X.prog X.w X.K X.mg X.base n C sp) (room : Room (n + 1) X.A) : OpR X (compareOp .Eq) (rOwnL C sp true) := by
  obtain ⟨f, fd, F, _, me, hb⟩ := c.ex
  exact op_ownLEq F me.1 me.2 hb room
end
section
variable {T : TC} {Γ : List (Option VA)} {Ω Ω1 Ω2 Ω3 : List OA} {ta tb te : TE} {l m : List Bg}
theorem wl_of {Pre : PreT} {Ω : List OA} {a b : Addr} {us ws : List V} {Q : Hp → Prop} : ∀ (l : List Bg) {xs ys : List V} {F H : Hp}, (∀ x ∈ l, Pre [va T x, va T x] Ω (RV (va T true) Ω)) → Holds F Ω H → F a = some (.lst us) → F b = some (.lst ws) → Al T F xs l → Al T F ys l →
    (∀ F' H', Same F F' → Holds F' Ω H' → Q H') → WL (T.C 1) (mkSp Pre) a b us ws (xs.zip ys) H Q
  | [], xs, ys, F, H, _, hh, _, _, al1, al2, k => by
    cases al1
    exact k F H (Same.refl F) hh
  | z :: l, xs, ys, F, H, hp, hh, ha, hb, al1, al2, k => by
    obtain ⟨x, xs, rfl, c1, t1⟩ : ∃ x r, xs = x :: r ∧ Rp.rep T F x z ∧ Al T F r l := by cases al1 with | cons h t => exact ⟨_, _, rfl, h, t⟩
    obtain ⟨y, ys, rfl, c2, t2⟩ : ∃ x r, ys = x :: r ∧ Rp.rep T F x z ∧ Al T F r l := by cases al2 with | cons h t => exact ⟨_, _, rfl, h, t⟩
    obtain ⟨p, dx, r1, vs, e1, h1, h2, h3⟩ := id c1
    obtain ⟨q, dy, r2, ws', e2, g1, g2, g3⟩ := id c2
    refine ⟨p, q, dx, dy, _, _, e1, e2, hh.same _ _ h1, hh.same _ _ g1, fun _ => wl_of l (fun x hx => hp x (List.mem_cons_of_mem _ hx)) hh ha hb t1 t2 k, fun _ => ?_⟩
    refine ⟨F, _, _, _, hp z List.mem_cons_self, .cons c1 (.cons c2 .nil), hh, fun F' w H' Ω'' s' hh' ⟨aw, eo⟩ => ?_⟩
    subst eo
    exact ⟨aw, hh'.same _ _ (s' _ _ ha), hh'.same _ _ (s' _ _ hb), wl_of l (fun x hx => hp x (List.mem_cons_of_mem _ hx)) hh' (s' _ _ ha) (s' _ _ hb) (t1.mono s') (t2.mono s') fun F2 H2 s2 => k F2 H2 (s'.trans s2)⟩
theorem xe_ownL {Pre : PreT} {r : Bool} (ha : XE ta Γ Ω (va T (LF.mk l)) Ω1) (hb : XE tb Γ Ω1 (va T (LF.mk m)) Ω2) (he : l = m) (hp : ∀ x ∈ l, Pre [va T x, va T x] Ω2 (RV (va T true) Ω2)) : XE (tOp (rOwnL (T.C 1) (mkSp Pre) r) ta tb) Γ Ω (va T r) Ω2 := xe_op ha hb fun F H u v hh a1 a2 Q q => by
  subst he
  obtain ⟨p, xs, rfl, h1, al1⟩ := a1
  obtain ⟨p2, ys, rfl, h2, al2⟩ := a2
  refine ⟨p, p2, xs, ys, rfl, rfl, hh.same _ _ h1, hh.same _ _ h2, by rw [al_len al1, al_len al2], ?_⟩
  exact wl_of l hp hh h1 h2 al1 al2 fun F' H' s hh' => q F' _ H' s hh' rfl
/-- unpacking into three -/
theorem tgt_lst3 {α : Type} [Rp α] {a b c : α} {k l m : Nat} : Tgt (gLst T.K 3 (gCons (gName k) (gCons (gName l) (gCons (gName m) gNil)))) (va T (LF.mk [a, b, c])) (fun Γ => ((Γ.set k (some (va T a))).set l (some (va T b))).set m (some (va T c))) [k, l, m] := fun F σ Γ v H Ω e hh h Q q => by
  obtain ⟨p, vs, rfl, hp, al⟩ := h
  obtain ⟨y, z, w, rfl, ry, rz, rw'⟩ : ∃ y z w, vs = [y, z, w] ∧ Rp.rep T F y a ∧ Rp.rep T F z b ∧ Rp.rep T F w c := by
    cases al with
    | cons h1 al => cases al with
      | cons h2 al => cases al with
        | cons h3 al => cases al; exact ⟨_, _, _, rfl, h1, h2, h3⟩
  refine ⟨p, [y, z, w], rfl, SqL.of (hh.same _ _ hp), rfl, y, [z, w], rfl, z, [w], rfl, w, [], rfl, rfl, ?_⟩
  exact q F _ H (Same.refl F) (((e.set (A := va T a) ry).set (A := va T b) rz).set (A := va T c) rw') hh fun vs h => ((wipe_set (h m (by simp))).trans (wipe_set (h l (by simp)))).trans (wipe_set (h k (by simp)))
def un3 {α : Type} : List α → Option (α × α × α)
  | [a, b, c] => some (a, b, c)
  | _ => none
theorem un3_some {α : Type} {l : List α} {p : α × α × α} (h : un3 l = some p) : l = [p.1, p.2.1, p.2.2] := by
  unfold un3 at h
  split at h
  · cases h; rfl
  · cases h
end
end VL

set_option Elab.async false
set_option linter.all false
set_option maxRecDepth 100000
/-! None behind a list of numbers; a pair of a new list and a value, kept in a name -/
namespace VL
open PySem L2
inductive OI where
  | i (n : Int)
  | no
def OI.v : OI → V
  | .i n => .int n
  | .no => .non
def OI.d : OI → PyData
  | .i n => .int n
  | .no => .none
instance : Rp OI := ⟨fun _ _ v a => v = a.v, fun _ h => h⟩
instance : Dat OI := ⟨OI.d, fun _ => True, 0, fun {T F H v a} _ h => by
    rw [show v = a.v from h]
    cases a
    · exact .int _
    · exact .non, fun {a} _ => by cases a <;> rfl, fun {a} => by cases a <;> exact Nat.le_refl _, fun {a b} => by
    cases a <;> cases b
    · rename_i m n
      show (m == n) = true ↔ _
      rw [beq_iff_eq]
      exact ⟨fun e => by rw [e], fun e => by cases e; rfl⟩
    · exact ⟨(fun e => nomatch e), (fun e => nomatch e)⟩
    · exact ⟨(fun e => nomatch e), (fun e => nomatch e)⟩
    · exact ⟨fun _ => rfl, fun _ => rfl⟩⟩
/-- a pair of a list that changes, at p, and a value -/
def pvA (T : TC) (p : Addr) (B : VA) : VA := ⟨fun F v => ∃ t w, v = .ref t ∧ SqT T.K F t [.ref p, w] ∧ B.P F w, fun e ⟨t, w, a, b, c⟩ => ⟨t, w, a, Same.tup e b, B.mono e c⟩⟩
section
variable {T : TC} {Γ : List (Option VA)} {Ω Ω1 Ω2 Ω3 : List OA} {A B C : VA} {ta tb te : TE} {D : Ends} {F0 : Hp} {ts : TS} {p : Addr}
theorem al_oi {F : Hp} {vs : List V} {l : List Int} (h : Al T F vs l) : Al T F vs (l.map OI.i) := by
  induction h with
  | nil => exact .nil
  | cons h _ t => exact .cons h t
theorem xe_appNo {k : Nat} {l : List Int} (hk : Ω[k]? = some (lstA T p l)) (ha : XE ta Γ Ω (vr p) Ω) (hb : XE tb Γ Ω (va T ()) Ω) (hz : l.length < sizeLine) (he : Ω.set k (lstA T p (l.map OI.i ++ [OI.no])) = Ω2) :
    XE (tBM T.K "list" rAppend ta (tCons tb tNil)) Γ Ω (va T ()) Ω2 := fun F σ H e hh Q q => by
  subst he
  refine ha F σ H e hh _ fun F1 x H1 Ω' e1 hh1 ⟨a1, o1⟩ => ?_
  subst o1
  obtain ⟨p0, vs0, e0, h00, _⟩ := isLs_M hk F1 H1 x hh1 a1
  have a1 : x = .ref p := a1
  subst a1
  cases e0
  refine ⟨.inl ⟨rfl, _, SqL.of h00⟩, ?_⟩
  refine hb F1 σ H1 (e.mono e1) hh1 _ fun F2 y H2 Ω'' e2 hh2 ⟨a2, o2⟩ => ?_
  subst o2
  obtain ⟨t, ⟨vs, h1, al⟩, st, _, wr⟩ := hh2.get hk
  have a2 : y = .non := a2
  subst a2
  refine ⟨p, vs, .non, rfl, rfl, st _ _ h1, by rw [al_len al]; exact hz, ?_⟩
  exact q F2 _ _ _ (e1.trans e2) (wr (lstA T p (l.map OI.i ++ [OI.no])) p _ _ h1 ⟨_, upd_same, al_app (al_oi al) (.cons rfl .nil)⟩) ⟨rfl, rfl⟩
/-- x, y = a pair of a new list and a value, a value -/
theorem xs_parPV {i j : Nat} {ks : List (Nat × OA)} {L : List OA} {o : Addr → OA} {Ω0 : List OA} (h1 : XG ta Γ Ω0 (RNP T (stt Ω ks L) o B)) (h2 : ∀ p, XE tb Γ (stt Ω ks (L ++ [o p])) C (stt Ω ks (L ++ [o p])))
    (q : ∀ p, XS ts D F0 ((Γ.set i (some (pvA T p B))).set j (some C)) (stt Ω ks (L ++ [o p]))) : XS (tSeq (tPar i j (tCons ta (tCons tb tNil))) ts) D F0 Γ Ω0 := fun σ H ⟨F, f0, e, hh⟩ => by
  refine h1 F σ H e hh _ fun F1 x H1 Ω' e1 hh1 ⟨p, t, w, a, b, c, eo⟩ => ?_
  subst eo
  rw [stt_app] at hh1
  refine h2 p F1 σ H1 (e.mono e1) hh1 _ fun F2 y H2 Ω' e2 hh2 ⟨a2, o2⟩ => ?_
  subst o2
  exact ⟨_, _, rfl, q p _ H2 ⟨F2, f0.trans (e1.trans e2), (((e.mono e1).mono e2).set (A := pvA T p B) ⟨t, w, a, Same.tup e2 b, B.mono e2 c⟩).set a2, hh2⟩⟩
theorem tgt_pv {k l : Nat} : Tgt (gTup T.K 2 (gCons (gName k) (gCons (gName l) gNil))) (pvA T p B) (fun Γ => (Γ.set k (some (vr p))).set l (some B)) [k, l] := fun F σ Γ v H Ω e hh a Q q => by
  obtain ⟨t, w, rfl, ht, rw'⟩ := a
  refine ⟨t, [.ref p, w], rfl, Same.tup hh.same ht, rfl, .ref p, [w], rfl, w, [], rfl, rfl, ?_⟩
  exact q F _ H (Same.refl F) ((e.set (A := vr p) rfl).set (A := B) rw') hh fun vs h => (wipe_set (h l (by simp))).trans (wipe_set (h k (by simp)))
theorem ty_pv {F H : Hp} {v : V} (hh : Holds F Ω H) (a : (pvA T p B).P F v) : TyX T.K H v (.type "tuple") := by
  obtain ⟨t, w, rfl, ht, _⟩ := a
  rcases Same.tup hh.same ht with (h | ⟨o, h⟩) | h
  · exact .base (.tup h)
  · exact .fTuple h
  · obtain ⟨o, _, _, e, c, _⟩ := h
    exact .kTuple e c
/-- a new list and a value, told as a pair -/
theorem xg_tupN2 {o : Addr → OA} (h1 : XG ta Γ Ω (RN Ω1 o)) (h2 : ∀ p, XE tb Γ (Ω1 ++ [o p]) B (Ω1 ++ [o p])) : XG (tTup (tCons ta (tCons tb tNil))) Γ Ω (RNP T Ω1 o B) := fun F σ H e hh Q q => by
  refine h1 F σ H e hh _ fun F1 x H1 Ω' e1 hh1 ⟨p, a1, o1⟩ => ?_
  subst o1 a1
  refine h2 p F1 σ H1 (e.mono e1) hh1 _ fun F2 y H2 Ω'' e2 hh2 ⟨a2, o2⟩ => ?_
  subst o2
  refine ⟨by show 2 ≤ sizeLine; decide, fun d hd => ?_⟩
  obtain ⟨hh3, e3⟩ := hh2.newF (u := .tup [.ref p, y]) hd
  exact q _ _ _ _ ((e1.trans e2).trans e3) hh3 ⟨p, d, y, rfl, SqT.of upd_same, B.mono e3 a2, rfl⟩
theorem xn_repQ {α : Type} [Rp α] {l : List α} {i : Int} (ha : XE ta Γ Ω A Ω1) (hb : XE tb Γ Ω1 (va T i) Ω2) (h : IsLs T Ω2 A l) (h1 : (-(2 ^ 63) ≤ i ∧ i < 2 ^ 63) ∧ l.length * i.toNat ≤ sizeLine) : XG (tOp rMulQ ta tb) Γ Ω (RN Ω2 fun p => lstA T p (List.replicate i.toNat l).flatten) :=
  xn_op ha hb fun F H x y hh a1 a2 Q q => by
    obtain ⟨p, vs, rfl, hp, al⟩ := h F H x hh a1
    refine .inr ⟨p, i, vs, rfl, a2, hp, h1.1.1, h1.1.2, by rw [al_len al]; exact h1.2, fun d hd => ?_⟩
    exact q d _ (hh.newL (o := lstA T d (List.replicate i.toNat l).flatten) hd ⟨_, upd_same, al_repF al _⟩)
theorem xe_eqH {α β : Type} [Rp α] [Dat α] [Rp β] [Dat β] {x : α} {y : β} (h : Dat.ok x ∧ Dat.ok y) (hd : Dat.dep α ≤ 64) (hd2 : Dat.dep β ≤ 64) (ha : XE ta Γ Ω A Ω1) (hb : XE tb Γ Ω1 B Ω2) (i1 : IsD T Ω2 A (Dat.dat x)) (i2 : IsD T Ω2 B (Dat.dat y)) :
    XE (tOp (rEqX T.K) ta tb) Γ Ω (va T (PyData.eqv (Dat.dat x) (Dat.dat y))) Ω2 := xe_op ha hb (ro_eqD i1 i2 (shp h.1 hd) (shp h.2 hd2))
end
/-! ### walks over a list that may change, and doesn't -/
section
variable {T : TC} {Γ : List (Option VA)} {Ω Ω0 Ω1 Ω2 : List OA} {A B : VA} {te ta tb : TE} {D : Ends} {F0 : Hp} {ts : TS}
structure Wk2 (k : Nat) (o : OA) {α : Type} (J : It) (Sx : Hp → Prop) (xs : List α) (A : α → VA) : Prop where
  mono : ∀ F F', Same F F' → Sx F → Sx F'
  go : ∀ (i : Nat) F Ω H, Sx F → Holds F Ω H → Ω[k]? = some o → i < xs.length → J.go i H
  stop : ∀ F Ω H, Sx F → Holds F Ω H → Ω[k]? = some o → J.stop xs.length H
  yld : ∀ (i : Nat) a F Ω H x H', Sx F → Holds F Ω H → Ω[k]? = some o → xs[i]? = some a → J.yld i H x H' → ∃ F', Same F F' ∧ Holds F' Ω H' ∧ (A a).P F' x
def XI2 (k : Nat) (o : OA) {α : Type} (wi : TI) (Γ : List (Option VA)) (Ω : List OA) (xs : List α) (A : α → VA) (Ω2 : List OA) : Prop :=
  ∀ F σ H, Env F σ Γ → Holds F Ω H → ∀ R : It → Hp → Prop, (∀ F' J H' Sx, Same F F' → Holds F' Ω2 H' → Wk2 k o J Sx xs A → Sx F' → R J H') → wi σ H R
theorem xs_for2 {k : Nat} {o : OA} {α S ρ : Type} {bd : α → S → Option (Stp S ρ)} {s0 : S} {st : Stp S ρ} {wi : TI} {tb : TS} {g : TG} {xs : List α} {A : α → VA} {f : α → List (Option VA) → List (Option VA)} (G : S → List (Option VA)) (O : S → List OA) (RR : ρ → Hp → V → List OA → Prop)
    (hm : forM' bd xs s0 = some st) (hP : ∀ s, (O s)[k]? = some o) (hi : XI2 k o wi (G s0) Ω xs A (O s0)) {js : List Nat} (ht : ∀ a, Tgt g (A a) (f a) js)
    (hb : ∀ a s s', a ∈ xs → bd a s = some s' → ∀ F1 D', Same F0 F1 → To D' F1 s' (fun s => NX F1 (G s) (O s)) (fun s => NX F1 (G s) (O s)) RR → XS tb D' F1 (f a (G s)) (O s))
    (hn : ∀ s, st = .nx s → ∀ σ H, NX F0 (G s) (O s) σ H → D.nx σ H) (hr : ∀ r, st = .rt r → RT F0 (RR r) D.rt) : XS (tFor wi g tb) D F0 (G s0) Ω := by
  rintro σ H ⟨F, f0, e, hh⟩
  refine hi F σ H e hh _ fun F1 J H1 Sx e1 hh1 W sx => ?_
  refine ⟨fun i m σ H => m = xs.length - i ∧ i ≤ xs.length ∧ ∃ s F, forM' bd (xs.drop i) s = some st ∧ Same F0 F ∧ Sx F ∧ Env F σ (G s) ∧ Holds F (O s) H, ⟨xs.length, by simp, Nat.zero_le _, s0, F1, by rw [List.drop_zero]; exact hm, f0.trans e1, sx, e.mono e1, hh1⟩, ?_⟩
  rintro i m σ H ⟨rfl, hi, s, F, hs, f0, sx, e, hh⟩
  by_cases hlt : i < xs.length
  · refine .inr ⟨W.go i F (O s) H sx hh (hP s) hlt, ?_⟩
    have hx : xs[i]? = some xs[i] := List.getElem?_eq_getElem hlt
    rw [List.drop_eq_getElem_cons hlt] at hs
    obtain ⟨s', h1, hs⟩ := bnd_some hs
    refine ⟨fun σ' H' => ∃ s2, s' = .nx s2 ∧ ∃ F, Same F0 F ∧ Sx F ∧ Env F σ' (G s2) ∧ Holds F (O s2) H', ?_, fun x H' y => ?_⟩
    · rintro σ' H' ⟨s2, rfl, F', f0', sx', e', hh'⟩
      exact ⟨xs.length - (i + 1), by omega, rfl, hlt, s2, F', hs, f0', sx', e', hh'⟩
    · obtain ⟨F2, e2, hh2, a2⟩ := W.yld i _ F (O s) H x H' sx hh (hP s) hx y
      refine ht xs[i] F2 σ (G s) x H' (O s) (e.mono e2) hh2 a2 _ fun F3 σ3 H3 e3 en3 hh3 _ => ?_
      have sx3 := W.mono _ _ (e2.trans e3) sx
      have f3 : Same F0 F3 := f0.trans (e2.trans e3)
      have gN : ∀ (s2 : S) (σ' : L2.St) (H' : Hp), NX F3 (G s2) (O s2) σ' H' → ∃ F, Same F0 F ∧ Sx F ∧ Env F σ' (G s2) ∧ Holds F (O s2) H' := fun s2 σ' H' ⟨F4, f4, e4, hh4⟩ => ⟨F4, f3.trans f4, W.mono _ _ f4 sx3, e4, hh4⟩
      have gW : ∀ (s2 : S) (σ' : L2.St) (H' : Hp), NX F3 (G s2) (O s2) σ' H' → NX F0 (G s2) (O s2) σ' H' := fun s2 σ' H' ⟨F4, f4, e4, hh4⟩ => ⟨F4, f3.trans f4, e4, hh4⟩
      refine hb xs[i] s s' (List.getElem_mem hlt) h1 F3 { D with nx := fun σ' H' => ∃ s2, s' = .nx s2 ∧ ∃ F, Same F0 F ∧ Sx F ∧ Env F σ' (G s2) ∧ Holds F (O s2) H', ct := fun σ' H' => ∃ s2, s' = .nx s2 ∧ ∃ F, Same F0 F ∧ Sx F ∧ Env F σ' (G s2) ∧ Holds F (O s2) H', bk := D.nx } f3 ⟨fun s2 z σ' H' n2 => ⟨s2, z, gN s2 σ' H' n2⟩, fun s2 z σ' H' n2 => ⟨s2, z, gN s2 σ' H' n2⟩, fun s2 z σ' H' n2 => ?_, fun r z => ?_⟩ σ3 H3 ⟨F3, Same.refl _, en3, hh3⟩
      · subst z
        cases hs
        exact hn s2 rfl σ' H' (gW s2 σ' H' n2)
      · subst z
        cases hs
        exact (hr r rfl).mono f3
  · have ei : i = xs.length := by omega
    subst ei
    refine .inl ⟨W.stop F (O s) H sx hh (hP s), ?_⟩
    rw [List.drop_length] at hs
    cases hs
    exact hn s rfl σ H ⟨F, f0, e, hh⟩
theorem xs_forS2 {k : Nat} {o : OA} {α S ρ : Type} {bd : α → S → Option (Stp S ρ)} {s0 : S} {st : Stp S ρ} {wi : TI} {tb : TS} {g : TG} {xs : List α} {A : α → VA} {f : α → List (Option VA) → List (Option VA)} (G : S → List (Option VA)) (O : S → List OA) (RR : ρ → Hp → V → List OA → Prop)
    (hm : forM' bd xs s0 = some st) (hP : ∀ s, (O s)[k]? = some o) (hi : XI2 k o wi (G s0) Ω xs A (O s0)) {js : List Nat} (ht : ∀ a, Tgt g (A a) (f a) js)
    (hb : ∀ a s s', a ∈ xs → bd a s = some s' → ∀ F1 D', Same F0 F1 → To D' F1 s' (fun s => NX F1 (G s) (O s)) (fun s => NX F1 (G s) (O s)) RR → XS tb D' F1 (f a (G s)) (O s))
    (hn : ∀ s, st = .nx s → XS ts D F0 (G s) (O s)) (hr : ∀ r, st = .rt r → RT F0 (RR r) D.rt) : XS (tSeq (tFor wi g tb) ts) D F0 (G s0) Ω :=
  xs_seq (xs_for2 G O RR hm hP hi ht hb (fun s e σ H n => hn s e σ H n) hr)
theorem xn_lc2 {k2 : Nat} {o2 : OA} {β γ S : Type} [Rp γ] {b : β → S → Option (Option γ × S)} {xs : List β} {s0 s1 : S} {ys : List γ} {wi : TI} {g : TG} {tt : TT} {vs : List Nat} {A : β → VA} {f : β → List (Option VA) → List (Option VA)} {js : List Nat} (O : S → List OA)
    (hm : lcM b xs s0 = some (ys, s1)) (hP : ∀ s X, (O s ++ [X])[k2]? = some o2) (hi : XI2 k2 o2 wi Γ Ω xs A (O s0)) (ht : ∀ a, Tgt g (A a) (f a) js) (hj : ∀ j ∈ js, j ∈ vs) (hz : xs.length ≤ sizeLine)
    (hb : ∀ a s o s', a ∈ xs → b a s = some (o, s') → ∀ X : OA, (o = none → XT tt (f a (wip Γ vs)) (O s ++ [X]) false (O s' ++ [X])) ∧
      (∀ y, o = some y → XT tt (f a (wip Γ vs)) (O s ++ [X]) true (O s ++ [X]) ∧ XE te (f a (wip Γ vs)) (O s ++ [X]) (va T y) (O s' ++ [X]))) :
    XG (tLc wi g tt te vs) Γ Ω (RN (O s1) fun p => lstA T p ys) := by
  intro F σ H e hh Q q
  refine hi F σ H e hh _ fun F1 J H1 Sx e1 hh1 W sx => fun d hd => ?_
  refine ⟨fun i m H => m = xs.length - i ∧ i ≤ xs.length ∧ ∃ s F acc r, lcM b (xs.drop i) s = some (r, s1) ∧ acc ++ r = ys ∧ acc.length ≤ i ∧ Same F1 F ∧ Sx F ∧ Holds F (O s ++ [lstA T d acc]) H,
    ⟨xs.length, by simp, Nat.zero_le _, s0, F1, [], ys, by rw [List.drop_zero]; exact hm, rfl, Nat.zero_le _, Same.refl _, sx, hh1.newL (o := lstA T d ([] : List γ)) hd ⟨[], upd_same, .nil⟩⟩, ?_⟩
  rintro i m H ⟨rfl, hi, s, F, acc, r, hs, he, hl, f1, sx, hh⟩
  by_cases hlt : i < xs.length
  · refine .inr ⟨W.go i F _ H sx hh (hP _ _) hlt, ?_⟩
    have hx : xs[i]? = some xs[i] := List.getElem?_eq_getElem hlt
    rw [List.drop_eq_getElem_cons hlt] at hs
    obtain ⟨⟨o, s'⟩, h1, hs⟩ := bnd_some hs
    obtain ⟨⟨r2, s2⟩, h2, hs⟩ := bnd_some hs
    cases hs
    refine ⟨fun H' => ∃ s F acc r, lcM b (xs.drop (i + 1)) s = some (r, s1) ∧ acc ++ r = ys ∧ acc.length ≤ i + 1 ∧ Same F1 F ∧ Sx F ∧ Holds F (O s ++ [lstA T d acc]) H', fun H' n => ⟨xs.length - (i + 1), by omega, rfl, hlt, n⟩, fun x H' y => ?_⟩
    obtain ⟨F2, e2, hh2, a2⟩ := W.yld i _ F _ H x H' sx hh (hP _ _) hx y
    have en : Env F2 (wipe σ vs) (wip Γ vs) := wip_env ((e.mono e1).mono (f1.trans e2)) vs
    refine ht xs[i] F2 (wipe σ vs) (wip Γ vs) x H' _ en hh2 a2 _ fun F3 σ3 H3 e3 en3 hh3 hw => ⟨(hw vs hj).trans (wipe_wipe vs), ?_⟩
    obtain ⟨c1, c2⟩ := hb xs[i] s o s' (List.getElem_mem hlt) h1 (lstA T d acc)
    have f3 : Same F1 F3 := f1.trans (e2.trans e3)
    have sx3 := W.mono _ _ (e2.trans e3) sx
    cases o with
    | none =>
      refine c1 rfl F3 σ3 H3 en3 hh3 _ fun F4 H4 e4 hh4 => ?_
      rw [if_neg Bool.false_ne_true]
      exact ⟨s', F4, acc, r2, h2, he, by omega, f3.trans e4, W.mono _ _ e4 sx3, hh4⟩
    | some y =>
      obtain ⟨c3, c4⟩ := c2 y rfl
      refine c3 F3 σ3 H3 en3 hh3 _ fun F4 H4 e4 hh4 => ?_
      rw [if_pos rfl]
      refine c4 F4 σ3 H4 (en3.mono e4) hh4 _ fun F5 v H5 Ω5 e5 hh5 ⟨a5, o5⟩ => ?_
      subst o5
      have hk : (O s' ++ [lstA T d acc])[(O s').length]? = some (lstA T d acc) := app_at
      obtain ⟨t, ⟨ws, w1, al⟩, st, _, wr⟩ := hh5.get hk
      refine ⟨ws, st _ _ w1, by rw [al_len al]; omega, ?_⟩
      have hh6 := wr (lstA T d (acc ++ [y])) d _ (.lst (ws ++ [v])) w1 ⟨_, upd_same, al_app al (.cons a5 .nil)⟩
      rw [set_last] at hh6
      refine ⟨s', F5, acc ++ [y], r2, h2, by rw [List.append_assoc]; exact he, by rw [List.length_append]; simp; omega, f3.trans (e4.trans e5), W.mono _ _ (e4.trans e5) sx3, hh6⟩
  · have ei : i = xs.length := by omega
    subst ei
    refine .inl ⟨W.stop F _ H sx hh (hP _ _), ?_⟩
    rw [List.drop_length] at hs
    cases hs
    rw [List.append_nil] at he
    subst he
    exact q F (.ref d) H _ (e1.trans f1) hh ⟨d, rfl, rfl⟩
theorem xn_lcS2 {k2 : Nat} {o2 : OA} {β γ S : Type} [Rp γ] {b : β → S → Option (Option γ × S)} {xs : List β} {s0 s1 : S} {ys : List γ} {wi : TI} {g : TG} {tt : TT} {vs : List Nat} {A : β → VA} {f : β → List (Option VA) → List (Option VA)} {js : List Nat} {Ω0 : List OA} (ks : S → List (Nat × OA)) (L : S → List OA)
    (hm : lcM b xs s0 = some (ys, s1)) (hP : ∀ s X, (stt Ω (ks s) (L s ++ [X]))[k2]? = some o2) (hi : XI2 k2 o2 wi Γ Ω0 xs A (stt Ω (ks s0) (L s0))) (ht : ∀ a, Tgt g (A a) (f a) js) (hj : ∀ j ∈ js, j ∈ vs) (hz : xs.length ≤ sizeLine)
    (hb : ∀ a s o s', a ∈ xs → b a s = some (o, s') → ∀ X : OA, (o = none → XT tt (f a (wip Γ vs)) (stt Ω (ks s) (L s ++ [X])) false (stt Ω (ks s') (L s' ++ [X]))) ∧
      (∀ y, o = some y → XT tt (f a (wip Γ vs)) (stt Ω (ks s) (L s ++ [X])) true (stt Ω (ks s) (L s ++ [X])) ∧ XE te (f a (wip Γ vs)) (stt Ω (ks s) (L s ++ [X])) (va T y) (stt Ω (ks s') (L s' ++ [X])))) :
    XG (tLc wi g tt te vs) Γ Ω0 (RN (stt Ω (ks s1) (L s1)) fun p => lstA T p ys) :=
  xn_lc2 (fun s => stt Ω (ks s) (L s)) hm (fun s X => by rw [stt_app]; exact hP s X) hi ht hj hz fun a s o s' ha h X => by
    simp only [stt_app]
    exact hb a s o s' ha h X
theorem own_at {α : Type} [Rp α] {F H : Hp} {k : Nat} {p : Addr} {l : List α} (hh : Holds F Ω H) (h : Ω[k]? = some (lstA T p l)) : ∃ vs, H p = some (.lst vs) ∧ Al T F vs l := by
  obtain ⟨t, ⟨vs, h1, h2⟩, st, _⟩ := hh.get h
  exact ⟨vs, st _ _ h1, h2⟩
theorem xi_own {α : Type} [Rp α] {k : Nat} {p : Addr} {l : List α} (hk : Ω1[k]? = some (lstA T p l)) (ha : XE te Γ Ω (vr p) Ω1) : XI2 k (lstA T p l) (iList T.K te) Γ Ω l (fun a => va T a) Ω1 := fun F σ H e hh R r => by
  refine ha F σ H e hh _ fun F1 x H1 Ω' e1 hh1 ⟨a1, o1⟩ => ?_
  subst o1
  have a1 : x = .ref p := a1
  subst a1
  obtain ⟨vs, h1, al⟩ := own_at hh1 hk
  refine ⟨p, rfl, ⟨vs, SqL.of h1⟩, r F1 _ H1 (fun _ => True) e1 hh1 ⟨fun _ _ _ h => h, fun i F Ω H _ hh hk hi => ?_, fun F Ω H _ hh hk => ?_, fun i a F Ω H x H' _ hh hk hx y => ?_⟩ trivial⟩
  · obtain ⟨vs, h1, al⟩ := own_at hh hk
    exact ⟨vs, _, SqL.of h1, List.getElem?_eq_getElem (by rw [al_len al]; exact hi)⟩
  · obtain ⟨vs, h1, al⟩ := own_at hh hk
    exact ⟨vs, SqL.of h1, by rw [al_len al]; exact Nat.le_refl _⟩
  · obtain ⟨vs, h1, al⟩ := own_at hh hk
    obtain ⟨e, y⟩ := y
    subst e
    obtain ⟨v, hv, rv⟩ := al_get al hx
    have ev := y vs (SqL.of h1)
    rw [hv] at ev
    cases ev
    exact ⟨F, Same.refl F, hh, rv⟩
theorem xi_revO {α : Type} [Rp α] {k : Nat} {p : Addr} {l : List α} (hk : Ω1[k]? = some (lstA T p l)) (ha : XE te Γ Ω (vr p) Ω1) : XI2 k (lstA T p l) (_root_.RT.iRevA T.K te) Γ Ω l.reverse (fun a => va T a) Ω1 := fun F σ H e hh R r => by
  refine ha F σ H e hh _ fun F1 x H1 Ω' e1 hh1 ⟨a1, o1⟩ => ?_
  subst o1
  have a1 : x = .ref p := a1
  subst a1
  obtain ⟨vs, h1, al⟩ := own_at hh1 hk
  have len := al_len al
  refine ⟨p, vs, rfl, .inl ⟨SqL.of h1, r F1 _ H1 (fun _ => True) e1 hh1 ⟨fun _ _ _ h => h, fun i F Ω H _ hh hk hi => ?_, fun F Ω H _ hh hk => ?_, fun i a F Ω H x H' _ hh hk hx y => ?_⟩ trivial⟩⟩
  · obtain ⟨us, h2, al2⟩ := own_at hh hk
    rw [List.length_reverse] at hi
    exact ⟨by rw [len]; exact hi, us, _, SqL.of h2, List.getElem?_eq_getElem (by rw [al_len al2, len]; omega)⟩
  · show vs.length ≤ _
    rw [List.length_reverse, len]
    exact Nat.le_refl _
  · obtain ⟨us, h2, al2⟩ := own_at hh hk
    obtain ⟨e, y⟩ := y
    subst e
    obtain ⟨lt, hx⟩ := rev_get hx
    obtain ⟨v, hv, rv⟩ := al_get al2 hx
    have ev := y us (SqL.of h2)
    rw [len, hv] at ev
    cases ev
    exact ⟨F, Same.refl F, hh, rv⟩
theorem ty_own {α : Type} [Rp α] {F H : Hp} {v : V} {k : Nat} {p : Addr} {l : List α} (h : Ω[k]? = some (lstA T p l)) (hh : Holds F Ω H) (a : (vr p).P F v) : TyX T.K H v (.type "list") := by
  have a : v = .ref p := a
  subst a
  obtain ⟨vs, h1, _⟩ := own_at hh h
  exact .base (.lst h1)
end
end VL

set_option Elab.async false
set_option linter.all false
set_option maxRecDepth 100000
/-! the parts of a pair with a list that changes -/
namespace VL
open PySem L2
section
variable {T : TC} {Γ : List (Option VA)} {Ω Ω1 Ω2 : List OA} {B : VA} {te : TE} {p : Addr}
theorem xe_pv0 (ha : XE te Γ Ω (pvA T p B) Ω1) : XE (tOp (rIx T.K) te (tC (.int 0))) Γ Ω (vr p) Ω1 := xe_op ha (xe_int (T := T) (n := 0)) fun F H x y hh a1 a2 Q q => by
  obtain ⟨t, w, rfl, hs, r2⟩ := a1
  exact .inr (.inl ⟨t, _, 0, .ref p, rfl, a2, Same.tup hh.same hs, rfl, q F (.ref p) H (Same.refl F) hh rfl⟩)
theorem xe_pv1 (ha : XE te Γ Ω (pvA T p B) Ω1) : XE (tOp (rIx T.K) te (tC (.int 1))) Γ Ω B Ω1 := xe_op ha (xe_int (T := T) (n := 1)) fun F H x y hh a1 a2 Q q => by
  obtain ⟨t, w, rfl, hs, r2⟩ := a1
  exact .inr (.inl ⟨t, _, 1, w, rfl, a2, Same.tup hh.same hs, rfl, q F w H (Same.refl F) hh r2⟩)
theorem xg_tupN2S {ks : List (Nat × OA)} {L : List OA} {o : Addr → OA} {Ω0 : List OA} {ta tb : TE} (h1 : XG ta Γ Ω0 (RN (stt Ω ks L) o)) (h2 : ∀ p, XE tb Γ (stt Ω ks (L ++ [o p])) B (stt Ω ks (L ++ [o p]))) : XG (tTup (tCons ta (tCons tb tNil))) Γ Ω0 (RNP T (stt Ω ks L) o B) :=
  xg_tupN2 h1 fun p => by rw [stt_app]; exact h2 p
theorem xn_callNPK {Pre : PreT} {E : XK} {t tk : TA} {As Ks : List VA} {ix : List Nat} {n m : Nat} {Ω' Ω3 : List OA} {o : Addr → OA} (ha : XA t Γ Ω As Ω1) (hk : XA tk Γ Ω1 Ks Ω2) (hp : Pre (prm ix (As ++ Ks)) Ω2 (RNP T Ω' o B)) (he : Ω' = Ω3) (h1 : As.length = n := by rfl) (h2 : Ks.length = m := by rfl) :
    XG (tCallN n m (mkSp Pre) (fun vs zs => prm ix (vs ++ zs)) E t tk) Γ Ω (RNP T Ω3 o B) := fun F σ H e hh Q q => by
  subst he
  refine ha F σ H e hh _ fun F1 xs H1 e1 hh1 a1 => ?_
  refine hk F1 σ H1 (e.mono e1) hh1 _ fun F2 zs H2 e2 hh2 a2 => ?_
  refine ⟨a1.len.trans h1, a2.len.trans h2, F2, Ω2, _, _, hp, prm_relA ix ((a1.mono e2).app a2), hh2, fun F' v H' Ω4 e' hh' r => q F' v H' Ω4 ((e1.trans e2).trans e') hh' r⟩
end
end VL

set_option Elab.async false
set_option linter.all false
set_option maxRecDepth 100000
/-! an own __eq__ beside a number or a list; is, of truths; a new list of a tuple; a new machine handed over at once -/
namespace VL
open PySem L2 PyProof.Rows
/-- neither an int nor a list comes ahead of the class at C, nor is one of it -/
def otherB (K : PySem.W.Frag) (C : Addr) : Bool := PySem.W.notFirst K C (.type "int") && (PySem.W.notFirst K C (.type "list") && (decide (PySem.W.kitOne K (.type "int") (.ref C) = some false) && decide (PySem.W.kitOne K (.type "list") (.ref C) = some false)))
/-- an int or a list -/
def IsO (H : Hp) (y : V) : Prop := (∃ i, y = .int i) ∨ ∃ b vs, y = .ref b ∧ H b = some (.lst vs)
def rOwnX (K : PySem.W.Frag) (C : Addr) (sp : Sp) : R2 := fun x y H Q => ∃ a dx fs, x = .ref a ∧ H a = some (.ins C dx fs) ∧ IsO H y ∧ sp [x, y] H (fun v H' => v = .bl false ∧ Q (.bl false) H') E0
section
variable {X : Cx} {n : Nat} {C f : Addr} {fd : FuncData} {ps : List Str} {sp : Sp}
theorem op_ownX (F : FnOk X.prog X.w X.K X.mg X.base CX0 n f fd ps sp) (own : PySem.W.findIn X.K (.ref C) "__eq__" = some (some (.ref f))) (isf : PySem.W.isFn X.K (.ref f) = true) (hb : Binds X.K fd ps []) (room : Room n X.A) (nb : otherB X.K C = true) : OpR X (compareOp .Eq) (rOwnX X.K C sp) := by
  intro pins s σ H x y v u Q I r1 r2 h
  obtain ⟨a, dx, fs, rfl, ha, o, q⟩ := h
  obtain ⟨n1, nb⟩ := He.ba nb
  obtain ⟨n2, _⟩ := He.ba nb
  cases (show v = Value.ref a from r1)
  obtain ⟨mA, J, _⟩ := ins_get I.hok ha
  obtain ⟨od, J, _⟩ := J.look
  obtain ⟨m, fr⟩ := I.fr
  have r3 := call_own F hb room rfl I (show RelV (V.ref a) (Value.ref a) from rfl) r2 q
  have fin : ∀ {tb : Value}, PySem.W.Looks (model X.prog X.w) s.heap (typeOf u) tb → PySem.W.notFirst X.K C tb = true → wpAny (model X.prog X.w) X.A (richCompare .Eq (.ref a) u) (EP X pins σ Q) X.xe s := fun lk nf => by
    refine PySem.W.cmp_K (op := .Eq) room.units0 fr I.ok.mod.kin J lk nf own isf (wpAny_mono r3 (fun w s' z => ?_) fun _ _ z => z)
    obtain ⟨z, H', I', rz, ez, q'⟩ := z
    subst ez
    obtain rfl : w = Value.bool false := rz
    exact ⟨.bl false, H', I', rfl, q'⟩
  rcases o with ⟨i, rfl⟩ | ⟨b, vs, rfl, hs⟩
  · obtain ⟨t, rfl⟩ := (show ∃ t, u = Value.int i t from r2)
    exact fin PySem.W.Looks.now n1
  · cases (show u = Value.ref b from r2)
    obtain ⟨us, _, p1, _⟩ := I.list (SqL.of hs)
    obtain ⟨o, ho, hc, _⟩ := p1.isList
    have lk : PySem.W.Looks (model X.prog X.w) s.heap (typeOf (.ref b)) o.cls := (PySem.W.Looks.ld ho).andThen .now
    rw [hc] at lk
    exact fin lk n2
structure CalEqX (P : Program) (w : World) (K : PySem.W.Frag) (mg : Str → Option Value) (base : Heap) (n : Nat) (C : Addr) (sp : Sp) : Prop where
  ex : ∃ f fd, FnOk P w K mg base CX0 n f fd ["self", "other"] sp ∧ otherB K C = true ∧ Meth K C "__eq__" f ∧ Binds K fd ["self", "other"] []
theorem op_eqX2 (c : CalEqX X.prog X.w X.K X.mg X.base n C sp) (room : Room n X.A) : OpR X (compareOp .Eq) (rOwnX X.K C sp) := by
  obtain ⟨f, fd, F, nb, me, hb⟩ := c.ex
  exact op_ownX F me.1 me.2 hb room nb
theorem op_eqX2K {K : PySem.W.Frag} (hK : X.K = K) (c : CalEqX X.prog X.w X.K X.mg X.base n C sp) (room : Room n X.A) : OpR X (compareOp .Eq) (rOwnX K C sp) := hK ▸ op_eqX2 c room
end
/-- what __eq__ tells of a number beside an int or a list -/
def PreX (T : TC) : PreT := fun As Ω R => ∃ (x0 : Bg) (A : VA), As = [va T x0, A] ∧ (∀ F H v, Holds F Ω H → A.P F v → IsO H v) ∧ R = RV (va T false) (stt Ω [] [])
section
variable {T : TC} {Γ : List (Option VA)} {Ω Ω0 Ω1 Ω2 : List OA} {A B : VA} {ta tb te : TE} {x : Bg} {b c : Bool}
theorem xe_ownX (ha : XE ta Γ Ω (va T x) Ω1) (hb : XE tb Γ Ω1 B Ω2) (hy : ∀ F H v, Holds F Ω2 H → B.P F v → IsO H v) : XE (tOp (rOwnX T.K (T.C 1) (mkSp (PreX T))) ta tb) Γ Ω (va T false) Ω2 := xe_op ha hb fun F H u v hh a1 a2 Q q => by
  obtain ⟨p, dx, r1, vs, rfl, h1, h2, h3⟩ := id a1
  refine ⟨p, dx, _, rfl, hh.same _ _ h1, hy F H v hh a2, F, Ω2, _, _, ⟨x, B, rfl, hy, rfl⟩, .cons a1 (.cons a2 .nil), hh, fun F' w H' Ω'' s' hh' ⟨aw, eo⟩ => ?_⟩
  subst eo
  rw [cal0'] at hh'
  exact ⟨aw, q F' _ H' s' hh' rfl⟩
theorem isO_int {i : Int} {F H : Hp} {v : V} (_ : Holds F Ω H) (a : (va T i).P F v) : IsO H v := .inl ⟨i, a⟩
theorem isO_lst {α : Type} [Rp α] {l : List α} {F H : Hp} {v : V} (hh : Holds F Ω H) (a : (va T (LF.mk l)).P F v) : IsO H v := by
  obtain ⟨p, vs, e, h, _⟩ := a
  exact .inr ⟨p, vs, e, hh.same _ _ h⟩
/-- an int or a list: its class, seen from a class of the text -/
theorem ty_other {K : PySem.W.Frag} {C : Addr} {H : Hp} {v : V} (nb : otherB K C = true) (o : IsO H v) : ∃ t, TyX K H v t ∧ PySem.W.kitOne K t (.ref C) = some false := by
  obtain ⟨_, nb⟩ := He.ba nb
  obtain ⟨_, nb⟩ := He.ba nb
  obtain ⟨k1, k2⟩ := He.ba nb
  rcases o with ⟨i, rfl⟩ | ⟨b, vs, rfl, hs⟩
  · exact ⟨_, .base (.int i), of_decide_eq_true k1⟩
  · exact ⟨_, .base (.lst hs), of_decide_eq_true k2⟩
/-- isinstance of such a value -/
theorem xe_isO {tc : TE} (nb : otherB T.K (T.C 1) = true) (ha : XE ta Γ Ω A Ω1) (hb : XE tc Γ Ω1 (vx (.ref (T.C 1))) Ω1) (hy : ∀ F H v, Holds F Ω1 H → A.P F v → IsO H v) :
    XE (tCB (rIsi T.K) (tCons ta (tCons tc tNil))) Γ Ω (va T false) Ω1 := xe_cb (xa_cons ha (xa_cons hb xa_nil)) fun F H vs hh a Q q => by
  obtain ⟨v, w, rfl, a1, a2⟩ := alA2 a
  have a2 : w = .ref (T.C 1) := a2
  subst a2
  obtain ⟨t, ty, kt⟩ := ty_other nb (hy F H v hh a1)
  exact ⟨v, _, t, _, false, rfl, .own _, ty, kt, q F _ H (Same.refl F) hh rfl⟩
def rIsB : R2 := fun x y H Q => ∃ a b, x = .bl a ∧ y = .bl b ∧ Q (.bl (decide (a = b))) H
theorem xe_isB (ha : XE ta Γ Ω (va T b) Ω1) (hb : XE tb Γ Ω1 (va T c) Ω2) : XE (tOp rIsB ta tb) Γ Ω (va T (decide (b = c))) Ω2 := xe_op ha hb fun F H u v hh a1 a2 Q q => ⟨b, c, a1, a2, q F _ H (Same.refl F) hh rfl⟩
theorem xn_listT {α : Type} [Rp α] {l : List α} (ha : XE te Γ Ω A Ω1) (h : IsT T Ω1 A l) : XG (tCB (rList T.K) (tCons te tNil)) Γ Ω (RN Ω1 fun p => lstA T p l) := fun F σ H e hh Q q => by
  refine xa_cons ha xa_nil F σ H e hh _ fun F1 xs H1 e1 hh1 a => ?_
  obtain ⟨v, rfl, a1⟩ := alA1 a
  obtain ⟨p, ws, ev, hs, al⟩ := h F1 H1 v hh1 a1
  exact ⟨p, ws, by rw [ev], .inr hs, fun d hd => q F1 _ _ _ e1 (hh1.newL (o := lstA T d l) hd ⟨_, upd_same, al⟩) ⟨d, rfl, rfl⟩⟩
/-- f(a new thing, ..): the thing is left behind -/
theorem xe_callF {Pre : PreT} {E : XK} {t : TA} {As : List VA} {ks : List (Nat × OA)} {L : List OA} {o : Addr → OA} {Ω' : Addr → List OA} (h1 : XG ta Γ Ω0 (RN (stt Ω ks L) o)) (h2 : ∀ p, XA t Γ (stt Ω ks (L ++ [o p])) As (stt Ω ks (L ++ [o p])))
    (hp : ∀ p, Pre (vr p :: As) (stt Ω ks (L ++ [o p])) (RV A (Ω' p))) (he : ∀ p, Ω' p = stt Ω ks (L ++ [o p])) : XE (tCall (mkSp Pre) [] E (tCons ta t)) Γ Ω0 A (stt Ω ks L) := fun F σ H e hh Q q => by
  refine h1 F σ H e hh _ fun F1 x H1 Ωa e1 hh1 ⟨p, a1, o1⟩ => ?_
  subst o1
  rw [stt_app] at hh1
  refine h2 p F1 σ H1 (e.mono e1) hh1 _ fun F2 ws H2 e2 hh2 a2 => ?_
  have a1 : x = .ref p := a1
  subst a1
  refine ⟨F2, _, vr p :: As, _, hp p, ?_, hh2, fun F' v H' Ω3 e' hh' ⟨av, eo⟩ => ?_⟩
  · rw [List.append_nil]
    exact .cons (show (vr p).P F2 (.ref p) from rfl) a2
  · subst eo
    rw [he p, ← stt_app] at hh'
    exact q F' v H' _ ((e1.trans e2).trans e') hh'.drop ⟨av, rfl⟩
theorem xn_mcallB {m : Str} {Pre : PreT} {E : XK} {t : TA} {As : List VA} {Ω' Ω3 : List OA} {o : Addr → OA} (ha : XE ta Γ Ω (va T x) Ω1) (hx : XA t Γ Ω1 As Ω2) (hp : Pre (va T x :: As) Ω2 (RN Ω' o)) (he : Ω' = Ω3)
    (hm : (m == "width" || m == "side" || m == "row" || m == "value") = false := by decide +kernel) : XG (tMeth (T.C 1) m (mkSp Pre) [] E ta t) Γ Ω (RN Ω3 o) := fun F σ H e hh Q q => by
  subst he
  refine ha F σ H e hh _ fun F1 v H1 Ωa e1 hh1 ⟨a1, o1⟩ => ?_
  subst o1
  obtain ⟨p, dx, r1, vs, rfl, h1, h2, h3⟩ := id a1
  simp only [Bool.or_eq_false_iff] at hm
  refine ⟨p, dx, _, rfl, hh1.same _ _ h1, by rw [look_ne hm.1.1.1, look_ne hm.1.1.2, look_ne hm.1.2, look_ne hm.2]; rfl, ?_⟩
  refine hx F1 σ H1 (e.mono e1) hh1 _ fun F2 ws H2 e2 hh2 a2 => ?_
  refine ⟨F2, Ω2, va T x :: As, _, hp, ?_, hh2, fun F' w H' Ω3 e' hh' r => q F' w H' Ω3 ((e1.trans e2).trans e') hh' r⟩
  rw [List.append_nil]
  exact .cons ((va T x).mono e2 a1) a2
end
end VL

set_option Elab.async false
set_option linter.all false
set_option maxRecDepth 100000
/-! VL18: a name that holds one of several defs; and/or whose second part changes things. -/
namespace VL
open PySem L2
/-- one of several defs, by its number -/
structure FT where
  i : Nat
instance : Rp FT := ⟨fun T _ v a => v = .ref (T.C (200 + a.i)), fun _ h => h⟩
structure HeldF (P : Program) (w : World) (K : PySem.W.Frag) (mg : Str → Option Value) (base : Heap) (k : Nat) (f : Addr) (sp : Sp) : Prop where
  ex : ∃ (fd : FuncData) (ps : List Str), FnOk P w K mg base CX0 k f fd ps sp ∧ PySem.W.keepIn K (.ref f) = true ∧ Binds K fd ps []
structure HeldFK (P : Program) (w : World) (K : PySem.W.Frag) (mg : Str → Option Value) (base : Heap) (k : Nat) (f : Addr) (n : Nat) (ks : List Str) (ix : List Nat) (sp : Sp) : Prop where
  ex : ∃ (fd : FuncData) (ps : List Str), FnOk P w K mg base CX0 k f fd ps sp ∧ PySem.W.keepIn K (.ref f) = true ∧ KBn K fd ps n ks (fun us ws => prm ix (us ++ ws)) (fun vs zs => prm ix (vs ++ zs))
def tCallFn (i : Nat) (S : Addr → Sp → Prop) (t : TA) : TE := fun σ H Q => ∃ f sp, σ[i]? = some (some (.ref f)) ∧ S f sp ∧ t σ H fun vs H1 => sp (vs ++ []) H1 Q E0
def tCallFnN (i : Nat) (S : Addr → Sp → Prop) (n m : Nat) (g : List V → List V → List V) (t tk : TA) : TE := fun σ H Q => ∃ f sp, σ[i]? = some (some (.ref f)) ∧ S f sp ∧ tCallN n m sp g E0 t tk σ H Q
section
variable {X : Cx} {k i n : Nat} {S : Addr → Sp → Prop} {x : Str} {ks : List Str} {ix : List Nat} {p pos : Pos} {e : Expr} {es : List Expr} {kws : List Keyword} {t tk : TA}
theorem pe_callFn (A : ∀ f sp, S f sp → HeldF X.prog X.w X.K X.mg X.base k f sp) (hr : Room k X.A) (hN : X.N[i]? = some x) (hv : Vis X.env.scope x) (ha : PA X (e :: es) t)
    (hdb : (x == ("__debug__" : Str)) = false := by decide) (hcd : (x == ("__classdict__" : Str)) = false := by decide)
    (he : starEach (e :: es) X.env = (false, eval e X.env) :: starEach es X.env := by rfl) (hpl : (backTo pos (starEach es X.env)).any (·.1) = false := by rfl) :
    PE X (.Call (.Name x p) (e :: es) [] pos) (tCallFn i S t) := ⟨fun pins s σ H Q I h => by
  obtain ⟨f, sp, hs, hS, ht⟩ := h
  obtain ⟨fd, ps, F, hk, hb⟩ := (A f sp hS).ex
  exact (pe_callL (i := i) (f := f) (sp := sp) (dvs := []) (E := E0) F hr hN hv hk hb .nil pass0 ha hdb hcd he hpl).run pins s σ H Q I ⟨hs, ht⟩⟩
theorem pe_callFnK0 (A : ∀ f sp, S f sp → HeldFK X.prog X.w X.K X.mg X.base k f 0 ks ix sp) (hr : Room k X.A) (hN : X.N[i]? = some x) (hv : Vis X.env.scope x)
    (hkw : PK X kws tk) (hall : (backToKw pos (keywordEach kws X.env)).all (·.1.isSome) = true := by rfl) (hks : (backToKw pos (keywordEach kws X.env)).filterMap (·.1) = ks := by rfl)
    (hdb : (x == ("__debug__" : Str)) = false := by decide) (hcd : (x == ("__classdict__" : Str)) = false := by decide)
    (hpl : ((backTo pos (starEach [] X.env)).any (·.1) || (backToKw pos (keywordEach kws X.env)).any (·.1.isNone)) = false := by rfl) :
    PE X (.Call (.Name x p) [] kws pos) (tCallFnN i S 0 ks.length (fun vs zs => prm ix (vs ++ zs)) tNil tk) := ⟨fun pins s σ H Q I h => by
  obtain ⟨f, sp, hs, hS, ht⟩ := h
  obtain ⟨fd, ps, F, hk, hb⟩ := (A f sp hS).ex
  refine PySem.wpAny_Call_Name_kw (L2.thn ((pe_var (pos := p) hN hv hdb hcd).run pins s σ H (fun v H1 => v = .ref f ∧ H1 = H) I ⟨.ref f, hs, rfl, rfl⟩) fun u s1 ⟨v, H1, I1, r1, q1⟩ => ?_)
  obtain ⟨rfl, rfl⟩ := q1
  cases r1
  refine PySem.W.callWith_KW0 (h₀ := X.base) I.ok.mod.kin hk hall ?_ hpl
  refine L2.thn (hkw.run pos pins s1 σ _ _ I1 ht) fun ws s2 ⟨zs, H2, I2, rz, l1, l2, q2⟩ => ⟨I2.kIn, ?_⟩
  rw [hks]
  exact run_fnN (us := []) (vs := []) F hr hb pass0 I2 .nil rz l1 l2 q2⟩
end
section
variable {T : TC} {Γ : List (Option VA)} {Ω Ω1 Ω2 Ω3 : List OA} {A : VA} {As Ks : List VA} {a : FT} {i : Nat} {S : Addr → Sp → Prop}
theorem xg_callFn {Pre : PreT} {t : TA} {R : Hp → V → List OA → Prop} (hs : Γ[i]? = some (some (va T a))) (hS : S (T.C (200 + a.i)) (mkSp Pre)) (ha : XA t Γ Ω As Ω1) (hp : Pre As Ω1 R) : XG (tCallFn i S t) Γ Ω R := fun F σ H e hh Q q => by
  obtain ⟨v, h1, h2⟩ := e.2 i _ hs
  have h2 : v = .ref (T.C (200 + a.i)) := h2
  subst h2
  exact ⟨_, _, h1, hS, (xg_call (E := E0) ha hp) F σ H e hh Q q⟩
theorem xe_callFn {Pre : PreT} {t : TA} {Ω' : List OA} (hs : Γ[i]? = some (some (va T a))) (hS : S (T.C (200 + a.i)) (mkSp Pre)) (ha : XA t Γ Ω As Ω1) (hp : Pre As Ω1 (RV A Ω')) (he : Ω' = Ω2) : XE (tCallFn i S t) Γ Ω A Ω2 := he ▸ xg_callFn hs hS ha hp
theorem xe_callFnN {Pre : PreT} {t tk : TA} {ix : List Nat} {n m : Nat} {Ω' : List OA} (hs : Γ[i]? = some (some (va T a))) (hS : S (T.C (200 + a.i)) (mkSp Pre)) (ha : XA t Γ Ω As Ω1) (hk : XA tk Γ Ω1 Ks Ω2) (hp : Pre (prm ix (As ++ Ks)) Ω2 (RV A Ω')) (he : Ω' = Ω3) (h1 : As.length = n := by rfl) (h2 : Ks.length = m := by rfl) :
    XE (tCallFnN i S n m (fun vs zs => prm ix (vs ++ zs)) t tk) Γ Ω A Ω3 := fun F σ H e hh Q q => by
  obtain ⟨v, hv, h3⟩ := e.2 i _ hs
  have h3 : v = .ref (T.C (200 + a.i)) := h3
  subst h3
  exact ⟨_, _, hv, hS, (xe_callN (E := E0) ha hk hp he h1 h2) F σ H e hh Q q⟩
theorem xt_andNO {α : Type} {m : Option α} {cur z : α} {O : α → List OA} {b : Bool} {t u : TT} (h1 : XT t Γ Ω b (O cur)) (hz : (if b = true then m else some cur) = some z) (h2 : ∀ v, m = some v → XT u Γ (O cur) false (O v)) : XT (tAnd t u) Γ Ω false (O z) := by
  cases b with
  | true =>
    rw [if_pos rfl] at hz
    exact xt_and h1 (fun _ => h2 z hz) (fun h => nomatch h)
  | false =>
    rw [if_neg Bool.false_ne_true] at hz
    cases hz
    exact xt_and (c := false) h1 (fun h => nomatch h) (fun _ => rfl)
end
end VL

set_option Elab.async false
set_option linter.all false
set_option maxRecDepth 100000
set_option maxHeartbeats 2000000
/-! VL19: a lambda without parameters handed to a def that calls it: what it makes of the caller's machine. -/
namespace VL
open PySem PySem.Spec PyProof.Rows L2 LamX
/-- the table at P in t: its code objects stand in F -/
def TabF (F t : Hp) (P : Addr) (q : Str) : Prop := ∃ ps : Array Value, t P = some (.tbl ps) ∧ TriplesOk ps.toList ∧ ∀ (pos : Pos) (cv : Value), codeAmong pos ps.toList = some cv → ∃ c, cv = .ref c ∧ F c = some (CodeO c q)
theorem TabF.mono {F F' t : Hp} {P : Addr} {q : Str} (e : Same F F') : TabF F t P q → TabF F' t P q := fun ⟨ps, h1, h2, h3⟩ => ⟨ps, h1, h2, fun pos cv h => let ⟨c, a, b⟩ := h3 pos cv h; ⟨c, a, e _ _ b⟩⟩
/-- all the tables of a law -/
def tabA (l : List (Addr × Str)) : OA := ⟨fun F t => ∀ p ∈ l, TabF F t p.1 p.2, fun e h p hp => (h p hp).mono e⟩
/-- the table's part of the heap behind a lambda's making: H as it was, or a new code object at c' -/
def Grown (H : Hp) (P : Addr) (q : Str) (H1 : Hp) (c' : Addr) : Prop :=
  (H1 = H ∧ ∃ (ps : Array Value) (pos : Pos), H P = some (.tbl ps) ∧ codeAmong pos ps.toList = some (.ref c')) ∨
  ∃ (ps more : Array Value), H P = some (.tbl ps) ∧ H c' = none ∧ H1 = upd (upd H P (.tbl (ps ++ more))) c' (CodeO c' q) ∧ (TriplesOk ps.toList → TriplesOk (ps ++ more).toList) ∧
    ∀ (pos : Pos) (cv : Value), TriplesOk ps.toList → codeAmong pos (ps ++ more).toList = some cv → codeAmong pos ps.toList = some cv ∨ cv = .ref c'
theorem set_own {α : Type} {l : List α} {i : Nat} {a : α} (h : l[i]? = some a) : l.set i a = l := by
  apply List.ext_getElem?
  intro j
  by_cases e : i = j
  · subst e; rw [List.getElem?_set_self (getlt h), h]
  · rw [List.getElem?_set_ne e]
theorem grown_holds {F H H1 : Hp} {Ω : List OA} {l : List (Addr × Str)} {kt : Nat} {P c' : Addr} {q : Str} (hh : Holds F Ω H) (ht : Ω[kt]? = some (tabA l)) (hm : (P, q) ∈ l) (hu : ∀ p ∈ l, p.1 = P → p.2 = q) (g : Grown H P q H1 c') :
    ∃ F1, Same F F1 ∧ Holds F1 Ω H1 ∧ F1 c' = some (CodeO c' q) := by
  rcases g with ⟨rfl, ps, pos, e1, e2⟩ | ⟨ps, more, e1, e2, e3, e4, e5⟩
  · obtain ⟨t, h1, h2, _, _⟩ := hh.get ht
    obtain ⟨ps', a1, a2, a3⟩ := h1 _ hm
    have := (h2 _ _ a1).symm.trans e1
    cases this
    obtain ⟨c, b1, b2⟩ := a3 pos _ e2
    cases b1
    exact ⟨F, Same.refl F, hh, b2⟩
  · have nP : P ≠ c' := ne_of_none e1 e2
    obtain ⟨hh1, s1⟩ := hh.newF (u := CodeO c' q) e2
    obtain ⟨t, h1, h2, h3, h4⟩ := hh1.get ht
    have eP : t P = some (.tbl ps) := by
      obtain ⟨ps', a1, _⟩ := h1 _ hm
      have z := h2 _ _ a1
      rw [upd_ne nP, e1] at z
      cases z
      exact a1
    have key := h4 (tabA l) P (.tbl ps) (.tbl (ps ++ more)) eP fun p hp => by
      obtain ⟨ps', a1, a2, a3⟩ := h1 p hp
      by_cases hb : p.1 = P
      · have hq := hu p hp hb
        rw [hb] at a1 ⊢
        rw [hq] at a3 ⊢
        have := a1.symm.trans eP
        cases this
        refine ⟨_, upd_same, e4 a2, fun pos cv hc => ?_⟩
        rcases e5 pos cv a2 hc with z | z
        · exact a3 pos cv z
        · exact ⟨c', z, upd_same⟩
      · exact ⟨ps', by rw [upd_ne hb]; exact a1, a2, a3⟩
    rw [set_own ht] at key
    refine ⟨_, s1, ?_, upd_same⟩
    have e6 : H1 = upd (upd H c' (CodeO c' q)) P (.tbl (ps ++ more)) := by
      rw [e3]
      funext b
      by_cases b1 : b = P
      · subst b1
        rw [upd_ne nP, upd_same, upd_same]
      · by_cases b2 : b = c'
        · subst b2; rw [upd_same, upd_ne b1, upd_same]
        · rw [upd_ne b2, upd_ne b1, upd_ne b1, upd_ne b2]
    rw [e6]
    exact key
section
variable {X : Cx} {pins : List (Addr × Obj)} {σ : L2.St} {H : Hp} {s : Shared}
/-- the lambda is made -/
theorem lam_mk {c P : Addr} {params : Arguments} {body : Expr} {scope : Scope} {pos : Pos} {E : Value → Shared → Prop} {Q : Value → Shared → Prop} (I : Inv X pins σ H s) (TB : TabB X.base X.mg c P) (hcode : X.env.code = .ref c)
    {ps : Array Value} (hP : H P = some (.tbl ps)) (ht : TriplesOk ps.toList) (ha : ∀ (pos : Pos) (cv : Value), codeAmong pos ps.toList = some cv → ∃ c, cv = .ref c ∧ H c = some (CodeO c (X.env.qual ++ "<lambda>")))
    (hdef : defaultsOf params X.env = ([], [])) (hfree : ∀ y ∈ scope.names, y.2 = .free → ∃ c, X.env.cells.lookup y.1 = some c)
    (h : ∀ (f c' : Addr) (pm ctv : Value) (H1 : Hp) (s' : Shared), Inv X pins σ H1 s' → Grown H P (X.env.qual ++ "<lambda>") H1 c' →
      s'.heap.get? f = some (PySem.W.kla_obj "<lambda>" (X.env.qual ++ "<lambda>") params body scope (cloFrom X.env.cells scope.names []) pm c' ctv) → H1 f = none → f ∉ frs X.stack → Q (.ref f) s') :
    wpAny (model X.prog X.w) X.A (eval (.Lambda params body scope pos) X.env) Q E s := by
  refine PySem.W.kla_eval hdef ?_
  have bP : s.heap.BuiltinsAt X.mg P := TB.bm.keeps I.bk
  have oP : s.heap.get? P = some { cls := .none, data := .fields ps } := I.hok P _ hP
  have away : ∀ f, s.heap.objs.size ≤ f → f ∉ frs X.stack := fun f hf z => by
    rcases List.mem_cons.mp (I.stkSub _ z) with e | e
    · have h1 := I.lt
      rw [← e] at h1
      exact Nat.lt_irrefl _ (Nat.lt_of_lt_of_le h1 hf)
    · exact I.nofs hf e
  cases hc : codeAmong pos ps.toList with
  | some cv =>
    obtain ⟨c', e, hco⟩ := ha pos cv hc
    subst e
    refine PySem.W.kla_makeFunctionHit (mg := X.mg) (c := c) (P := P) (ps := ps) (closure_ok hfree) I.ok.glob (I.mod.glob.keeps I.bk) hcode (TB.code.keeps I.bk) oP ht hc bP fun ctv h' tk hx hsz => ?_
    exact h h'.objs.size c' _ ctv H _ (I.kept (h' := h'.push (PySem.W.kla_obj "<lambda>" (X.env.qual ++ "<lambda>") params body scope (cloFrom X.env.cells scope.names []) ((X.mg "__name__").getD .none) c' ctv)) (t' := tk) fun b o e => Heap.get?_push_of_some _ (hx b o e)) (.inl ⟨rfl, ps, pos, hP, hc⟩) (Heap.get?_push_size _ rfl) (I.hok.fresh hsz) (away _ hsz)
  | none =>
    refine PySem.W.kla_makeFunction (mg := X.mg) (c := c) (P := P) (ps := ps) (closure_ok hfree) I.ok.glob (I.mod.glob.keeps I.bk) hcode (TB.code.keeps I.bk) oP ht hc TB.gP bP fun c' ctv h' tk hx hge hlt hrec htb => ?_
    obtain ⟨c2, oc, vs, t, e2, hoc, hd, hv⟩ := hrec
    cases e2
    have nC : H c' = none := I.hok.fresh hge
    have hsz : s.heap.objs.size ≤ h'.objs.size := Nat.le_of_lt (Nat.lt_of_le_of_lt hge hlt)
    refine h h'.objs.size c' ((X.mg "__name__").getD .none) ctv _ _ (inv_table (t' := tk) (more := #[rawInt pos.line, rawInt pos.col, .ref c']) (h' := h'.push (PySem.W.kla_obj "<lambda>" (X.env.qual ++ "<lambda>") params body scope (cloFrom X.env.cells scope.names []) ((X.mg "__name__").getD .none) c' ctv)) I hP
        (fun b o hb e => Heap.get?_push_of_some _ (hx b o hb e)) (Heap.get?_push_of_some _ htb) hge ⟨oc, vs, t, Heap.get?_push_of_some _ hoc, hd, hv⟩) ?_ (Heap.get?_push_size _ rfl) ?_ (away _ hsz)
    · refine .inr ⟨ps, #[rawInt pos.line, rawInt pos.col, .ref c'], hP, nC, rfl, fun z => ?_, fun pos2 cv z hcv => ?_⟩
      · rw [Array.toList_append]; exact PySem.TriplesOk_snoc _ _ _ _ z
      · rw [Array.toList_append] at hcv
        exact among_app _ z hcv
    · have n1 : h'.objs.size ≠ c' := Nat.ne_of_gt hlt
      have n2 : h'.objs.size ≠ P := Nat.ne_of_gt (Nat.lt_of_lt_of_le (Heap.lt_size oP) hsz)
      rw [upd_ne n1, upd_ne n2]
      exact I.hok.fresh hsz
end
/-! ### a def that is handed a lambda -/
/-- what its name makes: act -/
def tAct (i : Nat) (f c' : Addr) (q : Str) (act : Hp → VK → Prop) : TE := fun σ H Q => σ[i]? = some (some (.ref f)) ∧ H c' = some (CodeO c' q) ∧ act H Q
/-- in each def's context that is entered at s: a call of the name that holds the lambda -/
def ActH (P : Program) (w : World) (K : PySem.W.Frag) (mg : Str → Option Value) (base : Heap) (k : Nat) (A : Around) (outer : List PySem.Env) (s : Shared) (H : Hp) (f c' : Addr) (q : Str) (act : Hp → VK → Prop) : Prop :=
  ∀ (Ng : List Str) (qg : Str) (sg : Scope) (g : Addr) (cdg : Value) (i : Nat) (a : Str) (p1 p2 : Pos), Room (k + 1) (A.deeper (envOfC qg sg s.heap.objs.size g cdg)) → Ng[i]? = some a → Vis sg a → (a == ("__debug__" : Str)) = false → (a == ("__classdict__" : Str)) = false →
    PE (cxOf CX0 P w K mg base Ng qg sg g cdg A outer s H E0).nox (.Call (.Name a p1) [] [] p2) (tAct i f c' q act)
abbrev PreLT := Addr → Addr → Str → (Hp → VK → Prop) → PreT
/-- that def: k, its depth; kl, that of the lambda's body -/
structure CalL (P : Program) (w : World) (K : PySem.W.Frag) (mg : Str → Option Value) (base : Heap) (kl k : Nat) (x : Str) (ps : List Str) (Pre : PreLT) : Prop where
  ex : ∃ g fd, mg x = some (.ref g) ∧ PySem.W.keepIn K (.ref g) = true ∧ Binds K fd ps [] ∧ (∀ f c' q act As Ω R, Pre f c' q act As Ω R → As.length = ps.length) ∧
    ∀ (A : Around) (outer : List PySem.Env) (s : Shared) (H : Hp) (us : List Value) (vs : List V) (Q : VK) (f c' : Addr) (q : Str) (act : Hp → VK → Prop), Room k A → Env0 P w K mg base A outer s H → BindsTo s fd ⟨us, []⟩ (ps.zip us) → Vals vs us →
      ActH P w K mg base kl A outer s H f c' q act → mkSp (Pre f c' q act) vs H Q E0 → codeAny (model P w) A (.call (.ref g) ⟨us, []⟩) (CR CX0 outer P w H s Q E0) s
section
variable {P : Program} {w : World} {K : PySem.W.Frag} {mg : Str → Option Value} {base : Heap}
/-- by its body -/
theorem fnL_ok {x qual : Str} {st : Stmt} {g : Addr} {fd : FuncData} {N ps : List Str} {k kl : Nat} {Pre : PreLT} (F : Fun K x qual st g fd) (S : FnScope N ps (defScope st)) (hl : ∀ f c' q act As Ω R, Pre f c' q act As Ω R → As.length = ps.length) (hk : kl + 1 ≤ k)
    (hb : ∀ (cdv : Value) (A : Around) (outer : List PySem.Env) (s : Shared) (H : Hp) (f c' : Addr) (q : Str) (act : Hp → VK → Prop), Room k (A.deeper (envOfC qual (defScope st) s.heap.objs.size g cdv)) →
      (∀ (i : Nat) (a : Str) (p1 p2 : Pos), N[i]? = some a → Vis (defScope st) a → (a == ("__debug__" : Str)) = false → (a == ("__classdict__" : Str)) = false → PE (cxOf CX0 P w K mg base N qual (defScope st) g cdv A outer s H E0).nox (.Call (.Name a p1) [] [] p2) (tAct i f c' q act)) →
      ∀ As Ω R F0, Pre f c' q act As Ω R → Bod (cxOf CX0 P w K mg base N qual (defScope st) g cdv A outer s H E0).nox (defBody st) (As.map some ++ List.replicate (N.length - As.length) none) Ω F0 R)
    (hm : mg x = some (.ref g)) (hbd : Binds K fd ps []) : CalL P w K mg base kl (k + 1) x ps Pre := by
  refine ⟨g, fd, hm, F.kp, hbd, hl, fun A outer s H us vs Q f c' q act hr e0 hbt rv hact h => ?_⟩
  obtain ⟨F0, Ω, As, R, hp, ha, hh, hq⟩ := h
  obtain ⟨oc, od, kV, doc, pm, an, cdv, ct, osl, rfl, lk, hcd⟩ := F.ex
  refine run_ofS (N := N) (vs := vs) lk hcd S hr e0 hbt rv (by rw [ha.len]; exact hl _ _ _ _ _ _ _ hp) fun hr' => ?_
  obtain ⟨t, h1, h2⟩ := hb cdv A outer s H f c' q act hr' (fun i a p1 p2 hN hv hd hcd => hact N qual (defScope st) g cdv i a p1 p2 (hr'.mono hk) hN hv hd hcd) As Ω R F0 hp
  exact ⟨t, h1.nox, h2 _ (fun F v H Ω' e hh r => hq F v H Ω' e hh r) (fun F σ H Ω' e hh r => hq F .non H Ω' e hh r) _ _ ⟨F0, Same.refl F0, start_env ha, hh⟩⟩
end
/-! ### x(e, lambda: body) -/
def tLam (P : Addr) (q : Str) (Pre : PreLT) (ta tb : TE) : TE := fun σ H Q => ta σ H fun v H0 => (∃ ps : Array Value, H0 P = some (.tbl ps) ∧ TriplesOk ps.toList ∧ ∀ (pos : Pos) (cv : Value), codeAmong pos ps.toList = some cv → ∃ c, cv = .ref c ∧ H0 c = some (CodeO c q)) ∧
  ∀ f c' H1, Grown H0 P q H1 c' → mkSp (Pre f c' q fun H' Q' => tb σ H' Q') [v, .ref f] H1 Q E0
section
variable {X : Cx}
theorem pe_lam {k kl : Nat} {x : Str} {ps : List Str} {Pre : PreLT} {c P : Addr} {e : Expr} {ta tb : TE} {params : Arguments} {body : Expr} {scope : Scope} {p lpos pos : Pos} (C : CalL X.prog X.w X.K X.mg X.base kl k x ps Pre) (hr : Room k X.A) (hg : Gl X x)
    (he : PE X e ta) (TB : TabB X.base X.mg c P) (hcode : X.env.code = .ref c) (L : LamS X.env.scope scope)
    (hbody : ∀ (A : Around) (outer : List PySem.Env) (s : Shared) (H : Hp) (f c' : Addr), Room kl (A.deeper (lamEnv X scope s.heap.objs.size f c')) → PE (lamCx X A outer s H E0 scope f c') body tb)
    (hdef : defaultsOf params X.env = ([], []) := by rfl)
    (hbind : ∀ (q : Str) (cl : List (Str × Addr)) (pm cv ctv : Value), bindArgs (PySem.W.kla_fn "<lambda>" q params body scope cl pm cv ctv) ⟨[], []⟩ = pure [] := by intros; rfl)
    (hdb : (x == ("__debug__" : Str)) = false := by decide) (hst : starEach [e, .Lambda params body scope lpos] X.env = (false, eval e X.env) :: [(false, eval (.Lambda params body scope lpos) X.env)] := by rfl) :
    PE X (.Call (.Name x p) [e, .Lambda params body scope lpos] [] pos) (tLam P (X.env.qual ++ "<lambda>") Pre ta tb) := by
  obtain ⟨g, fd, hm, hk, hb, hlen, hrun⟩ := C.ex
  refine ⟨fun pins s σ H Q I h => ?_⟩
  refine wpAny_Call_Name_kw (ld_glob I hg hm ?_ hdb)
  refine PySem.W.callWith_K (h₀ := X.base) I.ok.mod.kin hk ?_ hst (by rfl)
  rw [hst]
  show wpAny _ _ (spliced ((false, eval e X.env) :: [(false, eval (.Lambda params body scope lpos) X.env)])) _ _ s
  refine Calls.spliced_cons (thn (he.run pins s σ H _ I h) fun u s1 ⟨v, H0, I1, r1, ⟨tps, hP, ht, hcs⟩, hq⟩ => ?_)
  refine Calls.spliced_cons (lam_mk I1 TB hcode hP ht hcs hdef (L.has I.ok) fun f c' pm' ctv H1 s' I2 gr hf hfn hfr => ?_)
  refine Calls.spliced_nil ⟨I2.kIn, ?_⟩
  have sp := hq f c' H1 gr
  have hls : ps.length = 2 := by
    obtain ⟨F0, Ω, As, R, hp, ha, _⟩ := sp
    rw [← hlen _ _ _ _ _ _ _ hp, ← ha.len]; rfl
  have rc : codeAny (model X.prog X.w) X.A (.call (.ref g) ⟨[u, .ref f], []⟩) (CR CX0 X.stack X.prog X.w H1 s' Q E0) s' := by
    refine hrun X.A X.stack s' H1 [u, .ref f] [v, .ref f] Q f c' _ _ hr I2.env0 ?_ (.cons r1 (.cons rfl .nil)) (fun Ng qg sg gg cdg i a p1 p2 hr' hN hv hd hcd => ?_) sp
    · have := hb s' [u, .ref f] I2.kIn (by rw [hls]; rfl)
      rwa [List.append_nil] at this
    · exact pe_act (CXg := CX0) (Eg := E0) (pn := []) (xe := fun _ _ => False) (E := E0) I2 L hf hfn hfr (hbind _ _ _ _ _) takes0 (fun _ _ _ _ z => z) hr' (fun A outer s H hr2 => hbody A outer s H f c' hr2) hN hv hd hcd
  refine wpAny_call (codeAny_mono rc fun r s2 hq => ?_)
  cases r with
  | error e => exact (show False from hq).elim
  | ok fl =>
    cases fl with
    | ret u => exact I2.after hq
    | next => exact False.elim hq
    | brk => exact False.elim hq
    | cont => exact False.elim hq
end
/-! ### what it makes of a machine -/
/-- the name's value: the lambda f, which takes the machine at k0 from m to r.2 and tells r.1 -/
def askA (T : TC) {α : Type} [Rp α] (f c' : Addr) (q : Str) (act : Hp → VK → Prop) (Ω : List OA) (k0 : Nat) (p0 : Addr) (M : MS → Option (α × MS)) : VA :=
  ⟨fun F v => v = .ref f ∧ F c' = some (CodeO c' q) ∧ ∀ m r, M m = some r → ∀ F1 H1, Same F F1 → Holds F1 (stt Ω [(k0, machA T p0 m)] []) H1 → ∀ Q : VK, (∀ F2 v H2, Same F1 F2 → Holds F2 (stt Ω [(k0, machA T p0 r.2)] []) H2 → (va T r.1).P F2 v → Q v H2) → act H1 Q,
   fun e ⟨h1, h2, h3⟩ => ⟨h1, e _ _ h2, fun m r hm F1 H1 e1 => h3 m r hm F1 H1 (e.trans e1)⟩⟩
section
variable {T : TC} {Γ : List (Option VA)} {Ω Ω1 : List OA} {α : Type} [Rp α]
theorem xe_ask {i k0 : Nat} {p0 f c' : Addr} {q : Str} {act : Hp → VK → Prop} {M : MS → Option (α × MS)} {m : MS} {r : α × MS} (h : Γ[i]? = some (some (askA T f c' q act Ω k0 p0 M))) (hm : M m = some r) :
    XE (tAct i f c' q act) Γ (stt Ω [(k0, machA T p0 m)] []) (va T r.1) (stt Ω [(k0, machA T p0 r.2)] []) := fun F σ H e hh Q q => by
  obtain ⟨v, h1, rfl, h2, h3⟩ := e.2 i _ h
  exact ⟨h1, hh.same _ _ h2, h3 m r hm F H (Same.refl F) hh Q fun F2 v H2 e2 hh2 a => q F2 v H2 _ e2 hh2 ⟨a, rfl⟩⟩
theorem xg_lam {P : Addr} {q : Str} {Pre : PreLT} {ta tb : TE} {l : List (Addr × Str)} {kt k0 : Nat} {p0 : Addr} {M : MS → Option (α × MS)} {R : Hp → V → List OA → Prop} (ha : XE ta Γ Ω (vr p0) Ω) (ht : Ω[kt]? = some (tabA l)) (hm : (P, q) ∈ l) (hu : ∀ p ∈ l, p.1 = P → p.2 = q)
    (hb : ∀ m r, M m = some r → XE tb Γ (stt Ω [(k0, machA T p0 m)] []) (va T r.1) (stt Ω [(k0, machA T p0 r.2)] []))
    (hp : ∀ f c' act, Pre f c' q act [vr p0, askA T f c' q act Ω k0 p0 M] Ω R) : XG (tLam P q Pre ta tb) Γ Ω R := fun F σ H e hh Q hq => by
  refine ha F σ H e hh _ fun F1 v H1 Ω' e1 hh1 ⟨a1, o1⟩ => ?_
  subst o1
  obtain ⟨t, h1, h2, h3, _⟩ := hh1.get ht
  obtain ⟨ps, b1, b2, b3⟩ := h1 _ hm
  refine ⟨⟨ps, h2 _ _ b1, b2, fun pos cv hc => ?_⟩, fun f c' H2 gr => ?_⟩
  · obtain ⟨c, d1, d2⟩ := b3 pos cv hc
    exact ⟨c, d1, hh1.same _ _ d2⟩
  · obtain ⟨F2, e2, hh2, hc⟩ := grown_holds hh1 ht hm hu gr
    refine ⟨F2, _, _, R, hp f c' _, .cons (VA.mono _ e2 a1) (.cons ⟨rfl, hc, fun m r hM F3 H3 e3 hh3 Q' hQ' => ?_⟩ .nil), hh2, fun F' v H' Ω' e' hh' r => hq F' v H' Ω' ((e1.trans e2).trans e') hh' r⟩
    exact hb m r hM F3 σ H3 (e.mono ((e1.trans e2).trans e3)) hh3 Q' fun F4 v H4 Ω4 e4 hh4 ⟨a4, o4⟩ => hQ' F4 v H4 e4 (o4 ▸ hh4) a4
end
section
variable {T : TC} {Γ : List (Option VA)} {Ω Ω1 Ω2 : List OA} {α : Type} [Rp α]
theorem xe_st {te : TE} {A : VA} {Ωa Ωb Ωa' Ωb' : List OA} (e1 : Ωa = Ωa') (e2 : Ωb = Ωb') (h : XE te Γ Ωa' A Ωb') : XE te Γ Ωa A Ωb := by
  subst e1 e2
  exact h
theorem xe_lam {P : Addr} {q : Str} {Pre : PreLT} {ta tb : TE} {l : List (Addr × Str)} {kt k0 : Nat} {p0 : Addr} {M : MS → Option (α × MS)} {A : VA} {Ω' : List OA} (ha : XE ta Γ Ω (vr p0) Ω) (ht : Ω[kt]? = some (tabA l)) (hm : (P, q) ∈ l) (hu : ∀ p ∈ l, p.1 = P → p.2 = q)
    (hb : ∀ m r, M m = some r → XE tb Γ (stt Ω [(k0, machA T p0 m)] []) (va T r.1) (stt Ω [(k0, machA T p0 r.2)] []))
    (hp : ∀ f c' act, Pre f c' q act [vr p0, askA T f c' q act Ω k0 p0 M] Ω (RV A Ω')) (he : Ω' = Ω2) : XE (tLam P q Pre ta tb) Γ Ω A Ω2 := he ▸ xg_lam ha ht hm hu hb hp
end
/-! ### a def whose code object is known -/
def CodeIs (K : PySem.W.Frag) (g c : Addr) : Prop := ∀ (oc : Value) (od : Option Addr) (x qual : Str) (ar : Arguments) (body : List Stmt) (sc : Scope) (dV kV doc pm : Value) (an : Option Addr) (cdv ct : Value) (osl : Array (Option Value)),
  K.lookup g = some ⟨oc, od, .func (PySem.W.fnOf x qual ar body sc dV kV doc pm an cdv ct), osl⟩ → PySem.W.codeIn K cdv qual = true → cdv = .ref c
section
variable {P : Program} {w : World} {K : PySem.W.Frag} {mg : Str → Option Value} {base : Heap}
theorem fn_okC {x qual : Str} {st : Stmt} {f c : Addr} {fd : FuncData} {N ps : List Str} {k : Nat} {Pre : PreT} (F : Fun K x qual st f fd) (hc : CodeIs K f c) (S : FnScope N ps (defScope st)) (hl : ∀ As Ω R, Pre As Ω R → As.length = ps.length)
    (hb : ∀ (A : Around) (outer : List PySem.Env) (s : Shared) (H : Hp) (E : XK), Room k (A.deeper (envOfC qual (defScope st) s.heap.objs.size f (.ref c))) → ∀ As Ω R F0, Pre As Ω R →
      Bod (cxOf CX0 P w K mg base N qual (defScope st) f (.ref c) A outer s H E).nox (defBody st) (As.map some ++ List.replicate (N.length - As.length) none) Ω F0 R) : FnOk P w K mg base CX0 (k + 1) f fd ps (mkSp Pre) := by
  obtain ⟨oc, od, kV, doc, pm, an, cdv, ct, osl, rfl, lk, hcd⟩ := F.ex
  obtain rfl := hc _ _ _ _ _ _ _ _ _ _ _ _ _ _ _ lk hcd
  refine fn_of lk hcd S (fun vs H Q E h => ?_) fun A outer s H vs Q E hr h => ?_
  · obtain ⟨F, Ω, As, R, hp, ha, _⟩ := h
    rw [ha.len]; exact hl _ _ _ hp
  · obtain ⟨F0, Ω, As, R, hp, ha, hh, hq⟩ := h
    obtain ⟨t, h1, h2⟩ := hb A outer s H E hr As Ω R F0 hp
    exact ⟨t, h1.nox, h2 _ (fun F v H Ω' e hh r => hq F v H Ω' e hh r) (fun F σ H Ω' e hh r => hq F .non H Ω' e hh r) _ _ ⟨F0, Same.refl F0, start_env ha, hh⟩⟩
end
/-- the law's start: the tables apart from all else -/
theorem tab_start {K : PySem.W.Frag} {H : Hp} {l : List (Addr × Str)} {a : Addr} {xs : List V} (hH : ∀ p ∈ l, H p.1 = some (.tbl #[])) (hS : SqL K H a xs) : ∃ F, SqL K F a xs ∧ Holds F [tabA l] H := by
  let inT : Addr → Prop := fun b => ∃ p ∈ l, p.1 = b
  have dec : ∀ b, Decidable (inT b) := fun b => Classical.propDecidable _
  let F : Hp := fun b => if inT b then none else H b
  let t : Hp := fun b => if inT b then some (.tbl #[]) else none
  have hHt : ∀ b, inT b → H b = some (.tbl #[]) := fun b ⟨p, hp, e⟩ => e ▸ hH p hp
  have sF : Same F H := fun b x e => by
    by_cases q : inT b
    · have e : (if inT b then none else H b) = some x := e
      rw [if_pos q] at e; cases e
    · have e : (if inT b then none else H b) = some x := e
      rw [if_neg q] at e; exact e
  have sT : Same t H := fun b x e => by
    by_cases q : inT b
    · have e : (if inT b then some (HO.tbl #[]) else none) = some x := e
      rw [if_pos q] at e; rw [← e]; exact hHt b q
    · have e : (if inT b then some (HO.tbl #[]) else none) = some x := e
      rw [if_neg q] at e; cases e
  have at_ : ∀ u, H a = some u → u ≠ .tbl #[] → F a = some u := fun u e n => by
    show (if inT a then none else H a) = some u
    rw [if_neg (fun q => n (Option.some.inj (e.symm.trans (hHt a q)))), e]
  refine ⟨F, ?_, fun _ => t, fun i o q => ?_, sF, fun i _ => sT, fun i b x _ e => ?_, fun i j b x hi hj ne _ => ?_⟩
  · rcases hS with (h | ⟨o, h⟩) | h
    · exact .inl (.inl (at_ _ h fun z => by cases z))
    · exact .inl (.inr ⟨o, at_ _ h fun z => by cases z⟩)
    · exact .inr h
  · cases i with
    | zero =>
      cases q
      intro p hp
      refine ⟨#[], ?_, True.intro, fun pos cv hc => ?_⟩
      · show (if inT p.1 then some (HO.tbl #[]) else none) = _
        exact if_pos ⟨p, hp, rfl⟩
      · have z : codeAmong pos [] = some cv := hc
        simp [codeAmong] at z
    | succ i => simp at q
  · have e : (if inT b then some (HO.tbl #[]) else none) = some x := e
    show (if inT b then none else H b) = none
    by_cases q : inT b
    · exact if_pos q
    · rw [if_neg q] at e; cases e
  · simp at hi hj
    omega
end VL

set_option Elab.async false
set_option linter.all false
set_option maxRecDepth 100000
/-! VL20: the script with a list behind it; divmod; tests whose parts change things. -/
namespace VL
open PySem PySem.Spec PyProof.Rows L2
def rCatS (K : PySem.W.Frag) : R2 := fun x y H Q => ∃ l b xs zs, x = .ref l ∧ y = .ref b ∧ SqL K H l xs ∧ H b = some (.lst zs) ∧ xs.length + zs.length ≤ sizeLine ∧ ∀ p, H p = none → Q (.ref p) (upd H p (.lst (xs ++ zs)))
theorem op_catS {X : Cx} : OpR X (binaryOp .Add) (rCatS X.K) := by
  intro pins s σ H x y v u Q I rx ry h
  obtain ⟨l, b, xs, zs, rfl, rfl, hH, hB, hz, q⟩ := h
  obtain rfl : v = Value.ref l := rx
  obtain rfl : u = Value.ref b := ry
  obtain ⟨its, r, ⟨⟨cls, dd, data, sl⟩, n, ho, hc, hdn, hd⟩, hlen⟩ := I.list hH
  have hc1 : cls = Value.type "list" := hc
  have hd1 : data = Data.seq its.toArray n := hd
  subst hc1 hd1
  have hl := r.length
  obtain ⟨z2, its2, n2, r2, hl2, e2⟩ := I.lstM hB
  have hsz : its.toArray.size + its2.toArray.size ≤ sizeLine := by rw [List.size_toArray, List.size_toArray]; omega
  refine concat_meets ⟨_, ho, rfl⟩ ⟨_, e2, rfl⟩ noFill_list_add seq_list_add PySem.F.slot_list_add PySem.F.entry_list_add (PySem.F.args_list_add_2 _ _) (list_addW l b its.toArray its2.toArray n n2 dd none sl #[] hsz) ⟨ho, e2, ?_⟩
  have ea : its.toArray ++ its2.toArray = (its ++ its2).toArray := by simp
  rw [ea]
  exact ⟨.ref _, _, I.lnew (t' := s.toks) (r.append r2) (by rw [List.length_append]; omega), rfl, q _ I.fresh⟩
theorem op_catSK {X : Cx} {K : PySem.W.Frag} (h : X.K = K) : OpR X (binaryOp .Add) (rCatS K) := h ▸ op_catS
/-- divmod by what is not 0 -/
def CDivF (_ j : Int) : Prop := j ≠ 0 ∧ j.natAbs.log2 < 9000
def rDivmod : List V → Hp → VK → Prop := fun xs H Q => ∃ i j, xs = [.int i, .int j] ∧ CDivF i j ∧ ∀ p, H p = none → Q (.ref p) (upd H p (.tup [.int (i.fdiv j), .int (i.fmod j)]))
theorem cr_divmodF {X : Cx} : CallR X (.builtin "divmod") rDivmod := by
  intro pins s σ H xs us Q I r h
  obtain ⟨i, j, rfl, ⟨h1, h2⟩, q⟩ := h
  obtain ⟨u, w', rfl, ⟨t, rfl⟩, ⟨t', rfl⟩⟩ := vals2 r
  refine divmod_int h1 ?_ (.inl (PyProof.noPylong_of_log2 h2))
  have hn : H s.heap.objs.size = none := I.hok.fresh (Nat.le_refl _)
  refine ⟨.ref s.heap.objs.size, upd H s.heap.objs.size (.tup [.int (i.fdiv j), .int (i.fmod j)]), I.laid (fun b o e => Heap.get?_push_of_some _ e) (Nat.le_refl _) ⟨by simp only [List.length_cons, List.length_nil]; rw [sizeLine_eq]; decide, [.int (i.fdiv j) s.toks, .int (i.fmod j) (s.toks + 1)], .cons ⟨_, rfl⟩ (.cons ⟨_, rfl⟩ .nil), ⟨_, Heap.get?_push_size s.heap rfl, rfl, 0, rfl⟩⟩, rfl, q _ hn⟩
section
variable {T : TC} {ts : TA} {Γ : List (Option VA)} {Ω Ω1 Ω2 : List OA} {A : VA} {ta tb : TE} {t u : TT} {i j : Int} {b : Bool}
theorem xe_catS {α : Type} [Rp α] {l m : List α} (ha : XE ta Γ Ω (va T (SF.mk l)) Ω1) (hb : XE tb Γ Ω1 A Ω2) (h : IsLs T Ω2 A m) (hz : l.length + m.length ≤ sizeLine) : XE (tOp (rCatS T.K) ta tb) Γ Ω (va T (LF.mk (l ++ m))) Ω2 := xe_op ha hb fun F H x y hh a1 a2 Q q => by
  obtain ⟨p, vs, rfl, h1, h2⟩ := a1
  obtain ⟨p2, vs2, rfl, h3, h4⟩ := h F H y hh a2
  refine ⟨p, p2, vs, vs2, rfl, rfl, hh.same.seq h1, h3, by rw [al_len h2, al_len h4]; exact hz, fun r hr => ?_⟩
  obtain ⟨hh', s'⟩ := hh.newF (u := .lst (vs ++ vs2)) hr
  exact q _ _ _ s' hh' ⟨r, vs ++ vs2, rfl, upd_same, al_app (h2.mono s') (h4.mono s')⟩
theorem xe_divmod (ha : XA ts Γ Ω [va T i, va T j] Ω1) (hd : CDivF i j) : XE (tCB rDivmod ts) Γ Ω (va T ((i.fdiv j, i.fmod j) : Int × Int)) Ω1 := xe_cb ha fun F H vs hh a1 Q q => by
  cases a1 with
  | cons h1 t1 =>
  cases t1 with
  | cons h2 t2 =>
  cases t2
  have h1 : _ = V.int i := h1
  have h2 : _ = V.int j := h2
  subst h1 h2
  refine ⟨i, j, rfl, hd, fun p hp => ?_⟩
  obtain ⟨hh', s'⟩ := hh.newF (u := .tup [.int (i.fdiv j), .int (i.fmod j)]) hp
  exact q _ _ _ s' hh' ⟨p, .int (i.fdiv j), .int (i.fmod j), rfl, .inl (.inl upd_same), rfl, rfl⟩
theorem xe_modN (h : j ≠ 0) (ha : XE ta Γ Ω (va T i) Ω1) (hb : XE tb Γ Ω1 (va T j) Ω2) : XE (tOp (rI (fun _ j => j ≠ 0) fun i j => .int (i.fmod j)) ta tb) Γ Ω (va T (i.fmod j)) Ω2 := xe_op ha hb (ro_intD (D := fun _ j => j ≠ 0) (g := fun i j => i.fmod j) h)
theorem xt_andOC {α : Type} {m : Option (Bool × α)} {cur : α} {z : Bool × α} {O : α → List OA} (h1 : XT t Γ Ω b (O cur)) (hz : (if b = true then m else some (false, cur)) = some z) (h2 : ∀ v, m = some v → XT u Γ (O cur) v.1 (O v.2)) : XT (tAnd t u) Γ Ω z.1 (O z.2) := by
  cases b with
  | true =>
    rw [if_pos rfl] at hz
    exact xt_and (b := true) h1 (fun _ => h2 z hz) (fun h => nomatch h)
  | false =>
    rw [if_neg Bool.false_ne_true] at hz
    cases hz
    exact xt_and (c := false) h1 (fun h => nomatch h) (fun _ => rfl)
theorem xt_orOC {α : Type} {m : Option (Bool × α)} {cur : α} {z : Bool × α} {O : α → List OA} (h1 : XT t Γ Ω b (O cur)) (hz : (if b = true then some (true, cur) else m) = some z) (h2 : ∀ v, m = some v → XT u Γ (O cur) v.1 (O v.2)) : XT (tOr t u) Γ Ω z.1 (O z.2) := by
  cases b with
  | false =>
    rw [if_neg Bool.false_ne_true] at hz
    exact xt_or (b := false) h1 (fun _ => h2 z hz) (fun h => nomatch h)
  | true =>
    rw [if_pos rfl] at hz
    cases hz
    exact xt_or (c := true) h1 (fun h => nomatch h) (fun _ => rfl)
/-- f(a new thing, ..): the thing is changed, and left behind -/
theorem xe_callF2 {Γ : List (Option VA)} {Ω Ω0 : List OA} {A : VA} {Pre : PreT} {E : XK} {ta : TE} {t : TA} {As : List VA} {ks : List (Nat × OA)} {L : List OA} {o o2 : Addr → OA} {Ω' : Addr → List OA} (h1 : XG ta Γ Ω0 (RN (stt Ω ks L) o)) (h2 : ∀ p, XA t Γ (stt Ω ks (L ++ [o p])) As (stt Ω ks (L ++ [o p])))
    (hp : ∀ p, Pre (vr p :: As) (stt Ω ks (L ++ [o p])) (RV A (Ω' p))) (he : ∀ p, Ω' p = stt Ω ks (L ++ [o2 p])) : XE (tCall (mkSp Pre) [] E (tCons ta t)) Γ Ω0 A (stt Ω ks L) := fun F σ H e hh Q q => by
  refine h1 F σ H e hh _ fun F1 x H1 Ωa e1 hh1 ⟨p, a1, o1⟩ => ?_
  subst o1
  rw [stt_app] at hh1
  refine h2 p F1 σ H1 (e.mono e1) hh1 _ fun F2 ws H2 e2 hh2 a2 => ?_
  have a1 : x = .ref p := a1
  subst a1
  refine ⟨F2, _, vr p :: As, _, hp p, ?_, hh2, fun F' v H' Ω3 e' hh' ⟨av, eo⟩ => ?_⟩
  · rw [List.append_nil]
    exact .cons (show (vr p).P F2 (.ref p) from rfl) a2
  · subst eo
    rw [he p, ← stt_app] at hh'
    exact q F' v H' _ ((e1.trans e2).trans e') hh'.drop ⟨av, rfl⟩
end
end VL

set_option Elab.async false
set_option linter.all false
set_option maxRecDepth 100000
/-! VL21: == and != of tuples whose items are numbers by their own __eq__, frozen dicts and data. -/
namespace VNe
open PySem PySem.SeqAt
/-- != of two tuples of one size, item by item: none is unlike, and J tells what holds at each place -/
theorem tupNeJ {P : Program} {w : World} {A : Around} {p q : Addr} {us ws : Array Value} {Z : Shared} {E Q : Value → Shared → Prop} (room : A.units < cLine) (len : us.size = ws.size) (hp : Z.heap.IsTuple p us) (hq : Z.heap.IsTuple q ws)
    (J : List (Value × Value) → Shared → Prop) (turn : ∀ z r Z', J (z :: r) Z' → wpAny (model P w) A.in1 (eqBool z.1 z.2) (fun b Z2 => b = true ∧ J r Z2) E Z') (done : ∀ Z', J [] Z' → Q (.bool false) Z') (start : J (us.toList.zip ws.toList) Z) :
    wpAny (model P w) A (richCompare .NotEq (.ref p) (.ref q)) Q E Z := by
  obtain ⟨o1, g1, c1, m1, d1⟩ := id hp
  obtain ⟨o2, g2, c2, m2, d2⟩ := id hq
  refine wpAny_richCompare_same_room (op := .NotEq) ⟨o1, g1, c1⟩ ⟨o2, g2, c2⟩ F.slot_tuple_ne (GQ.call_here F.slot_tuple_ne ⟨o1, g1, c1⟩ F.entry_tuple_ne (F.args_tuple_ne_2 _ _) ?_) room
  have k2 : ∀ Z', J [] Z' → wants (fun v Z' => v ≠ .notImplemented ∧ Q v Z') E (.ok (.ret (.bool false))) Z' := fun Z' h => ⟨(fun x => nomatch x), done Z' h⟩
  have tt := AutoSeq1.sub_tuple_tuple
  cases o1; cases o2
  cases c1; cases c2; cases d1; cases d2
  obtain ⟨z0, z1, z2, z3, z4⟩ := Z
  wp_walk using AutoSeq1.wpAny_loadPart' g1, AutoSeq1.wpAny_loadPart' g2, wpAny_forIn_list _ (fun left b Z' => b.1 = none ∧ J left Z') _
  case turn =>
    intro z left b Z' ⟨_, hj⟩
    refine wpAny_bind (wpAny_mono (turn z left Z' hj) (fun r Z2 y => ?_) fun _ _ x => x)
    obtain ⟨y1, y2⟩ := y
    subst y1
    wp_walk
    exact ⟨rfl, y2⟩
  case fin =>
    intro b Z' ⟨e0, hj⟩
    cases b
    cases e0
    cases Z'
    wp_walk
    simpa [Builtin.Tuple.tupleCompareSizes, len] using k2 _ hj
  case h => exact ⟨rfl, start⟩
end VNe
namespace VL
open PySem L2 PyProof.Rows
/-- pair by pair: equal dicts, equal data, or the own __eq__ says yes -/
def WT (K : PySem.W.Frag) (C : Addr) (sp : Sp) : List (V × V) → Hp → (Hp → Prop) → Prop
  | [], H, Q => Q H
  | z :: r, H, Q => (FD H z.1 z.2 ∧ WT K C sp r H Q) ∨ (FS K H z.1 z.2 ∧ WT K C sp r H Q) ∨
    ∃ p q dx dy fs gs, z.1 = .ref p ∧ z.2 = .ref q ∧ H p = some (.ins C dx fs) ∧ H q = some (.ins C dy gs) ∧ (p = q → WT K C sp r H Q) ∧ (p ≠ q → sp [z.1, z.2] H (fun v H' => v = .bl true ∧ WT K C sp r H' Q) E0)
def rOwnT (K : PySem.W.Frag) (C : Addr) (sp : Sp) (b : Bool) : R2 := fun x y H Q => ∃ a c xs ys, x = .ref a ∧ y = .ref c ∧ SqT K H a xs ∧ SqT K H c ys ∧ xs.length = ys.length ∧ WT K C sp (xs.zip ys) H (fun H' => Q (.bl b) H')
section
variable {X : Cx} {n : Nat} {C f : Addr} {fd : FuncData} {ps : List Str} {sp : Sp}
/-- what the walk keeps -/
def TI (X : Cx) (pins : List (Addr × Obj)) (σ : L2.St) (C : Addr) (sp : Sp) (Q : Hp → Prop) (zs : List (Value × Value)) (s : Shared) : Prop :=
  ∃ H, Inv X pins σ H s ∧ ∃ us : List (V × V), us.length = zs.length ∧ (∀ i (h : i < us.length) (h2 : i < zs.length), RelV us[i].1 zs[i].1 ∧ RelV us[i].2 zs[i].2) ∧ WT X.K C sp us H Q
theorem ti_turn (F : FnOk X.prog X.w X.K X.mg X.base CX0 n f fd ps sp) (own : PySem.W.findIn X.K (.ref C) "__eq__" = some (some (.ref f))) (isf : PySem.W.isFn X.K (.ref f) = true) (hb : Binds X.K fd ps []) (room : Room (n + 1) X.A)
    {pins : List (Addr × Obj)} {σ : L2.St} {Q : Hp → Prop} {z : Value × Value} {r : List (Value × Value)} {s : Shared} (q : TI X pins σ C sp Q (z :: r) s) : wpAny (model X.prog X.w) X.A.in1 (eqBool z.1 z.2) (fun b s' => b = true ∧ TI X pins σ C sp Q r s') X.xe s := by
  obtain ⟨H, I, us, hl, hr, w⟩ := q
  cases us with
  | nil => cases hl
  | cons u us =>
    have r0 := hr 0 (by simp) (by simp)
    have r0 : RelV u.1 z.1 ∧ RelV u.2 z.2 := r0
    have hl' : us.length = r.length := by simpa using hl
    have hr' : ∀ i (h : i < us.length) (h2 : i < r.length), RelV us[i].1 r[i].1 ∧ RelV us[i].2 r[i].2 := fun i h h2 => hr (i + 1) (by simp; omega) (by simp; omega)
    have hu : X.A.in1.units + 60 < cLine := by have := room.in1.units; omega
    rcases w with ⟨w1, w2⟩ | ⟨w1, w2⟩ | ⟨p, q, dx, dy, fs, gs, ex, ey, hp, hq, w1, w2⟩
    · exact fd_eqP I hu w1 r0.1 r0.2 X.xe _ ⟨rfl, H, I, us, hl', hr', w2⟩
    · exact fs_eqP I hu w1 r0.1 r0.2 X.xe _ ⟨rfl, H, I, us, hl', hr', w2⟩
    · rw [ex, ey] at r0
      obtain ⟨z1, z2⟩ := z
      cases (show z1 = Value.ref p from r0.1)
      cases (show z2 = Value.ref q from r0.2)
      by_cases pq : p = q
      · subst pq
        exact SeqAt.EqAt.same _ X.prog X.w X.xe _ ⟨rfl, H, I, us, hl', hr', w1 rfl⟩
      · have w2 := w2 pq
        rw [ex, ey] at w2
        obtain ⟨mA, J, _⟩ := ins_get I.hok hp
        obtain ⟨mB, J', _⟩ := ins_get I.hok hq
        obtain ⟨od, J, _⟩ := J.look
        obtain ⟨od', J', _⟩ := J'.look
        obtain ⟨m, fr⟩ := I.fr
        have r3 := call_own F hb room.in1 rfl I (show RelV (V.ref p) (Value.ref p) from rfl) (show RelV (V.ref q) (Value.ref q) from rfl) w2
        refine GQ.eqBool_refG pq ?_
        refine PySem.W.cmp_K (tb := .ref C) (op := .Eq) room.in1.units0 fr I.ok.mod.kin J J'.type (by simp [PySem.W.notFirst]) own isf (wpAny_mono r3 (fun w s' z => ?_) fun _ _ z => z)
        obtain ⟨z, H', I', rz, ez, w'⟩ := z
        subst ez
        obtain rfl : w = Value.bool true := rz
        exact ⟨true, rfl, rfl, H', I', us, hl', hr', w'⟩
theorem ti_start {pins : List (Addr × Obj)} {σ : L2.St} {H : Hp} {s : Shared} {Q : Hp → Prop} {xs ys : List V} {us ws : List Value} (I : Inv X pins σ H s) (r1 : Vals xs us) (r2 : Vals ys ws) (w : WT X.K C sp (xs.zip ys) H Q) : TI X pins σ C sp Q (us.zip ws) s := by
  have l1 := r1.length
  have l2 := r2.length
  refine ⟨H, I, xs.zip ys, by rw [List.length_zip, List.length_zip, l1, l2], fun i h h2 => ?_, w⟩
  rw [List.length_zip] at h h2
  have k1 : i < xs.length := by omega
  have k2 : i < ys.length := by omega
  obtain ⟨u, hu, ru⟩ := r1.get (List.getElem?_eq_getElem k1)
  obtain ⟨v, hv, rv⟩ := r2.get (List.getElem?_eq_getElem k2)
  rw [List.getElem_zip, List.getElem_zip]
  obtain ⟨h3, e3⟩ := List.getElem?_eq_some_iff.mp hu
  obtain ⟨h4, e4⟩ := List.getElem?_eq_some_iff.mp hv
  refine ⟨?_, ?_⟩
  · show RelV xs[i] us[i]
    rw [e3]; exact ru
  · show RelV ys[i] ws[i]
    rw [e4]; exact rv
theorem op_tneC {K : PySem.W.Frag} (hK : X.K = K) (c : CalEq X.prog X.w X.K X.mg X.base n C sp) (room : Room (n + 1) X.A) : OpR X (compareOp .NotEq) (rOwnT K C sp false) := by
  subst hK
  obtain ⟨f, fd, F, _, me, hb⟩ := c.ex
  intro pins s σ H x y v u Q I rx ry h
  obtain ⟨a, b, xs, ys, rfl, rfl, ha, hb', len, w⟩ := h
  cases (show v = Value.ref a from rx)
  cases (show u = Value.ref b from ry)
  obtain ⟨us, r1, e1, _⟩ := I.tuple ha
  obtain ⟨ws, r2, e2, _⟩ := I.tuple hb'
  have l : us.length = ws.length := by rw [← r1.length, ← r2.length]; exact len
  refine VNe.tupNeJ room.units0 (by simpa using l) e1 e2 (TI X pins σ C sp fun H' => Q (.bl false) H') (fun z r Z' q => ti_turn F me.1 me.2 hb room q) (fun Z' q => ?_) (by simpa using ti_start I r1 r2 w)
  obtain ⟨H', I', us', hl, _, w'⟩ := q
  cases us' with
  | nil => exact ⟨.bl false, H', I', rfl, w'⟩
  | cons _ _ => cases hl
theorem op_teqC {K : PySem.W.Frag} (hK : X.K = K) (c : CalEq X.prog X.w X.K X.mg X.base n C sp) (room : Room (n + 1) X.A) : OpR X (compareOp .Eq) (rOwnT K C sp true) := by
  subst hK
  obtain ⟨f, fd, F, _, me, hb⟩ := c.ex
  intro pins s σ H x y v u Q I rx ry h
  obtain ⟨a, b, xs, ys, rfl, rfl, ha, hb', len, w⟩ := h
  cases (show v = Value.ref a from rx)
  cases (show u = Value.ref b from ry)
  obtain ⟨us, r1, e1, _⟩ := I.tuple ha
  obtain ⟨ws, r2, e2, _⟩ := I.tuple hb'
  have l : us.length = ws.length := by rw [← r1.length, ← r2.length]; exact len
  refine GQ.rc_tupG (by simpa using l) room.units0 (fun i Z' => TI X pins σ C sp (fun H' => Q (.bl true) H') ((us.zip ws).drop i) Z') e1 e2 (fun i h1 h2 Z' q => ?_) (fun Z' q => ?_) (by simpa using ti_start I r1 r2 w)
  · have k1 : i < us.length := by simpa using h1
    have k2 : i < ws.length := by simpa using h2
    have hz : i < (us.zip ws).length := by rw [List.length_zip]; omega
    have q : TI X pins σ C sp (fun H' => Q (.bl true) H') ((us.zip ws).drop i) Z' := q
    rw [List.drop_eq_getElem_cons hz] at q
    have := ti_turn F me.1 me.2 hb room q
    rw [List.getElem_zip] at this
    simpa using this
  · obtain ⟨H', I', us', hl, _, w'⟩ := q
    rw [List.drop_of_length_le (by rw [List.length_zip]; simp; omega)] at hl
    cases us' with
    | nil => exact ⟨.bl true, H', I', rfl, w'⟩
    | cons _ _ => cases hl
end
section
variable {T : TC} {Γ : List (Option VA)} {Ω Ω1 Ω2 : List OA} {ta tb : TE} {Pre : PreT}
/-- two items that compare alike -/
def ItE (T : TC) (Ω : List OA) (sp : Sp) (A B : VA) : Prop := ∀ F H x y r k, Holds F Ω H → A.P F x → B.P F y → (∀ F' H', Same F F' → Holds F' Ω H' → WT T.K (T.C 1) sp r H' k) → WT T.K (T.C 1) sp ((x, y) :: r) H k
theorem it_big {a b : Bg} (hp : Pre [va T a, va T b] Ω (RV (va T true) Ω)) : ItE T Ω (mkSp Pre) (va T a) (va T b) := fun F H x y r k hh c1 c2 q => by
  obtain ⟨p, dx, r1, vs, e1, h1, h2, h3⟩ := id c1
  obtain ⟨p2, dy, r2, ws', e2, g1, g2, g3⟩ := id c2
  refine .inr (.inr ⟨p, p2, dx, dy, _, _, e1, e2, hh.same _ _ h1, hh.same _ _ g1, fun _ => q F H (Same.refl F) hh, fun _ => ?_⟩)
  refine ⟨F, _, _, _, hp, .cons c1 (.cons c2 .nil), hh, fun F' w H' Ω'' s' hh' ⟨aw, eo⟩ => ?_⟩
  subst eo
  exact ⟨aw, q F' H' s' hh'⟩
theorem it_dict {sp : Sp} {a b : DF} (h : sameD a.l b.l) : ItE T Ω sp (va T a) (va T b) := fun F H x y r k hh b1 c1 q => by
  obtain ⟨a', oa, rfl, h1⟩ := b1
  obtain ⟨b', ob, rfl, h2⟩ := c1
  refine .inl ⟨⟨a', b', oa, ob, dkv a.l, dkv b.l, rfl, rfl, hh.same _ _ h1, hh.same _ _ h2, by unfold dkv; rw [List.length_map, List.length_map]; exact h.1, fun z hz => ?_⟩, q F H (Same.refl F) hh⟩
  obtain ⟨u, hu, rfl⟩ := List.mem_map.mp hz
  exact ⟨val_dkv (h.2 u hu), rfl⟩
theorem it_data {sp : Sp} {α : Type} [Rp α] [Dat α] {a b : α} (h : a = b ∧ Dat.ok a) (hd : Dat.dep α ≤ 60) : ItE T Ω sp (va T a) (va T b) := fun F H x y r k hh b1 c1 q => by
  obtain ⟨rfl, h2⟩ := h
  exact .inr (.inl ⟨⟨Dat.dat a, Dat.dp hh.same b1, Dat.dp hh.same c1, Dat.lay h2, Nat.le_trans Dat.depth hd, Dat.eqv.mpr rfl⟩, q F H (Same.refl F) hh⟩)
theorem xe_ownT2 {α β : Type} [Rp α] [Rp β] {a1 b1 : α} {a2 b2 : β} {v : Bool} (ha : XE ta Γ Ω (va T ((a1, a2) : α × β)) Ω1) (hb : XE tb Γ Ω1 (va T ((b1, b2) : α × β)) Ω2) (i1 : ItE T Ω2 (mkSp Pre) (va T a1) (va T b1)) (i2 : ItE T Ω2 (mkSp Pre) (va T a2) (va T b2)) :
    XE (tOp (rOwnT T.K (T.C 1) (mkSp Pre) v) ta tb) Γ Ω (va T v) Ω2 := xe_op ha hb fun F H x y hh c1 c2 Q q => by
  obtain ⟨p, v1, v2, rfl, t1, r1, r2⟩ := c1
  obtain ⟨p', w1, w2, rfl, t2, s1, s2⟩ := c2
  refine ⟨p, p', _, _, rfl, rfl, Same.tup hh.same t1, Same.tup hh.same t2, rfl, ?_⟩
  refine i1 F H v1 w1 _ _ hh r1 s1 fun F1 H1 e1 hh1 => ?_
  refine i2 F1 H1 v2 w2 _ _ hh1 (Rp.mono e1 r2) (Rp.mono e1 s2) fun F2 H2 e2 hh2 => ?_
  exact q F2 _ H2 (e1.trans e2) hh2 rfl
theorem xe_ownT3 {α β γ : Type} [Rp α] [Rp β] [Rp γ] {a b : T3 α β γ} {v : Bool} (ha : XE ta Γ Ω (va T a) Ω1) (hb : XE tb Γ Ω1 (va T b) Ω2) (i1 : ItE T Ω2 (mkSp Pre) (va T a.a) (va T b.a)) (i2 : ItE T Ω2 (mkSp Pre) (va T a.b) (va T b.b)) (i3 : ItE T Ω2 (mkSp Pre) (va T a.c) (va T b.c)) :
    XE (tOp (rOwnT T.K (T.C 1) (mkSp Pre) v) ta tb) Γ Ω (va T v) Ω2 := xe_op ha hb fun F H x y hh c1 c2 Q q => by
  obtain ⟨p, v1, v2, v3, rfl, t1, r1, r2, r3⟩ := c1
  obtain ⟨p', w1, w2, w3, rfl, t2, s1, s2, s3⟩ := c2
  refine ⟨p, p', _, _, rfl, rfl, Same.tup hh.same t1, Same.tup hh.same t2, rfl, ?_⟩
  refine i1 F H v1 w1 _ _ hh r1 s1 fun F1 H1 e1 hh1 => ?_
  refine i2 F1 H1 v2 w2 _ _ hh1 (Rp.mono e1 r2) (Rp.mono e1 s2) fun F2 H2 e2 hh2 => ?_
  refine i3 F2 H2 v3 w3 _ _ hh2 (Rp.mono (e1.trans e2) r3) (Rp.mono (e1.trans e2) s3) fun F3 H3 e3 hh3 => ?_
  exact q F3 _ H3 ((e1.trans e2).trans e3) hh3 rfl
end
end VL

set_option Elab.async false
set_option linter.all false
set_option maxRecDepth 100000
/-! VL22: a dict that changes: made, written, read, locked where it is read as a value. -/
namespace VL
open PySem L2 PyProof.Rows
/-- a dict that is locked from now on, at its old place -/
def fzDA (p : Addr) (l : List (Str × Int)) : OA := ⟨fun F _ => ∃ od, F p = some (.frz od (.dK (dkv l))), fun e ⟨od, h⟩ => ⟨od, e _ _ h⟩⟩
theorem Holds.fzAt {F H : Hp} {Ω : List OA} {k : Nat} {p : Addr} {l : List (Str × Int)} {od : Obj} (h : Holds F Ω H) (hk : Ω[k]? = some (rawD p (dkv l))) :
    Holds (upd F p (.frz od (.dK (dkv l)))) (Ω.set k (fzDA p l)) (upd H p (.frz od (.dK (dkv l)))) ∧ Same F (upd F p (.frz od (.dK (dkv l)))) := by
  obtain ⟨ts, h1, h2, h3, h4, h5⟩ := h
  have lt := getlt hk
  have tp : ts k p = some (.dK (dkv l)) := h1 k (rawD p (dkv l)) hk
  have nF : F p = none := h4 k p _ lt tp
  have sF : Same F (upd F p (.frz od (.dK (dkv l)))) := same_upd nF
  have nt : ∀ i, i < Ω.length → i ≠ k → ts i p = none := fun i q ne => h5 k i p _ lt q (fun e => ne e.symm) tp
  refine ⟨⟨fun i => if i = k then (fun _ => none) else ts i, fun i o r => ?_, fun b x e => ?_, fun i li b x e => ?_, fun i b x li e => ?_, fun i j b x li lj ne e => ?_⟩, sF⟩
  · show o.P _ (if i = k then _ else ts i)
    by_cases hi : i = k
    · subst hi
      rw [List.getElem?_set_self lt] at r
      cases r
      exact ⟨od, upd_same⟩
    · rw [if_neg hi]
      rw [List.getElem?_set_ne (fun z => hi z.symm)] at r
      exact o.mono sF (h1 i o r)
  · by_cases hb : b = p
    · subst hb; rw [upd_same] at e ⊢; exact e
    · rw [upd_ne hb] at e ⊢; exact h2 b x e
  · rw [List.length_set] at li
    have e : (if i = k then (fun _ => none) else ts i) b = some x := e
    by_cases hi : i = k
    · rw [if_pos hi] at e; cases e
    · rw [if_neg hi] at e
      by_cases hb : b = p
      · subst hb; rw [nt i li hi] at e; cases e
      · rw [upd_ne hb]; exact h3 i li b x e
  · rw [List.length_set] at li
    have e : (if i = k then (fun _ => none) else ts i) b = some x := e
    by_cases hi : i = k
    · rw [if_pos hi] at e; cases e
    · rw [if_neg hi] at e
      by_cases hb : b = p
      · subst hb; rw [nt i li hi] at e; cases e
      · rw [upd_ne hb]; exact h4 i b x li e
  · rw [List.length_set] at li lj
    have e : (if i = k then (fun _ => none) else ts i) b = some x := e
    show (if j = k then (fun _ => none) else ts j) b = none
    by_cases hi : i = k
    · rw [if_pos hi] at e; cases e
    · rw [if_neg hi] at e
      by_cases hj : j = k
      · rw [if_pos hj]
      · rw [if_neg hj]; exact h5 i j b x li lj ne e
/-- written in its place, or at the end -/
def dput (l : List (Str × Int)) (k : Str) (v : Int) : List (Str × Int) := if (l.any fun p => decide (p.1 = k)) = true then l.map (fun p => if p.1 = k then (p.1, v) else p) else l ++ [(k, v)]
theorem dput_kv (l : List (Str × Int)) (k : Str) (v : Int) : putK (dkv l) (Sum.inr k : Key) (V.int v) = dkv (dput l k v) := by
  have e : ((dkv l).any fun kv => decide (kv.1 = (Sum.inr k : Key))) = (l.any fun p => decide (p.1 = k)) := by
    unfold dkv
    rw [List.any_map]
    congr 1
    funext p
    exact decide_eq_decide.mpr ⟨fun h => Sum.inr.inj h, fun h => congrArg Sum.inr h⟩
  unfold putK dput
  rw [e]
  split
  · unfold dkv
    rw [List.map_map, List.map_map]
    congr 1
    funext p
    show (if (Sum.inr p.1 : Key) = Sum.inr k then ((Sum.inr p.1 : Key), V.int v) else (Sum.inr p.1, V.int p.2)) = _
    by_cases h : p.1 = k
    · rw [if_pos (congrArg Sum.inr h)]
      show _ = (fun q : Str × Int => ((Sum.inr q.1 : Key), V.int q.2)) (if p.1 = k then (p.1, v) else p)
      rw [if_pos h]
    · rw [if_neg (fun z => h (Sum.inr.inj z))]
      show _ = (fun q : Str × Int => ((Sum.inr q.1 : Key), V.int q.2)) (if p.1 = k then (p.1, v) else p)
      rw [if_neg h]
  · unfold dkv
    rw [List.map_append]; rfl
section
variable {T : TC} {Γ : List (Option VA)} {Ω Ω1 Ω2 Ω3 : List OA} {A B C : VA} {ta tb te : TE} {D : Ends} {F0 : Hp} {ts : TS}
/-! made -/
theorem xn_disp {trs : List (TE × TE)} {kvs : List (Str × Int)} {ks : List (Nat × OA)} {L : List OA} (h : ∀ X, XPs trs Γ (stt Ω ks (L ++ [X])) kvs) (hn : (kvs.map (·.1)).Nodup) (h15 : kvs.length ≤ 15) : XG (tDisp trs) Γ (stt Ω ks L) (RN (stt Ω ks L) fun p => rawD p (dkv kvs)) := fun F σ H e hh Q q => by
  intro p hp
  have hh1 := hh.newD (kvs := []) hp
  rw [stt_app] at hh1
  refine h (rawD p []) F σ _ e hh1 _ fun F2 H2 e2 hh2 => ?_
  rw [← stt_app] at hh2
  refine ⟨(hh2.fzD (u := .dK [])).1, dkv kvs, by unfold dkv; rw [List.map_map]; rfl, by unfold dkv; rw [List.length_map]; exact h15, ?_⟩
  rw [merge0 hn]
  obtain ⟨t, h1, h3, h4, h5⟩ := hh2.get app_at
  have h1 : t p = some (.dK []) := h1
  have := h5 (rawD p (dkv kvs)) p (.dK []) (.dK (dkv kvs)) h1 upd_same
  rw [show (stt Ω ks L ++ [rawD p []]).set (stt Ω ks L).length (rawD p (dkv kvs)) = stt Ω ks L ++ [rawD p (dkv kvs)] from by simp] at this
  exact q F2 _ _ _ e2 this ⟨p, rfl, rfl⟩
theorem xn_disp0 : XG tDNewK Γ Ω (RN Ω fun p => rawD p (dkv [])) := fun F σ H e hh Q q => fun p hp => q F _ _ _ (Same.refl F) (hh.newD (kvs := dkv []) hp) ⟨p, rfl, rfl⟩
theorem xn_dictP {l : List (Str × Int)} (ha : XE te Γ Ω A Ω1) (h : IsL T Ω1 A l) (hn : (l.map (·.1)).Nodup) : XG (tCB (rDictP T.K) (tCons te tNil)) Γ Ω (RN Ω1 fun p => rawD p (dkv l)) := fun F σ H e hh Q q => by
  refine ha F σ H e hh _ fun F1 x H1 Ω' e1 hh1 ⟨a1, o1⟩ => ?_
  subst o1
  obtain ⟨p, ws, ev, hs, al⟩ := h F1 H1 x hh1 a1
  obtain ⟨ps, ew, pr⟩ := pairs_al al
  refine ⟨p, ps, dkv l, by rw [ev], (by rw [← ew]; exact hs), paired_imp (fun a b q => Same.tup hh1.same q) pr, fun d hd => ?_⟩
  rw [merge0 hn]
  exact q _ _ _ _ e1 (hh1.newD hd) ⟨d, rfl, rfl⟩
/-! read -/
theorem xe_dgetO {l : List (Str × Int)} {key : Str} {v : Int} {p : Addr} {k : Nat} (ha : XE ta Γ Ω (vr p) Ω1) (hb : XE tb Γ Ω1 (va T key) Ω2) (hk : Ω2[k]? = some (rawD p (dkv l))) (h : l.lookup key = some v) : XE (tDGet ta tb) Γ Ω (va T v) Ω2 := fun F σ H e hh Q q => by
  refine ha F σ H e hh _ fun F1 x H1 Ω' e1 hh1 ⟨a1, o1⟩ => ?_
  subst o1
  refine hb F1 σ H1 (e.mono e1) hh1 _ fun F2 y H2 Ω' e2 hh2 ⟨a2, o2⟩ => ?_
  subst o2
  have a1 : x = V.ref p := a1
  have a2 : y = V.str key := a2
  subst a1 a2
  obtain ⟨t, h1, h3, _⟩ := hh2.get hk
  have h1 : t p = some (.dK (dkv l)) := h1
  exact ⟨p, V.int v, rfl, .inl ⟨dkv l, Sum.inr key, .inl (h3 _ _ h1), rfl, (val_dkv h).symm⟩, q F2 _ H2 _ (e1.trans e2) hh2 ⟨rfl, rfl⟩⟩
/-- read as a value: locked for good -/
theorem xe_fzV {i k : Nat} {p : Addr} {l : List (Str × Int)} (hi : Γ[i]? = some (some (vr p))) (hk : Ω[k]? = some (rawD p (dkv l))) (he : Ω.set k (fzDA p l) = Ω2) : XE (tFz (tVar i)) Γ Ω (va T (DF.mk l)) Ω2 := fun F σ H e hh Q q => by
  subst he
  obtain ⟨v, h1, h2⟩ := e.2 i _ hi
  have h2 : v = V.ref p := h2
  subst h2
  obtain ⟨t, h3, h4, _⟩ := hh.get hk
  have h3 : t p = some (.dK (dkv l)) := h3
  refine ⟨_, h1, p, dkv l, rfl, h4 _ _ h3, fun od => ?_⟩
  obtain ⟨hh', s'⟩ := hh.fzAt (od := od) hk
  exact q _ _ _ _ s' hh' ⟨⟨p, od, rfl, upd_same⟩, rfl⟩
theorem xe_rdV {i k : Nat} {p : Addr} {l : List (Str × Int)} (hi : Γ[i]? = some (some (vr p))) (hk : Ω[k]? = some (fzDA p l)) : XE (tVar i) Γ Ω (va T (DF.mk l)) Ω := fun F σ H e hh Q q => by
  obtain ⟨v, h1, h2⟩ := e.2 i _ hi
  have h2 : v = V.ref p := h2
  subst h2
  obtain ⟨t, ⟨od, h3⟩, h4, _⟩ := hh.get hk
  exact ⟨_, h1, q F _ H _ (Same.refl F) hh ⟨⟨p, od, rfl, h3⟩, rfl⟩⟩
/-! written -/
/-- a target that writes a thing -/
def Tgo (g : TG) (A : VA) (Γ : List (Option VA)) (Ω Ω2 : List OA) : Prop := ∀ F σ v H, Env F σ Γ → Holds F Ω H → A.P F v → ∀ Q : L2.St → Hp → Prop, (∀ F' H', Same F F' → Holds F' Ω2 H' → Q σ H') → g v σ H Q
theorem tgo_dict {to ti : TE} {p : Addr} {l : List (Str × Int)} {key : Str} {v : Int} {k : Nat} (ho : XE to Γ Ω (vr p) Ω) (hi : XE ti Γ Ω (va T key) Ω) (hk : Ω[k]? = some (rawD p (dkv l))) (hz : l.length < sizeLine) (he : Ω.set k (rawD p (dkv (dput l key v))) = Ω2) : Tgo (gSub to ti rSetD) (va T v) Γ Ω Ω2 := fun F σ x H e hh a Q q => by
  subst he
  refine ho F σ H e hh _ fun F1 y H1 Ω' e1 hh1 ⟨a1, o1⟩ => ?_
  subst o1
  refine hi F1 σ H1 (e.mono e1) hh1 _ fun F2 z H2 Ω' e2 hh2 ⟨a2, o2⟩ => ?_
  subst o2
  have a1 : y = V.ref p := a1
  have a2 : z = V.str key := a2
  have a : x = V.int v := a
  subst a1 a2 a
  obtain ⟨t, h1, h3, _, h5⟩ := hh2.get hk
  have h1 : t p = some (.dK (dkv l)) := h1
  have := h5 (rawD p (dkv (dput l key v))) p (.dK (dkv l)) (.dK (dkv (dput l key v))) h1 upd_same
  refine ⟨p, upd H2 p (.dK (putK (dkv l) (Sum.inr key : Key) (V.int v))), rfl, DPut.k (k := (Sum.inr key : Key)) (h3 _ _ h1) (by unfold dkv; rw [List.length_map]; exact hz), ?_⟩
  rw [dput_kv]
  exact q F2 _ (e1.trans e2) this
theorem tgo_two {α β : Type} [Rp α] [Rp β] {a : α} {b : β} {g1 g2 : TG} (h1 : Tgo g1 (va T a) Γ Ω Ω1) (h2 : Tgo g2 (va T b) Γ Ω1 Ω2) : Tgo (gTup T.K 2 (gCons g1 (gCons g2 gNil))) (va T ((a, b) : α × β)) Γ Ω Ω2 := fun F σ v H e hh c Q q => by
  obtain ⟨p, x, y, rfl, ht, r1, r2⟩ := c
  refine ⟨p, [x, y], rfl, Same.tup hh.same ht, rfl, x, [y], rfl, ?_⟩
  refine h1 F σ x H e hh r1 _ fun F1 H1 e1 hh1 => ?_
  refine ⟨y, [], rfl, ?_⟩
  refine h2 F1 σ y H1 (e.mono e1) hh1 (Rp.mono e1 r2) _ fun F2 H2 e2 hh2 => ?_
  exact ⟨rfl, q F2 H2 (e1.trans e2) hh2⟩
theorem xs_asgO {g : TG} (h : XE te Γ Ω A Ω1) (ht : Tgo g A Γ Ω1 Ω2) (q : XS ts D F0 Γ Ω2) : XS (tSeq (tAsg te g) ts) D F0 Γ Ω := fun σ H ⟨F, f0, en, hh⟩ => by
  refine h F σ H en hh _ fun F1 v H1 Ω' e1 hh1 ⟨a1, o1⟩ => ?_
  subst o1
  exact ht F1 σ v H1 (en.mono e1) hh1 a1 _ fun F2 H2 e2 hh2 => q σ H2 ⟨F2, f0.trans (e1.trans e2), (en.mono e1).mono e2, hh2⟩
theorem xs_asgO1 {g : TG} (h : XE te Γ Ω A Ω1) (ht : Tgo g A Γ Ω1 Ω2) (q : ∀ σ H, NX F0 Γ Ω2 σ H → D.nx σ H) : XS (tAsg te g) D F0 Γ Ω := fun σ H n => xs_asgO (ts := tNext) h ht q σ H n
/-! a new thing by one of two ways; a pair with a new thing taken apart -/
theorem xg_ife {t : TT} {b : Bool} {R : Hp → V → List OA → Prop} (h : XT t Γ Ω b Ω1) (h1 : b = true → XG ta Γ Ω1 R) (h2 : b = false → XG tb Γ Ω1 R) : XG (tIf t ta tb) Γ Ω R := fun F σ H e hh Q q => by
  refine h F σ H e hh _ fun F1 H1 e1 hh1 => ?_
  cases b with
  | true => rw [if_pos rfl]; exact h1 rfl F1 σ H1 (e.mono e1) hh1 Q fun F2 v H2 Ω' e2 hh2 r => q F2 v H2 Ω' (e1.trans e2) hh2 r
  | false => rw [if_neg Bool.false_ne_true]; exact h2 rfl F1 σ H1 (e.mono e1) hh1 Q fun F2 v H2 Ω' e2 hh2 r => q F2 v H2 Ω' (e1.trans e2) hh2 r
theorem xs_asgNPO {i j : Nat} {o : Addr → OA} {ks : List (Nat × OA)} {L : List OA} {Ω0 : List OA} (h : XG te Γ Ω0 (RNP T (stt Ω ks L) o B)) (q : ∀ p, XS ts D F0 ((Γ.set i (some (vr p))).set j (some B)) (stt Ω ks (L ++ [o p]))) :
    XS (tSeq (tAsg te (gTup T.K 2 (gCons (gName i) (gCons (gName j) gNil)))) ts) D F0 Γ Ω0 := fun σ H ⟨F, f0, e, hh⟩ => by
  refine h F σ H e hh _ fun F1 x H1 Ω' e1 hh1 ⟨p, t, w, a, b, c, eo⟩ => ?_
  subst eo
  rw [stt_app] at hh1
  exact (tgt_pv (T := T) (B := B) (p := p)) F1 σ Γ x H1 _ (e.mono e1) hh1 ⟨t, w, a, b, c⟩ _ fun F2 σ2 H2 e2 en2 hh2 _ => q p σ2 H2 ⟨F2, f0.trans (e1.trans e2), en2, hh2⟩
end
/-! != of two dicts, where they are known to be alike -/
def rNeF : R2 := fun x y H Q => ∃ a b oa ob ks ls, x = .ref a ∧ y = .ref b ∧ H a = some (.frz oa (.dK ks)) ∧ H b = some (.frz ob (.dK ls)) ∧ ks.length = ls.length ∧ (∀ p ∈ ks, valV ls p.1 = some p.2 ∧ flatB p.2 = true) ∧ Q (.bl false) H
theorem op_neF {X : Cx} (units : X.A.units < cLine) : OpR X (compareOp .NotEq) rNeF := by
  intro pins s σ H x y v u Q inv r1 r2 h
  obtain ⟨a, b, oa, ob, ks, ls, rfl, rfl, ha, hb, len, vals, q⟩ := h
  obtain rfl : v = Value.ref a := r1
  obtain rfl : u = Value.ref b := r2
  have okA : ObjOk X.prog X.w H s.heap a (.dK ks) := (show s.heap.get? a = some oa ∧ ObjOk X.prog X.w H s.heap a (.dK ks) from inv.hok a _ ha).2
  have okB : ObjOk X.prog X.w H s.heap b (.dK ls) := (show s.heap.get? b = some ob ∧ ObjOk X.prog X.w H s.heap b (.dK ls) from inv.hok b _ hb).2
  obtain ⟨_, n1, w1, k1, d1⟩ := okA
  obtain ⟨_, n2, w2, k2, d2⟩ := okB
  have same : w1.length = w2.length := by rw [← k1.length, ← k2.length]; exact len
  exact PySem.W.keq_ne (r := true) (knd := mixKind X.prog X.w) n1 n2 d1 d2 units (fun _ => hits_all k2 k1 vals) (fin_bl inv q (by simp [same]))
theorem xe_neDF {T : TC} {Γ : List (Option VA)} {Ω Ω1 Ω2 : List OA} {ta tb : TE} {l m : List (Str × Int)} (ha : XE ta Γ Ω (va T (DF.mk l)) Ω1) (hb : XE tb Γ Ω1 (va T (DF.mk m)) Ω2) (h : sameD l m) : XE (tOp rNeF ta tb) Γ Ω (va T false) Ω2 := xe_op ha hb fun F H x y hh a1 a2 Q q => by
  obtain ⟨p, o1, rfl, h1⟩ := a1
  obtain ⟨p2, o2, rfl, h2⟩ := a2
  refine ⟨p, p2, o1, o2, dkv l, dkv m, rfl, rfl, hh.same _ _ h1, hh.same _ _ h2, by unfold dkv; rw [List.length_map, List.length_map]; exact h.1, fun z hz => ?_, q F _ H (Same.refl F) hh rfl⟩
  obtain ⟨x, hx, rfl⟩ := List.mem_map.mp hz
  exact ⟨val_dkv (h.2 x hx), rfl⟩
/-- a value and a new thing, by way of a tuple -/
theorem xs_asgVN {T : TC} {Γ : List (Option VA)} {Ω Ω1 : List OA} {ta tb : TE} {B : VA} {D : Ends} {F0 : Hp} {ts : TS} {i j : Nat} {o : Addr → OA} {ks : List (Nat × OA)} {L : List OA} {Ω0 : List OA} (h1 : XE ta Γ Ω0 B Ω1) (h2 : XG tb Γ Ω1 (RN (stt Ω ks L) o))
    (q : ∀ p, XS ts D F0 ((Γ.set i (some B)).set j (some (vr p))) (stt Ω ks (L ++ [o p]))) :
    XS (tSeq (tAsg (tTup (tCons ta (tCons tb tNil))) (gTup T.K 2 (gCons (gName i) (gCons (gName j) gNil)))) ts) D F0 Γ Ω0 := fun σ H ⟨F, f0, e, hh⟩ => by
  refine h1 F σ H e hh _ fun F1 x H1 Ω' e1 hh1 ⟨a1, o1⟩ => ?_
  subst o1
  refine h2 F1 σ H1 (e.mono e1) hh1 _ fun F2 y H2 Ω'' e2 hh2 ⟨p, a2, o2⟩ => ?_
  subst o2
  have a2 : y = V.ref p := a2
  subst a2
  rw [stt_app] at hh2
  refine ⟨by show 2 ≤ sizeLine; decide, fun d hd => ?_⟩
  obtain ⟨hh3, e3⟩ := hh2.newF (u := .tup [x, .ref p]) hd
  refine ⟨d, [x, .ref p], rfl, .inl (.inl upd_same), rfl, x, [.ref p], rfl, .ref p, [], rfl, rfl, ?_⟩
  exact q p _ _ ⟨_, f0.trans ((e1.trans e2).trans e3), (((e.mono e1).mono e2).mono e3 |>.set (A := B) (B.mono e3 (B.mono e2 a1))).set (A := vr p) rfl, hh3⟩
end VL

set_option Elab.async false
set_option linter.all false
set_option maxRecDepth 100000
/-! VL23: range downwards, one by one; isinstance and len of pairs. -/
namespace VL
open PySem L2 PyProof.Rows
section
variable {T : TC} {Γ : List (Option VA)} {Ω Ω1 Ω2 : List OA} {A B C : VA} {ta tb te : TE}
/-- i, i - 1, .. (n of them) -/
def rngD (i : Int) (n : Nat) : List Int := (List.range n).map fun (k : Nat) => i + (k : Int) * (-1)
theorem wk_rangeD {n : Nat} {lo : Int} : Wk (Itc lo (-1) n) (fun _ => True) (rngD lo n) (fun a => va T a) where
  mono := fun _ _ _ _ => trivial
  go := fun i F Ω H _ _ hi => by
    have hi : i < n := by simpa [rngD] using hi
    exact hi
  stop := fun F Ω H _ _ => by show n ≤ _; simp [rngD]
  yld := fun i a F Ω H x H' _ hh hx y => by
    obtain ⟨e, y⟩ := y
    subst e y
    refine ⟨F, Same.refl F, hh, ?_⟩
    show V.int _ = V.int a
    unfold rngD at hx
    rw [List.getElem?_map] at hx
    cases hr : (List.range n)[i]? with
    | none => rw [hr] at hx; cases hx
    | some k =>
      rw [hr] at hx
      have hk : i = k := by
        obtain ⟨h1, h2⟩ := List.getElem?_eq_some_iff.mp hr
        rw [List.getElem_range] at h2
        exact h2
      subst hk
      cases hx
      rfl
theorem xi_range3 {i j : Int} {ta : TA} (ha : XA ta Γ Ω [va T i, va T j, va T (-1 : Int)] Ω1) (h1 : -(2 ^ 62) ≤ i ∧ i < 2 ^ 62 ∧ -(2 ^ 62) ≤ j ∧ j < 2 ^ 62) : XI (iRng3 ta) Γ Ω (rngD i (i - j).toNat) (fun a => va T a) Ω1 := fun F σ H e hh R r => by
  refine ha F σ H e hh _ fun F1 vs H1 e1 hh1 a1 => ?_
  cases a1 with
  | cons a1 t =>
    obtain ⟨v, w, rfl, a2, a3⟩ := alA2 t
    have a1 : _ = V.int i := a1
    have a2 : v = .int j := a2
    have a3 : w = .int (-1) := a3
    subst a1 a2 a3
    exact ⟨i, j, -1, (i - j).toNat, rfl, RgC.neg h1.1 h1.2.1 h1.2.2.1 h1.2.2.2, r F1 _ H1 _ e1 hh1 wk_rangeD trivial⟩
theorem ty_pair {α β : Type} [Rp α] [Rp β] {x : α × β} {F H : Hp} {v : V} (hh : Holds F Ω H) (a : (va T x).P F v) : TyX T.K H v (.type "tuple") := by
  obtain ⟨t, y, w, rfl, ht, _⟩ := a
  rcases Same.tup hh.same ht with (h | ⟨o, h⟩) | h
  · exact .base (.tup h)
  · exact .fTuple h
  · obtain ⟨o, _, _, e, c, _⟩ := h
    exact .kTuple e c
theorem xe_lenP {α β : Type} [Rp α] [Rp β] {x : α × β} (ha : XE te Γ Ω (va T x) Ω1) : XE (tCB (rLen T.K) (tCons te tNil)) Γ Ω (va T (2 : Int)) Ω1 := xe_cb (xa_cons ha xa_nil) fun F H vs hh a1 Q q => by
  obtain ⟨v, rfl, p, y, w, rfl, h1, _⟩ := alA1 a1
  exact ⟨p, [y, w], rfl, .inr (Same.tup hh.same h1), q F _ H (Same.refl F) hh rfl⟩
end
end VL

set_option Elab.async false
set_option linter.all false
set_option maxRecDepth 100000
/-! VL24: a pair of a dict and a list that both change: made, handed on, its parts; get of a dict that changes. -/
namespace VL
open PySem L2 PyProof.Rows
section
variable {T : TC} {Γ : List (Option VA)} {Ω Ω1 Ω2 Ω3 : List OA} {A B C : VA} {ta tb tc te : TE} {D : Ends} {F0 : Hp} {ts : TS}
theorem xs_setPP {k : Nat} {ks : List (Nat × OA)} {L : List OA} {o1 o2 : Addr → OA} {Ω0 : List OA} (h1 : XG ta Γ Ω0 (RN (stt Ω ks L) o1)) (h2 : ∀ p, XG tb Γ (stt Ω ks (L ++ [o1 p])) (RN (stt Ω ks (L ++ [o1 p])) o2))
    (q : ∀ p r, XS ts D F0 (Γ.set k (some (pvA T p (vr r)))) (stt Ω ks (L ++ [o1 p] ++ [o2 r]))) : XS (tSeq (tAsg (tTup (tCons ta (tCons tb tNil))) (gName k)) ts) D F0 Γ Ω0 := fun σ H ⟨F, f0, e, hh⟩ => by
  refine h1 F σ H e hh _ fun F1 x H1 Ω' e1 hh1 ⟨p, a1, o1'⟩ => ?_
  subst o1' a1
  rw [stt_app] at hh1
  refine h2 p F1 σ H1 (e.mono e1) hh1 _ fun F2 y H2 Ω'' e2 hh2 ⟨r, a2, o2'⟩ => ?_
  subst o2' a2
  rw [stt_app] at hh2
  refine ⟨by show 2 ≤ sizeLine; decide, fun d hd => ?_⟩
  obtain ⟨hh3, e3⟩ := hh2.newF (u := .tup [.ref p, .ref r]) hd
  exact q p r _ _ ⟨_, f0.trans ((e1.trans e2).trans e3), (((e.mono e1).mono e2).mono e3).set (A := pvA T p (vr r)) ⟨d, .ref r, rfl, SqT.of upd_same, rfl⟩, hh3⟩
theorem xg_pv {p : Addr} (h : XE te Γ Ω (pvA T p B) Ω1) : XG te Γ Ω (RNQ T Ω1 p B) := fun F σ H e hh Q q =>
  h F σ H e hh _ fun F1 x H1 Ω' e1 hh1 ⟨⟨t, w, a, b, c⟩, o1⟩ => q F1 x H1 Ω' e1 hh1 ⟨t, w, a, b, c, o1⟩
theorem NX.fzPL {α : Type} [Rp α] {l : List α} {p r : Addr} {k j : Nat} {ks : List (Nat × OA)} {L : List OA} {σ : L2.St} {H : Hp} (h : NX F0 Γ (stt Ω ks L) σ H) (hk : Γ[k]? = some (some (pvA T p (vr r)))) (hj : L[j]? = some (lstA T r l)) : NX F0 (Γ.set k (some (pvA T p (va T (LF.mk l))))) (stt Ω ks (L.set j nilA)) σ H := by
  obtain ⟨F, f0, e, hh⟩ := h
  obtain ⟨F', t, s1, s2, ⟨vs, ht, al⟩, hh'⟩ := hh.freezeAt (stt_getL hj)
  rw [stt_setL] at hh'
  obtain ⟨v, h1, d, w, h2, h3, h4⟩ := e.2 k _ hk
  have h4 : w = V.ref r := h4
  subst h4
  have e2 := (e.mono s1).set (i := k) (v := v) (A := pvA T p (va T (LF.mk l))) ⟨d, _, h2, Same.tup s1 h3, r, vs, rfl, s2 _ _ ht, al.mono s1⟩
  have es : σ.set k (some v) = σ := by
    apply List.ext_getElem?
    intro m
    by_cases hm : k = m
    · subst hm; rw [List.getElem?_set_self (getlt h1)]; exact h1.symm
    · rw [List.getElem?_set_ne hm]
  rw [es] at e2
  exact ⟨F', f0.trans s1, e2, hh'⟩
theorem xs_fzPL {α : Type} [Rp α] {l : List α} {p r : Addr} {k j : Nat} {ks : List (Nat × OA)} {L : List OA} (hk : Γ[k]? = some (some (pvA T p (vr r)))) (hj : L[j]? = some (lstA T r l)) (q : XS ts D F0 (Γ.set k (some (pvA T p (va T (LF.mk l))))) (stt Ω ks (L.set j nilA))) : XS ts D F0 Γ (stt Ω ks L) := fun σ H n => q σ H (NX.fzPL n hk hj)
theorem xe_dget2O {l : List (Str × Int)} {key : Str} {d : Int} {p : Addr} {k : Nat} (ha : XE ta Γ Ω (vr p) Ω1) (hb : XE tb Γ Ω1 (va T key) Ω2) (hc : XE tc Γ Ω2 (va T d) Ω3) (h1 : Ω1[k]? = some (rawD p (dkv l))) (hk : Ω3[k]? = some (rawD p (dkv l))) : XE (tDGet2 ta tb tc) Γ Ω (va T ((l.lookup key).getD d)) Ω3 := fun F σ H e hh Q q => by
  refine ha F σ H e hh _ fun F1 x H1 Ω' e1 hh1 ⟨a1, o1⟩ => ?_
  subst o1
  have a1 : x = V.ref p := a1
  subst a1
  obtain ⟨t1, g1, g3, _⟩ := hh1.get h1
  have g1 : t1 p = some (.dK (dkv l)) := g1
  refine ⟨p, rfl, .inl ⟨dkv l, .inl (g3 _ _ g1)⟩, ?_⟩
  refine hb F1 σ H1 (e.mono e1) hh1 _ fun F2 y H2 Ω' e2 hh2 ⟨a2, o2⟩ => ?_
  subst o2
  refine hc F2 σ H2 (e.mono (e1.trans e2)) hh2 _ fun F3 z H3 Ω' e3 hh3 ⟨a3, o3⟩ => ?_
  subst o3
  have a2 : y = V.str key := a2
  have a3 : z = V.int d := a3
  subst a2 a3
  obtain ⟨t, h1, h3, _⟩ := hh3.get hk
  have h1 : t p = some (.dK (dkv l)) := h1
  refine ⟨(l.lookup key).map V.int, .inl ⟨dkv l, Sum.inr key, .inl (h3 _ _ h1), rfl, val_dkvO.symm⟩, ?_⟩
  have ez : ((l.lookup key).map V.int).getD (V.int d) = V.int ((l.lookup key).getD d) := by cases l.lookup key <;> rfl
  rw [ez]
  exact q F3 _ H3 _ ((e1.trans e2).trans e3) hh3 ⟨rfl, rfl⟩
/-- dict(d): a new one, from a locked one -/
def rDictD : List V → Hp → VK → Prop := fun xs H Q => ∃ (a : Addr) (kvs : List (Key × V)), xs = [.ref a] ∧ Rd H a (.dK kvs) ∧ ∀ p, H p = none → Q (.ref p) (upd H p (.dK kvs))
theorem cr_dictD {X : Cx} : CallR X (.type "dict") rDictD := call_dictD
theorem xn_dictD {l : List (Str × Int)} (ha : XE te Γ Ω (va T (DF.mk l)) Ω1) : XG (tCB rDictD (tCons te tNil)) Γ Ω (RN Ω1 fun p => rawD p (dkv l)) := fun F σ H e hh Q q => by
  refine ha F σ H e hh _ fun F1 x H1 Ω' e1 hh1 ⟨a1, o1⟩ => ?_
  subst o1
  obtain ⟨p, od, rfl, hp⟩ := a1
  exact ⟨p, dkv l, rfl, .inr ⟨od, hh1.same _ _ hp⟩, fun d hd => q _ _ _ _ e1 (hh1.newD hd) ⟨d, rfl, rfl⟩⟩
end
end VL

set_option Elab.async false
set_option linter.all false
set_option maxRecDepth 100000
set_option maxHeartbeats 2000000
/-! VL25: a lambda with one parameter that has an int for its default, handed to a def that calls it without arguments. -/
namespace VL
open PySem PySem.Spec PyProof.Rows L2 LamX
structure LamSD (N : List Str) (nm : Str) (sc scope : Scope) : Prop where
  kind : scope.kind = .function
  co : scope.isCoroutine = false
  gen : scope.isGenerator = false
  own : ∀ y ∈ scope.names, y.2 ≠ .cell ∧ (y.2 = .local → y.1 ∉ N)
  free : ∀ y ∈ scope.names, y.2 = .free → sc.names.lookup y.1 = some .cell ∨ sc.names.lookup y.1 = some .free
  par : scope.names.lookup nm = some .local
def lamSDB (N : List Str) (nm : Str) (sc scope : Scope) : Bool :=
  decide (scope.kind = .function) && !scope.isCoroutine && !scope.isGenerator && (scope.names.all fun y => !decide (y.2 = .cell) && (!decide (y.2 = .local) || !decide (y.1 ∈ N)) && (!decide (y.2 = .free) || decide (sc.names.lookup y.1 = some .cell) || decide (sc.names.lookup y.1 = some .free))) && decide (scope.names.lookup nm = some .local)
theorem lamSD_by {N : List Str} {nm : Str} {sc scope : Scope} (h : lamSDB N nm sc scope = true) : LamSD N nm sc scope := by
  unfold lamSDB at h
  simp only [Bool.and_eq_true, Bool.or_eq_true, Bool.not_eq_true', decide_eq_true_eq, decide_eq_false_iff_not, List.all_eq_true] at h
  obtain ⟨⟨⟨⟨h1, h2⟩, h3⟩, h4⟩, h5⟩ := h
  refine ⟨h1, h2, h3, fun y hy => ⟨(h4 y hy).1.1, fun e => ?_⟩, fun y hy e => ?_, h5⟩
  · rcases (h4 y hy).1.2 with z | z
    · exact absurd e z
    · exact z
  · rcases (h4 y hy).2 with (z | z) | z
    · exact absurd e z
    · exact .inl z
    · exact .inr z
theorem LamSD.has {X : Cx} {N : List Str} {nm : Str} {scope : Scope} (L : LamSD N nm X.env.scope scope) (ok : X.Ok) : ∀ y ∈ scope.names, y.2 = .free → ∃ c, X.env.cells.lookup y.1 = some c := fun y hy e => by
  rcases L.free y hy e with k | k
  · exact ok.has _ (.inl k)
  · exact ok.has _ (.inr k)
section
variable {X : Cx} {pins : List (Addr × Obj)} {σ : L2.St} {H : Hp} {s : Shared}
theorem lam_mkD {c P : Addr} {params : Arguments} {body : Expr} {scope : Scope} {pos : Pos} {E : Value → Shared → Prop} {Q : Value → Shared → Prop} {i : Int} {dk : Nat} {dpos : Pos} (I : Inv X pins σ H s) (TB : TabB X.base X.mg c P) (hcode : X.env.code = .ref c)
    {ps : Array Value} (hP : H P = some (.tbl ps)) (ht : TriplesOk ps.toList) (ha : ∀ (pos : Pos) (cv : Value), codeAmong pos ps.toList = some cv → ∃ c, cv = .ref c ∧ H c = some (CodeO c (X.env.qual ++ "<lambda>")))
    (hpd : params.defaults = [.Constant (.int i) dk dpos]) (hk0 : params.kw_defaults = []) (hfree : ∀ y ∈ scope.names, y.2 = .free → ∃ c, X.env.cells.lookup y.1 = some c)
    (h : ∀ (f c' T0 : Addr) (t : Tok) (doc pm ctv : Value) (H1 : Hp) (s' : Shared), Inv X pins σ H1 s' → Grown H P (X.env.qual ++ "<lambda>") H1 c' →
      s'.heap.get? f = some (PySem.W.kdv_obj "<lambda>" (X.env.qual ++ "<lambda>") params (.expr body) scope (cloFrom X.env.cells scope.names []) (.ref T0) doc pm c' ctv) → s'.heap.get? T0 = some (PySem.W.kdv_tup [.int i t]) → H1 f = none → f ∉ frs X.stack → H1 T0 = none → T0 ∉ frs X.stack → Q (.ref f) s') :
    wpAny (model X.prog X.w) X.A (eval (.Lambda params body scope pos) X.env) Q E s := by
  refine PySem.W.kdv_lam (by rw [hpd]; rfl) hk0 ?_
  rw [hpd]
  refine PySem.W.kdv_all1 (thn ((pe_int (X := X) (i := i) (j := dk) (pos := dpos)).run pins s σ H (fun v H1 => v = .int i ∧ H1 = H) I ⟨rfl, rfl⟩) fun u s1 ⟨v, H1, I1, r1, ev, eH⟩ => ?_)
  subst ev
  rw [eH] at I1
  obtain ⟨t, rfl⟩ := r1
  refine PySem.W.kdv_all0 ?_
  have hne : ([Value.int i t] : List Value).isEmpty = false := rfl
  rw [makeFunction_eq]
  simp only [List.zip_nil_right, List.filterMap_nil, List.isEmpty_nil, if_true, pure_bind, hne, Bool.false_eq_true, if_false]
  refine wpAny_bind (wpAny_newTextTuple ?_)
  have I2 : Inv X pins σ H { s1 with heap := s1.heap.push (PySem.W.kdv_tup [Value.int i t]) } := I1.kept (t' := s1.toks) fun b o e => Heap.get?_push_of_some _ e
  have oT : (s1.heap.push (PySem.W.kdv_tup [Value.int i t])).get? s1.heap.objs.size = some (PySem.W.kdv_tup [Value.int i t]) := Heap.get?_push_size _ rfl
  have hT0 : H s1.heap.objs.size = none := I1.hok.fresh (Nat.le_refl _)
  have away : ∀ f, s1.heap.objs.size ≤ f → f ∉ frs X.stack := fun f hf z => by
    rcases List.mem_cons.mp (I1.stkSub _ z) with e | e
    · have h1 := I1.lt
      rw [← e] at h1
      exact Nat.lt_irrefl _ (Nat.lt_of_lt_of_le h1 hf)
    · exact I1.nofs hf e
  have hsz0 : s1.heap.objs.size < (s1.heap.push (PySem.W.kdv_tup [Value.int i t])).objs.size := Heap.lt_size oT
  have lP : P < s1.heap.objs.size := Heap.lt_size (I1.hok P _ hP)
  show wpAny (model X.prog X.w) X.A (makeTail "<lambda>" (X.env.qual ++ "<lambda>") params (.expr body) scope X.env (.ref s1.heap.objs.size) .none none pos pos.line) Q E { s1 with heap := s1.heap.push (PySem.W.kdv_tup [Value.int i t]) }
  generalize hs2 : ({ s1 with heap := s1.heap.push (PySem.W.kdv_tup [Value.int i t]) } : Shared) = s2 at *
  have oT2 : s2.heap.get? s1.heap.objs.size = some (PySem.W.kdv_tup [Value.int i t]) := by rw [← hs2]; exact oT
  have hsz2 : s1.heap.objs.size < s2.heap.objs.size := by rw [← hs2]; exact hsz0
  generalize s1.heap.objs.size = T0 at *
  have bP : s2.heap.BuiltinsAt X.mg P := TB.bm.keeps I2.bk
  have oP : s2.heap.get? P = some { cls := .none, data := .fields ps } := I2.hok P _ hP
  cases hc : codeAmong pos ps.toList with
  | some cv =>
    obtain ⟨c', e, hco⟩ := ha pos cv hc
    subst e
    refine PySem.W.kdv_makeTailHit (mg := X.mg) (c := c) (P := P) (ps := ps) (closure_ok hfree) I2.ok.glob (I2.mod.glob.keeps I2.bk) hcode (TB.code.keeps I2.bk) oP ht hc bP fun ctv doc h' tk hx hsz => ?_
    refine h h'.objs.size c' T0 t doc _ ctv H _ (I2.kept (t' := tk) fun b o e => Heap.get?_push_of_some _ (hx b o e)) (.inl ⟨rfl, ps, pos, hP, hc⟩) (Heap.get?_push_size _ rfl) (Heap.get?_push_of_some _ (hx _ _ oT2)) (I2.hok.fresh hsz) (away _ (Nat.le_trans (Nat.le_of_lt hsz2) hsz)) hT0 (away _ (Nat.le_refl _))
  | none =>
    refine PySem.W.kdv_makeTail (mg := X.mg) (c := c) (P := P) (ps := ps) (closure_ok hfree) I2.ok.glob (I2.mod.glob.keeps I2.bk) hcode (TB.code.keeps I2.bk) oP ht hc TB.gP bP fun c' ctv doc h' tk hx hge hlt hrec htb => ?_
    obtain ⟨c2, oc, vs, t2, e2, hoc, hd, hv⟩ := hrec
    cases e2
    have nC : H c' = none := I2.hok.fresh hge
    have hsz : s2.heap.objs.size ≤ h'.objs.size := Nat.le_of_lt (Nat.lt_of_le_of_lt hge hlt)
    refine h h'.objs.size c' T0 t doc ((X.mg "__name__").getD .none) ctv _ _ (inv_table (t' := tk) (more := #[rawInt pos.line, rawInt pos.col, .ref c']) I2 hP
        (fun b o hb e => Heap.get?_push_of_some _ (hx b o hb e)) (Heap.get?_push_of_some _ htb) hge ⟨oc, vs, t2, Heap.get?_push_of_some _ hoc, hd, hv⟩) ?_ (Heap.get?_push_size _ rfl) (Heap.get?_push_of_some _ (hx _ _ (Nat.ne_of_gt lP) oT2)) ?_ (away _ (Nat.le_trans (Nat.le_of_lt hsz2) hsz)) ?_ (away _ (Nat.le_refl _))
    · refine .inr ⟨ps, #[rawInt pos.line, rawInt pos.col, .ref c'], hP, nC, rfl, fun z => ?_, fun pos2 cv z hcv => ?_⟩
      · rw [Array.toList_append]; exact PySem.TriplesOk_snoc _ _ _ _ z
      · rw [Array.toList_append] at hcv
        exact among_app _ z hcv
    · have n1 : h'.objs.size ≠ c' := Nat.ne_of_gt hlt
      have n2 : h'.objs.size ≠ P := Nat.ne_of_gt (Nat.lt_of_lt_of_le (Nat.lt_trans lP hsz2) hsz)
      rw [upd_ne n1, upd_ne n2]
      exact I2.hok.fresh hsz
    · rw [upd_ne (Nat.ne_of_lt (Nat.lt_of_lt_of_le hsz2 hge)), upd_ne (Nat.ne_of_gt lP)]
      exact hT0
end
section
variable {X : Cx} {pins : List (Addr × Obj)} {σ : L2.St} {H HZ : Hp} {s s1 : Shared}
theorem lam_start2D {A : Around} {outer : List PySem.Env} {E : XK} {scope : Scope} {nm : Str} {f c' : Addr} {h₁ : Heap} {tk : Nat} {binds : List (Str × Value)} (I : Inv X pins σ H s) (L : LamSD X.N nm X.env.scope scope) (e0 : Env0 X.prog X.w X.K X.mg X.base A outer s1 HZ) (hd : A.handled = none)
    (un : Un (frs X.stack) [] H HZ s.heap s1.heap) (hns : h₁.Ns s1.heap.objs.size fun y => binds.reverse.lookup y) (kp : ∀ b o, s1.heap.get? b = some o → h₁.get? b = some o) :
    Inv (lamCx X A outer s1 HZ E scope f c') [] σ HZ { s1 with heap := h₁, toks := tk } := by
  have hfree := L.has I.ok
  have cm : ∀ {y c}, (cloFrom X.env.cells scope.names []).lookup y = some c → X.env.cells.lookup y = some c := fun {y c} e => by
    rcases cloFrom_mem (PySem.mem_of_lookup e) with hm | ⟨h1, h2⟩
    · cases hm
    · obtain ⟨c1, hc⟩ := hfree _ h1 rfl
      have hc : X.env.cells.lookup y = some c1 := hc
      have e2 : c = c1 := by
        rw [h2, hc] <;> rfl
      rw [e2]
      exact hc
  have look : ∀ {y}, scope.names.lookup y = some .free → ∃ c, (cloFrom X.env.cells scope.names []).lookup y = some c := fun {y} hl => by
    have hy : (y, NameKind.free) ∈ scope.names := PySem.mem_of_lookup hl
    exact mem_lookup (cloFrom_has (cells := X.env.cells) (acc := []) hy)
  have cellK : ∀ {c : Addr} {v : Option Value}, H c = none → s.heap.IsCell c v → h₁.IsCell c v := fun {c v} n ⟨o, ho, hd⟩ => by
    obtain ⟨sl, q⟩ := un.any ho n (by simp)
    exact ⟨_, kp _ _ q, hd⟩
  have noA : ∀ b : Addr, b ∉ (lamCx X A outer s1 HZ E scope f c').ex := fun b z => absurd (show b ∈ ([] : List Addr) from z) (by simp)
  refine ⟨⟨e0.mod, L.kind, rfl, rfl, Nat.le_refl _, fun y z c e1 e2 => I.ok.inj y z c (cm e1) (cm e2), fun y hy => ?_, fun y c z _ => ?_, fun _ => hd, Around.frames_deeper e0.frames, .inr ⟨rfl, rfl⟩, fun b z => absurd z (noA b), e0.bs, e0.bsz, fun b _ _ => noA b,
      fun b z => absurd z (noA b), e0.funs, e0.frf⟩,
    rfl, e0.bare, Un.kept kp, ⟨_, hns, fun i y v e1 e2 e3 => ?_⟩, fun y c e => ?_, e0.hok.fresh (Nat.le_refl _), fun y c e => ?_, fun q hq => absurd (show q ∈ ([] : List (Addr × Obj)) ++ [] from hq) (by simp), e0.hok.kept kp, I.len⟩
  · have hy : scope.names.lookup y = some .cell ∨ scope.names.lookup y = some .free := hy
    rcases hy with hy | hy
    · exact absurd rfl (L.own _ (PySem.mem_of_lookup hy)).1
    · exact look hy
  · have z : false = true := z
    cases z
  · have e3 : Vis scope y := e3
    rcases e3 with k | k | k
    · have hN : y ∈ X.N := List.mem_of_getElem? e1
      exact absurd hN ((L.own _ (PySem.mem_of_lookup k)).2 rfl)
    · exact absurd rfl (L.own _ (PySem.mem_of_lookup k)).1
    · obtain ⟨m, hn, hl⟩ := I.loc
      have hvis : Vis X.env.scope y := (L.free _ (PySem.mem_of_lookup k) rfl).elim (fun k => .inr (.inl k)) (fun k => .inr (.inr k))
      obtain ⟨w', r, q⟩ := hl i y v e1 e2 hvis
      obtain ⟨c2, h2⟩ := look k
      refine ⟨w', r, .inr ⟨.inr k, c2, h2, ?_⟩⟩
      have c1 := cm h2
      rcases q with ⟨k', _⟩ | ⟨_, c3, e', z⟩
      · have k' : X.env.scope.names.lookup y = some .local := k'
        rcases L.free _ (PySem.mem_of_lookup k) rfl with k2 | k2 <;> rw [show X.env.scope.names.lookup y = _ from k2] at k' <;> cases k'
      · rw [c1] at e'
        cases e'
        exact cellK (I.freeC y _ c1) z
  · obtain ⟨w', z⟩ := I.cell y c (cm e)
    exact ⟨w', cellK (I.freeC y c (cm e)) z⟩
  · obtain ⟨v, o, ho, hd⟩ := I.cell y c (cm e)
    exact un.free c o ho (I.freeC y c (cm e)) (by simp)
theorem pe_actD {CXg : CXT} {Eg : XK} {Ng : List Str} {qg : Str} {sg : Scope} {g f c' T0 : Addr} {cdg doc pm ctv : Value} {t : Tok} {iv : Int} {nm : Str} {params : Arguments} {body : Expr} {scope : Scope} {k i : Nat} {a : Str} {pn : List (Addr × Obj)} {xe : Value → Shared → Prop} {W : WX} {E : XK} {tb : TE} {p1 p2 : Pos}
    (I : Inv X pins σ H s) (L : LamSD X.N nm X.env.scope scope) (hf : s.heap.get? f = some (PySem.W.kdv_obj "<lambda>" (X.env.qual ++ "<lambda>") params (.expr body) scope (cloFrom X.env.cells scope.names []) (.ref T0) doc pm c' ctv)) (hfn : H f = none) (hfr : f ∉ frs X.stack)
    (hT : s.heap.get? T0 = some (PySem.W.kdv_tup [.int iv t])) (hTn : H T0 = none) (hTr : T0 ∉ frs X.stack)
    (hbind : ∀ s : Shared, s.heap.get? T0 = some (PySem.W.kdv_tup [.int iv t]) → BindsTo s (PySem.W.kdv_fn "<lambda>" (X.env.qual ++ "<lambda>") params (.expr body) scope (cloFrom X.env.cells scope.names []) (.ref T0) doc pm (.ref c') ctv) ⟨[], []⟩ [(nm, .int iv t)])
    (tk : Takes ((cxOf CXg X.prog X.w X.K X.mg X.base Ng qg sg g cdg X.A X.stack s H Eg).tr pn xe) W) (hW : ∀ cls d σ' H', E cls d H' → W cls d σ' H') (hr : Room (k + 1) (X.A.deeper (envOfC qg sg s.heap.objs.size g cdg)))
    (hbody : ∀ (A : Around) (outer : List PySem.Env) (s : Shared) (H : Hp), Room k (A.deeper (lamEnv X scope s.heap.objs.size f c')) → PE (lamCx X A outer s H E scope f c') body tb)
    (hN : Ng[i]? = some a) (hv : Vis sg a) (hd : (a == ("__debug__" : Str)) = false := by decide) (hcd : (a == ("__classdict__" : Str)) = false := by decide) :
    PE ((cxOf CXg X.prog X.w X.K X.mg X.base Ng qg sg g cdg X.A X.stack s H Eg).tr pn xe) (.Call (.Name a p1) [] [] p2)
      (fun σZ HZ Q => σZ[i]? = some (some (.ref f)) ∧ HZ c' = some (CodeO c' (X.env.qual ++ "<lambda>")) ∧ tb σ HZ Q) := by
  refine ⟨fun pinsZ sZ σZ HZ Q IZ h => ?_⟩
  obtain ⟨hs, hc, ht⟩ := h
  refine wpAny_Call_Name_kw (thn ((pe_var (pos := p1) (i := i) hN hv hd hcd).run pinsZ sZ σZ HZ (fun v H1 => v = .ref f ∧ H1 = HZ) IZ ⟨.ref f, hs, rfl, rfl⟩) fun u s1 ⟨v, H1, I1, r1, q1⟩ => ?_)
  obtain ⟨ev, eH⟩ := q1
  subst ev
  rw [eH] at I1
  obtain rfl : u = Value.ref f := r1
  have of1 : s1.heap.get? f = some (PySem.W.kdv_obj "<lambda>" (X.env.qual ++ "<lambda>") params (.expr body) scope (cloFrom X.env.cells scope.names []) (.ref T0) doc pm c' ctv) := I1.base.keep f _ hf hfn hfr (fun z => nomatch (show f ∈ ([] : List Addr) from z))
  have oT1 : s1.heap.get? T0 = some (PySem.W.kdv_tup [.int iv t]) := I1.base.keep T0 _ hT hTn hTr (fun z => nomatch (show T0 ∈ ([] : List Addr) from z))
  refine PySem.W.callWith_F0 ⟨_, _, _, _, of1⟩ ?_
  have un : Un (frs X.stack) [] H HZ s.heap s1.heap := I1.base
  obtain ⟨⟨oc, vs, t2, hoc, hdc, hvc⟩, _, _⟩ := I1.hok c' _ hc
  have rc : codeAny (model X.prog X.w) (X.A.deeper (envOfC qg sg s.heap.objs.size g cdg)) (.call (.ref f) ⟨[], []⟩) (CR (L2.CX X.prog X.w) (envOfC qg sg s.heap.objs.size g cdg :: X.stack) X.prog X.w HZ s1 Q E) s1 := by
    refine PySem.W.kla_callFunE hr.depth of1 rfl L.co L.gen rfl ⟨c', oc, vs, t2, rfl, hoc, hdc, hvc⟩ ?_
    refine hbind s1 oT1 _ _ _ _ ?_
    refine wpAny_newFunctionEnv (fun y hy => (L.own y hy).1) (fun y hy => by rw [List.mem_singleton.mp hy]; exact L.par) (fun h₁ hns hsb => ⟨I1.nolimit.fresh _ hsb, ?_⟩) L.kind
    show codeAny _ _ (.expr body (lamEnv X scope s1.heap.objs.size f c')) _ _
    have kp : ∀ b o, s1.heap.get? b = some o → h₁.get? b = some o := fun b o e => hsb.extBut b o (Nat.ne_of_lt (Heap.lt_size e)) (Heap.get?_push_of_some _ e)
    have J : Inv (lamCx X (X.A.deeper (envOfC qg sg s.heap.objs.size g cdg)) (envOfC qg sg s.heap.objs.size g cdg :: X.stack) s1 HZ E scope f c') [] σ HZ { s1 with heap := h₁, toks := s1.toks + ([(nm, .int iv t)] : List (Str × Value)).length } :=
      lam_start2D I L I1.env0 hr.hd un hns kp
    refine PySem.W.kla_codeExpr (wpAny_mono ((hbody _ _ s1 HZ (hr.deeper _)).run [] _ _ HZ Q J ht) (fun v s' hq => ?_) fun e s' hq => hq)
    obtain ⟨w', H', J', rv, q⟩ := hq
    exact ⟨w', H', J'.os, J'.bare, J'.base, J'.hok, rv, q⟩
  have hx : Passes (L2.CX X.prog X.w) ((cxOf CXg X.prog X.w X.K X.mg X.base Ng qg sg g cdg X.A X.stack s H Eg).tr pn xe) E := passes_call tk hW
  refine wpAny_call (codeAny_mono rc fun r s' hq => ?_)
  cases r with
  | error e => exact hx pinsZ σZ HZ s1 e s' I1 hq
  | ok fl =>
    cases fl with
    | ret u => exact I1.after hq
    | next => exact False.elim hq
    | brk => exact False.elim hq
    | cont => exact False.elim hq
end
section
variable {X : Cx}
theorem pe_lamD {k kl : Nat} {x nm : Str} {ps : List Str} {Pre : PreLT} {c P : Addr} {e : Expr} {ta tb : TE} {params : Arguments} {body : Expr} {scope : Scope} {p lpos pos : Pos} {iv : Int} {dk : Nat} {dpos : Pos} (C : CalL X.prog X.w X.K X.mg X.base kl k x ps Pre) (hr : Room k X.A) (hg : Gl X x)
    (he : PE X e ta) (TB : TabB X.base X.mg c P) (hcode : X.env.code = .ref c) (L : LamSD X.N nm X.env.scope scope)
    (hbody : ∀ (A : Around) (outer : List PySem.Env) (s : Shared) (H : Hp) (f c' : Addr), Room kl (A.deeper (lamEnv X scope s.heap.objs.size f c')) → PE (lamCx X A outer s H E0 scope f c') body tb)
    (hpd : params.defaults = [.Constant (.int iv) dk dpos] := by rfl) (hk0 : params.kw_defaults = [] := by rfl)
    (hbind : ∀ (q : Str) (cl : List (Str × Addr)) (T0 : Addr) (doc pm cv ctv : Value) (t : Tok) (s : Shared), s.heap.get? T0 = some (PySem.W.kdv_tup [.int iv t]) → BindsTo s (PySem.W.kdv_fn "<lambda>" q params (.expr body) scope cl (.ref T0) doc pm cv ctv) ⟨[], []⟩ [(nm, .int iv t)] := by
      intro q cl T0 doc pm cv ctv t s h
      exact BindsTo.of_defaults rfl h rfl (by rfl) (by rfl))
    (hdb : (x == ("__debug__" : Str)) = false := by decide) (hst : starEach [e, .Lambda params body scope lpos] X.env = (false, eval e X.env) :: [(false, eval (.Lambda params body scope lpos) X.env)] := by rfl) :
    PE X (.Call (.Name x p) [e, .Lambda params body scope lpos] [] pos) (tLam P (X.env.qual ++ "<lambda>") Pre ta tb) := by
  obtain ⟨g, fd, hm, hk, hb, hlen, hrun⟩ := C.ex
  refine ⟨fun pins s σ H Q I h => ?_⟩
  refine wpAny_Call_Name_kw (ld_glob I hg hm ?_ hdb)
  refine PySem.W.callWith_K (h₀ := X.base) I.ok.mod.kin hk ?_ hst (by rfl)
  rw [hst]
  show wpAny _ _ (spliced ((false, eval e X.env) :: [(false, eval (.Lambda params body scope lpos) X.env)])) _ _ s
  refine Calls.spliced_cons (thn (he.run pins s σ H _ I h) fun u s1 ⟨v, H0, I1, r1, ⟨tps, hP, ht, hcs⟩, hq⟩ => ?_)
  refine Calls.spliced_cons (lam_mkD I1 TB hcode hP ht hcs hpd hk0 (L.has I.ok) fun f c' T0 t doc pm' ctv H1 s' I2 gr hf hT hfn hfr hTn hTr => ?_)
  refine Calls.spliced_nil ⟨I2.kIn, ?_⟩
  have sp := hq f c' H1 gr
  have hls : ps.length = 2 := by
    obtain ⟨F0, Ω, As, R, hp, ha, _⟩ := sp
    rw [← hlen _ _ _ _ _ _ _ hp, ← ha.len]; rfl
  have rc : codeAny (model X.prog X.w) X.A (.call (.ref g) ⟨[u, .ref f], []⟩) (CR CX0 X.stack X.prog X.w H1 s' Q E0) s' := by
    refine hrun X.A X.stack s' H1 [u, .ref f] [v, .ref f] Q f c' _ _ hr I2.env0 ?_ (.cons r1 (.cons rfl .nil)) (fun Ng qg sg gg cdg i a p1 p2 hr' hN hv hd hcd => ?_) sp
    · have := hb s' [u, .ref f] I2.kIn (by rw [hls]; rfl)
      rwa [List.append_nil] at this
    · exact pe_actD (CXg := CX0) (Eg := E0) (pn := []) (xe := fun _ _ => False) (E := E0) I2 L hf hfn hfr hT hTn hTr (fun s h => hbind _ _ _ _ _ _ _ _ s h) takes0 (fun _ _ _ _ z => z) hr' (fun A outer s H hr2 => hbody A outer s H f c' hr2) hN hv hd hcd
  refine wpAny_call (codeAny_mono rc fun r s2 hq => ?_)
  cases r with
  | error e => exact (show False from hq).elim
  | ok fl =>
    cases fl with
    | ret u => exact I2.after hq
    | next => exact False.elim hq
    | brk => exact False.elim hq
    | cont => exact False.elim hq
end
section
variable {X : Cx}
theorem op_fdivF : OpR X (binaryOp .FloorDiv) (rI CDivF fun i j => .int (i.fdiv j)) := opI fun _ _ _ _ _ _ _ hc q => floordiv_int hc.1 q (.inl (PyProof.noPylong_of_log2 hc.2))
end
section
variable {T : TC} {Γ : List (Option VA)} {Ω Ω1 Ω2 : List OA} {ta tb : TE} {i j : Int}
theorem xe_fdivF (h : CDivF i j) (ha : XE ta Γ Ω (va T i) Ω1) (hb : XE tb Γ Ω1 (va T j) Ω2) : XE (tOp (rI CDivF fun i j => .int (i.fdiv j)) ta tb) Γ Ω (va T (i.fdiv j)) Ω2 := xe_op ha hb (ro_intD (D := CDivF) (g := fun i j => i.fdiv j) h)
end
end VL

set_option Elab.async false
set_option linter.all false
set_option maxRecDepth 100000
/-! VL26: the first and the last of four. -/
namespace VL
open PySem L2 PyProof.Rows
section
variable {T : TC} {Γ : List (Option VA)} {Ω Ω1 Ω2 : List OA} {te ti : TE}
theorem xe_p4 {α β γ δ : Type} [Rp α] [Rp β] [Rp γ] [Rp δ] {x : T4 α β γ δ} (ha : XE te Γ Ω (va T x) Ω1) (hi : XE ti Γ Ω1 (va T (0 : Int)) Ω1) : XE (tOp (rIx T.K) te ti) Γ Ω (va T x.a) Ω1 := xe_op ha hi fun F H v w hh a1 a2 Q q => by
  obtain ⟨p, y, z, u, o, rfl, ht, ry, rz, rw, ru⟩ := a1
  exact .inr (.inl ⟨p, [y, z, u, o], 0, y, rfl, a2, Same.tup hh.same ht, rfl, q F y H (Same.refl F) hh ry⟩)
theorem xe_d4 {α β γ δ : Type} [Rp α] [Rp β] [Rp γ] [Rp δ] {x : T4 α β γ δ} (ha : XE te Γ Ω (va T x) Ω1) (hi : XE ti Γ Ω1 (va T (3 : Int)) Ω1) : XE (tOp (rIx T.K) te ti) Γ Ω (va T x.d) Ω1 := xe_op ha hi fun F H v w hh a1 a2 Q q => by
  obtain ⟨p, y, z, u, o, rfl, ht, ry, rz, rw, ru⟩ := a1
  exact .inr (.inl ⟨p, [y, z, u, o], 3, o, rfl, a2, Same.tup hh.same ht, rfl, q F o H (Same.refl F) hh ru⟩)
end
end VL

set_option Elab.async false
set_option linter.all false
set_option maxRecDepth 100000
/-! VL27: == and != of tuples among whose items stand pairs of numbers with an own __eq__; a call with a new thing ahead of arguments that change things. -/
namespace VL
open PySem L2 PyProof.Rows
/-- pair by pair, as WT, or two tuples within -/
def WT2 (K : PySem.W.Frag) (C : Addr) (sp : Sp) : List (V × V) → Hp → (Hp → Prop) → Prop
  | [], H, Q => Q H
  | z :: r, H, Q => WT K C sp [z] H (fun H' => WT2 K C sp r H' Q) ∨
    ∃ p q xs ys, z.1 = .ref p ∧ z.2 = .ref q ∧ SqT K H p xs ∧ SqT K H q ys ∧ xs.length = ys.length ∧ (p = q → WT2 K C sp r H Q) ∧ (p ≠ q → WT K C sp (xs.zip ys) H (fun H' => WT2 K C sp r H' Q))
def rOwnT2 (K : PySem.W.Frag) (C : Addr) (sp : Sp) (b : Bool) : R2 := fun x y H Q => ∃ a c xs ys, x = .ref a ∧ y = .ref c ∧ SqT K H a xs ∧ SqT K H c ys ∧ xs.length = ys.length ∧ WT2 K C sp (xs.zip ys) H (fun H' => Q (.bl b) H')
section
variable {X : Cx} {n : Nat} {C f : Addr} {fd : FuncData} {ps : List Str} {sp : Sp}
theorem ti_turnA {A : Around} (F : FnOk X.prog X.w X.K X.mg X.base CX0 n f fd ps sp) (own : PySem.W.findIn X.K (.ref C) "__eq__" = some (some (.ref f))) (isf : PySem.W.isFn X.K (.ref f) = true) (hb : Binds X.K fd ps []) (room : Room n A) (frA : A.frames = X.A.frames)
    {pins : List (Addr × Obj)} {σ : L2.St} {Q : Hp → Prop} {z : Value × Value} {r : List (Value × Value)} {s : Shared} (q : TI X pins σ C sp Q (z :: r) s) : wpAny (model X.prog X.w) A (eqBool z.1 z.2) (fun b s' => b = true ∧ TI X pins σ C sp Q r s') X.xe s := by
  obtain ⟨H, I, us, hl, hr, w⟩ := q
  cases us with
  | nil => cases hl
  | cons u us =>
    have r0 := hr 0 (by simp) (by simp)
    have r0 : RelV u.1 z.1 ∧ RelV u.2 z.2 := r0
    have hl' : us.length = r.length := by simpa using hl
    have hr' : ∀ i (h : i < us.length) (h2 : i < r.length), RelV us[i].1 r[i].1 ∧ RelV us[i].2 r[i].2 := fun i h h2 => hr (i + 1) (by simp; omega) (by simp; omega)
    have hu : A.units + 60 < cLine := by have := room.un; omega
    rcases w with ⟨w1, w2⟩ | ⟨w1, w2⟩ | ⟨p, q, dx, dy, fs, gs, ex, ey, hp, hq, w1, w2⟩
    · exact fd_eqP I hu w1 r0.1 r0.2 X.xe _ ⟨rfl, H, I, us, hl', hr', w2⟩
    · exact fs_eqP I hu w1 r0.1 r0.2 X.xe _ ⟨rfl, H, I, us, hl', hr', w2⟩
    · rw [ex, ey] at r0
      obtain ⟨z1, z2⟩ := z
      cases (show z1 = Value.ref p from r0.1)
      cases (show z2 = Value.ref q from r0.2)
      by_cases pq : p = q
      · subst pq
        exact SeqAt.EqAt.same _ X.prog X.w X.xe _ ⟨rfl, H, I, us, hl', hr', w1 rfl⟩
      · have w2 := w2 pq
        rw [ex, ey] at w2
        obtain ⟨mA, J, _⟩ := ins_get I.hok hp
        obtain ⟨mB, J', _⟩ := ins_get I.hok hq
        obtain ⟨od, J, _⟩ := J.look
        obtain ⟨od', J', _⟩ := J'.look
        obtain ⟨m, fr⟩ := I.fr
        have r3 := call_own F hb room frA I (show RelV (V.ref p) (Value.ref p) from rfl) (show RelV (V.ref q) (Value.ref q) from rfl) w2
        refine GQ.eqBool_refG pq ?_
        refine PySem.W.cmp_K (tb := .ref C) (op := .Eq) room.units0 fr I.ok.mod.kin J J'.type (by simp [PySem.W.notFirst]) own isf (wpAny_mono r3 (fun w s' z => ?_) fun _ _ z => z)
        obtain ⟨z, H', I', rz, ez, w'⟩ := z
        subst ez
        obtain rfl : w = Value.bool true := rz
        exact ⟨true, rfl, rfl, H', I', us, hl', hr', w'⟩
def TI2 (X : Cx) (pins : List (Addr × Obj)) (σ : L2.St) (C : Addr) (sp : Sp) (Q : Hp → Prop) (zs : List (Value × Value)) (s : Shared) : Prop :=
  ∃ H, Inv X pins σ H s ∧ ∃ us : List (V × V), us.length = zs.length ∧ (∀ i (h : i < us.length) (h2 : i < zs.length), RelV us[i].1 zs[i].1 ∧ RelV us[i].2 zs[i].2) ∧ WT2 X.K C sp us H Q
theorem ti2_turn (F : FnOk X.prog X.w X.K X.mg X.base CX0 n f fd ps sp) (own : PySem.W.findIn X.K (.ref C) "__eq__" = some (some (.ref f))) (isf : PySem.W.isFn X.K (.ref f) = true) (hb : Binds X.K fd ps []) (room : Room (n + 2) X.A)
    {pins : List (Addr × Obj)} {σ : L2.St} {Q : Hp → Prop} {z : Value × Value} {r : List (Value × Value)} {s : Shared} (q : TI2 X pins σ C sp Q (z :: r) s) : wpAny (model X.prog X.w) X.A.in1 (eqBool z.1 z.2) (fun b s' => b = true ∧ TI2 X pins σ C sp Q r s') X.xe s := by
  obtain ⟨H, I, us, hl, hr, w⟩ := q
  cases us with
  | nil => cases hl
  | cons u us =>
    have r0 := hr 0 (by simp) (by simp)
    have r0 : RelV u.1 z.1 ∧ RelV u.2 z.2 := r0
    have hl' : us.length = r.length := by simpa using hl
    have hr' : ∀ i (h : i < us.length) (h2 : i < r.length), RelV us[i].1 r[i].1 ∧ RelV us[i].2 r[i].2 := fun i h h2 => hr (i + 1) (by simp; omega) (by simp; omega)
    rcases w with w | ⟨p, q, xs, ys, ex, ey, hp, hq, len, w1, w2⟩
    · have st : TI X pins σ C sp (fun H' => WT2 X.K C sp us H' Q) [z] s := by
        refine ⟨H, I, [u], rfl, fun i h h2 => ?_, w⟩
        have hi : i = 0 := by simp at h; exact h
        subst hi
        exact r0
      refine wpAny_mono (ti_turnA F own isf hb (room.in1.mono (by omega)) rfl st) (fun b s' hq => ?_) fun _ _ z => z
      obtain ⟨rfl, H', I', us', hl2, _, w'⟩ := hq
      cases us' with
      | nil => exact ⟨rfl, H', I', us, hl', hr', w'⟩
      | cons _ _ => cases hl2
    · rw [ex, ey] at r0
      obtain ⟨z1, z2⟩ := z
      cases (show z1 = Value.ref p from r0.1)
      cases (show z2 = Value.ref q from r0.2)
      by_cases pq : p = q
      · subst pq
        exact SeqAt.EqAt.same _ X.prog X.w X.xe _ ⟨rfl, H, I, us, hl', hr', w1 rfl⟩
      · have w2 := w2 pq
        obtain ⟨vs, r1, e1, _⟩ := I.tuple hp
        obtain ⟨ws, r2, e2, _⟩ := I.tuple hq
        have l : vs.length = ws.length := by rw [← r1.length, ← r2.length]; exact len
        refine GQ.eqBool_refG pq ?_
        have rm : Room (n + 1) X.A.in1 := room.in1
        refine GQ.rc_tupG (by simpa using l) rm.units0 (fun i Z' => TI X pins σ C sp (fun H' => WT2 X.K C sp us H' Q) ((vs.zip ws).drop i) Z') e1 e2 (fun i h1 h2 Z' q => ?_) (fun Z' q => ?_) (by simpa using ti_start I r1 r2 w2)
        · have k1 : i < vs.length := by simpa using h1
          have k2 : i < ws.length := by simpa using h2
          have hz : i < (vs.zip ws).length := by rw [List.length_zip]; omega
          have q : TI X pins σ C sp (fun H' => WT2 X.K C sp us H' Q) ((vs.zip ws).drop i) Z' := q
          rw [List.drop_eq_getElem_cons hz] at q
          have := ti_turnA (A := X.A.in1.in1) F own isf hb rm.in1 rfl q
          rw [List.getElem_zip] at this
          simpa using this
        · obtain ⟨H', I', us', hl2, _, w'⟩ := q
          rw [List.drop_of_length_le (by rw [List.length_zip]; simp; omega)] at hl2
          cases us' with
          | nil => exact ⟨true, rfl, rfl, H', I', us, hl', hr', w'⟩
          | cons _ _ => cases hl2
theorem ti2_start {pins : List (Addr × Obj)} {σ : L2.St} {H : Hp} {s : Shared} {Q : Hp → Prop} {xs ys : List V} {us ws : List Value} (I : Inv X pins σ H s) (r1 : Vals xs us) (r2 : Vals ys ws) (w : WT2 X.K C sp (xs.zip ys) H Q) : TI2 X pins σ C sp Q (us.zip ws) s := by
  have l1 := r1.length
  have l2 := r2.length
  refine ⟨H, I, xs.zip ys, by rw [List.length_zip, List.length_zip, l1, l2], fun i h h2 => ?_, w⟩
  rw [List.length_zip] at h h2
  have k1 : i < xs.length := by omega
  have k2 : i < ys.length := by omega
  obtain ⟨u, hu, ru⟩ := r1.get (List.getElem?_eq_getElem k1)
  obtain ⟨v, hv, rv⟩ := r2.get (List.getElem?_eq_getElem k2)
  rw [List.getElem_zip, List.getElem_zip]
  obtain ⟨h3, e3⟩ := List.getElem?_eq_some_iff.mp hu
  obtain ⟨h4, e4⟩ := List.getElem?_eq_some_iff.mp hv
  refine ⟨?_, ?_⟩
  · show RelV xs[i] us[i]
    rw [e3]; exact ru
  · show RelV ys[i] ws[i]
    rw [e4]; exact rv
theorem op_tneC2 {K : PySem.W.Frag} (hK : X.K = K) (c : CalEq X.prog X.w X.K X.mg X.base n C sp) (room : Room (n + 2) X.A) : OpR X (compareOp .NotEq) (rOwnT2 K C sp false) := by
  subst hK
  obtain ⟨f, fd, F, _, me, hb⟩ := c.ex
  intro pins s σ H x y v u Q I rx ry h
  obtain ⟨a, b, xs, ys, rfl, rfl, ha, hb', len, w⟩ := h
  cases (show v = Value.ref a from rx)
  cases (show u = Value.ref b from ry)
  obtain ⟨us, r1, e1, _⟩ := I.tuple ha
  obtain ⟨ws, r2, e2, _⟩ := I.tuple hb'
  have l : us.length = ws.length := by rw [← r1.length, ← r2.length]; exact len
  refine VNe.tupNeJ room.units0 (by simpa using l) e1 e2 (TI2 X pins σ C sp fun H' => Q (.bl false) H') (fun z r Z' q => ti2_turn F me.1 me.2 hb room q) (fun Z' q => ?_) (by simpa using ti2_start I r1 r2 w)
  obtain ⟨H', I', us', hl, _, w'⟩ := q
  cases us' with
  | nil => exact ⟨.bl false, H', I', rfl, w'⟩
  | cons _ _ => cases hl
end
section
variable {T : TC} {Γ : List (Option VA)} {Ω Ω1 Ω2 : List OA} {ta tb : TE} {Pre : PreT}
def ItE2 (T : TC) (Ω : List OA) (sp : Sp) (A B : VA) : Prop := ∀ F H x y r k, Holds F Ω H → A.P F x → B.P F y → (∀ F' H', Same F F' → Holds F' Ω H' → WT2 T.K (T.C 1) sp r H' k) → WT2 T.K (T.C 1) sp ((x, y) :: r) H k
theorem it2_of {sp : Sp} {A B : VA} (h : ItE T Ω sp A B) : ItE2 T Ω sp A B := fun F H x y r k hh a b q =>
  .inl (h F H x y [] (fun H' => WT2 T.K (T.C 1) sp r H' k) hh a b fun F' H' e hh' => q F' H' e hh')
theorem it2_pair {sp : Sp} {α β : Type} [Rp α] [Rp β] {a1 b1 : α} {a2 b2 : β} (i1 : ItE T Ω sp (va T a1) (va T b1)) (i2 : ItE T Ω sp (va T a2) (va T b2)) : ItE2 T Ω sp (va T ((a1, a2) : α × β)) (va T ((b1, b2) : α × β)) := fun F H x y r k hh c1 c2 q => by
  obtain ⟨p, v1, v2, rfl, t1, r1, r2⟩ := c1
  obtain ⟨p', w1, w2, rfl, t2, s1, s2⟩ := c2
  refine .inr ⟨p, p', _, _, rfl, rfl, Same.tup hh.same t1, Same.tup hh.same t2, rfl, fun _ => q F H (Same.refl F) hh, fun _ => ?_⟩
  refine i1 F H v1 w1 _ _ hh r1 s1 fun F1 H1 e1 hh1 => ?_
  refine i2 F1 H1 v2 w2 _ _ hh1 (Rp.mono e1 r2) (Rp.mono e1 s2) fun F2 H2 e2 hh2 => ?_
  exact q F2 H2 (e1.trans e2) hh2
theorem xe_ownT3b {α β γ : Type} [Rp α] [Rp β] [Rp γ] {a b : T3 α β γ} {v : Bool} (ha : XE ta Γ Ω (va T a) Ω1) (hb : XE tb Γ Ω1 (va T b) Ω2) (i1 : ItE2 T Ω2 (mkSp Pre) (va T a.a) (va T b.a)) (i2 : ItE2 T Ω2 (mkSp Pre) (va T a.b) (va T b.b)) (i3 : ItE2 T Ω2 (mkSp Pre) (va T a.c) (va T b.c)) :
    XE (tOp (rOwnT2 T.K (T.C 1) (mkSp Pre) v) ta tb) Γ Ω (va T v) Ω2 := xe_op ha hb fun F H x y hh c1 c2 Q q => by
  obtain ⟨p, v1, v2, v3, rfl, t1, r1, r2, r3⟩ := c1
  obtain ⟨p', w1, w2, w3, rfl, t2, s1, s2, s3⟩ := c2
  refine ⟨p, p', _, _, rfl, rfl, Same.tup hh.same t1, Same.tup hh.same t2, rfl, ?_⟩
  refine i1 F H v1 w1 _ _ hh r1 s1 fun F1 H1 e1 hh1 => ?_
  refine i2 F1 H1 v2 w2 _ _ hh1 (Rp.mono e1 r2) (Rp.mono e1 s2) fun F2 H2 e2 hh2 => ?_
  refine i3 F2 H2 v3 w3 _ _ hh2 (Rp.mono (e1.trans e2) r3) (Rp.mono (e1.trans e2) s3) fun F3 H3 e3 hh3 => ?_
  exact q F3 _ H3 ((e1.trans e2).trans e3) hh3 rfl
end
/-- a call with a new thing ahead, where the other arguments change things -/
theorem xe_callF3 {Γ : List (Option VA)} {Ω Ω0 : List OA} {A : VA} {Pre : PreT} {E : XK} {ta : TE} {t : TA} {As : List VA} {ks ks2 : List (Nat × OA)} {L L2 : List OA} {o o2 : Addr → OA} {Ω' : Addr → List OA} (h1 : XG ta Γ Ω0 (RN (stt Ω ks L) o)) (h2 : ∀ p, XA t Γ (stt Ω ks (L ++ [o p])) As (stt Ω ks2 (L2 ++ [o p])))
    (hp : ∀ p, Pre (vr p :: As) (stt Ω ks2 (L2 ++ [o p])) (RV A (Ω' p))) (he : ∀ p, Ω' p = stt Ω ks2 (L2 ++ [o2 p])) : XE (tCall (mkSp Pre) [] E (tCons ta t)) Γ Ω0 A (stt Ω ks2 L2) := fun F σ H e hh Q q => by
  refine h1 F σ H e hh _ fun F1 x H1 Ωa e1 hh1 ⟨p, a1, o1⟩ => ?_
  subst o1
  rw [stt_app] at hh1
  refine h2 p F1 σ H1 (e.mono e1) hh1 _ fun F2 ws H2 e2 hh2 a2 => ?_
  have a1 : x = .ref p := a1
  subst a1
  refine ⟨F2, _, vr p :: As, _, hp p, ?_, hh2, fun F' v H' Ω3 e' hh' ⟨av, eo⟩ => ?_⟩
  · rw [List.append_nil]
    exact .cons (show (vr p).P F2 (.ref p) from rfl) a2
  · subst eo
    rw [he p, ← stt_app] at hh'
    exact q F' v H' _ ((e1.trans e2).trans e') hh'.drop ⟨av, rfl⟩
end VL

set_option Elab.async false
set_option linter.all false
set_option maxRecDepth 100000
/-! VL28: a pair of a new list and a value out of one of several defs; such a pair handed on at once; a new list and two values in one assignment. -/
namespace VL
open PySem L2 PyProof.Rows
section
variable {T : TC} {Γ : List (Option VA)} {Ω Ω0 Ω1 Ω2 Ω3 : List OA} {A B C : VA} {As Ks : List VA} {a : FT} {i : Nat} {S : Addr → Sp → Prop} {ta tb te : TE} {D : Ends} {F0 : Hp} {ts : TS}
theorem xn_callFnNP {Pre : PreT} {t : TA} {Ω' : List OA} {o : Addr → OA} (hs : Γ[i]? = some (some (va T a))) (hS : S (T.C (200 + a.i)) (mkSp Pre)) (ha : XA t Γ Ω As Ω1) (hp : Pre As Ω1 (RNP T Ω' o B)) (he : Ω' = Ω2) : XG (tCallFn i S t) Γ Ω (RNP T Ω2 o B) := he ▸ xg_callFn hs hS ha hp
theorem xn_callFnNPK {Pre : PreT} {t tk : TA} {ix : List Nat} {n m : Nat} {Ω' : List OA} {o : Addr → OA} (hs : Γ[i]? = some (some (va T a))) (hS : S (T.C (200 + a.i)) (mkSp Pre)) (ha : XA t Γ Ω As Ω1) (hk : XA tk Γ Ω1 Ks Ω2) (hp : Pre (prm ix (As ++ Ks)) Ω2 (RNP T Ω' o B)) (he : Ω' = Ω3) (h1 : As.length = n := by rfl) (h2 : Ks.length = m := by rfl) :
    XG (tCallFnN i S n m (fun vs zs => prm ix (vs ++ zs)) t tk) Γ Ω (RNP T Ω3 o B) := fun F σ H e hh Q q => by
  obtain ⟨v, hv, h3⟩ := e.2 i _ hs
  have h3 : v = .ref (T.C (200 + a.i)) := h3
  subst h3
  exact ⟨_, _, hv, hS, (xn_callNPK (E := E0) ha hk hp he h1 h2) F σ H e hh Q q⟩
theorem isD_np {α β : Type} [Rp α] [Dat α] [Rp β] [Dat β] {l : List α} {x : β} {p : Addr} {k : Nat} (h : Ω[k]? = some (lstA T p l)) : IsD T Ω (pvA T p (va T x)) (Dat.dat ((LF.mk l, x) : LF α × β)) := fun F H v hh a => by
  obtain ⟨t, w, rfl, hs, r2⟩ := a
  exact .tup (Same.tup hh.same hs) (.cons (isD_M h F H (.ref p) hh rfl) (.cons (Dat.dp hh.same r2) .nil))
/-- arguments, among them a pair of a new list at p -/
def XAN (t : TA) (Γ : List (Option VA)) (Ω : List OA) (As : Addr → List VA) (Ω2 : Addr → List OA) : Prop :=
  ∀ F σ H, Env F σ Γ → Holds F Ω H → ∀ Q : List V → Hp → Prop, (∀ F' vs H' p, Same F F' → Holds F' (Ω2 p) H' → AlA F' vs (As p) → Q vs H') → t σ H Q
theorem xan_np {t : TA} {ks : List (Nat × OA)} {L : List OA} {o : Addr → OA} (h1 : XG ta Γ Ω0 (RNP T (stt Ω ks L) o B)) (h2 : ∀ p, XA t Γ (stt Ω ks (L ++ [o p])) As (stt Ω ks (L ++ [o p]))) :
    XAN (tCons ta t) Γ Ω0 (fun p => pvA T p B :: As) (fun p => stt Ω ks (L ++ [o p])) := fun F σ H e hh Q q => by
  refine h1 F σ H e hh _ fun F1 x H1 Ω' e1 hh1 ⟨p, t, w, a, b, c, eo⟩ => ?_
  subst eo
  rw [stt_app] at hh1
  refine h2 p F1 σ H1 (e.mono e1) hh1 _ fun F2 ws H2 e2 hh2 a2 => ?_
  exact q F2 (x :: ws) H2 p (e1.trans e2) hh2 (.cons (show (pvA T p B).P F2 x from ⟨t, w, a, Same.tup e2 b, B.mono e2 c⟩) a2)
theorem xan_cons {t : TA} {Bs : Addr → List VA} {Ω' : Addr → List OA} (h1 : XE ta Γ Ω A Ω1) (h2 : XAN t Γ Ω1 Bs Ω') : XAN (tCons ta t) Γ Ω (fun p => A :: Bs p) Ω' := fun F σ H e hh Q q => by
  refine h1 F σ H e hh _ fun F1 x H1 Ωa e1 hh1 ⟨a1, o1⟩ => ?_
  subst o1
  refine h2 F1 σ H1 (e.mono e1) hh1 _ fun F2 xs H2 p e2 hh2 a2 => ?_
  exact q F2 (x :: xs) H2 p (e1.trans e2) hh2 (.cons (A.mono e2 a1) a2)
theorem xe_callAN {Pre : PreT} {E : XK} {t : TA} {Bs : Addr → List VA} {Ω' Ωb : Addr → List OA} {ks : List (Nat × OA)} {L : List OA} {o2 : Addr → OA} (h : XAN t Γ Ω0 Bs Ωb) (hp : ∀ p, Pre (Bs p) (Ωb p) (RV A (Ω' p))) (he : ∀ p, Ω' p = stt Ω ks (L ++ [o2 p])) :
    XE (tCall (mkSp Pre) [] E t) Γ Ω0 A (stt Ω ks L) := fun F σ H e hh Q q => by
  refine h F σ H e hh _ fun F1 ws H1 p e1 hh1 a1 => ?_
  refine ⟨F1, _, Bs p, _, hp p, ?_, hh1, fun F' v H' Ω3 e' hh' ⟨av, eo⟩ => ?_⟩
  · rw [List.append_nil]
    exact a1
  · subst eo
    rw [he p, ← stt_app] at hh'
    exact q F' v H' _ (e1.trans e') hh'.drop ⟨av, rfl⟩
/-- x, y, z = a new list, two values -/
theorem xs_par3N {j k : Nat} {t : TA} {ks ks2 : List (Nat × OA)} {L : List OA} {M : Addr → List OA} {o : Addr → OA} (h1 : XG ta Γ Ω0 (RN (stt Ω ks L) o)) (h2 : ∀ p, XA t Γ (stt Ω ks (L ++ [o p])) [A, B] (stt Ω ks2 (M p)))
    (q : ∀ p, XS ts D F0 (((Γ.set i (some (vr p))).set j (some A)).set k (some B)) (stt Ω ks2 (M p))) : XS (tSeq (tPar3 i j k (tCons ta t)) ts) D F0 Γ Ω0 := fun σ H ⟨F, f0, e, hh⟩ => by
  refine h1 F σ H e hh _ fun F1 x H1 Ω' e1 hh1 ⟨p, a1, o1⟩ => ?_
  subst a1 o1
  rw [stt_app] at hh1
  refine h2 p F1 σ H1 (e.mono e1) hh1 _ fun F2 vs H2 e2 hh2 a2 => ?_
  obtain ⟨v, w, rfl, b1, b2⟩ := alA2 a2
  exact ⟨_, v, w, rfl, q p _ H2 ⟨F2, f0.trans (e1.trans e2), ((((e.mono e1).mono e2).set (A := vr p) rfl).set b1).set b2, hh2⟩⟩
end
end VL

set_option Elab.async false
set_option linter.all false
set_option maxRecDepth 100000
/-! VL29: == and != of machines, with a new one, with a tuple; a machine made by keywords; in of a dict that changes; new lists told by a machine; a method of a new machine. -/
namespace VL
open PySem L2 PyProof.Rows
section
variable {T : TC} {Γ : List (Option VA)} {Ω Ω0 Ω1 Ω2 Ω3 : List OA} {A B C : VA} {As Ks : List VA} {ta tb te : TE} {D : Ends} {F0 : Hp} {ts : TS} {p p2 : Addr} {k k2 : Nat} {x y s : MS} {r : Bool}
theorem mach_at {F H : Hp} (hh : Holds F Ω H) (h : Ω[k]? = some (machA T p s)) : ∃ dx fs, H p = some (.ins (T.C 0) dx fs) := by
  obtain ⟨t, ⟨dx, d, en, ws, h1, h2, h3, h4⟩, st, _⟩ := hh.get h
  exact ⟨dx, _, st _ _ h1⟩
theorem xe_ownEqM {Pre : PreT} {Ω' : List OA} (ha : XE ta Γ Ω (vr p) Ω1) (hb : XE tb Γ Ω1 (vr p2) Ω2) (g1 : Ω2[k]? = some (machA T p x)) (g2 : Ω2[k2]? = some (machA T p2 y)) (hp : Pre [vr p, vr p2] Ω2 (RV (va T r) Ω')) (he : Ω' = Ω2) : XE (tOp (rOwnEq (T.C 0) (mkSp Pre)) ta tb) Γ Ω (va T r) Ω2 := xe_op ha hb fun F H u v hh a1 a2 Q q => by
  subst he
  obtain ⟨dx, fs, h1⟩ := mach_at hh g1
  obtain ⟨dx2, fs2, h2⟩ := mach_at hh g2
  refine ⟨p, p2, dx, dx2, _, _, a1, a2, h1, h2, F, _, _, _, hp, .cons a1 (.cons a2 .nil), hh, fun F' w H' Ω'' s' hh' ⟨aw, eo⟩ => ?_⟩
  subst eo
  exact ⟨r, aw, q F' _ H' s' hh' rfl⟩
theorem xe_ownNeM {Pre : PreT} {Ω' : List OA} (ha : XE ta Γ Ω (vr p) Ω1) (hb : XE tb Γ Ω1 (vr p2) Ω2) (g1 : Ω2[k]? = some (machA T p x)) (g2 : Ω2[k2]? = some (machA T p2 y)) (hp : Pre [vr p, vr p2] Ω2 (RV (va T r) Ω')) (he : Ω' = Ω2) : XE (tOp (rOwnNe (T.C 0) (mkSp Pre)) ta tb) Γ Ω (va T (!r)) Ω2 := xe_op ha hb fun F H u v hh a1 a2 Q q => by
  subst he
  obtain ⟨dx, fs, h1⟩ := mach_at hh g1
  obtain ⟨dx2, fs2, h2⟩ := mach_at hh g2
  refine ⟨p, p2, dx, dx2, _, _, a1, a2, h1, h2, F, _, _, _, hp, .cons a1 (.cons a2 .nil), hh, fun F' w H' Ω'' s' hh' ⟨aw, eo⟩ => ?_⟩
  subst eo
  exact ⟨r, aw, q F' _ H' s' hh' rfl⟩
/-- machine == a new machine -/
theorem xe_ownEqMF {Pre : PreT} {ks : List (Nat × OA)} {L : List OA} {Ω' : Addr → List OA} (ha : XE ta Γ Ω0 (vr p) Ω1) (hb : XG tb Γ Ω1 (RN (stt Ω ks L) (fun q => machA T q y))) (g1 : ∀ q, (stt Ω ks (L ++ [machA T q y]))[k]? = some (machA T p x))
    (hp : ∀ q, Pre [vr p, vr q] (stt Ω ks (L ++ [machA T q y])) (RV (va T r) (Ω' q))) (he : ∀ q, Ω' q = stt Ω ks (L ++ [machA T q y])) : XE (tOp (rOwnEq (T.C 0) (mkSp Pre)) ta tb) Γ Ω0 (va T r) (stt Ω ks L) := fun F σ H e hh Q q => by
  refine ha F σ H e hh _ fun F1 x1 H1 Ω' e1 hh1 ⟨a1, o1⟩ => ?_
  subst o1
  refine hb F1 σ H1 (e.mono e1) hh1 _ fun F2 y2 H2 Ωa e2 hh2 ⟨q2, a2, o2⟩ => ?_
  subst o2
  rw [stt_app] at hh2
  obtain ⟨dx, fs, m1⟩ := mach_at hh2 (g1 q2)
  obtain ⟨dx2, fs2, m2⟩ := mach_at hh2 (stt_getL (j := L.length) app_at)
  refine ⟨p, q2, dx, dx2, _, _, a1, a2, m1, m2, F2, _, [vr p, vr q2], _, hp q2, .cons a1 (.cons a2 .nil), hh2, fun F' w H' Ω'' s' hh' ⟨aw, eo⟩ => ?_⟩
  subst eo
  rw [he q2, ← stt_app] at hh'
  exact ⟨r, aw, q F' _ H' _ ((e1.trans e2).trans s') hh'.drop ⟨rfl, rfl⟩⟩
end
theorem xs_asgNN {T : TC} {Γ : List (Option VA)} {Ω : List OA} {ta tb : TE} {D : Ends} {F0 : Hp} {ts : TS} {i j : Nat} {o1 o2 : Addr → OA} {ks : List (Nat × OA)} {L : List OA} {Ω0 : List OA} (h1 : XG ta Γ Ω0 (RN (stt Ω ks L) o1)) (h2 : ∀ p, XG tb Γ (stt Ω ks (L ++ [o1 p])) (RN (stt Ω ks (L ++ [o1 p])) o2))
    (q : ∀ p r, XS ts D F0 ((Γ.set i (some (vr p))).set j (some (vr r))) (stt Ω ks (L ++ [o1 p] ++ [o2 r]))) :
    XS (tSeq (tAsg (tTup (tCons ta (tCons tb tNil))) (gTup T.K 2 (gCons (gName i) (gCons (gName j) gNil)))) ts) D F0 Γ Ω0 := fun σ H ⟨F, f0, e, hh⟩ => by
  refine h1 F σ H e hh _ fun F1 x H1 Ω' e1 hh1 ⟨p, a1, o1'⟩ => ?_
  subst o1'
  have a1 : x = V.ref p := a1
  subst a1
  rw [stt_app] at hh1
  refine h2 p F1 σ H1 (e.mono e1) hh1 _ fun F2 y H2 Ω'' e2 hh2 ⟨r, a2, o2'⟩ => ?_
  subst o2'
  have a2 : y = V.ref r := a2
  subst a2
  rw [stt_app] at hh2
  refine ⟨by show 2 ≤ sizeLine; decide, fun d hd => ?_⟩
  obtain ⟨hh3, e3⟩ := hh2.newF (u := .tup [.ref p, .ref r]) hd
  refine ⟨d, [.ref p, .ref r], rfl, .inl (.inl upd_same), rfl, .ref p, [.ref r], rfl, .ref r, [], rfl, rfl, ?_⟩
  exact q p r _ _ ⟨_, f0.trans ((e1.trans e2).trans e3), (((e.mono e1).mono e2).mono e3 |>.set (A := vr p) rfl).set (A := vr r) rfl, hh3⟩
/-! ### machine == a tuple -/
def otherT (K : PySem.W.Frag) (C : Addr) : Bool := PySem.W.notFirst K C (.type "tuple") && decide (PySem.W.kitOne K (.type "tuple") (.ref C) = some false)
def rOwnXT (K : PySem.W.Frag) (C : Addr) (sp : Sp) : R2 := fun x y H Q => ∃ a dx fs b xs, x = .ref a ∧ H a = some (.ins C dx fs) ∧ y = .ref b ∧ SqT K H b xs ∧ sp [x, y] H (fun v H' => v = .bl false ∧ Q (.bl false) H') E0
section
variable {X : Cx} {n : Nat} {C f : Addr} {fd : FuncData} {ps : List Str} {sp : Sp}
theorem op_ownXT (F : FnOk X.prog X.w X.K X.mg X.base CX0 n f fd ps sp) (own : PySem.W.findIn X.K (.ref C) "__eq__" = some (some (.ref f))) (isf : PySem.W.isFn X.K (.ref f) = true) (hb : Binds X.K fd ps []) (room : Room n X.A) (nb : otherT X.K C = true) : OpR X (compareOp .Eq) (rOwnXT X.K C sp) := by
  intro pins s σ H x y v u Q I r1 r2 h
  obtain ⟨a, dx, fs, b, xs, rfl, ha, rfl, hs, q⟩ := h
  obtain ⟨n1, nb⟩ := He.ba nb
  cases (show v = Value.ref a from r1)
  cases (show u = Value.ref b from r2)
  obtain ⟨mA, J, _⟩ := ins_get I.hok ha
  obtain ⟨od, J, _⟩ := J.look
  obtain ⟨m, fr⟩ := I.fr
  have r3 := call_own F hb room rfl I (show RelV (V.ref a) (Value.ref a) from rfl) (show RelV (V.ref b) (Value.ref b) from rfl) q
  obtain ⟨us, _, p1, _⟩ := I.tuple hs
  obtain ⟨o, ho, hc, _⟩ := p1
  have lk : PySem.W.Looks (model X.prog X.w) s.heap (typeOf (.ref b)) o.cls := (PySem.W.Looks.ld ho).andThen .now
  rw [hc] at lk
  refine PySem.W.cmp_K (op := .Eq) room.units0 fr I.ok.mod.kin J lk n1 own isf (wpAny_mono r3 (fun w s' z => ?_) fun _ _ z => z)
  obtain ⟨z, H', I', rz, ez, q'⟩ := z
  subst ez
  obtain rfl : w = Value.bool false := rz
  exact ⟨.bl false, H', I', rfl, q'⟩
structure CalEqT (P : Program) (w : World) (K : PySem.W.Frag) (mg : Str → Option Value) (base : Heap) (n : Nat) (C : Addr) (sp : Sp) : Prop where
  ex : ∃ f fd, FnOk P w K mg base CX0 n f fd ["self", "other"] sp ∧ otherT K C = true ∧ Meth K C "__eq__" f ∧ Binds K fd ["self", "other"] []
theorem op_eqXTK {K : PySem.W.Frag} (hK : X.K = K) (c : CalEqT X.prog X.w X.K X.mg X.base n C sp) (room : Room n X.A) : OpR X (compareOp .Eq) (rOwnXT K C sp) := by
  subst hK
  obtain ⟨f, fd, F, nb, me, hb⟩ := c.ex
  exact op_ownXT F me.1 me.2 hb room nb
end
/-- what __eq__ of a machine tells beside a tuple -/
def PreXT (T : TC) : PreT := fun As Ω R => ∃ (k0 : Nat) (p0 : Addr) (x0 : MS) (A : VA), As = [vr p0, A] ∧ Ω[k0]? = some (machA T p0 x0) ∧ (∀ F H v, Holds F Ω H → A.P F v → ∃ b xs, v = .ref b ∧ SqT T.K H b xs) ∧ R = RV (va T false) (stt Ω [] [])
section
variable {T : TC} {Γ : List (Option VA)} {Ω Ω0 Ω1 Ω2 Ω3 : List OA} {A B C : VA} {As Ks : List VA} {ta tb te : TE} {p : Addr} {k : Nat} {x s : MS} {r : Bool}
theorem isOT_pair {α β : Type} [Rp α] [Rp β] {x : α × β} {F H : Hp} {v : V} (hh : Holds F Ω H) (a : (va T x).P F v) : ∃ b xs, v = .ref b ∧ SqT T.K H b xs := by
  obtain ⟨t, y, w, rfl, ht, _⟩ := a
  exact ⟨t, _, rfl, Same.tup hh.same ht⟩
theorem ty_sqt {H : Hp} {b : Addr} {xs : List V} (h : SqT T.K H b xs) : TyX T.K H (.ref b) (.type "tuple") := by
  rcases h with (h | ⟨o, h⟩) | h
  · exact .base (.tup h)
  · exact .fTuple h
  · obtain ⟨o, _, _, e, c, _⟩ := h
    exact .kTuple e c
theorem xe_isOT {tc : TE} (nb : otherT T.K (T.C 0) = true) (ha : XE ta Γ Ω A Ω1) (hb : XE tc Γ Ω1 (vx (.ref (T.C 0))) Ω1) (hy : ∀ F H v, Holds F Ω1 H → A.P F v → ∃ b xs, v = .ref b ∧ SqT T.K H b xs) :
    XE (tCB (rIsi T.K) (tCons ta (tCons tc tNil))) Γ Ω (va T false) Ω1 := xe_cb (xa_cons ha (xa_cons hb xa_nil)) fun F H vs hh a Q q => by
  obtain ⟨v, w, rfl, a1, a2⟩ := alA2 a
  have a2 : w = .ref (T.C 0) := a2
  subst a2
  obtain ⟨b, xs, rfl, h⟩ := hy F H v hh a1
  obtain ⟨_, kt⟩ := He.ba nb
  exact ⟨_, _, _, _, false, rfl, .own _, ty_sqt h, of_decide_eq_true kt, q F _ H (Same.refl F) hh rfl⟩
theorem xe_ownXT (ha : XE ta Γ Ω (vr p) Ω1) (hb : XE tb Γ Ω1 B Ω2) (g1 : Ω2[k]? = some (machA T p x)) (hy : ∀ F H v, Holds F Ω2 H → B.P F v → ∃ b xs, v = .ref b ∧ SqT T.K H b xs) : XE (tOp (rOwnXT T.K (T.C 0) (mkSp (PreXT T))) ta tb) Γ Ω (va T false) Ω2 := xe_op ha hb fun F H u v hh a1 a2 Q q => by
  obtain ⟨dx, fs, h1⟩ := mach_at hh g1
  obtain ⟨b, xs, ev, hs⟩ := hy F H v hh a2
  refine ⟨p, dx, _, b, xs, a1, h1, ev, hs, F, Ω2, _, _, ⟨k, p, x, B, rfl, g1, hy, rfl⟩, .cons a1 (.cons a2 .nil), hh, fun F' w H' Ω'' s' hh' ⟨aw, eo⟩ => ?_⟩
  subst eo
  rw [cal0'] at hh'
  exact ⟨aw, q F' _ H' s' hh' rfl⟩
/-! ### in of a dict that changes; is not None -/
theorem xe_dinO {l : List (Str × Int)} {key : Str} (ha : XE ta Γ Ω (va T key) Ω1) (hb : XE tb Γ Ω1 (vr p) Ω2) (hk : Ω2[k]? = some (rawD p (dkv l))) : XE (tDIn ta tb) Γ Ω (va T ((l.lookup key).isSome)) Ω2 := fun F σ H e hh Q q => by
  refine ha F σ H e hh _ fun F1 x H1 Ω' e1 hh1 ⟨a1, o1⟩ => ?_
  subst o1
  refine hb F1 σ H1 (e.mono e1) hh1 _ fun F2 y H2 Ω' e2 hh2 ⟨a2, o2⟩ => ?_
  subst o2
  have a1 : x = V.str key := a1
  have a2 : y = V.ref p := a2
  subst a1 a2
  obtain ⟨t, h1, h3, _⟩ := hh2.get hk
  have h1 : t p = some (.dK (dkv l)) := h1
  refine ⟨p, (l.lookup key).map V.int, rfl, .inl ⟨dkv l, Sum.inr key, .inl (h3 _ _ h1), rfl, val_dkvO.symm⟩, ?_⟩
  rw [Option.isSome_map]
  exact q F2 _ H2 _ (e1.trans e2) hh2 ⟨rfl, rfl⟩
def rNoN : R2 := fun x y H Q => y = .non ∧ Q (.bl (!decide (x = .non))) H
theorem op_noN {X : Cx} : OpR X (compareOp .IsNot) rNoN := op_notN
theorem xe_notNU (ha : XE ta Γ Ω (va T ()) Ω1) (hb : XE tb Γ Ω1 (va T ()) Ω2) : XE (tOp rNoN ta tb) Γ Ω (va T false) Ω2 := xe_op ha hb fun F H u v hh a1 a2 Q q => by
  have a1 : u = .non := a1
  have a2 : v = .non := a2
  subst a1 a2
  exact (show V.non = V.non ∧ Q (.bl (!decide (V.non = V.non))) H from ⟨rfl, q F _ H (Same.refl F) hh rfl⟩)
/-! ### new lists that a machine tells -/
def Pre_Mach_tallyN (T : TC) : PreT := fun As Ω R => ∃ (k : Nat) (p : Addr) (s : MS), As = [vr p] ∧ Ω[k]? = some (machA T p s) ∧ R = RN Ω (fun q => lstA T q s.tally)
def Pre_Mach_walkN (T : TC) : PreT := fun As Ω R => ∃ (k : Nat) (p : Addr) (s : MS), As = [vr p] ∧ Ω[k]? = some (machA T p s) ∧ R = RN Ω (fun q => lstA T q s.wk)
theorem xn_tally {aW : Addr} {i j : Nat} {vs : List Nat} (mc : MCls T.K (T.C 0)) (hW : ∀ H, SqT T.K H aW (mwords.map V.str)) (hi : i ∈ vs) (ha : ((wip Γ vs).set i none)[j]? = some (some (vr p))) (hlt : i < (wip Γ vs).length) (hk : Ω[k]? = some (machA T p s)) :
    XG (tLc (iTup T.K (tC (.ref aW))) (gName i) tYes (tTup (tCons (tVar i) (tCons (tDGet (tFld T.K (tVar j) "counts") (tVar i)) tNil))) vs) Γ Ω (RN Ω fun q => lstA T q s.tally) := by
  refine xn_lc (fun _ : Unit => Ω) (lcM_all (fun w => (w, s.cnt w)) mwords) (xi_words hW) (fun a => tgt_name) (fun m hm => by rw [List.mem_singleton.mp hm]; exact hi) (by decide +kernel) fun a s1 o s2 hm h X => ⟨fun e => ?_, fun y e => ?_⟩
  · subst e; cases h
  · subst e
    cases h
    have hj : ((wip Γ vs).set i (some (va T a)))[j]? = some (some (vr p)) := by
      have ne : i ≠ j := fun z => by
        subst z
        rw [List.getElem?_set_self hlt] at ha
        cases ha
      rw [List.getElem?_set_ne ne] at ha ⊢
      exact ha
    have hi' : ((wip Γ vs).set i (some (va T a)))[i]? = some (some (va T a)) := List.getElem?_set_self hlt
    exact ⟨xt_yes, xe_tup2 (xa_cons (xe_var hi') (xa_cons (xe_cnt mc hj hi' (app_lt hk) hm) xa_nil))⟩
theorem xn_walk {j : Nat} (mc : MCls T.K (T.C 0)) (ha : Γ[j]? = some (some (vr p))) (hk : Ω[k]? = some (machA T p s)) : XG (tCB (rList T.K) (tCons (tFld T.K (tVar j) "entered") tNil)) Γ Ω (RN Ω fun q => lstA T q s.wk) := fun F σ H e hh Q q => by
  obtain ⟨v0, a0, b0⟩ := e.2 j _ ha
  obtain ⟨t, ⟨dx, d, en, ws, m1, m2, m3, m4⟩, st, _⟩ := hh.get hk
  refine ⟨v0, a0, p, _, dx, _, _, b0, st _ _ m1, mc.cl, mc.ne, mf_entered d en, en, ws, rfl, .inl (SqL.of (st _ _ m3)), fun l hl => ?_⟩
  exact q _ _ _ _ (Same.refl F) (hh.newL (o := lstA T l s.wk) hl ⟨_, upd_same, m4⟩) ⟨l, rfl, rfl⟩
theorem xn_mcall {m : Str} {Pre : PreT} {E : XK} {ta : TE} {t : TA} {Ω' : List OA} {o : Addr → OA} (ha : XE ta Γ Ω (vr p) Ω) (hk : Ω[k]? = some (machA T p s)) (hx : XA t Γ Ω As Ω1) (hp : Pre (vr p :: As) Ω1 (RN Ω' o)) (he : Ω' = Ω2)
    (hm : (m == "width" || m == "cutoff" || m == "counts" || m == "entered") = false := by decide +kernel) : XG (tMeth (T.C 0) m (mkSp Pre) [] E ta t) Γ Ω (RN Ω2 o) := fun F σ H e hh Q q => by
  subst he
  refine ha F σ H e hh _ fun F1 x H1 Ωa e1 hh1 ⟨a1, o1⟩ => ?_
  subst o1
  obtain ⟨t0, ⟨dx, d, en, ws, m1, m2, m3, m4⟩, st, _⟩ := hh1.get hk
  refine ⟨p, dx, _, a1, st _ _ m1, mf_none hm, ?_⟩
  refine hx F1 σ H1 (e.mono e1) hh1 _ fun F2 vs H2 e2 hh2 a2 => ?_
  refine ⟨F2, Ω1, vr p :: As, _, hp, ?_, hh2, fun F' v H' Ω3 e' hh' r => q F' v H' Ω3 ((e1.trans e2).trans e') hh' r⟩
  rw [List.append_nil]
  exact .cons a1 a2
/-- a method of a new machine -/
theorem xe_mcallF {m : Str} {Pre : PreT} {E : XK} {ta : TE} {ks : List (Nat × OA)} {L : List OA} {Ω' : Addr → List OA} (h1 : XG ta Γ Ω0 (RN (stt Ω ks L) (fun q => machA T q s))) (hp : ∀ q, Pre [vr q] (stt Ω ks (L ++ [machA T q s])) (RV A (Ω' q))) (he : ∀ q, Ω' q = stt Ω ks (L ++ [machA T q s]))
    (hm : (m == "width" || m == "cutoff" || m == "counts" || m == "entered") = false := by decide +kernel) : XE (tMeth (T.C 0) m (mkSp Pre) [] E ta tNil) Γ Ω0 A (stt Ω ks L) := fun F σ H e hh Q q => by
  refine h1 F σ H e hh _ fun F1 x H1 Ωa e1 hh1 ⟨p, a1, o1⟩ => ?_
  subst o1
  rw [stt_app] at hh1
  have hg : (stt Ω ks (L ++ [machA T p s]))[Ω.length + L.length]? = some (machA T p s) := stt_getL (j := L.length) app_at
  obtain ⟨t0, ⟨dx, d, en, ws, m1, m2, m3, m4⟩, st, _⟩ := hh1.get hg
  refine ⟨p, dx, _, a1, st _ _ m1, mf_none hm, ?_⟩
  refine ⟨F1, _, [vr p], _, hp p, ?_, hh1, fun F' v H' Ω3 e' hh' ⟨av, eo⟩ => ?_⟩
  · exact .cons a1 .nil
  · subst eo
    rw [he p, ← stt_app] at hh'
    exact q F' v H' _ (e1.trans e') hh'.drop ⟨av, rfl⟩
theorem pe_cal0 {X : Cx} {k : Nat} {x : Str} {ps : List Str} {sp : Sp} {p pos : Pos} (C : Cal X.prog X.w X.K X.mg X.base k x ps sp) (hr : Room k X.A) (hg : Gl X x) (hdb : (x == ("__debug__" : Str)) = false := by decide) :
    PE X (.Call (.Name x p) [] [] pos) (tCall sp [] E0 tNil) := by
  obtain ⟨f, fd, F, hm, hk, hb⟩ := C.ex
  exact pe_call0 F hr hg hm hk hb .nil pass0 hdb
/-! ### a machine by keywords -/
theorem xn_makeK {C : Addr} {Pre : PreT} {E : XK} {tk : TA} {ix : List Nat} {m : Nat} {o : Addr → OA} (hk : XA tk Γ Ω Ks Ω1) (hp : ∀ x, Pre (prm ix (vr x :: Ks)) (Ω1 ++ [newA C x]) (RV (va T ()) (Ω1 ++ [o x]))) (hm : Ks.length = m := by rfl) :
    XG (tMakeK C 0 m (mkSp Pre) (fun vs zs => prm ix (vs ++ zs)) E tNil tk) Γ Ω (RN Ω1 o) := fun F σ H e hh Q q => by
  refine hk F σ H e hh _ fun F1 xs H1 e1 hh1 a1 => ?_
  refine ⟨rfl, a1.len.trans hm, ?_⟩
  intro x dx nx ndx nex
  have hh2 : Holds F1 (Ω1 ++ [newA C x]) (upd (upd H1 dx (.own x)) x (.ins C dx [])) := by
    refine hh1.newO (t := upd (fun _ => none) x (.ins C dx [])) (fun b y r => by rw [sng_some r]; exact nx) (fun b y r => ?_) (fun b y r => ?_) ⟨dx, upd_same⟩
    · rw [upd_ne (ne_of_none r nx), upd_ne (ne_of_none r ndx)]; exact r
    · have hb := sng_some r
      subst hb
      rw [upd_same] at r ⊢; exact r
  refine ⟨F1, Ω1 ++ [newA C x], prm ix (vr x :: Ks), _, hp x, prm_relA ix (.cons (show (vr x).P F1 (.ref x) from rfl) a1), hh2, fun F' v H' Ω' e' hh' ⟨hv, ho⟩ => ⟨hv, ?_⟩⟩
  subst ho
  exact q F' _ H' _ (e1.trans e') hh' ⟨x, rfl, rfl⟩
structure CalCK (P : Program) (w : World) (K : PySem.W.Frag) (mg : Str → Option Value) (base : Heap) (k : Nat) (x : Str) (C : Addr) (ps ks : List Str) (ix : List Nat) (sp : Sp) : Prop where
  ex : ∃ f fd g, FnOk P w K mg base CX0 k f fd ps sp ∧ mg x = some (.ref C) ∧ Mk K C f ∧ KBn K fd ps 1 ks g (fun vs zs => prm ix (vs ++ zs))
theorem pe_calCK0 {X : Cx} {k : Nat} {x : Str} {C : Addr} {ps ks : List Str} {ix : List Nat} {sp : Sp} {p pos : Pos} {kws : List Keyword} {tk : TA} (c : CalCK X.prog X.w X.K X.mg X.base k x C ps ks ix sp) (hr : Room (k + 1) X.A) (hg : Gl X x) (hkw : PK X kws tk)
    (hall : (backToKw pos (keywordEach kws X.env)).all (·.1.isSome) = true := by rfl) (hks : (backToKw pos (keywordEach kws X.env)).filterMap (·.1) = ks := by rfl) (hdb : (x == ("__debug__" : Str)) = false := by decide)
    (hpl : ((backTo pos (starEach [] X.env)).any (·.1) || (backToKw pos (keywordEach kws X.env)).any (·.1.isNone)) = false := by rfl) :
    PE X (.Call (.Name x p) [] kws pos) (tMakeK C 0 ks.length sp (fun vs zs => prm ix (vs ++ zs)) E0 tNil tk) := by
  obtain ⟨f, fd, g, F, hm, M, hb⟩ := c.ex
  exact pe_makeK0 M F hr hg hm hb pass0 hkw hall hks hdb hpl
end
end VL

set_option Elab.async false
set_option linter.all false
set_option maxRecDepth 100000
/-! VL30: a dict with three numbers, a dict and a list that change (a law's own tally and walk): made, its parts; ways that are never taken; ranges by a step; max of a list. -/
namespace VL
open PySem L2 PyProof.Rows
def wkv (b c B : Int) (d e : Addr) : List (Key × V) := [(Sum.inr ("bits" : Str), .int b), (Sum.inr ("cutoff" : Str), .int c), (Sum.inr ("base" : Str), .int B), (Sum.inr ("counts" : Str), .ref d), (Sum.inr ("walk" : Str), .ref e)]
section
variable {b c B : Int} {d e : Addr}
theorem valV_hit {k : Key} {v : V} {r : List (Key × V)} : valV ((k, v) :: r) k = some v := by
  unfold valV
  rw [List.find?_cons_of_pos (p := fun kv : Key × V => decide (kv.1 = k)) (decide_eq_true rfl)]
  rfl
theorem valV_miss {j k : Key} {v : V} {r : List (Key × V)} (h : j ≠ k) : valV ((j, v) :: r) k = valV r k := by
  unfold valV
  rw [List.find?_cons_of_neg (p := fun kv : Key × V => decide (kv.1 = k)) (fun q => h (of_decide_eq_true q))]
theorem ks_ne {x y : Str} (h : x ≠ y) : (Sum.inr x : Key) ≠ Sum.inr y := fun e => h (Sum.inr.inj e)
theorem wkv_bits : valV (wkv b c B d e) (Sum.inr ("bits" : Str) : Key) = some (V.int b) := valV_hit
theorem wkv_cutoff : valV (wkv b c B d e) (Sum.inr ("cutoff" : Str) : Key) = some (V.int c) := (valV_miss (ks_ne (by decide +kernel))).trans (valV_hit)
theorem wkv_base : valV (wkv b c B d e) (Sum.inr ("base" : Str) : Key) = some (V.int B) := (valV_miss (ks_ne (by decide +kernel))).trans ((valV_miss (ks_ne (by decide +kernel))).trans (valV_hit))
theorem wkv_counts : valV (wkv b c B d e) (Sum.inr ("counts" : Str) : Key) = some (V.ref d) := (valV_miss (ks_ne (by decide +kernel))).trans ((valV_miss (ks_ne (by decide +kernel))).trans ((valV_miss (ks_ne (by decide +kernel))).trans (valV_hit)))
theorem wkv_walk : valV (wkv b c B d e) (Sum.inr ("walk" : Str) : Key) = some (V.ref e) := (valV_miss (ks_ne (by decide +kernel))).trans ((valV_miss (ks_ne (by decide +kernel))).trans ((valV_miss (ks_ne (by decide +kernel))).trans ((valV_miss (ks_ne (by decide +kernel))).trans (valV_hit))))
end
section
variable {T : TC} {Γ : List (Option VA)} {Ω Ω0 Ω1 Ω2 Ω3 : List OA} {A B' C : VA} {ta tb te : TE} {D : Ends} {F0 : Hp} {ts : TS} {b c B : Int} {p : Addr} {k : Nat}
theorem xe_wget {kvs : List (Key × V)} {key : Str} {v : V} (ha : XE ta Γ Ω (vr p) Ω1) (hb : XE tb Γ Ω1 (va T key) Ω2) (hk : Ω2[k]? = some (rawD p kvs)) (hv : valV kvs (Sum.inr key : Key) = some v) (hA : ∀ F, A.P F v) : XE (tDGet ta tb) Γ Ω A Ω2 := fun F σ H e hh Q q => by
  refine ha F σ H e hh _ fun F1 x H1 Ω' e1 hh1 ⟨a1, o1⟩ => ?_
  subst o1
  refine hb F1 σ H1 (e.mono e1) hh1 _ fun F2 y H2 Ω' e2 hh2 ⟨a2, o2⟩ => ?_
  subst o2
  have a1 : x = V.ref p := a1
  have a2 : y = V.str key := a2
  subst a1 a2
  obtain ⟨t, h1, h3, _⟩ := hh2.get hk
  have h1 : t p = some (.dK kvs) := h1
  exact ⟨p, v, rfl, .inl ⟨kvs, Sum.inr key, .inl (h3 _ _ h1), rfl, hv.symm⟩, q F2 _ H2 _ (e1.trans e2) hh2 ⟨hA F2, rfl⟩⟩
/-- such a dict, new -/
def RNW (T : TC) (Ω2 : List OA) (b c B : Int) : Hp → V → List OA → Prop := fun _ v Ω' => ∃ p d e, v = .ref p ∧ Ω' = Ω2 ++ [rawD p (wkv b c B d e), rawD d (dkv []), lstA T e ([] : List (T3 Str Int Int))]
theorem stt_apps {ks : List (Nat × OA)} {L M : List OA} : stt Ω ks L ++ M = stt Ω ks (L ++ M) := List.append_assoc _ _ _
theorem merge_wkv {d e : Addr} : mergeK [] (wkv b c B d e) = wkv b c B d e := by
  unfold wkv mergeK putK
  rfl
theorem xg_world {t1 t2 t3 t5 : TE} {ks : List (Nat × OA)} {L : List OA} (h1 : ∀ X, XE t1 Γ (stt Ω ks (L ++ [X])) (va T b) (stt Ω ks (L ++ [X]))) (h2 : ∀ X, XE t2 Γ (stt Ω ks (L ++ [X])) (va T c) (stt Ω ks (L ++ [X]))) (h3 : ∀ X, XE t3 Γ (stt Ω ks (L ++ [X])) (va T B) (stt Ω ks (L ++ [X])))
    (h5 : ∀ M, XG t5 Γ (stt Ω ks (L ++ M)) (RN (stt Ω ks (L ++ M)) (fun q => lstA T q ([] : List (T3 Str Int Int))))) :
    XG (tDisp [(tC (.str "bits"), t1), (tC (.str "cutoff"), t2), (tC (.str "base"), t3), (tC (.str "counts"), tDNewK), (tC (.str "walk"), t5)]) Γ (stt Ω ks L) (RNW T (stt Ω ks L) b c B) := fun F σ H e hh Q q => by
  intro p hp
  have hh1 := hh.newD (kvs := []) hp
  rw [stt_apps] at hh1
  refine h1 _ F σ _ e hh1 _ fun F1 x1 H1 Ωa e1 hh1 ⟨a1, o1⟩ => ?_
  subst o1
  refine h2 _ F1 σ H1 (e.mono e1) hh1 _ fun F2 x2 H2 Ωa e2 hh2 ⟨a2, o2⟩ => ?_
  subst o2
  refine h3 _ F2 σ H2 ((e.mono e1).mono e2) hh2 _ fun F3 x3 H3 Ωa e3 hh3 ⟨a3, o3⟩ => ?_
  subst o3
  intro d hd
  have hh4 := hh3.newD (kvs := []) hd
  rw [stt_apps, List.append_assoc] at hh4
  refine h5 _ F3 σ _ (((e.mono e1).mono e2).mono e3) hh4 _ fun F4 x5 H4 Ωa e4 hh5 ⟨l, a5, o5⟩ => ?_
  subst o5
  have a1 : x1 = .int b := a1
  have a2 : x2 = .int c := a2
  have a3 : x3 = .int B := a3
  subst a1 a2 a3 a5
  rw [stt_apps, List.append_assoc, List.append_assoc] at hh5
  have hg : (stt Ω ks (L ++ ([rawD p []] ++ ([rawD d []] ++ [lstA T l ([] : List (T3 Str Int Int))]))))[Ω.length + L.length]? = some (rawD p []) := stt_getL (j := L.length) (by simp)
  obtain ⟨t, g1, g3, g4, g5⟩ := hh5.get hg
  have g1 : t p = some (.dK []) := g1
  refine ⟨g3 _ _ g1, wkv b c B d l, rfl, by show 5 ≤ 15; decide, ?_⟩
  rw [merge_wkv]
  have := g5 (rawD p (wkv b c B d l)) p (.dK []) (.dK (wkv b c B d l)) g1 upd_same
  refine q F4 _ _ _ (((e1.trans e2).trans e3).trans e4) this ⟨p, d, l, rfl, ?_⟩
  rw [stt_setL, stt_apps, List.set_append_right _ _ (Nat.le_refl _), Nat.sub_self]
  rfl
theorem xs_parWN {i j : Nat} {ks : List (Nat × OA)} {L : List OA} {o : Addr → OA} (h1 : XG ta Γ Ω0 (RNW T (stt Ω ks L) b c B)) (h2 : ∀ p d e, XG tb Γ (stt Ω ks (L ++ [rawD p (wkv b c B d e), rawD d (dkv []), lstA T e ([] : List (T3 Str Int Int))])) (RN (stt Ω ks (L ++ [rawD p (wkv b c B d e), rawD d (dkv []), lstA T e ([] : List (T3 Str Int Int))])) o))
    (q : ∀ p d e r, XS ts D F0 ((Γ.set i (some (vr p))).set j (some (vr r))) (stt Ω ks (L ++ [rawD p (wkv b c B d e), rawD d (dkv []), lstA T e ([] : List (T3 Str Int Int)), o r]))) : XS (tSeq (tPar i j (tCons ta (tCons tb tNil))) ts) D F0 Γ Ω0 := fun σ H ⟨F, f0, e, hh⟩ => by
  refine h1 F σ H e hh _ fun F1 x H1 Ω' e1 hh1 ⟨p, d, l, a1, o1⟩ => ?_
  subst a1 o1
  rw [stt_apps] at hh1
  refine h2 p d l F1 σ H1 (e.mono e1) hh1 _ fun F2 y H2 Ω' e2 hh2 ⟨r, a2, o2⟩ => ?_
  subst a2 o2
  rw [stt_apps, List.append_assoc] at hh2
  exact ⟨_, _, rfl, q p d l r _ H2 ⟨F2, f0.trans (e1.trans e2), (((e.mono e1).mono e2).set (A := vr p) rfl).set (A := vr r) rfl, hh2⟩⟩
theorem xe_fzE {l : List (Str × Int)} (ha : XE te Γ Ω (vr p) Ω) (hk : Ω[k]? = some (rawD p (dkv l))) (he : Ω.set k (fzDA p l) = Ω2) : XE (tFz te) Γ Ω (va T (DF.mk l)) Ω2 := fun F σ H e hh Q q => by
  subst he
  refine ha F σ H e hh _ fun F1 x H1 Ω' e1 hh1 ⟨a1, o1⟩ => ?_
  subst o1
  have a1 : x = V.ref p := a1
  subst a1
  obtain ⟨t, h3, h4, _⟩ := hh1.get hk
  have h3 : t p = some (.dK (dkv l)) := h3
  refine ⟨p, dkv l, rfl, h4 _ _ h3, fun od => ?_⟩
  obtain ⟨hh', s'⟩ := hh1.fzAt (od := od) hk
  exact q _ _ _ _ (e1.trans s') hh' ⟨⟨p, od, rfl, upd_same⟩, rfl⟩
/-- a tuple of a number, a dict and a list that is changed no more -/
theorem xe_fzL3 {α : Type} [Rp α] {β γ : Type} [Rp β] [Rp γ] {x : β} {y : γ} {wl : List α} {t : TA} {ks : List (Nat × OA)} {L : List OA} {j : Nat} (h : XA t Γ Ω0 [va T x, va T y, vr p] (stt Ω ks L)) (hj : L[j]? = some (lstA T p wl)) : XE (tTup t) Γ Ω0 (va T (T3.mk x y (LF.mk wl))) (stt Ω ks (L.set j nilA)) := fun F σ H e hh Q q => by
  refine h F σ H e hh _ fun F1 xs H1 e1 hh1 a1 => ?_
  cases a1 with
  | cons b0 a1 =>
    obtain ⟨v, w, rfl, b1, b2⟩ := alA2 a1
    have b2 : w = V.ref p := b2
    subst b2
    obtain ⟨F', u, s1, s2, ⟨vs, ht, al⟩, hh'⟩ := hh1.freezeAt (stt_getL hj)
    rw [stt_setL] at hh'
    refine ⟨by show 3 ≤ sizeLine; decide, fun d hd => ?_⟩
    obtain ⟨hh2, e2⟩ := hh'.newF (u := .tup [_, v, .ref p]) hd
    exact q _ _ _ _ ((e1.trans s1).trans e2) hh2 ⟨⟨d, _, v, .ref p, rfl, SqT.of upd_same, Rp.mono (s1.trans e2) b0, Rp.mono (s1.trans e2) b1, p, vs, rfl, e2 _ _ (s2 _ _ ht), al.mono (s1.trans e2)⟩, rfl⟩
/-! ### is None -/
def rIsNo : R2 := fun x y H Q => y = .non ∧ Q (.bl (decide (x = .non))) H
theorem op_isNo {X : Cx} : OpR X (compareOp .Is) rIsNo := op_isN
theorem xe_isNI {i : Int} (ha : XE ta Γ Ω (va T i) Ω1) (hb : XE tb Γ Ω1 (va T ()) Ω2) : XE (tOp rIsNo ta tb) Γ Ω (va T false) Ω2 := xe_op ha hb fun F H u v hh a1 a2 Q q => by
  have a1 : u = .int i := a1
  have a2 : v = .non := a2
  subst a1 a2
  exact ⟨rfl, q F _ H (Same.refl F) hh rfl⟩
theorem xe_isNU (ha : XE ta Γ Ω (va T ()) Ω1) (hb : XE tb Γ Ω1 (va T ()) Ω2) : XE (tOp rIsNo ta tb) Γ Ω (va T true) Ω2 := xe_op ha hb fun F H u v hh a1 a2 Q q => by
  have a1 : u = .non := a1
  have a2 : v = .non := a2
  subst a1 a2
  exact ⟨rfl, q F _ H (Same.refl F) hh rfl⟩
def tNo : TE := fun _ _ _ => False
theorem pe_no {X : Cx} {e : Expr} : PE X e tNo := ⟨fun _ _ _ _ _ _ h => h.elim⟩
/-! ### max of a list -/
def maxL : List Int → Int
  | [] => 0
  | [a] => a
  | a :: r => max a (maxL r)
theorem maxL_is : ∀ {l : List Int} {m : Int}, m ∈ l → (∀ y, y ∈ l → y ≤ m) → m = maxL l
  | [], m, h, _ => by cases h
  | [a], m, h, _ => List.mem_singleton.mp h
  | a :: b :: r, m, h, k => by
    show m = max a (maxL (b :: r))
    have ha := k a List.mem_cons_self
    rcases List.mem_cons.mp h with e | h'
    · subst e
      have : maxL (b :: r) ≤ m := by
        have key : ∀ (l : List Int), l ≠ [] → maxL l ∈ l := fun l => by
          induction l with
          | nil => intro h; exact absurd rfl h
          | cons x xs ih =>
            intro _
            cases xs with
            | nil => exact List.mem_cons_self
            | cons y ys =>
              show max x (maxL (y :: ys)) ∈ _
              rcases Int.le_total x (maxL (y :: ys)) with h | h
              · rw [Int.max_eq_right h]; exact List.mem_cons_of_mem _ (ih (List.cons_ne_nil _ _))
              · rw [Int.max_eq_left h]; exact List.mem_cons_self
        exact k _ (List.mem_cons_of_mem _ (key _ (List.cons_ne_nil _ _)))
      omega
    · have := maxL_is h' fun y hy => k y (List.mem_cons_of_mem _ hy)
      rw [← this]
      omega
theorem al_ints {F : Hp} {ws : List V} {l : List Int} (al : Al T F ws l) : ws = l.map V.int := by
  induction al with
  | nil => rfl
  | cons h _ ih => rw [List.map_cons, ← ih, show _ = V.int _ from h]
theorem xe_maxL {l : List Int} (ha : XE te Γ Ω A Ω1) (hl : IsLs T Ω1 A l) (h0 : 0 < l.length) : XE (tCB (rMax T.K) (tCons te tNil)) Γ Ω (va T (maxL l)) Ω1 := xe_cb (xa_cons ha xa_nil) fun F H vs hh a Q q => by
  obtain ⟨v, rfl, a1⟩ := alA1 a
  obtain ⟨p, ws, rfl, hs, al⟩ := hl F H v hh a1
  refine ⟨p, l, rfl, ?_, h0, fun m h1 h2 => ?_⟩
  · rw [← al_ints al]
    exact SqL.of hs
  · rw [maxL_is h1 h2]
    exact q F _ H (Same.refl F) hh rfl
theorem cr_maxK {X : Cx} {K : PySem.W.Frag} (h : X.K = K) (hc : X.calm = true) : CallR X (.builtin "max") (rMax K) := h ▸ cr_max hc
end
end VL
namespace VL
open PySem L2 PyProof.Rows
/-! ### range(0, j, c) -/
def rngS (c : Int) (n : Nat) : List Int := (List.range n).map fun (k : Nat) => 0 + (k : Int) * c
def CRg (j c : Int) : Prop := 0 < c ∧ c < 2 ^ 30 ∧ 0 ≤ j ∧ j < 2 ^ 30
theorem wk_rangeS {n : Nat} {c : Int} {T : TC} : Wk (Itc 0 c n) (fun _ => True) (rngS c n) (fun a => va T a) where
  mono := fun _ _ _ _ => trivial
  go := fun i F Ω H _ _ hi => by
    have hi : i < n := by simpa [rngS] using hi
    exact hi
  stop := fun F Ω H _ _ => by show n ≤ _; simp [rngS]
  yld := fun i a F Ω H x H' _ hh hx y => by
    obtain ⟨e, y⟩ := y
    subst e y
    refine ⟨F, Same.refl F, hh, ?_⟩
    show V.int _ = V.int a
    unfold rngS at hx
    rw [List.getElem?_map] at hx
    cases hr : (List.range n)[i]? with
    | none => rw [hr] at hx; cases hx
    | some k =>
      rw [hr] at hx
      have hk : i = k := by
        obtain ⟨h1, h2⟩ := List.getElem?_eq_some_iff.mp hr
        rw [List.getElem_range] at h2
        exact h2
      subst hk
      cases hx
      rfl
theorem rgc_ok {j c : Int} (h : CRg j c) : RgC 0 j c ((j + c - 1) / c).toNat := by
  obtain ⟨h1, h2, h3, h4⟩ := h
  have e := rangeSize_pos (len := j) (c := c) (by omega) h3
  have q0 : 0 ≤ (j + c - 1) / c := Int.ediv_nonneg (by omega) (by omega)
  have q1 : (j + c - 1) / c ≤ j + c - 1 := Int.ediv_le_self _ (by omega)
  refine ⟨by omega, by omega, ?_, by rw [e]; omega⟩
  unfold Builtin.Range.small
  rw [e]
  simp only [Builtin.Range.rangeFitsLong, Bool.and_eq_true, Bool.or_eq_true, decide_eq_true_eq, beq_iff_eq, show c > 0 from h1, if_true]
  omega
section
variable {T : TC} {Γ : List (Option VA)} {Ω Ω1 Ω2 : List OA} {B' : VA} {As : List VA}
theorem xi_rangeS {j c : Int} {ta : TA} (ha : XA ta Γ Ω [va T (0 : Int), va T j, va T c] Ω1) (h : CRg j c) : XI (iRng3 ta) Γ Ω (rngS c ((j + c - 1) / c).toNat) (fun a => va T a) Ω1 := fun F σ H e hh R r => by
  refine ha F σ H e hh _ fun F1 vs H1 e1 hh1 a1 => ?_
  cases a1 with
  | cons a1 t =>
    obtain ⟨v, w, rfl, a2, a3⟩ := alA2 t
    have a1 : _ = V.int 0 := a1
    have a2 : v = .int j := a2
    have a3 : w = .int c := a3
    subst a1 a2 a3
    exact ⟨0, j, c, _, rfl, rgc_ok h, r F1 _ H1 _ e1 hh1 wk_rangeS trivial⟩
theorem xn_callW {Pre : PreT} {E : XK} {t : TA} {Ω' : List OA} {b c B : Int} (ha : XA t Γ Ω As Ω1) (hp : Pre As Ω1 (RNW T Ω' b c B)) (he : Ω' = Ω2) : XG (tCall (mkSp Pre) [] E t) Γ Ω (RNW T Ω2 b c B) := he ▸ xg_call ha hp
end
end VL

set_option Elab.async false
set_option linter.all false
set_option maxRecDepth 100000
/-! VL31: reversed(range(n)). -/
namespace VL
open PySem L2 PyProof.Rows
section
variable {T : TC} {Γ : List (Option VA)} {Ω Ω1 Ω2 : List OA} {A B C : VA} {ta tb te : TE}
theorem xi_revR {i : Int} (ha : XE te Γ Ω (va T i) Ω1) (h1 : -(2 ^ 62) ≤ i ∧ i < 2 ^ 62) : XI (iRevR (tRg1 te)) Γ Ω (rngD (i - 1) i.toNat) (fun a => va T a) Ω1 := fun F σ H e hh R r => by
  refine ha F σ H e hh _ fun F1 v H1 Ω' e1 hh1 ⟨a1, o1⟩ => ?_
  subst o1
  have a1 : v = .int i := a1
  refine ⟨i, a1, by omega, by decide, h1.1, h1.2, ?_⟩
  by_cases hi : 0 ≤ i
  · have e1' : (0 : Int) + (((i - 0).toNat : Nat) : Int) - 1 = i - 1 := by omega
    have e2' : (i - 0).toNat = i.toNat := by omega
    rw [e1', e2']
    exact r F1 _ H1 _ e1 hh1 wk_rangeD trivial
  · have e2' : (i - 0).toNat = 0 := by omega
    have e3' : i.toNat = 0 := by omega
    have hz : rngD (i - 1) i.toNat = rngD (0 + ((0 : Nat) : Int) - 1) 0 := by rw [e3']; rfl
    rw [hz] at r
    rw [e2']
    exact r F1 _ H1 _ e1 hh1 wk_rangeD trivial
theorem Holds.dropMid {F H : Hp} {Ω : List OA} {o o2 : OA} (h : Holds F (Ω ++ [o] ++ [o2]) H) : Holds F (Ω ++ [o2]) H := by
  obtain ⟨ts, h1, h2, h3, h4, h5⟩ := h
  have len : (Ω ++ [o] ++ [o2]).length = Ω.length + 2 := by simp
  have len2 : (Ω ++ [o2]).length = Ω.length + 1 := by simp
  refine ⟨fun i => if i = Ω.length then ts (Ω.length + 1) else ts i, fun i x q => ?_, h2, fun i q => ?_, fun i b x q e => ?_, fun i j b x qi qj ne e => ?_⟩
  · show x.P F (if i = Ω.length then _ else ts i)
    by_cases hi : i = Ω.length
    · subst hi
      rw [app_at] at q
      cases q
      rw [if_pos rfl]
      exact h1 (Ω.length + 1) _ (by simp)
    · rw [if_neg hi]
      have lt := getlt q
      rw [len2] at lt
      rw [List.getElem?_append_left (by omega)] at q
      exact h1 i x (app_lt (app_lt q))
  · show Same (if i = Ω.length then _ else ts i) H
    rw [len2] at q
    by_cases hi : i = Ω.length
    · rw [if_pos hi]; exact h3 _ (by omega)
    · rw [if_neg hi]; exact h3 _ (by omega)
  · rw [len2] at q
    have e : (if i = Ω.length then ts (Ω.length + 1) else ts i) b = some x := e
    by_cases hi : i = Ω.length
    · rw [if_pos hi] at e; exact h4 _ b x (by omega) e
    · rw [if_neg hi] at e; exact h4 _ b x (by omega) e
  · rw [len2] at qi qj
    have e : (if i = Ω.length then ts (Ω.length + 1) else ts i) b = some x := e
    show (if j = Ω.length then ts (Ω.length + 1) else ts j) b = none
    by_cases hi : i = Ω.length
    · rw [if_pos hi] at e
      rw [if_neg (fun z => ne (hi.trans z.symm))]
      exact h5 (Ω.length + 1) j b x (by omega) (by omega) (by omega) e
    · rw [if_neg hi] at e
      by_cases hj : j = Ω.length
      · rw [if_pos hj]; exact h5 i (Ω.length + 1) b x (by omega) (by omega) (by omega) e
      · rw [if_neg hj]; exact h5 i j b x (by omega) (by omega) ne e
/-- f(a new thing, ..) makes a new thing: the first one is left -/
theorem xn_callF2 {Ω0 : List OA} {Pre : PreT} {E : XK} {t : TA} {As : List VA} {ks : List (Nat × OA)} {L : List OA} {o o2 n : Addr → OA} {Ω' : Addr → List OA} (h1 : XG ta Γ Ω0 (RN (stt Ω ks L) o)) (h2 : ∀ p, XA t Γ (stt Ω ks (L ++ [o p])) As (stt Ω ks (L ++ [o p])))
    (hp : ∀ p, Pre (vr p :: As) (stt Ω ks (L ++ [o p])) (RN (Ω' p) n)) (he : ∀ p, Ω' p = stt Ω ks (L ++ [o2 p])) : XG (tCall (mkSp Pre) [] E (tCons ta t)) Γ Ω0 (RN (stt Ω ks L) n) := fun F σ H e hh Q q => by
  refine h1 F σ H e hh _ fun F1 x H1 Ωa e1 hh1 ⟨p, a1, o1⟩ => ?_
  subst o1
  rw [stt_app] at hh1
  refine h2 p F1 σ H1 (e.mono e1) hh1 _ fun F2 ws H2 e2 hh2 a2 => ?_
  have a1 : x = .ref p := a1
  subst a1
  refine ⟨F2, _, vr p :: As, _, hp p, ?_, hh2, fun F' v H' Ω3 e' hh' ⟨p2, av, eo⟩ => ?_⟩
  · rw [List.append_nil]
    exact .cons (show (vr p).P F2 (.ref p) from rfl) a2
  · subst eo
    rw [he p, ← stt_app] at hh'
    exact q F' v H' _ ((e1.trans e2).trans e') hh'.dropMid ⟨p2, av, rfl⟩
/-- a new list's append(None): the list is left -/
theorem xe_appNoT {Ω0 : List OA} {ks : List (Nat × OA)} {L : List OA} {l : List Int} (ha : XG ta Γ Ω0 (RN (stt Ω ks L) fun q => lstA T q l)) (hz : l.length < sizeLine) :
    XE (tBM T.K "list" rAppend ta (tCons (tC .non) tNil)) Γ Ω0 (va T ()) (stt Ω ks L) := fun F σ H e hh Q q => by
  refine ha F σ H e hh _ fun F1 x H1 Ω' e1 hh1 ⟨p, a1, o1⟩ => ?_
  subst o1
  subst a1
  have hk : (stt Ω ks L ++ [lstA T p l])[(stt Ω ks L).length]? = some (lstA T p l) := app_at
  obtain ⟨t, ⟨vs, h1, al⟩, st, _, wr⟩ := hh1.get hk
  refine ⟨.inl ⟨rfl, vs, SqL.of (st _ _ h1)⟩, ?_⟩
  refine ⟨p, vs, .non, rfl, rfl, st _ _ h1, by rw [al_len al]; exact hz, ?_⟩
  have w := wr (lstA T p (l.map OI.i ++ [OI.no])) p _ _ h1 ⟨_, upd_same, al_app (al_oi al) (.cons rfl .nil)⟩
  rw [List.set_append_right _ _ (Nat.le_refl _), Nat.sub_self] at w
  exact q F1 _ _ _ e1 w.drop ⟨rfl, rfl⟩
end
end VL

set_option Elab.async false
set_option linter.all false
/-! the mathematics: loops by invariants, digits, bits -/
namespace VL
open PySem L2
theorem chkP_eq {p : Prop} (h : p) : chkP p = some () := by unfold chkP; exact if_pos h
theorem bnd_of {α β : Type} {o : Option α} {a : α} {f : α → Option β} {r : Option β} (h : o = some a) (k : f a = r) : o.bind f = r := by rw [h]; exact k
theorem nxt_nx {S ρ : Type} {s : S} : nxt (Stp.nx (ρ := ρ) s) = some s := rfl
/-! ### loops -/
section
variable {α S ρ : Type} {b : α → S → Option (Stp S ρ)}
theorem forM_cons {x : α} {r : List α} {s s' : S} (h : b x s = some (.nx s')) : forM' b (x :: r) s = forM' b r s' := by
  show (b x s).bind _ = _
  rw [h]
  rfl
theorem forM_ind (I : Nat → S → Prop) : ∀ (xs : List α) (k : Nat) (s : S), (∀ i x s, xs[i]? = some x → I (k + i) s → ∃ s', b x s = some (.nx s') ∧ I (k + i + 1) s') → I k s → ∃ s', forM' b xs s = some (.nx s') ∧ I (k + xs.length) s'
  | [], k, s, _, h => ⟨s, rfl, h⟩
  | x :: r, k, s, hs, h => by
    obtain ⟨s1, e1, i1⟩ := hs 0 x s rfl h
    obtain ⟨s2, e2, i2⟩ := forM_ind I r (k + 1) s1 (fun i y t hy ht => by
      obtain ⟨t', e, q⟩ := hs (i + 1) y t hy (by rw [show k + (i + 1) = k + 1 + i from by omega]; exact ht)
      exact ⟨t', e, by rw [show k + 1 + i + 1 = k + (i + 1) + 1 from by omega]; exact q⟩) i1
    exact ⟨s2, by rw [forM_cons e1, e2], by rw [List.length_cons, show k + (r.length + 1) = k + 1 + r.length from by omega]; exact i2⟩
theorem forM_all (I : S → Prop) {xs : List α} {s : S} (hs : ∀ x ∈ xs, ∀ s, I s → ∃ s', b x s = some (.nx s') ∧ I s') (h : I s) : ∃ s', forM' b xs s = some (.nx s') ∧ I s' := by
  obtain ⟨s', e, i⟩ := forM_ind (b := b) (fun _ => I) xs 0 s (fun i x s hx hI => hs x (List.mem_of_getElem? hx) s hI) h
  exact ⟨s', e, i⟩
theorem forM_fold (g : S → α → S) (I : S → Prop) : ∀ {xs : List α} {s : S}, (∀ x ∈ xs, ∀ s, I s → b x s = some (.nx (g s x)) ∧ I (g s x)) → I s → forM' b xs s = some (.nx (xs.foldl g s))
  | [], s, _, _ => rfl
  | x :: r, s, hs, h => by
    obtain ⟨e, i⟩ := hs x List.mem_cons_self s h
    rw [forM_cons e]
    exact forM_fold g I (fun y hy => hs y (List.mem_cons_of_mem _ hy)) i
theorem whileM_f {c : S → Option Bool} {bd : S → Option (Stp S ρ)} {n : Nat} {s : S} (h : c s = some false) : whileM c bd (n + 1) s = some (.nx s) := by
  show (c s).bind _ = _
  rw [h]
  rfl
theorem whileM_t {c : S → Option Bool} {bd : S → Option (Stp S ρ)} {n : Nat} {s s' : S} (h : c s = some true) (h2 : bd s = some (.nx s')) : whileM c bd (n + 1) s = whileM c bd n s' := by
  show (c s).bind _ = _
  rw [h]
  show (bd s).bind _ = _
  rw [h2]
  rfl
end
theorem lcM_mapU {β γ : Type} {b : β → Unit → Option (Option γ × Unit)} {f : β → γ} : ∀ {xs : List β}, (∀ x ∈ xs, b x () = some (some (f x), ())) → lcM b xs () = some (xs.map f, ())
  | [], _ => rfl
  | x :: r, h => by
    show (b x ()).bind _ = _
    rw [h x List.mem_cons_self]
    show (lcM b r ()).bind _ = _
    rw [lcM_mapU fun y hy => h y (List.mem_cons_of_mem _ hy)]
    rfl
theorem lcM_noneU {β γ : Type} {b : β → Unit → Option (Option γ × Unit)} : ∀ {xs : List β}, (∀ x ∈ xs, b x () = some (none, ())) → lcM b xs () = some ([], ())
  | [], _ => rfl
  | x :: r, h => by
    show (b x ()).bind _ = _
    rw [h x List.mem_cons_self]
    show (lcM b r ()).bind _ = _
    rw [lcM_noneU fun y hy => h y (List.mem_cons_of_mem _ hy)]
    rfl
theorem cut_all {α : Type} (l : List α) : cut l none (some (l.length : Int)) = l := by
  have h1 : HT.sIx l.length 0 none = 0 := rfl
  have h2 : HT.sIx l.length l.length (some (l.length : Int)) = l.length := by rw [HT.sIx_nat, Nat.min_self]
  unfold cut
  rw [h1, h2, List.drop_zero, Nat.sub_zero, List.take_length]
theorem ipow_le {b : Nat} (hb : 0 < b) {i j : Nat} (h : i ≤ j) : (b : Int) ^ i ≤ (b : Int) ^ j := by
  rw [← Int.natCast_pow, ← Int.natCast_pow]
  exact Int.ofNat_le.mpr (Nat.pow_le_pow_right hb h)
/-! ### bits -/
def bl (a : Nat) : Nat := if a = 0 then 0 else a.log2 + 1
theorem bl0 : bl 0 = 0 := rfl
theorem bl_half {a : Nat} (h : a ≠ 0) : bl a = bl (a / 2) + 1 := by
  unfold bl
  rw [if_neg h]
  by_cases h2 : 2 ≤ a
  · rw [if_neg (by omega), Nat.log2_def, if_pos h2]
  · have : a = 1 := by omega
    subst this
    rfl
theorem bl_shift : ∀ (w : Nat) {a : Nat}, 2 ^ w ≤ a → bl a = w + bl (a / 2 ^ w)
  | 0, a, _ => by simp
  | w + 1, a, h => by
    have p : 2 ^ (w + 1) = 2 ^ w * 2 := Nat.pow_succ ..
    have hp : 0 < 2 ^ w := Nat.two_pow_pos w
    rw [bl_shift w (a := a) (by omega), p, ← Nat.div_div_eq_div_mul]
    have : 2 ≤ a / 2 ^ w := (Nat.le_div_iff_mul_le hp).mpr (by omega)
    rw [bl_half (a := a / 2 ^ w) (by omega)]
    omega
theorem intBits_nat (a : Nat) : Builtin.Int.intBits (a : Int) = bl a := by
  unfold Builtin.Int.intBits bl
  by_cases h : a = 0
  · subst h; rfl
  · rw [if_neg h, if_neg (by simpa using h), Int.natAbs_natCast]
def pc (a : Nat) : Nat := if h : a = 0 then 0 else a % 2 + pc (a / 2)
termination_by a
decreasing_by omega
theorem pc0 : pc 0 = 0 := by unfold pc; rfl
theorem pc_half (a : Nat) : pc a = a % 2 + pc (a / 2) := by
  by_cases h : a = 0
  · subst h; rw [Nat.zero_div, pc0]
  · rw [pc, dif_neg h]
theorem pc_split : ∀ (w a : Nat), pc a = pc (a % 2 ^ w) + pc (a / 2 ^ w)
  | 0, a => by simp [Nat.mod_one, pc0]
  | w + 1, a => by
    have p : 2 ^ (w + 1) = 2 * 2 ^ w := by rw [Nat.pow_succ, Nat.mul_comm]
    rw [pc_half a, pc_split w (a / 2), pc_half (a % 2 ^ (w + 1)), p, Nat.mod_mul_right_div_self, Nat.mod_mod_of_dvd a (Nat.dvd_mul_right 2 (2 ^ w)), Nat.div_div_eq_div_mul]
    omega
theorem pc_kern : ∀ (n : Nat) {a : Nat}, a ≤ n → a ≠ 0 → pc a = pc (a &&& (a - 1)) + 1
  | 0, a, h, h0 => absurd (Nat.le_zero.mp h) h0
  | n + 1, a, h, h0 => by
    have hx2 : (a &&& (a - 1)) % 2 = 0 := by
      have := @Nat.and_mod_two_pow a (a - 1) 1
      rw [Nat.pow_one] at this
      rw [this]
      rcases Nat.mod_two_eq_zero_or_one a with e | e
      · rw [e, Nat.zero_and]
      · rw [show (a - 1) % 2 = 0 from by omega, Nat.and_zero]
    rw [pc_half a, pc_half (a &&& (a - 1)), hx2, Nat.and_div_two]
    rcases Nat.mod_two_eq_zero_or_one a with e | e
    · have q : (a - 1) / 2 = a / 2 - 1 := by omega
      rw [q, e, pc_kern n (a := a / 2) (by omega) (by omega)]
      omega
    · have q : (a - 1) / 2 = a / 2 := by omega
      rw [q, e, Nat.and_self]
      omega
theorem kern_lt {a : Nat} (h : a ≠ 0) : a &&& (a - 1) < a := Nat.lt_of_le_of_lt Nat.and_le_right (by omega)
/-! ### digits -/
def dg (w a : Nat) : List Int := if h : a = 0 ∨ w = 0 then [] else ((a % 2 ^ w : Nat) : Int) :: dg w (a / 2 ^ w)
termination_by a
decreasing_by
  have h1 : a ≠ 0 := fun e => h (.inl e)
  have h2 : w ≠ 0 := fun e => h (.inr e)
  exact Nat.div_lt_self (by omega) (Nat.one_lt_two_pow h2)
theorem dg_zero (w : Nat) : dg w 0 = [] := by unfold dg; rfl
theorem dg_pos {w a : Nat} (hw : w ≠ 0) (h : a ≠ 0) : dg w a = ((a % 2 ^ w : Nat) : Int) :: dg w (a / 2 ^ w) := by
  rw [dg, dif_neg (fun e => e.elim h hw)]
theorem dg_ind {w : Nat} (hw : w ≠ 0) {p : Nat → Prop} (h0 : p 0) (hs : ∀ a, a ≠ 0 → p (a / 2 ^ w) → p a) : ∀ a, p a := fun a => by
  induction a using Nat.strongRecOn with
  | ind a ih =>
    by_cases h : a = 0
    · subst h; exact h0
    · exact hs a h (ih _ (Nat.div_lt_self (by omega) (Nat.one_lt_two_pow hw)))
section
variable {w : Nat} (hw : w ≠ 0)
include hw
theorem dg_nil {a : Nat} : dg w a = [] ↔ a = 0 := by
  constructor
  · intro h
    by_cases e : a = 0
    · exact e
    · rw [dg_pos hw e] at h; cases h
  · intro h; subst h; exact dg_zero w
theorem dg_last : ∀ a, a ≠ 0 → ∃ r d, dg w a = r ++ [((d : Nat) : Int)] ∧ d ≠ 0 ∧ d < 2 ^ w ∧ bl a = r.length * w + bl d := by
  refine dg_ind hw (fun h => absurd rfl h) fun a h ih _ => ?_
  rw [dg_pos hw h]
  have hp : 0 < 2 ^ w := Nat.two_pow_pos w
  by_cases e : a / 2 ^ w = 0
  · have lt : a < 2 ^ w := by
      rcases Nat.lt_or_ge a (2 ^ w) with q | q
      · exact q
      · have := (Nat.le_div_iff_mul_le hp (x := 1) (y := a)).mpr (by omega); omega
    refine ⟨[], a, ?_, h, lt, by simp⟩
    rw [e, dg_zero, Nat.mod_eq_of_lt lt]
    rfl
  · obtain ⟨r, d, e1, h1, h2, h3⟩ := ih e
    have ge : 2 ^ w ≤ a := by
      rcases Nat.lt_or_ge a (2 ^ w) with q | q
      · exact absurd (Nat.div_eq_of_lt q) e
      · exact q
    refine ⟨((a % 2 ^ w : Nat) : Int) :: r, d, by rw [e1]; rfl, h1, h2, ?_⟩
    rw [bl_shift w ge, h3, List.length_cons, Nat.succ_mul]
    omega
theorem dg_mem : ∀ a, ∀ x ∈ dg w a, ∃ d : Nat, x = (d : Int) ∧ d < 2 ^ w := by
  refine dg_ind hw (fun x hx => by rw [dg_zero] at hx; cases hx) fun a h ih x hx => ?_
  rw [dg_pos hw h] at hx
  rcases List.mem_cons.mp hx with e | e
  · exact ⟨_, e, Nat.mod_lt _ (Nat.two_pow_pos w)⟩
  · exact ih x e
theorem dg_len : ∀ a m, a < 2 ^ (w * m) → (dg w a).length ≤ m := by
  refine dg_ind hw (fun m _ => by rw [dg_zero]; exact Nat.zero_le _) fun a h ih m hm => ?_
  rw [dg_pos hw h, List.length_cons]
  cases m with
  | zero => rw [Nat.mul_zero, Nat.pow_zero] at hm; omega
  | succ m =>
    have := ih m (by
      rw [Nat.div_lt_iff_lt_mul (Nat.two_pow_pos w), ← Nat.pow_add, show w * m + w = w * (m + 1) from by rw [Nat.mul_succ]]
      exact hm)
    omega
theorem dg_pc : ∀ a, ((dg w a).map fun x => ((pc x.toNat : Nat) : Int)).sum = ((pc a : Nat) : Int) := by
  refine dg_ind hw (by rw [dg_zero, pc0]; rfl) fun a h ih => ?_
  rw [dg_pos hw h, List.map_cons, List.sum_cons, ih, pc_split w a, Int.toNat_natCast]
  omega
theorem dg_hash (P : Int) : ∀ a, (dg w a).foldr (fun d s => (s * 2 ^ w + d) % P) 0 = (a : Int) % P := by
  refine dg_ind hw (by rw [dg_zero]; simp) fun a h ih => ?_
  rw [dg_pos hw h, List.foldr_cons, ih]
  have e : (a : Int) = ((a / 2 ^ w : Nat) : Int) * 2 ^ w + ((a % 2 ^ w : Nat) : Int) := by
    have := Nat.div_add_mod a (2 ^ w)
    have q : (a : Int) = ((2 ^ w * (a / 2 ^ w) + a % 2 ^ w : Nat) : Int) := by rw [this]
    rw [q]
    push_cast
    rw [Int.mul_comm]
  conv => rhs; rw [e]
  rw [Int.add_emod, Int.mul_emod, Int.emod_emod, ← Int.mul_emod, ← Int.add_emod]
end
/-! ### rows from the last digit on, compared -/
def vm (B : Int) : List Int → Int
  | [] => 0
  | d :: r => d * B ^ r.length + vm B r
theorem vm_snoc {B : Int} : ∀ {r : List Int} {d : Int}, vm B (r ++ [d]) = vm B r * B + d
  | [], d => by show d * B ^ 0 + 0 = 0 * B + d; simp
  | e :: r, d => by
    show e * B ^ (r ++ [d]).length + vm B (r ++ [d]) = (e * B ^ r.length + vm B r) * B + d
    rw [vm_snoc (r := r), List.length_append, show [d].length = 1 from rfl, Int.pow_succ, Int.add_mul, ← Int.mul_assoc, Int.add_assoc]
theorem vm_bound {B : Int} (hB : 0 < B) : ∀ {r : List Int}, (∀ x ∈ r, 0 ≤ x ∧ x < B) → 0 ≤ vm B r ∧ vm B r < B ^ r.length
  | [], _ => ⟨Int.le_refl _, by show (0 : Int) < B ^ 0; rw [Int.pow_zero]; decide⟩
  | d :: r, h => by
    obtain ⟨i0, i1⟩ := vm_bound hB (r := r) fun x hx => h x (List.mem_cons_of_mem _ hx)
    obtain ⟨d0, d1⟩ := h d List.mem_cons_self
    have hp : 0 < B ^ r.length := Int.pow_pos hB
    have h0 : 0 ≤ d * B ^ r.length := Int.mul_nonneg d0 (by omega)
    have h1 : (d + 1) * B ^ r.length ≤ B * B ^ r.length := Int.mul_le_mul_of_nonneg_right (by omega) (by omega)
    rw [Int.add_mul, Int.one_mul] at h1
    show 0 ≤ d * B ^ r.length + vm B r ∧ d * B ^ r.length + vm B r < B ^ (r.length + 1)
    rw [Int.pow_succ, Int.mul_comm (B ^ r.length) B]
    omega
theorem vm_dg {w : Nat} (hw : w ≠ 0) : ∀ a : Nat, vm (2 ^ w) (dg w a).reverse = (a : Int) := by
  refine dg_ind hw (by rw [dg_zero]; rfl) fun a h ih => ?_
  rw [dg_pos hw h, List.reverse_cons, vm_snoc, ih]
  have := Nat.div_add_mod a (2 ^ w)
  have q : (a : Int) = ((2 ^ w * (a / 2 ^ w) + a % 2 ^ w : Nat) : Int) := by rw [this]
  conv => rhs; rw [q]
  push_cast
  rw [Int.mul_comm]
theorem dg_bound {w : Nat} (hw : w ≠ 0) (a : Nat) : a < 2 ^ (w * (dg w a).length) := by
  have h := (vm_bound (B := 2 ^ w) (Int.pow_pos (by decide)) (r := (dg w a).reverse) fun x hx => by
    obtain ⟨d, rfl, lt⟩ := dg_mem hw a x (List.mem_reverse.mp hx)
    have : ((d : Nat) : Int) < ((2 ^ w : Nat) : Int) := Int.ofNat_lt.mpr lt
    rw [Int.natCast_pow] at this
    exact ⟨by omega, this⟩).2
  rw [vm_dg hw, List.length_reverse] at h
  have e : (((2 ^ w) ^ (dg w a).length : Nat) : Int) = ((2 : Int) ^ w) ^ (dg w a).length := by rw [Int.natCast_pow, Int.natCast_pow]; rfl
  rw [← e] at h
  rw [Nat.pow_mul]
  exact Int.ofNat_lt.mp h
theorem dg_len_lt {w : Nat} (hw : w ≠ 0) {a b : Nat} (h : (dg w a).length < (dg w b).length) : a < b := by
  rcases Nat.lt_or_ge a b with q | q
  · exact q
  · have := dg_len hw b (dg w a).length (Nat.lt_of_le_of_lt q (dg_bound hw a))
    omega
def cp : List Int → List Int → Nat
  | x :: r, y :: t => if x = y then cp r t + 1 else 0
  | _, _ => 0
theorem cp_le : ∀ {r t : List Int}, cp r t ≤ r.length
  | [], _ => by unfold cp; exact Nat.le_refl 0
  | _ :: _, [] => by unfold cp; exact Nat.zero_le _
  | x :: r, y :: t => by
    unfold cp
    split
    · have := cp_le (r := r) (t := t); show cp r t + 1 ≤ r.length + 1; omega
    · exact Nat.zero_le _
theorem cp_full : ∀ {r t : List Int}, r.length = t.length → cp r t = r.length → r = t
  | [], [], _, _ => rfl
  | [], _ :: _, h, _ => by cases h
  | _ :: _, [], h, _ => by cases h
  | x :: r, y :: t, h, e => by
    unfold cp at e
    by_cases q : x = y
    · rw [if_pos q] at e
      have h1 : r.length + 1 = t.length + 1 := h
      have e1 : cp r t + 1 = r.length + 1 := e
      rw [q, cp_full (r := r) (t := t) (by omega) (by omega)]
    · rw [if_neg q] at e
      have e1 : 0 = r.length + 1 := e
      omega
theorem cp_lt {B : Int} (hB : 0 < B) : ∀ {r t : List Int}, r.length = t.length → cp r t < r.length → (∀ x ∈ r, 0 ≤ x ∧ x < B) → (∀ x ∈ t, 0 ≤ x ∧ x < B) →
    ∃ x y, r[cp r t]? = some x ∧ t[cp r t]? = some y ∧ x ≠ y ∧ (x < y → vm B r < vm B t) ∧ (y < x → vm B t < vm B r)
  | [], _, _, h, _, _ => absurd h (Nat.not_lt_zero _)
  | _ :: _, [], h, _, _, _ => by cases h
  | x :: r, y :: t, h, e, hr, ht => by
    have hl : r.length = t.length := Nat.succ.inj h
    unfold cp at e ⊢
    by_cases q : x = y
    · rw [if_pos q] at e ⊢
      have e1 : cp r t + 1 < r.length + 1 := e
      obtain ⟨u, v, h1, h2, h3, h4, h5⟩ := cp_lt hB hl (by omega) (fun z hz => hr z (List.mem_cons_of_mem _ hz)) fun z hz => ht z (List.mem_cons_of_mem _ hz)
      refine ⟨u, v, h1, h2, h3, fun l => ?_, fun l => ?_⟩
      · have := h4 l
        show x * B ^ r.length + vm B r < y * B ^ t.length + vm B t
        rw [q, hl]; omega
      · have := h5 l
        show y * B ^ t.length + vm B t < x * B ^ r.length + vm B r
        rw [q, hl]; omega
    · rw [if_neg q] at e ⊢
      obtain ⟨r0, r1⟩ := vm_bound hB (r := r) fun z hz => hr z (List.mem_cons_of_mem _ hz)
      obtain ⟨t0, t1⟩ := vm_bound hB (r := t) fun z hz => ht z (List.mem_cons_of_mem _ hz)
      have hp : 0 < B ^ r.length := Int.pow_pos hB
      have key : ∀ u v : Int, u < v → (u + 1) * B ^ r.length ≤ v * B ^ r.length := fun u v l => Int.mul_le_mul_of_nonneg_right (by omega) (by omega)
      refine ⟨x, y, rfl, rfl, q, fun l => ?_, fun l => ?_⟩
      · have := key x y l
        rw [Int.add_mul, Int.one_mul] at this
        show x * B ^ r.length + vm B r < y * B ^ t.length + vm B t
        rw [← hl] at t1 ⊢; omega
      · have := key y x l
        rw [Int.add_mul, Int.one_mul] at this
        show y * B ^ t.length + vm B t < x * B ^ r.length + vm B r
        rw [← hl] at t1 ⊢; omega
theorem take_rev {l : List Int} {m : Nat} {x : Int} (h : l[m]? = some x) : (l.take (m + 1)).reverse = x :: (l.take m).reverse := by
  obtain ⟨lt, e⟩ := List.getElem?_eq_some_iff.mp h
  rw [List.take_add_one, h, Option.toList_some, List.reverse_append]
  rfl
theorem ld_loop {l1 l2 : List Int} (hl : l1.length = l2.length) : ∀ (m fuel : Nat), m ≤ l1.length → m < fuel →
    whileM (ρ := Unit) (fun (s2 : Int) => (if (decide ((0 : Int) ≤ s2)) = true then (atI l1 s2).bind fun z3 => (atI l2 s2).bind fun z4 => some (decide (z3 = z4)) else some false).bind fun z5 => some z5) (fun (s2 : Int) => (some (s2 - (1 : Int))).bind fun y7 => some (Stp.nx y7)) fuel ((m : Int) - 1) = some (.nx ((m : Int) - 1 - (cp (l1.take m).reverse (l2.take m).reverse : Nat)))
  | 0, fuel, _, hf => by
    obtain ⟨f, rfl⟩ : ∃ f, fuel = f + 1 := ⟨fuel - 1, by omega⟩
    exact whileM_f rfl
  | m + 1, fuel, h, hf => by
    obtain ⟨f, rfl⟩ : ∃ f, fuel = f + 1 := ⟨fuel - 1, by omega⟩
    have g1 : l1[m]? = some l1[m] := List.getElem?_eq_getElem (by omega)
    have g2 : l2[m]? = some (l2[m]'(by omega)) := List.getElem?_eq_getElem (by omega)
    rw [take_rev g1, take_rev g2, show ((m + 1 : Nat) : Int) - 1 = (m : Int) from by omega]
    unfold cp
    by_cases q : l1[m] = l2[m]'(by omega)
    · rw [if_pos q, whileM_t (s' := (m : Int) - 1) (by
        show (if (decide ((0 : Int) ≤ (m : Int))) = true then _ else _ : Option Bool).bind _ = some true
        rw [if_pos (decide_eq_true (by omega)), atI_nat g1, atI_nat g2]
        show some (decide (l1[m] = l2[m]'(by omega))) = some true
        rw [decide_eq_true q]) rfl, ld_loop hl m f (by omega) (by omega)]
      congr 2
      omega
    · rw [if_neg q, whileM_f (by
        show (if (decide ((0 : Int) ≤ (m : Int))) = true then _ else _ : Option Bool).bind _ = some false
        rw [if_pos (decide_eq_true (by omega)), atI_nat g1, atI_nat g2]
        show some (decide (l1[m] = l2[m]'(by omega))) = some false
        rw [decide_eq_false q])]
      congr 2
end VL

set_option Elab.async false
set_option linter.all false
/-! rows from the first digit on; masks of any number -/
namespace VL
open PySem L2
theorem mod_neg (t : Nat) {M : Nat} (hM : 0 < M) : (-(t : Int) - 1) % (M : Int) = (M : Int) - 1 - ((t % M : Nat) : Int) := by
  have h := Nat.div_add_mod t M
  have lt := Nat.mod_lt t hM
  have e : (-(t : Int) - 1) = ((M : Int) - 1 - ((t % M : Nat) : Int)) + (M : Int) * (-((t / M : Nat) : Int) - 1) := by
    have q : (t : Int) = ((M * (t / M) + t % M : Nat) : Int) := by rw [h]
    rw [q, Int.mul_sub, Int.mul_neg, Int.mul_one]
    push_cast
    omega
  rw [e, Int.add_mul_emod_self_left, Int.emod_eq_of_lt (by omega) (by omega)]
theorem and_low (x : Int) (W : Nat) : Builtin.bitAnd x ((2 ^ W - 1 : Nat) : Int) = x % 2 ^ W := by
  have hp : 0 < 2 ^ W := Nat.two_pow_pos W
  have e2 : ((2 : Int) ^ W) = ((2 ^ W : Nat) : Int) := by rw [Int.natCast_pow]; rfl
  rw [e2]
  by_cases h : 0 ≤ x
  · obtain ⟨a, rfl⟩ := Int.eq_ofNat_of_zero_le h
    rw [PySem.W.os_band, Nat.and_two_pow_sub_one_eq_mod]
    exact Int.natCast_emod _ _
  · obtain ⟨t, ht⟩ := Int.eq_ofNat_of_zero_le (a := -x - 1) (by omega)
    have ex : x = -(t : Int) - 1 := by omega
    have en : Builtin.bitNot x = (t : Int) := by show -x - 1 = (t : Int); exact ht
    unfold Builtin.bitAnd
    rw [decide_eq_false h, decide_eq_true (show (0 : Int) ≤ ((2 ^ W - 1 : Nat) : Int) from by omega)]
    show ((2 ^ W - 1 : Nat) : Int) - (((((2 ^ W - 1 : Nat) : Int)).toNat &&& (Builtin.bitNot x).toNat : Nat) : Int) = _
    rw [en, Int.toNat_natCast, Int.toNat_natCast, Nat.and_comm, Nat.and_two_pow_sub_one_eq_mod, ex, mod_neg t hp]
    omega
def lv (B : Int) : List Int → Int
  | [] => 0
  | d :: r => d + B * lv B r
theorem lv_snoc {B : Int} : ∀ {r : List Int} {d : Int}, lv B (r ++ [d]) = lv B r + d * B ^ r.length
  | [], d => by show d + B * 0 = 0 + d * B ^ 0; simp
  | e :: r, d => by
    show e + B * lv B (r ++ [d]) = (e + B * lv B r) + d * B ^ (r.length + 1)
    rw [lv_snoc (r := r), Int.mul_add, Int.pow_succ, Int.mul_comm B (d * B ^ r.length), Int.mul_assoc d]
    omega
theorem lv_take {B : Int} {l : List Int} {i : Nat} {x : Int} (h : l[i]? = some x) : lv B (l.take (i + 1)) = lv B (l.take i) + x * B ^ i := by
  have lt := getlt h
  rw [List.take_add_one, h, Option.toList_some, lv_snoc, List.length_take, Nat.min_eq_left (Nat.le_of_lt lt)]
theorem lv_dg {w : Nat} (hw : w ≠ 0) : ∀ a : Nat, lv (2 ^ w) (dg w a) = (a : Int) := by
  refine dg_ind hw (by rw [dg_zero]; rfl) fun a h ih => ?_
  rw [dg_pos hw h]
  show ((a % 2 ^ w : Nat) : Int) + 2 ^ w * lv (2 ^ w) (dg w (a / 2 ^ w)) = (a : Int)
  rw [ih]
  have := Nat.div_add_mod a (2 ^ w)
  have q : (a : Int) = ((2 ^ w * (a / 2 ^ w) + a % 2 ^ w : Nat) : Int) := by rw [this]
  conv => rhs; rw [q]
  push_cast
  omega
theorem lv_bound {B : Int} (hB : 0 < B) : ∀ {r : List Int}, (∀ x ∈ r, 0 ≤ x ∧ x < B) → 0 ≤ lv B r ∧ lv B r < B ^ r.length
  | [], _ => ⟨Int.le_refl _, by show (0 : Int) < B ^ 0; rw [Int.pow_zero]; decide⟩
  | d :: r, h => by
    obtain ⟨i0, i1⟩ := lv_bound hB (r := r) fun x hx => h x (List.mem_cons_of_mem _ hx)
    obtain ⟨d0, d1⟩ := h d List.mem_cons_self
    have h0 : 0 ≤ B * lv B r := Int.mul_nonneg (by omega) i0
    have h1 : B * (lv B r + 1) ≤ B * B ^ r.length := Int.mul_le_mul_of_nonneg_left (by omega) (by omega)
    rw [Int.mul_add, Int.mul_one] at h1
    show 0 ≤ d + B * lv B r ∧ d + B * lv B r < B ^ (r.length + 1)
    rw [Int.pow_succ, Int.mul_comm (B ^ r.length) B]
    omega
/-- a row of digits whose last one is not 0 is that of its number -/
theorem dg_lv {w : Nat} (hw : w ≠ 0) : ∀ {r : List Int}, (∀ x ∈ r, 0 ≤ x ∧ x < (2 : Int) ^ w) → (∀ d, r.getLast? = some d → d ≠ 0) → dg w (lv (2 ^ w) r).toNat = r
  | [], _, _ => by show dg w ((0 : Int)).toNat = []; exact dg_zero w
  | d :: r, h, hl => by
    obtain ⟨d0, d1⟩ := h d List.mem_cons_self
    have hB : (0 : Int) < 2 ^ w := Int.pow_pos (by decide)
    have hr : ∀ x ∈ r, 0 ≤ x ∧ x < (2 : Int) ^ w := fun x hx => h x (List.mem_cons_of_mem _ hx)
    have l0 := (lv_bound hB hr).1
    have ih := dg_lv hw (r := r) hr (fun e he => by
      cases r with
      | nil => cases he
      | cons y t => exact hl e (by rw [List.getLast?_cons_cons]; exact he))
    obtain ⟨D, rfl⟩ := Int.eq_ofNat_of_zero_le d0
    obtain ⟨v, ev⟩ := Int.eq_ofNat_of_zero_le l0
    have e2 : ((2 : Int) ^ w) = ((2 ^ w : Nat) : Int) := by rw [Int.natCast_pow]; rfl
    have lt : D < 2 ^ w := by rw [e2] at d1; omega
    have tot : (lv (2 ^ w) ((D : Int) :: r)).toNat = D + 2 ^ w * v := by
      show ((D : Int) + 2 ^ w * lv (2 ^ w) r).toNat = _
      rw [ev, e2]
      have : ((D : Int) + ((2 ^ w : Nat) : Int) * ((v : Nat) : Int)) = ((D + 2 ^ w * v : Nat) : Int) := by push_cast; rfl
      rw [this, Int.toNat_natCast]
    have ne : D + 2 ^ w * v ≠ 0 := by
      cases r with
      | nil =>
        have := hl (D : Int) rfl
        omega
      | cons y t =>
        have v0 : v ≠ 0 := fun z => by
          subst z
          rw [ev] at ih
          rw [show ((0 : Nat) : Int).toNat = 0 from rfl, dg_zero] at ih
          cases ih
        have : 0 < 2 ^ w * v := Nat.mul_pos (Nat.two_pow_pos w) (by omega)
        omega
    rw [tot, dg_pos hw ne, Nat.add_mul_mod_self_left, Nat.mod_eq_of_lt lt, Nat.add_mul_div_left _ _ (Nat.two_pow_pos w), Nat.div_eq_of_lt lt, Nat.zero_add]
    rw [ev, Int.toNat_natCast] at ih
    rw [ih]
theorem vm_rev {B : Int} : ∀ l : List Int, vm B l.reverse = lv B l
  | [] => rfl
  | d :: r => by
    rw [List.reverse_cons, vm_snoc, vm_rev r]
    show lv B r * B + d = d + B * lv B r
    rw [Int.mul_comm]
    omega
theorem lv_split {B : Int} : ∀ (m : Nat) (l : List Int), m ≤ l.length → lv B l = lv B (l.take m) + B ^ m * lv B (l.drop m)
  | 0, l, _ => by rw [List.take_zero, List.drop_zero, Int.pow_zero, Int.one_mul]; show lv B l = 0 + lv B l; omega
  | m + 1, [], h => absurd h (by rw [List.length_nil]; omega)
  | m + 1, d :: r, h => by
    rw [List.take_succ_cons, List.drop_succ_cons]
    show d + B * lv B r = (d + B * lv B (r.take m)) + B ^ (m + 1) * lv B (r.drop m)
    rw [lv_split m r (by rw [List.length_cons] at h; omega), Int.mul_add, Int.pow_succ, Int.mul_comm (B ^ m) B, Int.mul_assoc]
    omega
theorem cp_take : ∀ {r t : List Int}, r.take (cp r t) = t.take (cp r t)
  | [], t => by
    have : cp [] t = 0 := by unfold cp; rfl
    rw [this, List.take_zero, List.take_zero]
  | x :: r, [] => by
    have : cp (x :: r) [] = 0 := by unfold cp; rfl
    rw [this, List.take_zero, List.take_zero]
  | x :: r, y :: t => by
    unfold cp
    by_cases q : x = y
    · rw [if_pos q, List.take_succ_cons, List.take_succ_cons, cp_take (r := r) (t := t), q]
    · rw [if_neg q, List.take_zero, List.take_zero]
/-- behind the first difference from the end both rows are the same -/
theorem cp_drop {a b : List Int} (h : a.length = b.length) : a.drop (a.length - cp a.reverse b.reverse) = b.drop (a.length - cp a.reverse b.reverse) := by
  have e := cp_take (r := a.reverse) (t := b.reverse)
  rw [List.take_reverse, List.take_reverse, ← h] at e
  exact List.reverse_inj.mp e
end VL

set_option Elab.async false
set_option linter.all false
/-! sizes; rows of so many digits; differences -/
namespace VL
open PySem L2
theorem intBits_abs (n : Int) : Builtin.Int.intBits n = bl n.natAbs := by
  rw [← intBits_nat]
  unfold Builtin.Int.intBits
  rw [Int.natAbs_natCast]
  by_cases h : n = 0
  · subst h; rfl
  · rw [if_neg (by simpa using h), if_neg (by simpa using h)]
theorem bl_lt (a : Nat) : a < 2 ^ bl a := by
  unfold bl
  by_cases h : a = 0
  · subst h; decide
  · rw [if_neg h]; exact Nat.lt_log2_self
theorem bl_le {a k : Nat} : bl a ≤ k ↔ a < 2 ^ k := by
  constructor
  · intro h
    exact Nat.lt_of_lt_of_le (bl_lt a) (Nat.pow_le_pow_right (by decide) h)
  · intro h
    unfold bl
    by_cases e : a = 0
    · rw [if_pos e]; exact Nat.zero_le _
    · rw [if_neg e]
      have := (Nat.log2_lt e).mpr h
      omega
/-- how many digits -/
def sz (W a : Nat) : Nat := (bl a + W - 1) / W
theorem sz_le {W : Nat} (hw : W ≠ 0) {a k : Nat} : sz W a ≤ k ↔ a < 2 ^ (W * k) := by
  rw [← bl_le]
  unfold sz
  constructor
  · intro h
    have h1 := Nat.div_add_mod (bl a + W - 1) W
    have h2 := Nat.mod_lt (bl a + W - 1) (Nat.pos_of_ne_zero hw)
    have h3 : W * ((bl a + W - 1) / W) ≤ W * k := Nat.mul_le_mul_left W h
    omega
  · intro h
    have : bl a + W - 1 < W * (k + 1) := by rw [Nat.mul_succ]; omega
    have := (Nat.div_lt_iff_lt_mul (Nat.pos_of_ne_zero hw)).mpr (by rw [Nat.mul_comm]; exact this : bl a + W - 1 < (k + 1) * W)
    omega
theorem eq_of_le {x y : Nat} (h : ∀ k, x ≤ k ↔ y ≤ k) : x = y := by
  have h1 := (h y).mpr (Nat.le_refl _)
  have h2 := (h x).mp (Nat.le_refl _)
  omega
theorem dg_size {W : Nat} (hw : W ≠ 0) (a : Nat) : (dg W a).length = sz W a := eq_of_le fun k => by
  rw [sz_le hw]
  exact ⟨fun h => Nat.lt_of_lt_of_le (dg_bound hw a) (Nat.pow_le_pow_right (by decide) (Nat.mul_le_mul_left W h)), fun h => dg_len hw a k h⟩
theorem sz_zero {W : Nat} (hw : W ≠ 0) {a : Nat} : sz W a = 0 ↔ a = 0 := by
  have h := sz_le hw (a := a) (k := 0)
  rw [Nat.mul_zero, Nat.pow_zero] at h
  omega
theorem sz0 {W : Nat} (hw : W ≠ 0) : sz W 0 = 0 := (sz_zero hw).mpr rfl
theorem sz_one {W : Nat} (hw : W ≠ 0) {a : Nat} : sz W a ≤ 1 ↔ bl a ≤ W := by
  rw [sz_le hw, Nat.mul_one, ← bl_le]
theorem dg_drop {W : Nat} (hw : W ≠ 0) : ∀ (k a : Nat), (dg W a).drop k = dg W (a / 2 ^ (W * k))
  | 0, a => by rw [Nat.mul_zero, Nat.pow_zero, Nat.div_one, List.drop_zero]
  | k + 1, a => by
    by_cases h : a = 0
    · subst h; rw [dg_zero, Nat.zero_div, dg_zero]; rfl
    · rw [dg_pos hw h, List.drop_succ_cons, dg_drop hw k, Nat.div_div_eq_div_mul, ← Nat.pow_add, show W + W * k = W * (k + 1) from by rw [Nat.mul_succ]; omega]
theorem dg_inj {W : Nat} (hw : W ≠ 0) {a b : Nat} (h : dg W a = dg W b) : a = b := by
  have h1 := lv_dg hw a
  rw [h, lv_dg hw b] at h1
  omega
theorem cp_ge : ∀ {j : Nat} {r t : List Int}, r.take j = t.take j → j ≤ r.length → j ≤ cp r t
  | 0, _, _, _, _ => Nat.zero_le _
  | j + 1, [], _, _, h => by rw [List.length_nil] at h; omega
  | j + 1, x :: r, [], h, _ => by rw [List.take_succ_cons, List.take_nil] at h; cases h
  | j + 1, x :: r, y :: t, h, hl => by
    rw [List.take_succ_cons, List.take_succ_cons] at h
    injection h with h1 h2
    have hl2 : j ≤ r.length := by rw [List.length_cons] at hl; omega
    have := cp_ge h2 hl2
    unfold cp
    rw [if_pos h1]
    omega
theorem cp_iff {a b : List Int} (h : a.length = b.length) (k : Nat) : a.length - cp a.reverse b.reverse ≤ k ↔ a.drop k = b.drop k := by
  constructor
  · intro hk
    have e := congrArg (List.drop (k - (a.length - cp a.reverse b.reverse))) (cp_drop h)
    rw [List.drop_drop, List.drop_drop, show a.length - cp a.reverse b.reverse + (k - (a.length - cp a.reverse b.reverse)) = k from by omega] at e
    exact e
  · intro e
    by_cases hk : k ≤ a.length
    · have := cp_ge (j := a.length - k) (r := a.reverse) (t := b.reverse) (by rw [List.take_reverse, List.take_reverse, ← h, show a.length - (a.length - k) = k from by omega, e]) (by rw [List.length_reverse]; omega)
      omega
    · omega
theorem xor_div (a b k : Nat) : (a ^^^ b) / 2 ^ k = (a / 2 ^ k) ^^^ (b / 2 ^ k) := by
  rw [← Nat.shiftRight_eq_div_pow, ← Nat.shiftRight_eq_div_pow, ← Nat.shiftRight_eq_div_pow, Nat.shiftRight_xor_distrib]
theorem xor_zero {a b : Nat} : a ^^^ b = 0 ↔ a = b := by
  constructor
  · intro h
    apply Nat.eq_of_testBit_eq
    intro i
    have := congrArg (fun x => x.testBit i) h
    simp only [Nat.testBit_xor, Nat.zero_testBit] at this
    revert this
    cases a.testBit i <;> cases b.testBit i <;> decide
  · intro h; subst h; exact Nat.xor_self a
theorem lt_pow_iff {a k : Nat} : a < 2 ^ k ↔ a / 2 ^ k = 0 := by
  rw [Nat.div_eq_zero_iff]
  have := Nat.two_pow_pos k
  omega
/-- the last place at which two numbers differ, and one -/
theorem diff_ok {W : Nat} (hw : W ≠ 0) {a b : Nat} (h : (dg W a).length = (dg W b).length) : sz W (a ^^^ b) = (dg W a).length - cp (dg W a).reverse (dg W b).reverse := eq_of_le fun k => by
  rw [sz_le hw, cp_iff h, dg_drop hw, dg_drop hw, lt_pow_iff, xor_div, xor_zero]
  exact ⟨fun e => by rw [e], dg_inj hw⟩
/-! rows of so many digits -/
def rw_ (W : Nat) (n : Int) : Nat → List Int
  | 0 => []
  | k + 1 => (n % 2 ^ W) :: rw_ W (n / 2 ^ W) k
theorem pp (W k : Nat) : (2 : Int) ^ (W * k) = ((2 ^ (W * k) : Nat) : Int) := by rw [Int.natCast_pow]; rfl
theorem p2 (k : Nat) : (2 : Int) ^ k = ((2 ^ k : Nat) : Int) := by rw [Int.natCast_pow]; rfl
theorem ppos (k : Nat) : (0 : Int) < 2 ^ k := Int.pow_pos (by decide)
theorem rw_len (W : Nat) : ∀ (k : Nat) (n : Int), (rw_ W n k).length = k
  | 0, _ => rfl
  | k + 1, n => by show (rw_ W (n / 2 ^ W) k).length + 1 = _; rw [rw_len W k]
theorem ediv_pow (n : Int) (a b : Nat) : n / 2 ^ a / 2 ^ b = n / 2 ^ (a + b) := by
  rw [Int.pow_add, Int.ediv_ediv_of_nonneg (Int.le_of_lt (ppos a))]
theorem rw_app (W : Nat) : ∀ (k : Nat) (n : Int) (m : Nat), rw_ W n (k + m) = rw_ W n k ++ rw_ W (n / 2 ^ (k * W)) m
  | 0, n, m => by rw [Nat.zero_mul, Int.pow_zero, Int.ediv_one, Nat.zero_add]; rfl
  | k + 1, n, m => by
    rw [show k + 1 + m = (k + m) + 1 from by omega]
    show (n % 2 ^ W) :: rw_ W (n / 2 ^ W) (k + m) = _
    rw [rw_app W k, ediv_pow, show W + k * W = (k + 1) * W from by rw [Nat.succ_mul]; omega]
    rfl
theorem mod_div_pow (n : Int) (a b : Nat) : n % 2 ^ (a + b) / 2 ^ a = n / 2 ^ a % 2 ^ b := by
  have ha := ppos a
  have hb := ppos b
  have e : n % 2 ^ (a + b) = n - 2 ^ (a + b) * (n / 2 ^ (a + b)) := Int.emod_def ..
  rw [e, ← ediv_pow, Int.pow_add, Int.mul_assoc, Int.sub_eq_add_neg, ← Int.mul_neg, Int.add_mul_ediv_left _ _ (by omega), Int.emod_def]
  omega
theorem mod_mod_pow (n : Int) (a b : Nat) : n % 2 ^ (a + b) % 2 ^ a = n % 2 ^ a := by
  rw [Int.pow_add]
  exact Int.emod_emod_of_dvd n (Int.dvd_mul_right _ _)
theorem rw_mod (W : Nat) : ∀ (k : Nat) (n : Int), rw_ W (n % 2 ^ (k * W)) k = rw_ W n k
  | 0, _ => rfl
  | k + 1, n => by
    show ((n % 2 ^ ((k + 1) * W)) % 2 ^ W) :: rw_ W (n % 2 ^ ((k + 1) * W) / 2 ^ W) k = (n % 2 ^ W) :: rw_ W (n / 2 ^ W) k
    rw [show (k + 1) * W = W + k * W from by rw [Nat.succ_mul]; omega, mod_mod_pow, mod_div_pow, rw_mod W k]
theorem rw_lv (W : Nat) : ∀ (k : Nat) (n : Int), lv (2 ^ W) (rw_ W n k) = n % 2 ^ (k * W)
  | 0, n => by rw [Nat.zero_mul, Int.pow_zero, Int.emod_one]; rfl
  | k + 1, n => by
    show n % 2 ^ W + 2 ^ W * lv (2 ^ W) (rw_ W (n / 2 ^ W) k) = _
    rw [rw_lv W k, show (k + 1) * W = W + k * W from by rw [Nat.succ_mul]; omega]
    have h1 := mod_div_pow n W (k * W)
    have h2 := mod_mod_pow n W (k * W)
    have h3 := Int.mul_ediv_add_emod (n % 2 ^ (W + k * W)) (2 ^ W)
    rw [h1, h2] at h3
    omega
theorem rw_dg {W : Nat} (hw : W ≠ 0) (a : Nat) : rw_ W (a : Int) (sz W a) = dg W a := by
  rw [← dg_size hw]
  revert a
  refine dg_ind hw (by rw [dg_zero]; rfl) fun a h ih => ?_
  rw [dg_pos hw h]
  show ((a : Int) % 2 ^ W) :: rw_ W ((a : Int) / 2 ^ W) (dg W (a / 2 ^ W)).length = _
  rw [p2, ← Int.natCast_emod, ← Int.natCast_ediv, ih]
theorem rw_mem {W : Nat} : ∀ {k : Nat} {n : Int}, ∀ x ∈ rw_ W n k, 0 ≤ x ∧ x < 2 ^ W
  | 0, _, x, h => by cases h
  | k + 1, n, x, h => by
    rcases List.mem_cons.mp (show x ∈ (n % 2 ^ W) :: rw_ W (n / 2 ^ W) k from h) with e | e
    · subst e; exact ⟨Int.emod_nonneg _ (by have := ppos W; omega), Int.emod_lt_of_pos _ (ppos W)⟩
    · exact rw_mem x e
theorem nat_of {n : Int} {k : Nat} (h0 : 0 ≤ n) (h : n < 2 ^ k) : n.natAbs < 2 ^ k := by
  rw [p2] at h
  omega
theorem int_of {n : Int} {k : Nat} (h : n.natAbs < 2 ^ k) : -(2 ^ k) < n ∧ n < 2 ^ k := by
  rw [p2]
  omega
theorem shl_ok {n i : Int} {k : Nat} (h : n.natAbs < 2 ^ k) (h0 : 0 ≤ i) (h2 : (k : Int) + i ≤ 2 ^ 27) : CShl n i := ⟨h0, by
  rw [intBits_abs]
  have := bl_le.mpr h
  omega⟩
theorem mul_small {a b : Int} (h : a.natAbs < 2 ^ 64) : IntMulOk a b := by
  have h := int_of h
  exact .of_left (PySem.intBits_le_64 h.1 h.2)
theorem mul_small' {a b : Int} (h : b.natAbs < 2 ^ 64) : IntMulOk a b := by
  have h := int_of h
  exact .of_right (PySem.intBits_le_64 h.1 h.2)
end VL
/-! ### a value that is there, and of which something holds -/
namespace VL
open PySem L2
def Sat {α : Type} (o : Option α) (P : α → Prop) : Prop := ∃ r, o = some r ∧ P r
section
variable {α β S ρ : Type} {o : Option α} {P : α → Prop} {Q : β → Prop} {f : α → Option β} {a : α}
theorem sat_bind (h : Sat o P) (k : ∀ r, P r → Sat (f r) Q) : Sat (o.bind f) Q := by
  obtain ⟨r, e, p⟩ := h
  rw [e]
  exact k r p
theorem sat_eq (h : o = some a) (k : Sat (f a) Q) : Sat (o.bind f) Q := by rw [h]; exact k
theorem sat_let (k : Sat (f a) Q) : Sat ((some a).bind f) Q := k
theorem sat_chk {p : Prop} {f : Unit → Option β} (h : p) (k : Sat (f ()) Q) : Sat ((chkP p).bind f) Q := by rw [chkP_eq h]; exact k
theorem sat_some {a : β} (h : Q a) : Sat (some a) Q := ⟨a, rfl, h⟩
theorem sat_ite {c : Bool} {x y : Option β} (h1 : c = true → Sat x Q) (h2 : c = false → Sat y Q) : Sat (if c = true then x else y) Q := by
  cases c with
  | true => rw [if_pos rfl]; exact h1 rfl
  | false => rw [if_neg Bool.false_ne_true]; exact h2 rfl
theorem sat_imp {P' : α → Prop} (h : Sat o P) (k : ∀ r, P r → P' r) : Sat o P' := by
  obtain ⟨r, e, p⟩ := h
  exact ⟨r, e, k r p⟩
theorem sat_of (h : o = some a) : Sat o (fun r => r = a) := ⟨a, h, rfl⟩
theorem sat_get (h : Sat o (fun r => r = a)) : o = some a := by
  obtain ⟨r, e, p⟩ := h
  rw [e, p]
variable {γ : Type}
theorem sat_for {b : γ → S → Option (Stp S ρ)} {xs : List γ} {s0 : S} {g : Stp S ρ → Option β} (I : Nat → S → Prop)
    (h : ∀ i x s, xs[i]? = some x → I i s → Sat (b x s) (fun st => ∃ s', st = .nx s' ∧ I (i + 1) s')) (h0 : I 0 s0) (k : ∀ s, I xs.length s → Sat (g (.nx s)) Q) : Sat ((forM' b xs s0).bind g) Q := by
  obtain ⟨s', e, i⟩ := forM_ind (b := b) I xs 0 s0 (fun i x s hx hi => by
    rw [Nat.zero_add] at hi
    obtain ⟨st, e, s', e2, q⟩ := h i x s hx hi
    exact ⟨s', by rw [e, e2], by rw [Nat.zero_add]; exact q⟩) h0
  rw [e]
  rw [Nat.zero_add] at i
  exact k s' i
theorem sat_forA {b : γ → S → Option (Stp S ρ)} {xs : List γ} {s0 : S} {g : Stp S ρ → Option β} (I : S → Prop)
    (h : ∀ x ∈ xs, ∀ s, I s → Sat (b x s) (fun st => ∃ s', st = .nx s' ∧ I s')) (h0 : I s0) (k : ∀ s, I s → Sat (g (.nx s)) Q) : Sat ((forM' b xs s0).bind g) Q :=
  sat_for (fun _ => I) (fun i x s hx hi => h x (List.mem_of_getElem? hx) s hi) h0 fun s hi => k s hi
theorem sat_nx {s : S} {g : S → Option β} (k : Sat (g s) Q) : Sat ((nxt (Stp.nx (ρ := ρ) s)).bind g) Q := k
theorem sat_end {s : S} {I : S → Prop} (h : I s) : Sat (some (Stp.nx (ρ := ρ) s)) (fun st => ∃ s', st = .nx s' ∧ I s') := ⟨_, rfl, s, rfl, h⟩
end
theorem rng_len (lo : Int) (n : Nat) : (rng lo n).length = n := by unfold rng; rw [List.length_map, List.length_range]
theorem rng_get {lo : Int} {n i : Nat} {x : Int} (h : (rng lo n)[i]? = some x) : i < n ∧ x = lo + (i : Int) := by
  have lt := getlt h
  rw [rng_len] at lt
  unfold rng at h
  rw [List.getElem?_map, List.getElem?_range lt] at h
  exact ⟨lt, (Option.some.inj h).symm⟩
theorem sat_atI {α β : Type} {Q : β → Prop} {l : List α} {i : Int} {f : α → Option β} (h0 : 0 ≤ i) (h : i < (l.length : Int)) (k : ∀ x ∈ l, Sat (f x) Q) : Sat ((atI l i).bind f) Q := by
  obtain ⟨n, rfl⟩ := Int.eq_ofNat_of_zero_le h0
  have lt : n < l.length := by omega
  rw [atI_nat (List.getElem?_eq_getElem lt)]
  exact k _ (List.getElem_mem lt)
theorem cdiv_s {i j : Int} (h : 0 < j) (h2 : j < 2 ^ 64) : CDivW i j := ⟨h, by
  have : j.natAbs < 2 ^ 64 := by omega
  have h0 : j.natAbs ≠ 0 := by omega
  have := (Nat.log2_lt h0 (k := 64)).mpr this
  omega⟩
theorem size_lt {n m : Nat} (h : n ≤ m) (hm : m < 16777216) : n < sizeLine := Nat.lt_of_le_of_lt h (by show m < 2 ^ 24; exact hm)
theorem size_le {n m : Nat} (h : n ≤ m) (hm : m ≤ 16777216) : n ≤ sizeLine := Nat.le_trans h (by show m ≤ 2 ^ 24; exact hm)
/-! ### what a machine has counted -/
theorem nd_le {α : Type} [DecidableEq α] : ∀ {l m : List α}, l.Nodup → (∀ x ∈ l, x ∈ m) → l.length ≤ m.length
  | [], _, _, _ => Nat.zero_le _
  | x :: r, m, h, s => by
    obtain ⟨h1, h2⟩ := List.nodup_cons.mp h
    have hx := s x List.mem_cons_self
    have := nd_le (l := r) (m := m.erase x) h2 fun y hy => (List.mem_erase_of_ne (fun e => h1 (by rw [← e]; exact hy))).mpr (s y (List.mem_cons_of_mem _ hy))
    rw [List.length_erase_of_mem hx] at this
    have := List.length_pos_of_mem hx
    rw [List.length_cons]
    omega
/-- the words with numbers above 0 -/
def posL (l : List (Str × Int)) : List (Str × Int) := l.filter fun p => decide (0 < p.2)
theorem lookup_of {l : List (Str × Int)} (hd : (l.map (·.1)).Nodup) {x : Str × Int} (h : x ∈ l) : l.lookup x.1 = some x.2 := by
  induction l with
  | nil => cases h
  | cons a r ih =>
    rw [List.map_cons] at hd
    obtain ⟨h1, h2⟩ := List.nodup_cons.mp hd
    rw [show (a :: r) = ((a.1, a.2) :: r) from rfl, List.lookup_cons]
    rcases List.mem_cons.mp h with e | e
    · subst e; rw [beq_self_eq_true]
    · have ne : (x.1 == a.1) = false := by
        cases q : x.1 == a.1 with
        | false => rfl
        | true => exact absurd (List.mem_map.mpr ⟨x, e, by rw [beq_iff_eq.mp q]⟩) h1
      rw [ne]
      exact ih h2 e
theorem mem_lookup {l : List (Str × Int)} {k : Str} {v : Int} (h : l.lookup k = some v) : (k, v) ∈ l := by
  induction l with
  | nil => cases h
  | cons a r ih =>
    rw [show (a :: r) = ((a.1, a.2) :: r) from rfl, List.lookup_cons] at h
    cases q : k == a.1 with
    | true =>
      rw [q] at h
      have h := Option.some.inj h
      rw [beq_iff_eq.mp q, ← h]
      exact List.mem_cons_self
    | false => rw [q] at h; exact List.mem_cons_of_mem _ (ih h)
theorem same_of {l m : List (Str × Int)} (h1 : (l.map (·.1)).Nodup) (h2 : (m.map (·.1)).Nodup) (h : ∀ x, x ∈ l ↔ x ∈ m) : sameD l m := by
  have nd : ∀ {l : List (Str × Int)}, (l.map (·.1)).Nodup → l.Nodup := fun {l} h => by
    induction l with
    | nil => exact List.nodup_nil
    | cons a r ih =>
      rw [List.map_cons] at h
      obtain ⟨q1, q2⟩ := List.nodup_cons.mp h
      exact List.nodup_cons.mpr ⟨fun z => q1 (List.mem_map.mpr ⟨a, z, rfl⟩), ih q2⟩
  refine ⟨Nat.le_antisymm (nd_le (nd h1) fun x hx => (h x).mp hx) (nd_le (nd h2) fun x hx => (h x).mpr hx), fun x hx => lookup_of h2 ((h x).mp hx)⟩
theorem posL_nd {l : List (Str × Int)} (h : (l.map (·.1)).Nodup) : ((posL l).map (·.1)).Nodup := (List.filter_sublist.map _).nodup h
theorem tally_keys (S : MS) : (S.tally.map (·.1)).Nodup := by
  have : S.tally.map (·.1) = mwords := by
    unfold MS.tally
    rw [List.map_map]
    exact List.map_id _
  rw [this]
  exact mwords_nd
theorem mem_tally {S : MS} {x : Str × Int} : x ∈ S.tally ↔ x.1 ∈ mwords ∧ x.2 = S.cnt x.1 := by
  unfold MS.tally
  constructor
  · intro h
    obtain ⟨w, hw, rfl⟩ := List.mem_map.mp h
    exact ⟨hw, rfl⟩
  · rintro ⟨h1, h2⟩
    exact List.mem_map.mpr ⟨x.1, h1, by rw [← h2]⟩
/-- the same above 0 -/
def Cnt (S : MS) (l : List (Str × Int)) : Prop := (l.map (·.1)).Nodup ∧ (∀ x ∈ l, x.1 ∈ mwords) ∧ ∀ w ∈ mwords, (∀ n, l.lookup w = some n → 0 < n → S.cnt w = n) ∧ (0 < S.cnt w → l.lookup w = some (S.cnt w))
theorem cnt_same {S : MS} {l : List (Str × Int)} (h : Cnt S l) : sameD (posL S.tally) (posL l) := same_of (posL_nd (tally_keys S)) (posL_nd h.1) fun x => by
  unfold posL
  rw [List.mem_filter, List.mem_filter, mem_tally, decide_eq_true_iff]
  constructor
  · rintro ⟨⟨h1, h2⟩, h3⟩
    have := (h.2.2 x.1 h1).2 (h2 ▸ h3)
    refine ⟨?_, h3⟩
    have m := mem_lookup this
    rw [← h2] at m
    exact m
  · rintro ⟨h1, h3⟩
    have hw := h.2.1 x h1
    exact ⟨⟨hw, ((h.2.2 x.1 hw).1 x.2 (lookup_of h.1 h1) h3).symm⟩, h3⟩
theorem lcM_filter {γ : Type} {b : γ → Unit → Option (Option γ × Unit)} {p : γ → Bool} : ∀ {l : List γ}, (∀ x ∈ l, b x () = some (if p x = true then some x else none, ())) → lcM b l () = some (l.filter p, ())
  | [], _ => rfl
  | x :: r, h => by
    show (b x ()).bind _ = _
    rw [h x List.mem_cons_self, List.filter_cons]
    show (lcM b r ()).bind _ = _
    rw [lcM_filter fun y hy => h y (List.mem_cons_of_mem _ hy)]
    cases p x <;> rfl
end VL
namespace VL
open PySem L2
theorem bxor_nat (a b : Nat) : Builtin.bitXor (a : Int) (b : Int) = ((a ^^^ b : Nat) : Int) := by
  rw [Bits.bitXor_pp (Int.natCast_nonneg a) (Int.natCast_nonneg b), Int.toNat_natCast, Int.toNat_natCast]
end VL
namespace VL
open PySem L2
theorem cnt_nil (w c : Int) (wk : List (T3 Str Int Int)) : Cnt ⟨w, c, fun _ => 0, wk⟩ [] := ⟨List.nodup_nil, fun x h => (by cases h), fun w _ => ⟨fun n h _ => (by cases h), fun h => absurd h (by show ¬ (0 : Int) < 0; omega)⟩⟩
theorem cnt_fresh (w c : Int) : Cnt (MS.fresh w c) [] := cnt_nil w c []
theorem lookup_app {l m : List (Str × Int)} {k : Str} : (l ++ m).lookup k = (l.lookup k).or (m.lookup k) := by
  induction l with
  | nil => show m.lookup k = (none : Option Int).or (m.lookup k); cases m.lookup k <;> rfl
  | cons a r ih =>
    rw [show (a :: r) ++ m = (a.1, a.2) :: (r ++ m) from rfl, show (a :: r) = (a.1, a.2) :: r from rfl, List.lookup_cons, List.lookup_cons, ih]
    cases k == a.1 <;> rfl
theorem lookup_out {l : List (Str × Int)} {k : Str} (h : k ∉ l.map (·.1)) : l.lookup k = none := by
  cases q : l.lookup k with
  | none => rfl
  | some v => exact absurd (List.mem_map.mpr ⟨_, mem_lookup q, rfl⟩) h
theorem lookup_self {k : Str} {n : Int} {r : List (Str × Int)} : ((k, n) :: r).lookup k = some n := by rw [List.lookup_cons, beq_self_eq_true]
theorem lookup_skip {k j : Str} {n : Int} {r : List (Str × Int)} (h : j ≠ k) : ((k, n) :: r).lookup j = r.lookup j := by
  rw [List.lookup_cons]
  have : (j == k) = false := by
    cases q : j == k with
    | false => rfl
    | true => exact absurd (beq_iff_eq.mp q) h
  rw [this]
theorem cnt_add {S : MS} {l : List (Str × Int)} {w : Str} {n : Int} (h : Cnt S l) (hw : w ∈ mwords) (h0 : S.cnt w = 0) (hn : w ∉ l.map (·.1)) : Cnt (S.step w n) (l ++ [(w, n)]) := by
  refine ⟨?_, fun x hx => ?_, fun v hv => ?_⟩
  · rw [List.map_append, List.nodup_append]
    refine ⟨h.1, by simp, fun a ha b hb => ?_⟩
    have hb : b = w := by simpa using hb
    subst hb
    exact fun e => hn (e ▸ ha)
  · rcases List.mem_append.mp hx with z | z
    · exact h.2.1 x z
    · rw [List.mem_singleton.mp z]; exact hw
  · have e : (S.step w n).cnt v = if v = w then S.cnt v + n else S.cnt v := rfl
    rw [e, lookup_app]
    by_cases q : v = w
    · subst q
      rw [if_pos rfl, lookup_out hn, h0, Int.zero_add]
      show (∀ m, ([(v, n)] : List (Str × Int)).lookup v = some m → 0 < m → n = m) ∧ (0 < n → ([(v, n)] : List (Str × Int)).lookup v = some n)
      rw [lookup_self]
      exact ⟨fun m e _ => Option.some.inj e, fun _ => rfl⟩
    · rw [if_neg q]
      have : ([(w, n)] : List (Str × Int)).lookup v = none := by rw [lookup_skip q]; rfl
      rw [this, Option.or_none]
      exact h.2.2 v hv
theorem cnt_enter {S : MS} {l : List (Str × Int)} {w : Str} {m n : Int} (h : Cnt S l) : Cnt (S.enter w m n) l := h
/-- the same counts, told otherwise -/
theorem cnt_same_as {S S' : MS} {l m : List (Str × Int)} (h : Cnt S l) (hc : S'.cnt = S.cnt) (nd : (m.map (·.1)).Nodup) (sub : ∀ x ∈ m, x.1 ∈ mwords) (e : ∀ w ∈ mwords, (∀ n, m.lookup w = some n → 0 < n → l.lookup w = some n) ∧ (∀ n, l.lookup w = some n → 0 < n → m.lookup w = some n)) : Cnt S' m :=
  ⟨nd, sub, fun w hw => ⟨fun n hn h0 => by rw [hc]; exact (h.2.2 w hw).1 n ((e w hw).1 n hn h0) h0, fun h0 => by rw [hc] at h0 ⊢; exact (e w hw).2 _ ((h.2.2 w hw).2 h0) h0⟩⟩
theorem cnt_one {w c : Int} {x : Str} {n : Int} (hx : x ∈ mwords) : Cnt ((MS.fresh w c).step x n) [(x, n)] := cnt_add (cnt_fresh w c) hx rfl (by simp)
theorem wk_step (S : MS) (w : Str) (n : Int) : (S.step w n).wk = S.wk := rfl
theorem wk_enter {S : MS} {w : Str} {m n : Int} (h : S.wk.length < 1000) : (S.enter w m n).wk = S.wk ++ [T3.mk w m n] := by
  unfold MS.enter
  exact if_pos h
end VL
namespace VL
open PySem L2
def WkOk (l : List (T3 Str Int Int)) : Prop := ∀ x ∈ l, (PyData.str x.a).canLay0 = true
theorem wkok_dat {l : List (T3 Str Int Int)} (h : WkOk l) : Dat.ok (LF.mk l) := fun x hx => ⟨h x hx, trivial, trivial⟩
theorem wkok_nil : WkOk [] := fun x h => (by cases h)
theorem wkok_enter {S : MS} {w : Str} {m n : Int} (h : WkOk S.wk) (hw : (PyData.str w).canLay0 = true := by decide +kernel) : WkOk (S.enter w m n).wk := by
  unfold MS.enter
  show WkOk (if S.wk.length < 1000 then S.wk ++ [T3.mk w m n] else S.wk)
  split
  · intro x hx
    rcases List.mem_append.mp hx with z | z
    · exact h x z
    · rw [List.mem_singleton.mp z]; exact hw
  · exact h
theorem wkok_one {w : Str} {m n : Int} (hw : (PyData.str w).canLay0 = true := by decide +kernel) : WkOk [T3.mk w m n] := fun x hx => by rw [List.mem_singleton.mp hx]; exact hw
end VL
namespace VL
open PySem L2
theorem nab_add {a b : Int} {k : Nat} (ha : a.natAbs < 2 ^ k) (hb : b.natAbs < 2 ^ k) : (a + b).natAbs < 2 ^ (k + 1) := by rw [Nat.pow_succ]; omega
theorem nab_sub {a b : Int} {k : Nat} (ha : a.natAbs < 2 ^ k) (hb : b.natAbs < 2 ^ k) : (a - b).natAbs < 2 ^ (k + 1) := by rw [Nat.pow_succ]; omega
theorem nab_mul {a b : Int} {j k : Nat} (ha : a.natAbs < 2 ^ j) (hb : b.natAbs < 2 ^ k) : (a * b).natAbs < 2 ^ (j + k) := by
  rw [Int.natAbs_mul, Nat.pow_add]
  exact Nat.mul_lt_mul'' ha hb
theorem nab_mono {a : Int} {j k : Nat} (ha : a.natAbs < 2 ^ j) (h : j ≤ k) : a.natAbs < 2 ^ k := Nat.lt_of_lt_of_le ha (Nat.pow_le_pow_right (by decide) h)
theorem nab_neg {a : Int} {k : Nat} (ha : a.natAbs < 2 ^ k) : (0 - a).natAbs < 2 ^ k := by omega
theorem nab_neg' {a : Int} {k : Nat} (ha : a.natAbs < 2 ^ k) : (-a).natAbs < 2 ^ k := by omega
theorem nab_small {a : Int} {k : Nat} (h : a.natAbs ≤ 2 ^ 31) (hk : 32 ≤ k) : a.natAbs < 2 ^ k := Nat.lt_of_le_of_lt h (Nat.pow_lt_pow_right (by decide) (by omega))
theorem nab_powB {B : Int} (h0 : 1 ≤ B) (hB : B ≤ 1073741824) {k m : Nat} (h : k ≤ m) : (B ^ k).natAbs < 2 ^ (30 * m + 1) := by
  have key : ∀ k : Nat, 1 ≤ B ^ k ∧ B ^ k ≤ 2 ^ (30 * k) := fun k => by
    induction k with
    | zero => rw [Int.pow_zero, Nat.mul_zero, Int.pow_zero]; exact ⟨Int.le_refl _, Int.le_refl _⟩
    | succ k ih =>
      rw [Int.pow_succ, show 30 * (k + 1) = 30 * k + 30 from by omega, Int.pow_add]
      have h1 : B ^ k * B ≤ 2 ^ (30 * k) * B := Int.mul_le_mul_of_nonneg_right ih.2 (by omega)
      have h2 : (2 : Int) ^ (30 * k) * B ≤ 2 ^ (30 * k) * 2 ^ 30 := Int.mul_le_mul_of_nonneg_left (by omega) (Int.le_of_lt (ppos _))
      have h3 : 1 * B ≤ B ^ k * B := Int.mul_le_mul_of_nonneg_right ih.1 (by omega)
      omega
  have q := key k
  rw [p2] at q
  have : (2 : Nat) ^ (30 * k) ≤ 2 ^ (30 * m) := Nat.pow_le_pow_right (by decide) (by omega)
  rw [Nat.pow_succ]
  omega
end VL

set_option Elab.async false
set_option linter.all false
/-! bits of any integers -/
namespace VL
open PySem L2 PyProof.Rows
abbrev band := Builtin.bitAnd
theorem half (x y : Int) : band x y = 2 * band (x / 2) (y / 2) + (if x % 2 = 1 ∧ y % 2 = 1 then 1 else 0) := PySem.W.kbt_halves x y
theorem hl_div (h l : Int) (k : Nat) (h0 : 0 ≤ l) (h1 : l < 2 ^ (k + 1)) : (h * 2 ^ (k + 1) + l) / 2 = h * 2 ^ k + l / 2 ∧ (h * 2 ^ (k + 1) + l) % 2 = l % 2 ∧ 0 ≤ l / 2 ∧ l / 2 < 2 ^ k := by
  rw [Int.pow_succ] at h1 ⊢
  have e : h * (2 ^ k * 2) = 2 * (h * 2 ^ k) := by rw [← Int.mul_assoc, Int.mul_comm (h * 2 ^ k) 2]
  rw [e]
  omega
/-- both parts join by themselves -/
theorem band_split : ∀ (k : Nat) (h g l m : Int), 0 ≤ l → l < 2 ^ k → 0 ≤ m → m < 2 ^ k → band (h * 2 ^ k + l) (g * 2 ^ k + m) = band h g * 2 ^ k + band l m
  | 0, h, g, l, m, l0, l1, m0, m1 => by
    rw [Int.pow_zero] at l1 m1 ⊢
    have e1 : l = 0 := by omega
    have e2 : m = 0 := by omega
    subst e1 e2
    rw [show band 0 0 = 0 from rfl, Int.mul_one, Int.mul_one, Int.mul_one, Int.add_zero, Int.add_zero, Int.add_zero]
  | k + 1, h, g, l, m, l0, l1, m0, m1 => by
    obtain ⟨a1, a2, a3, a4⟩ := hl_div h l k l0 l1
    obtain ⟨b1, b2, b3, b4⟩ := hl_div g m k m0 m1
    rw [half (h * 2 ^ (k + 1) + l), a1, a2, b1, b2, band_split k h g _ _ a3 a4 b3 b4, half l m, Int.pow_succ, ← Int.mul_assoc, Int.mul_add, Int.mul_comm (band h g * 2 ^ k) 2]
    omega
theorem band_parts (x y : Int) (k : Nat) : band x y = band (x / 2 ^ k) (y / 2 ^ k) * 2 ^ k + band (x % 2 ^ k) (y % 2 ^ k) := by
  have hp := ppos k
  have e1 : x = x / 2 ^ k * 2 ^ k + x % 2 ^ k := (Int.mul_comm _ _ ▸ (Int.mul_ediv_add_emod x (2 ^ k)).symm)
  have e2 : y = y / 2 ^ k * 2 ^ k + y % 2 ^ k := (Int.mul_comm _ _ ▸ (Int.mul_ediv_add_emod y (2 ^ k)).symm)
  have := band_split k (x / 2 ^ k) (y / 2 ^ k) (x % 2 ^ k) (y % 2 ^ k) (Int.emod_nonneg _ (by omega)) (Int.emod_lt_of_pos _ hp) (Int.emod_nonneg _ (by omega)) (Int.emod_lt_of_pos _ hp)
  rwa [← e1, ← e2] at this
theorem band0 (x : Int) : band x 0 = 0 := bitAnd_zero x
theorem band0' (x : Int) : band 0 x = 0 := (bitAnd_comm 0 x).trans (bitAnd_zero x)
theorem band_nn {l m : Int} {k : Nat} (h0 : 0 ≤ l) (m0 : 0 ≤ m) (m1 : m < 2 ^ k) : 0 ≤ band l m ∧ band l m < 2 ^ k := by
  have := bitAnd_range l m0
  exact ⟨this.1, Int.lt_of_le_of_lt this.2 m1⟩
theorem rng_div {x : Int} {k : Nat} : (-(2 ^ k) ≤ x ∧ x < 2 ^ k) ↔ (x / 2 ^ k = 0 ∨ x / 2 ^ k = -1) := by
  have hp := ppos k
  have e := Int.mul_ediv_add_emod x (2 ^ k)
  have m0 := Int.emod_nonneg x (b := 2 ^ k) (by omega)
  have m1 := Int.emod_lt_of_pos x hp
  constructor
  · rintro ⟨h1, h2⟩
    have a : -1 ≤ x / 2 ^ k := by rw [Int.le_ediv_iff_mul_le hp]; omega
    have b : x / 2 ^ k < 1 := Int.ediv_lt_of_lt_mul hp (by omega)
    omega
  · rintro (h | h)
    · rw [h, Int.mul_zero] at e; omega
    · rw [h] at e; omega
theorem band_rng {x y : Int} {k : Nat} (hx : -(2 ^ k) ≤ x ∧ x < 2 ^ k) (hy : -(2 ^ k) ≤ y ∧ y < 2 ^ k) : -(2 ^ k) ≤ band x y ∧ band x y < 2 ^ k := by
  have hp := ppos k
  have e := band_parts x y k
  have n := band_nn (k := k) (Int.emod_nonneg x (b := 2 ^ k) (by omega)) (Int.emod_nonneg y (b := 2 ^ k) (by omega)) (Int.emod_lt_of_pos y hp)
  rcases rng_div.mp hx with h1 | h1 <;> rcases rng_div.mp hy with h2 | h2 <;> rw [h1, h2] at e
  · rw [show band 0 0 = 0 from rfl] at e; omega
  · rw [show band 0 (-1) = 0 from rfl] at e; omega
  · rw [show band (-1) 0 = 0 from rfl] at e; omega
  · rw [show band (-1) (-1) = -1 from rfl] at e; omega
theorem bor_eq (x y : Int) : Builtin.bitOr x y = x + y - band x y := bitOr_and x y
theorem bxor_eq (x y : Int) : Builtin.bitXor x y = x + y - 2 * band x y := bitXor_and x y
theorem bnot_eq (x : Int) : Builtin.bitNot x = -x - 1 := rfl
theorem bnot_rng {x : Int} {k : Nat} (hx : -(2 ^ k) ≤ x ∧ x < 2 ^ k) : -(2 ^ k) ≤ Builtin.bitNot x ∧ Builtin.bitNot x < 2 ^ k := by rw [bnot_eq]; omega
theorem bor_rng {x y : Int} {k : Nat} (hx : -(2 ^ k) ≤ x ∧ x < 2 ^ k) (hy : -(2 ^ k) ≤ y ∧ y < 2 ^ k) : -(2 ^ k) ≤ Builtin.bitOr x y ∧ Builtin.bitOr x y < 2 ^ k := bnot_rng (band_rng (bnot_rng hx) (bnot_rng hy))
theorem bxor_rng {x y : Int} {k : Nat} (hx : -(2 ^ k) ≤ x ∧ x < 2 ^ k) (hy : -(2 ^ k) ≤ y ∧ y < 2 ^ k) : -(2 ^ k) ≤ Builtin.bitXor x y ∧ Builtin.bitXor x y < 2 ^ k := by
  have hp := ppos k
  have e := band_parts x y k
  have mx := Int.mul_ediv_add_emod x (2 ^ k)
  have my := Int.mul_ediv_add_emod y (2 ^ k)
  have x0 := Int.emod_nonneg x (b := 2 ^ k) (by omega)
  have y0 := Int.emod_nonneg y (b := 2 ^ k) (by omega)
  have x1 := Int.emod_lt_of_pos x hp
  have y1 := Int.emod_lt_of_pos y hp
  have n := band_nn (k := k) x0 y0 y1
  have o := bor_eq (x % 2 ^ k) (y % 2 ^ k)
  have xe := bxor_eq (x % 2 ^ k) (y % 2 ^ k)
  have xr : 0 ≤ Builtin.bitXor (x % 2 ^ k) (y % 2 ^ k) ∧ Builtin.bitXor (x % 2 ^ k) (y % 2 ^ k) < 2 ^ k := by
    have r := Bits.bitXor_pp x0 y0
    have lt : ((x % 2 ^ k).toNat ^^^ (y % 2 ^ k).toNat) < 2 ^ k := Nat.xor_lt_two_pow (by have := p2 k; omega) (by have := p2 k; omega)
    have := p2 k
    omega
  rw [bxor_eq]
  rcases rng_div.mp hx with h1 | h1 <;> rcases rng_div.mp hy with h2 | h2 <;> rw [h1, h2] at e <;> rw [h1] at mx <;> rw [h2] at my
  · rw [show band 0 0 = 0 from rfl] at e; omega
  · rw [show band 0 (-1) = 0 from rfl] at e; omega
  · rw [show band (-1) 0 = 0 from rfl] at e; omega
  · rw [show band (-1) (-1) = -1 from rfl] at e; omega
/-! one bit -/
def bit (x : Int) (i : Nat) : Int := x / 2 ^ i % 2
theorem bit_or (x : Int) (i : Nat) : bit x i = 0 ∨ bit x i = 1 := by unfold bit; omega
theorem bit_zero (x : Int) : bit x 0 = x % 2 := by unfold bit; rw [Int.pow_zero, Int.ediv_one]
theorem bit_succ (x : Int) (i : Nat) : bit x (i + 1) = bit (x / 2) i := by
  unfold bit
  rw [show (i + 1) = 1 + i from by omega, ← ediv_pow, show (2 : Int) ^ 1 = 2 from rfl]
theorem bit_band : ∀ (i : Nat) (x y : Int), bit (band x y) i = bit x i * bit y i
  | 0, x, y => by
    rw [bit_zero, bit_zero, bit_zero, half]
    rcases (show x % 2 = 0 ∨ x % 2 = 1 by omega) with a | a <;> rcases (show y % 2 = 0 ∨ y % 2 = 1 by omega) with b | b <;> rw [a, b] <;> simp <;> omega
  | i + 1, x, y => by
    rw [bit_succ, bit_succ, bit_succ, ← bit_band i]
    congr 1
    rw [half x y]
    split <;> omega
theorem bit_bnot : ∀ (i : Nat) (x : Int), bit (Builtin.bitNot x) i = 1 - bit x i
  | 0, x => by rw [bit_zero, bit_zero, bnot_eq]; omega
  | i + 1, x => by
    rw [bit_succ, bit_succ, ← bit_bnot i]
    congr 1
    rw [bnot_eq, bnot_eq]
    omega
theorem bit_ext {x y : Int} (h : ∀ i, bit x i = bit y i) : x = y := by
  have key : ∀ (n : Nat) (x y : Int), x.natAbs + y.natAbs ≤ n → (∀ i, bit x i = bit y i) → x = y := by
    intro n
    induction n with
    | zero => intro x y hn _; omega
    | succ n ih =>
      intro x y hn h
      have h0 := h 0
      rw [bit_zero, bit_zero] at h0
      by_cases sm : (x / 2).natAbs + (y / 2).natAbs ≤ n
      · have := ih (x / 2) (y / 2) sm fun i => by rw [← bit_succ, ← bit_succ]; exact h (i + 1)
        omega
      · have hx : x = 0 ∨ x = -1 := by omega
        have hy : y = 0 ∨ y = -1 := by omega
        rcases hx with e | e <;> rcases hy with f | f <;> subst e f <;> first | rfl | (exfalso; revert h0; decide)
  exact key _ x y (Nat.le_refl _) h
theorem bit_bor (i : Nat) (x y : Int) : bit (Builtin.bitOr x y) i = bit x i + bit y i - bit x i * bit y i := by
  show bit (Builtin.bitNot (band (Builtin.bitNot x) (Builtin.bitNot y))) i = _
  rw [bit_bnot, bit_band, bit_bnot, bit_bnot]
  rcases bit_or x i with a | a <;> rcases bit_or y i with b | b <;> rw [a, b] <;> decide
/-- low and high part of a number -/
theorem band_low (x : Int) (k : Nat) : band x (2 ^ k - 1) = x % 2 ^ k := PySem.W.kbt_mask x k
theorem band_pow (x : Int) (k : Nat) : band x (2 ^ k) = (x / 2 ^ k % 2) * 2 ^ k := PySem.W.kbt_bit x k
theorem band_lh {l h : Int} {k : Nat} (h0 : 0 ≤ l) (h1 : l < 2 ^ k) : band l (h * 2 ^ k) = 0 := by
  have hp := ppos k
  have := band_split k 0 h l 0 h0 h1 (Int.le_refl _) hp
  rw [Int.zero_mul, Int.zero_add, Int.add_zero] at this
  rw [this, band0, band0', Int.zero_mul]
  rfl
theorem band_not (x y : Int) : band x (Builtin.bitNot y) = x - band x y := by
  have key : band x (Builtin.bitNot y) + band x y = x := by
    have e : band (band x (Builtin.bitNot y)) (band x y) = 0 := bit_ext fun i => by
      rw [bit_band, bit_band, bit_band, bit_bnot]
      rcases bit_or x i with a | a <;> rcases bit_or y i with b | b <;> rw [a, b] <;> unfold bit <;> simp
    have o : Builtin.bitOr (band x (Builtin.bitNot y)) (band x y) = x := bit_ext fun i => by
      rw [bit_bor, bit_band, bit_band, bit_bnot]
      rcases bit_or x i with a | a <;> rcases bit_or y i with b | b <;> rw [a, b] <;> decide
    rw [bor_eq, e] at o
    omega
  omega
end VL

set_option Elab.async false
set_option linter.all false
set_option maxRecDepth 100000
/-! VD: long division digit by digit, by numbers: the guess, how often it is corrected, what each place finds. -/
namespace VL
open PySem L2
section
variable {B E b r : Nat}
theorem kn_q_lt (h : r < b * B) : r / b < B := Nat.div_lt_of_lt_mul h
theorem kn_low (hE : 0 < E) (hV : 0 < b / E) (hb : 0 < b) : r / b ≤ r / E / (b / E) := by
  rw [Nat.le_div_iff_mul_le hV, Nat.le_div_iff_mul_le hE]
  have h1 : b / E * E ≤ b := Nat.div_mul_le_self b E
  have h2 : r / b * b ≤ r := Nat.div_mul_le_self r b
  have h3 : r / b * (b / E * E) ≤ r / b * b := Nat.mul_le_mul_left _ h1
  rw [Nat.mul_assoc]
  omega
theorem kn_high (hB : 0 < B) (hE : 0 < E) (hV : B ≤ b / E) (hb : 0 < b) (h : r < b * B) : r / E / (b / E) ≤ r / b + 1 := by
  have hq := kn_q_lt h
  generalize hqq : r / b = q at *
  generalize hVV : b / E = V at *
  refine Nat.le_of_lt_succ (Nat.lt_of_not_le fun z => ?_)
  have h1 : (q + 2) * V ≤ r / E := Nat.le_trans (Nat.mul_le_mul_right V z) (Nat.div_mul_le_self _ _)
  have h2 : (q + 2) * V * E ≤ r := Nat.le_trans (Nat.mul_le_mul_right E h1) (Nat.div_mul_le_self _ _)
  have h3 : r < (q + 1) * b := by
    have := Nat.lt_div_mul_add (a := r) hb
    rw [hqq] at this
    rw [Nat.add_mul, Nat.one_mul]
    exact this
  have h4 : b + 1 ≤ (V + 1) * E := by
    have := Nat.lt_div_mul_add (a := b) hE
    rw [hVV] at this
    rw [Nat.add_mul, Nat.one_mul]
    exact this
  have h5 : (q + 1) * b ≤ (q + 1) * ((V + 1) * E) := Nat.mul_le_mul_left _ (by omega)
  have h6 : (q + 2) * V * E < (q + 1) * (V + 1) * E := by
    rw [Nat.mul_assoc (q + 1)]
    omega
  have h7 : (q + 2) * V < (q + 1) * (V + 1) := Nat.lt_of_mul_lt_mul_right h6
  have e1 : (q + 2) * V = q * V + 2 * V := Nat.add_mul _ _ _
  have e2 : (q + 1) * (V + 1) = q * V + V + q + 1 := by rw [Nat.mul_add, Nat.add_mul]; omega
  omega
variable {h v1 v2 : Nat}
theorem kn_guess_ge (hB : 0 < B) (hv : 0 < v1) : h / (v1 * B + v2) ≤ h / B / v1 := by
  rw [Nat.le_div_iff_mul_le hv, Nat.le_div_iff_mul_le hB]
  have h1 : h / (v1 * B + v2) * (v1 * B + v2) ≤ h := Nat.div_mul_le_self _ _
  have h2 : h / (v1 * B + v2) * (v1 * B) ≤ h / (v1 * B + v2) * (v1 * B + v2) := Nat.mul_le_mul_left _ (by omega)
  rw [Nat.mul_assoc]
  omega
theorem kn_guess_le (hB : 0 < B) (hv : 0 < v1) (hn : B ≤ 2 * v1) (hh : h < (v1 + 1) * B * B) : h / B / v1 ≤ B + 1 := by
  have h1 : h / B < (v1 + 1) * B := Nat.div_lt_of_lt_mul (by rw [Nat.mul_comm]; exact hh)
  have h2 : h / B / v1 * v1 ≤ h / B := Nat.div_mul_le_self _ _
  refine Nat.le_of_lt_succ (Nat.lt_of_not_le fun z => ?_)
  have h3 : (B + 2) * v1 ≤ h / B / v1 * v1 := Nat.mul_le_mul_right _ z
  have e1 : (B + 2) * v1 = v1 * B + 2 * v1 := by rw [Nat.add_mul, Nat.mul_comm B]
  have e2 : (v1 + 1) * B = v1 * B + B := by rw [Nat.add_mul, Nat.one_mul]
  omega
theorem kn_guess_two (hB : 0 < B) (hv : 0 < v1) (h2 : v2 < B) (hn : B ≤ 2 * v1) (hg : h / B / v1 ≤ B + 1) : h / B / v1 ≤ h / (v1 * B + v2) + 2 := by
  generalize hgg : h / B / v1 = g at *
  by_cases q : g ≤ 2
  · exact Nat.le_trans q (Nat.le_add_left 2 _)
  · obtain ⟨k, rfl⟩ : ∃ k, g = k + 2 := ⟨g - 2, by omega⟩
    have : k ≤ h / (v1 * B + v2) := by
      have hV : 0 < v1 * B + v2 := by have := Nat.mul_pos hv hB; omega
      rw [Nat.le_div_iff_mul_le hV]
      have h1 : (k + 2) * v1 ≤ h / B := by rw [← hgg]; exact Nat.div_mul_le_self _ _
      have h3 : (k + 2) * v1 * B ≤ h := Nat.le_trans (Nat.mul_le_mul_right B h1) (Nat.div_mul_le_self _ _)
      have h4 : k * (v1 * B + v2) ≤ k * ((v1 + 1) * B) := Nat.mul_le_mul_left _ (by rw [Nat.add_mul]; omega)
      have e1 : k * ((v1 + 1) * B) = k * v1 * B + k * B := by rw [Nat.add_mul, Nat.one_mul, Nat.mul_add, Nat.mul_assoc]
      have e2 : (k + 2) * v1 * B = k * v1 * B + 2 * v1 * B := by rw [Nat.add_mul, Nat.add_mul]
      have h5 : k * B ≤ 2 * v1 * B := Nat.mul_le_mul_right B (by omega)
      omega
    exact Nat.add_le_add_right this 2
end
/-! ### the steps, by the two numbers that are divided: b has all its digits, E stands behind its last two -/
/-- what is divided at place i: the rest so far and the next digit -/
def dvR (B A b i : Nat) : Nat := A / B ^ (i + 1) % b * B + A / B ^ i % B
def dvS (B E A b i : Nat) : T4 Int Int Bool Int :=
  ⟨((dvR B A b i / E / B / (b / E / B) : Nat) : Int), ((dvR B A b i / E / B / (b / E / B) : Nat) : Int) - ((dvR B A b i / E / (b / E) : Nat) : Int), decide (dvR B A b i / b < dvR B A b i / E / (b / E)), ((dvR B A b i / b : Nat) : Int)⟩
/-- the steps of k places, from the top -/
def dvSteps (B E A b : Nat) : Nat → List (T4 Int Int Bool Int)
  | 0 => []
  | k + 1 => dvS B E A b k :: dvSteps B E A b k
theorem dvSteps_len {B E A b : Nat} : ∀ k, (dvSteps B E A b k).length = k
  | 0 => rfl
  | k + 1 => congrArg (· + 1) (dvSteps_len k)
theorem dv_split {B A i : Nat} (hB : 0 < B) : A / B ^ i = A / B ^ (i + 1) * B + A / B ^ i % B := by
  have h := Nat.div_add_mod (A / B ^ i) B
  rw [Nat.div_div_eq_div_mul, ← Nat.pow_succ, Nat.mul_comm] at h
  exact h.symm
theorem dvR_lt {B A b i : Nat} (hB : 0 < B) (hb : 0 < b) : dvR B A b i < b * B := by
  unfold dvR
  have h1 : A / B ^ (i + 1) % b + 1 ≤ b := Nat.mod_lt _ hb
  have h2 : A / B ^ i % B < B := Nat.mod_lt _ hB
  have h3 : (A / B ^ (i + 1) % b + 1) * B ≤ b * B := Nat.mul_le_mul_right B h1
  rw [Nat.add_mul, Nat.one_mul] at h3
  omega
/-- the rest behind place i -/
theorem dvR_mod {B A b i : Nat} (hB : 0 < B) (hb : 0 < b) : dvR B A b i % b = A / B ^ i % b := by
  have e := dv_split (A := A) (i := i) hB
  unfold dvR
  generalize A / B ^ i % B = d at *
  rw [e]
  conv => rhs; rw [← Nat.div_add_mod (A / B ^ (i + 1)) b]
  rw [Nat.add_mul, Nat.mul_assoc, Nat.add_assoc, Nat.mul_add_mod]
/-- the quotient so far -/
theorem dvR_div {B A b i : Nat} (hB : 0 < B) (hb : 0 < b) : A / B ^ i / b = A / B ^ (i + 1) / b * B + dvR B A b i / b := by
  have e := dv_split (A := A) (i := i) hB
  unfold dvR
  generalize A / B ^ i % B = d at *
  rw [e]
  conv => lhs; rw [← Nat.div_add_mod (A / B ^ (i + 1)) b]
  rw [Nat.add_mul, Nat.mul_assoc, Nat.add_assoc, Nat.mul_add_div hb]
/-- the digits of the steps, the last place first, are those of the quotient -/
theorem dvSteps_val {B E A b : Nat} (hB : 0 < B) (hb : 0 < b) : ∀ k, A / B ^ k < b → lv (B : Int) ((dvSteps B E A b k).reverse.map fun s => s.d) = ((A / b : Nat) : Int) := by
  have key : ∀ k, lv (B : Int) ((dvSteps B E A b k).reverse.map fun s => s.d) + ((A / B ^ k / b : Nat) : Int) * (B : Int) ^ k = ((A / b : Nat) : Int) := by
    intro k
    induction k with
    | zero => rw [Nat.pow_zero, Nat.div_one, Int.pow_zero, Int.mul_one]; exact Int.zero_add _
    | succ k ih =>
      show lv (B : Int) (((dvS B E A b k :: dvSteps B E A b k).reverse).map fun s => s.d) + _ = _
      rw [List.reverse_cons, List.map_append]
      show lv (B : Int) ((dvSteps B E A b k).reverse.map (fun s => s.d) ++ [((dvR B A b k / b : Nat) : Int)]) + _ = _
      rw [lv_snoc, List.length_map, List.length_reverse, dvSteps_len, ← ih, dvR_div hB hb (i := k), Int.pow_succ]
      push_cast
      grind
  intro k hk
  have := key k
  rw [Nat.div_eq_of_lt hk] at this
  simpa using this
theorem dvSteps_mem {B E A b : Nat} (hB : 0 < B) (hb : 0 < b) : ∀ k, ∀ s ∈ dvSteps B E A b k, 0 ≤ s.d ∧ s.d < (B : Int)
  | 0, s, hs => by cases hs
  | k + 1, s, hs => by
    rcases List.mem_cons.mp hs with e | e
    · subst e
      have := kn_q_lt (dvR_lt (A := A) (i := k) hB hb)
      show 0 ≤ ((dvR B A b k / b : Nat) : Int) ∧ ((dvR B A b k / b : Nat) : Int) < (B : Int)
      generalize dvR B A b k / b = q at *
      omega
    · exact dvSteps_mem hB hb k s e
/-! ### the same steps, scaled -/
theorem dvR_scale {B A b i C : Nat} (hB : 0 < B) (hb : 0 < b) (hC : 0 < C) : dvR B (A * C) (b * C) i / C = dvR B A b i := by
  have hbC : 0 < b * C := Nat.mul_pos hb hC
  have q1 := dvR_div (A := A * C) (b := b * C) (i := i) hB hbC
  have q2 := dvR_div (A := A) (b := b) (i := i) hB hb
  have e : ∀ j, A * C / B ^ j / (b * C) = A / B ^ j / b := fun j => by
    rw [Nat.div_div_eq_div_mul, Nat.div_div_eq_div_mul, ← Nat.mul_assoc, Nat.mul_div_mul_right _ _ hC]
  rw [e, e] at q1
  have hq : dvR B (A * C) (b * C) i / (b * C) = dvR B A b i / b := by omega
  have m1 := dvR_mod (A := A * C) (b := b * C) (i := i) hB hbC
  have m2 := dvR_mod (A := A) (b := b) (i := i) hB hb
  have hr : dvR B (A * C) (b * C) i % (b * C) / C = dvR B A b i % b := by
    rw [m1, m2, Nat.mul_comm b C, Nat.mod_mul_right_div_self, Nat.div_div_eq_div_mul, Nat.mul_comm (B ^ i) C, Nat.mul_comm A C, Nat.mul_div_mul_left _ _ hC]
  have s1 := Nat.div_add_mod (dvR B (A * C) (b * C) i) (b * C)
  have s2 := Nat.div_add_mod (dvR B A b i) b
  rw [hq] at s1
  rw [← s1, Nat.mul_comm b C, Nat.mul_assoc, Nat.mul_add_div hC, Nat.mul_comm C b, hr]
  exact s2
theorem dvSteps_scale {B E A b C : Nat} (hB : 0 < B) (hb : 0 < b) (hC : 0 < C) : ∀ k, dvSteps B (E * C) (A * C) (b * C) k = dvSteps B E A b k
  | 0 => rfl
  | k + 1 => by
    have h := dvR_scale (A := A) (i := k) hB hb hC
    have e1 : dvR B (A * C) (b * C) k / (E * C) = dvR B A b k / E := by rw [Nat.mul_comm E C, ← Nat.div_div_eq_div_mul, h]
    have e2 : dvR B (A * C) (b * C) k / (b * C) = dvR B A b k / b := by rw [Nat.mul_comm b C, ← Nat.div_div_eq_div_mul, Nat.mul_comm C b, h]
    show dvS B (E * C) (A * C) (b * C) k :: dvSteps B (E * C) (A * C) (b * C) k = dvS B E A b k :: dvSteps B E A b k
    rw [dvSteps_scale hB hb hC k]
    unfold dvS
    rw [e1, e2, Nat.mul_div_mul_right _ _ hC]
end VL

set_option Elab.async false
set_option linter.all false
set_option maxRecDepth 100000
set_option maxHeartbeats 4000000
namespace P
open PySem L2 VL
def topS (i : Nat) : Stmt := PySem.Challenge.pw_thirtybits_k04_machines.main.body.getD i (.Pass ⟨0, 0, 0, 0⟩)
section
variable {P : Program} {w : World} {mg : Str → Option Value} {base : Heap} {T : TC}

noncomputable def M_is_integer (x0 : Int) : Option Bool :=
  some (true && (!false))
def Pre_is_integer (T : TC) : PreT := fun As Ω R => ∃ (x0 : Int) (r : Bool), As = [va T x0] ∧ M_is_integer x0 = some r ∧ R = RV (va T r) (stt Ω [] [])
abbrev s_is_integer : Stmt := topS 6
theorem sc_is_integer : FnScope ["value"] ["value"] (defScope s_is_integer) := ⟨rfl, rfl, rfl, by decide +kernel, rfl, by decide +kernel, by decide +kernel⟩
theorem ok_is_integer {f : Addr} {fd : FuncData} (F : Fun T.K "is_integer" "is_integer" s_is_integer f fd) (z_isinstance : mg "isinstance" = none) (z_int : mg "int" = none) (z_bool : mg "bool" = none) : FnOk P w T.K mg base CX0 1 f fd ["value"] (mkSp (Pre_is_integer T)) := by
  refine fn_ok F sc_is_integer (fun As Ω R h => ?_) (fun cdv A outer s H E hr As Ω R F0 h => ?_)
  · obtain ⟨x0, r, rfl, _⟩ := h
    rfl
  obtain ⟨x0, r, rfl, hm, rfl⟩ := h
  refine ⟨_, (pss_one (ps_ret (pe_and (pe_callB (cr_isiK (K := T.K) rfl) (by rfl) z_isinstance (by decide +kernel) (pa_cons (pv 0) (pa_cons (pe_bltn (v := .ty "int") (by rfl) z_int (by decide +kernel) rfl) pa_nil))) (pe_one (pe_not (pe_callB (cr_isiK (K := T.K) rfl) (by rfl) z_isinstance (by decide +kernel) (pa_cons (pv 0) (pa_cons (pe_bltn (v := .ty "bool") (by rfl) z_bool (by decide +kernel) rfl) pa_nil)))))))), fun D hrt hnx => ?_⟩
  have ok : Okk Ω [] := okk0
  suffices hx : XS _ D F0 [some (va T x0)] (stt Ω [] []) by
    rw [show (stt Ω [] []) = Ω from stt_self (by simp)] at hx
    exact hx
  unfold M_is_integer at hm
  obtain rfl := Option.some.inj hm
  refine xs_ret (xe_andV (xe_isi (xe_var (i := 0) rfl) xe_vx (.ty _) (fun F H v hh a => ty_int hh a) (kit_ty (by decide +kernel))) (fun _ => (xe_notV (xe_isi (xe_var (i := 0) rfl) xe_vx (.ty _) (fun F H v hh a => ty_int hh a) (kit_ty (by decide +kernel)))))) hrt.all
noncomputable def M_is_between (x0 : Int) (x1 : Int) (x2 : Int) : Option Bool :=
  (M_is_integer x0).bind fun z1 => some (z1 && (decide (x1 ≤ x0) && decide (x0 ≤ x2)))
def Pre_is_between (T : TC) : PreT := fun As Ω R => ∃ (x0 : Int) (x1 : Int) (x2 : Int) (r : Bool), As = [va T x0, va T x1, va T x2] ∧ M_is_between x0 x1 x2 = some r ∧ R = RV (va T r) (stt Ω [] [])
abbrev s_is_between : Stmt := topS 7
theorem sc_is_between : FnScope ["value", "low", "high"] ["value", "low", "high"] (defScope s_is_between) := ⟨rfl, rfl, rfl, by decide +kernel, rfl, by decide +kernel, by decide +kernel⟩
theorem ok_is_between {f : Addr} {fd : FuncData} (F : Fun T.K "is_between" "is_between" s_is_between f fd) (c_is_integer : Cal P w T.K mg base 1 "is_integer" ["value"] (mkSp (Pre_is_integer T))) : FnOk P w T.K mg base CX0 2 f fd ["value", "low", "high"] (mkSp (Pre_is_between T)) := by
  refine fn_ok F sc_is_between (fun As Ω R h => ?_) (fun cdv A outer s H E hr As Ω R F0 h => ?_)
  · obtain ⟨x0, x1, x2, r, rfl, _⟩ := h
    rfl
  obtain ⟨x0, x1, x2, r, rfl, hm, rfl⟩ := h
  refine ⟨_, (pss_one (ps_ret (pe_and (pe_cal c_is_integer (hr.mono (by decide)) (by rfl) (pa_cons (pv 0) pa_nil)) (pe_one (pe_chain op_le op_le (pv 1) (pv 0) (pv 2)))))), fun D hrt hnx => ?_⟩
  have ok : Okk Ω [] := okk0
  suffices hx : XS _ D F0 [some (va T x0), some (va T x1), some (va T x2)] (stt Ω [] []) by
    rw [show (stt Ω [] []) = Ω from stt_self (by simp)] at hx
    exact hx
  unfold M_is_between at hm
  obtain ⟨z1, hz1, hm⟩ := bnd_some hm
  obtain rfl := Option.some.inj hm
  refine xs_ret (xe_andV (xe_call (xa_cons (xe_var (i := 0) rfl) xa_nil) ⟨x0, z1, rfl, hz1, rfl⟩ cal0) (fun _ => (xe_chain (xe_var (i := 1) rfl) (xe_var (i := 0) rfl) ro_bl (fun _ => (xe_var (i := 2) rfl)) (fun _ => ro_bl)))) hrt.all
abbrev s_Mach_step : Stmt := inClass (topS 11) 6
theorem sc_Mach_step : FnScope ["self", "word", "many"] ["self", "word", "many"] (defScope s_Mach_step) := ⟨rfl, rfl, rfl, by decide +kernel, rfl, by decide +kernel, by decide +kernel⟩
theorem ok_Mach_step {f : Addr} {fd : FuncData} (F : Fun T.K "step" "Machine.step" s_Mach_step f fd) (mc : MCls T.K (T.C 0))  : FnOk P w T.K mg base CX0 1 f fd ["self", "word", "many"] (mkSp (Pre_Mach_step T)) := by
  refine fn_ok F sc_Mach_step (fun As Ω R h => ?_) (fun cdv A outer s H E hr As Ω R F0 h => ?_)
  · obtain ⟨k, p, x, wd, n, rfl, _⟩ := h; rfl
  obtain ⟨k, p, x, wd, n, rfl, hk, hw, rfl⟩ := h
  refine ⟨_, pss_one (ps_daug (hu_of hr) (pe_fld (pv 0) (by rfl)) (pv 1) (pv 2) in_add (fun _ _ _ => rfl)), fun D hrt hnx => ?_⟩
  exact xs_step mc rfl rfl rfl hk hw fun σ H ⟨F, f0, e, hh⟩ => hnx F σ H _ f0 hh ⟨rfl, stt_one.symm⟩
abbrev s_Mach_enter : Stmt := inClass (topS 11) 7
theorem sc_Mach_enter : FnScope ["self", "word", "m", "n"] ["self", "word", "m", "n"] (defScope s_Mach_enter) := ⟨rfl, rfl, rfl, by decide +kernel, rfl, by decide +kernel, by decide +kernel⟩
theorem ok_Mach_enter {f : Addr} {fd : FuncData} (F : Fun T.K "enter" "Machine.enter" s_Mach_enter f fd) (mc : MCls T.K (T.C 0)) (z_len : mg "len" = none) (g_LONGEST_WALK : ∃ u, mg "LONGEST_WALK" = some u ∧ RelV (.int 1000) u) : FnOk P w T.K mg base CX0 1 f fd ["self", "word", "m", "n"] (mkSp (Pre_Mach_enter T)) := by
  refine fn_ok F sc_Mach_enter (fun As Ω R h => ?_) (fun cdv A outer s H E hr As Ω R F0 h => ?_)
  · obtain ⟨k, p, x, wd, m, n, rfl, _⟩ := h; rfl
  obtain ⟨k, p, x, wd, m, n, rfl, hk, rfl⟩ := h
  refine ⟨_, pss_one (ps_if (pt_cmpR op_lt (pe_callB cr_len (by rfl) z_len PySem.boot_len (pa_cons (pe_fld (pv 0) (by rfl)) pa_nil)) (pe_gl rfl g_LONGEST_WALK) (nomark _)) (pss_one (ps_expr (pe_bm PySem.F.plainAttrs_list PySem.F.slot_list_append PySem.F.type_list_append mt_append (pe_fld (pv 0) (by rfl)) (pa_cons (pe_tup (pa_cons (pv 1) (pa_cons (pv 2) (pa_cons (pv 3) pa_nil)))) pa_nil)))) pss_nil), fun D hrt hnx => ?_⟩
  exact xs_enter mc rfl rfl rfl rfl hk fun σ H ⟨F, f0, e, hh⟩ => hnx F σ H _ f0 hh ⟨rfl, stt_one.symm⟩
abbrev s_Mach_reset : Stmt := inClass (topS 11) 5
theorem sc_Mach_reset : FnScope ["self", "word"] ["self"] (defScope s_Mach_reset) := ⟨rfl, rfl, rfl, by decide +kernel, rfl, by decide +kernel, by decide +kernel⟩
theorem ok_Mach_reset {f : Addr} {fd : FuncData} (F : Fun T.K "reset" "Machine.reset" s_Mach_reset f fd) (mc : MCls T.K (T.C 0)) {aW : Addr} (g_WORDS : ∃ u, mg "WORDS" = some u ∧ RelV (.ref aW) u) (hW : ∀ H, SqT T.K H aW (mwords.map V.str)) : FnOk P w T.K mg base CX0 1 f fd ["self"] (mkSp (Pre_Mach_reset T)) := by
  refine fn_ok F sc_Mach_reset (fun As Ω R h => ?_) (fun cdv A outer s H E hr As Ω R F0 h => ?_)
  · obtain ⟨k, p, x, rfl, _⟩ := h; rfl
  obtain ⟨k, p, x, rfl, hk, rfl⟩ := h
  refine ⟨_, pss_cons (ps_fld (pv 0) (pe_dc (own := [("word", 1)]) rfl sc_Mach_reset.nd (pi_tup (pe_gl rfl g_WORDS)) (blkOk_by (N := ["self", "word"]) (sc := defScope s_Mach_reset) (by decide +kernel)) (fun _ _ _ _ _ => pg_name (i := 1) sc_Mach_reset.nd rfl (.inl rfl)) (fun _ _ _ _ _ => pts_nil) (fun _ _ _ _ _ => pv 1) (fun _ _ _ _ _ => pe_int)) rfl) (pss_one (ps_fld (pv 0) (pe_lst pa_nil) rfl)), fun D hrt hnx => ?_⟩
  exact xs_mreset mc hW (by simp) (by simp) rfl hk fun σ H ⟨F, f0, e, hh⟩ => hnx F σ H _ f0 hh ⟨rfl, stt_one.symm⟩
abbrev s_Mach_tally : Stmt := inClass (topS 11) 3
theorem sc_Mach_tally : FnScope ["self", "word"] ["self"] (defScope s_Mach_tally) := ⟨rfl, rfl, rfl, by decide +kernel, rfl, by decide +kernel, by decide +kernel⟩
theorem ok_Mach_tally {f : Addr} {fd : FuncData} (F : Fun T.K "tally" "Machine.tally" s_Mach_tally f fd) (mc : MCls T.K (T.C 0)) {aW : Addr} (g_WORDS : ∃ u, mg "WORDS" = some u ∧ RelV (.ref aW) u) (hW : ∀ H, SqT T.K H aW (mwords.map V.str)) : FnOk P w T.K mg base CX0 1 f fd ["self"] (mkSp (Pre_Mach_tally T)) := by
  refine fn_ok F sc_Mach_tally (fun As Ω R h => ?_) (fun cdv A outer s H E hr As Ω R F0 h => ?_)
  · obtain ⟨k, p, x, rfl, _⟩ := h; rfl
  obtain ⟨k, p, x, rfl, hk, rfl⟩ := h
  refine ⟨_, pss_one (ps_ret (pe_lc (own := [("word", 1)]) rfl sc_Mach_tally.nd (pi_tup (pe_gl rfl g_WORDS)) (blkOk_by (N := ["self", "word"]) (sc := defScope s_Mach_tally) (by decide +kernel)) (fun _ _ _ _ _ => pg_name (i := 1) sc_Mach_tally.nd rfl (.inl rfl)) (fun _ _ _ _ _ => pts_nil) (fun _ _ _ _ _ => pe_tup (pa_cons (pv 1) (pa_cons (pe_dget (by exact hu_of hr) (pe_fldK (K := T.K) (pv 0) (by rfl) rfl) (pv 1) (by intro _ _; rfl)) pa_nil))))), fun D hrt hnx => ?_⟩
  exact xs_ret (xe_tally mc hW (by simp) rfl (by simp [wip]) hk) hrt
theorem ok_Mach_tallyN {f : Addr} {fd : FuncData} (F : Fun T.K "tally" "Machine.tally" s_Mach_tally f fd) (mc : MCls T.K (T.C 0)) {aW : Addr} (g_WORDS : ∃ u, mg "WORDS" = some u ∧ RelV (.ref aW) u) (hW : ∀ H, SqT T.K H aW (mwords.map V.str)) : FnOk P w T.K mg base CX0 1 f fd ["self"] (mkSp (Pre_Mach_tallyN T)) := by
  refine fn_ok F sc_Mach_tally (fun As Ω R h => ?_) (fun cdv A outer s H E hr As Ω R F0 h => ?_)
  · obtain ⟨k, p, x, rfl, _⟩ := h; rfl
  obtain ⟨k, p, x, rfl, hk, rfl⟩ := h
  refine ⟨_, pss_one (ps_ret (pe_lc (own := [("word", 1)]) rfl sc_Mach_tally.nd (pi_tup (pe_gl rfl g_WORDS)) (blkOk_by (N := ["self", "word"]) (sc := defScope s_Mach_tally) (by decide +kernel)) (fun _ _ _ _ _ => pg_name (i := 1) sc_Mach_tally.nd rfl (.inl rfl)) (fun _ _ _ _ _ => pts_nil) (fun _ _ _ _ _ => pe_tup (pa_cons (pv 1) (pa_cons (pe_dget (by exact hu_of hr) (pe_fldK (K := T.K) (pv 0) (by rfl) rfl) (pv 1) (by intro _ _; rfl)) pa_nil))))), fun D hrt hnx => ?_⟩
  exact xs_ret (xn_tally mc hW (by simp) rfl (by simp [wip]) hk) hrt
abbrev s_Mach_walk : Stmt := inClass (topS 11) 4
theorem sc_Mach_walk : FnScope ["self"] ["self"] (defScope s_Mach_walk) := ⟨rfl, rfl, rfl, by decide +kernel, rfl, by decide +kernel, by decide +kernel⟩
theorem ok_Mach_walk {f : Addr} {fd : FuncData} (F : Fun T.K "walk" "Machine.walk" s_Mach_walk f fd) (mc : MCls T.K (T.C 0)) (z_list : mg "list" = none) : FnOk P w T.K mg base CX0 1 f fd ["self"] (mkSp (Pre_Mach_walk T)) := by
  refine fn_ok F sc_Mach_walk (fun As Ω R h => ?_) (fun cdv A outer s H E hr As Ω R F0 h => ?_)
  · obtain ⟨k, p, x, rfl, _⟩ := h; rfl
  obtain ⟨k, p, x, rfl, hk, rfl⟩ := h
  refine ⟨_, pss_one (ps_ret (pe_callTy cr_list (by rfl) z_list (by decide +kernel) (pa_cons (pe_fld (pv 0) (by rfl)) pa_nil))), fun D hrt hnx => ?_⟩
  exact xs_ret (xe_walk mc rfl hk) hrt
theorem ok_Mach_walkN {f : Addr} {fd : FuncData} (F : Fun T.K "walk" "Machine.walk" s_Mach_walk f fd) (mc : MCls T.K (T.C 0)) (z_list : mg "list" = none) : FnOk P w T.K mg base CX0 1 f fd ["self"] (mkSp (Pre_Mach_walkN T)) := by
  refine fn_ok F sc_Mach_walk (fun As Ω R h => ?_) (fun cdv A outer s H E hr As Ω R F0 h => ?_)
  · obtain ⟨k, p, x, rfl, _⟩ := h; rfl
  obtain ⟨k, p, x, rfl, hk, rfl⟩ := h
  refine ⟨_, pss_one (ps_ret (pe_callTy cr_list (by rfl) z_list (by decide +kernel) (pa_cons (pe_fld (pv 0) (by rfl)) pa_nil))), fun D hrt hnx => ?_⟩
  exact xs_ret (xn_walk mc rfl hk) hrt
abbrev s_Mach_parts : Stmt := inClass (topS 11) 2
theorem sc_Mach_parts : FnScope ["self"] ["self"] (defScope s_Mach_parts) := ⟨rfl, rfl, rfl, by decide +kernel, rfl, by decide +kernel, by decide +kernel⟩
theorem ok_Mach_parts {f : Addr} {fd : FuncData} (F : Fun T.K "parts" "Machine.parts" s_Mach_parts f fd) (mc : MCls T.K (T.C 0))  : FnOk P w T.K mg base CX0 1 f fd ["self"] (mkSp (Pre_Mach_parts T)) := by
  refine fn_ok F sc_Mach_parts (fun As Ω R h => ?_) (fun cdv A outer s H E hr As Ω R F0 h => ?_)
  · obtain ⟨k, p, x, rfl, _⟩ := h; rfl
  obtain ⟨k, p, x, rfl, hk, rfl⟩ := h
  refine ⟨_, pss_one (ps_ret (pe_tup (pa_cons (pe_fld (pv 0) (by rfl)) (pa_cons (pe_fld (pv 0) (by rfl)) pa_nil)))), fun D hrt hnx => ?_⟩
  exact xs_ret (xe_tup2 (xa_cons (xe_mw mc.cl mc.nw (xe_var (i := 0) rfl) hk) (xa_cons (xe_mc mc.cl mc.nc (xe_var (i := 0) rfl) hk) xa_nil))) hrt
abbrev s_Mach_init : Stmt := inClass (topS 11) 0
theorem sc_Mach_init : FnScope ["self", "bits", "cutoff", "word"] ["self", "bits", "cutoff"] (defScope s_Mach_init) := ⟨rfl, rfl, rfl, by decide +kernel, rfl, by decide +kernel, by decide +kernel⟩
theorem ok_Mach_init {f : Addr} {fd : FuncData} (F : FunD T.K "__init__" "Machine.__init__" (defArgs s_Mach_init) (defBody s_Mach_init) (defScope s_Mach_init) [.int 30, .int 70] [] f fd) (mc : MCls T.K (T.C 0)) {aW : Addr} (g_WORDS : ∃ u, mg "WORDS" = some u ∧ RelV (.ref aW) u) (hW : ∀ H, SqT T.K H aW (mwords.map V.str)) (c_is_between : Cal P w T.K mg base 2 "is_between" ["value", "low", "high"] (mkSp (Pre_is_between T))) : FnOk P w T.K mg base CX0 3 f fd ["self", "bits", "cutoff"] (mkSp (Pre_Machine T)) := by
  refine fn_okD F sc_Mach_init (fun As Ω R h => ?_) (fun cdv A outer s H E hr As Ω R F0 h => ?_)
  · obtain ⟨Ω0, p, w, c, rfl, _⟩ := h; rfl
  obtain ⟨Ω0, p, w, c, rfl, hc, rfl, rfl⟩ := h
  refine ⟨_, pss_cons (ps_if (pt_not (pt_val (pe_cal c_is_between (hr.mono (by decide)) (by rfl) (pa_cons (pv 1) (pa_cons pe_int (pa_cons pe_int pa_nil)))))) pss_never pss_nil) (pss_cons (ps_if (pt_not (pt_val (pe_cal c_is_between (hr.mono (by decide)) (by rfl) (pa_cons (pv 2) (pa_cons pe_int (pa_cons pe_int pa_nil)))))) pss_never pss_nil) (pss_cons (ps_fld (pv 0) (pv 1) rfl) (pss_cons (ps_fld (pv 0) (pv 2) rfl) (pss_cons (ps_fld (pv 0) (pe_dc (own := [("word", 3)]) rfl sc_Mach_init.nd (pi_tup (pe_gl rfl g_WORDS)) (blkOk_by (N := ["self", "bits", "cutoff", "word"]) (sc := defScope s_Mach_init) (by decide +kernel)) (fun _ _ _ _ _ => pg_name (i := 3) sc_Mach_init.nd rfl (.inl rfl)) (fun _ _ _ _ _ => pts_nil) (fun _ _ _ _ _ => pv 3) (fun _ _ _ _ _ => pe_int)) rfl) (pss_one (ps_fld (pv 0) (pe_lst pa_nil) rfl)))))), fun D hrt hnx => ?_⟩
  have m1 : M_is_between w 8 30 = some true := by simp [M_is_between, M_is_integer, hc.1.1, hc.1.2]
  have m2 : M_is_between c 2 1000 = some true := by simp [M_is_between, M_is_integer, hc.2.1, hc.2.2]
  show XS _ D F0 [some (vr p), some (va T w), some (va T c), none] _
  refine xs_ifN (xt_notF (xt_tB (T := T) (xe_call (xa_cons (xe_var (i := 1) rfl) (xa_cons xe_int (xa_cons xe_int xa_nil))) ⟨w, 8, 30, true, rfl, m1, rfl⟩ (List.append_nil _)))) ?_
  show XS _ D F0 [some (vr p), some (va T w), some (va T c), none] _
  refine xs_ifN (xt_notF (xt_tB (T := T) (xe_call (xa_cons (xe_var (i := 2) rfl) (xa_cons xe_int (xa_cons xe_int xa_nil))) ⟨c, 2, 1000, true, rfl, m2, rfl⟩ (List.append_nil _)))) ?_
  show XS _ D F0 [some (vr p), some (va T w), some (va T c), none] _
  exact xs_minit (k := Ω0.length) mc hW (by simp) (by simp) rfl rfl rfl app_at fun σ H ⟨F, f0, e, hh⟩ => hnx F σ H _ f0 hh ⟨rfl, set_last⟩
noncomputable def M_Big_eq (x0 : Bg) (x1 : Bg) : Option Bool :=
  some (true && ((decide (x0.w = x1.w)) && (decide (x0.v = x1.v))))
def Pre_Big_eq (T : TC) : PreT := fun As Ω R => ∃ (x0 : Bg) (x1 : Bg) (r : Bool), As = [va T x0, va T x1] ∧ M_Big_eq x0 x1 = some r ∧ R = RV (va T r) (stt Ω [] [])
abbrev s_Big_eq : Stmt := inClass (topS 21) 1
theorem sc_Big_eq : FnScope ["self", "other"] ["self", "other"] (defScope s_Big_eq) := ⟨rfl, rfl, rfl, by decide +kernel, rfl, by decide +kernel, by decide +kernel⟩
theorem ok_Big_eq {f : Addr} {fd : FuncData} (F : Fun T.K "__eq__" "Big.__eq__" s_Big_eq f fd) (z_isinstance : mg "isinstance" = none) (icb : ICls T.K (T.C 1)) (g_Big : ∃ u, mg "Big" = some u ∧ RelV (.ref (T.C 1)) u) (bc : BCls T.K (T.C 1)) : FnOk P w T.K mg base CX0 1 f fd ["self", "other"] (mkSp (Pre_Big_eq T)) := by
  refine fn_ok F sc_Big_eq (fun As Ω R h => ?_) (fun cdv A outer s H E hr As Ω R F0 h => ?_)
  · obtain ⟨x0, x1, r, rfl, _⟩ := h
    rfl
  obtain ⟨x0, x1, r, rfl, hm, rfl⟩ := h
  refine ⟨_, (pss_one (ps_ret (pe_and (pe_callB (cr_isiK (K := T.K) rfl) (by rfl) z_isinstance (by decide +kernel) (pa_cons (pv 1) (pa_cons (pe_gl rfl g_Big) pa_nil))) (pe_and (pe_cmpR (op_eqXK (K := T.K) (by exact hr.units) rfl) (pe_fldK (K := T.K) (pv 0) (by rfl) rfl) (pe_fldK (K := T.K) (pv 1) (by rfl) rfl) (nomark _)) (pe_one (pe_cmpR (op_eqXK (K := T.K) (by exact hr.units) rfl) (pe_fldK (K := T.K) (pv 0) (by rfl) rfl) (pe_fldK (K := T.K) (pv 1) (by rfl) rfl) (nomark _))))))), fun D hrt hnx => ?_⟩
  have ok : Okk Ω [] := okk0
  suffices hx : XS _ D F0 [some (va T x0), some (va T x1)] (stt Ω [] []) by
    rw [show (stt Ω [] []) = Ω from stt_self (by simp)] at hx
    exact hx
  unfold M_Big_eq at hm
  obtain rfl := Option.some.inj hm
  refine xs_ret (xe_andV (xe_isi (xe_var (i := 1) rfl) xe_vx (.own _) (fun F H v hh a => ty_big icb hh a) icb.kit) (fun _ => (xe_andV (xe_eqI (xe_bw bc.cl bc.nw (xe_var (i := 0) rfl)) (xe_bw bc.cl bc.nw (xe_var (i := 1) rfl))) (fun _ => (xe_eqI (xe_bv bc.cl bc.nv (xe_var (i := 0) rfl)) (xe_bv bc.cl bc.nv (xe_var (i := 1) rfl))))))) hrt.all
noncomputable def M_Big_digits (x0 : Bg) : Option (List Int) :=
  some x0.row
def Pre_Big_digits (T : TC) : PreT := fun As Ω R => ∃ (x0 : Bg) (r : List Int), As = [va T x0] ∧ M_Big_digits x0 = some r ∧ R = RV (va T (LF.mk r)) (stt Ω [] [])
abbrev s_Big_digits : Stmt := inClass (topS 21) 3
theorem sc_Big_digits : FnScope ["self"] ["self"] (defScope s_Big_digits) := ⟨rfl, rfl, rfl, by decide +kernel, rfl, by decide +kernel, by decide +kernel⟩
theorem ok_Big_digits {f : Addr} {fd : FuncData} (F : Fun T.K "digits" "Big.digits" s_Big_digits f fd) (bc : BCls T.K (T.C 1)) (z_list : mg "list" = none) : FnOk P w T.K mg base CX0 1 f fd ["self"] (mkSp (Pre_Big_digits T)) := by
  refine fn_ok F sc_Big_digits (fun As Ω R h => ?_) (fun cdv A outer s H E hr As Ω R F0 h => ?_)
  · obtain ⟨x0, r, rfl, _⟩ := h
    rfl
  obtain ⟨x0, r, rfl, hm, rfl⟩ := h
  refine ⟨_, (pss_one (ps_ret (pe_callTy (cr_listK (K := T.K) rfl) (by rfl) z_list (by decide +kernel) (pa_cons (pe_fldK (K := T.K) (pv 0) (by rfl) rfl) pa_nil)))), fun D hrt hnx => ?_⟩
  have ok : Okk Ω [] := okk0
  suffices hx : XS _ D F0 [some (va T x0)] (stt Ω [] []) by
    rw [show (stt Ω [] []) = Ω from stt_self (by simp)] at hx
    exact hx
  unfold M_Big_digits at hm
  obtain rfl := Option.some.inj hm
  refine xs_ret (xe_listT (xe_br bc.cl bc.nr (xe_var (i := 0) rfl)) isT_TF) hrt.all
noncomputable def M_Big_sign (x0 : Bg) : Option Int :=
  some (sgn x0.v)
def Pre_Big_sign (T : TC) : PreT := fun As Ω R => ∃ (x0 : Bg) (r : Int), As = [va T x0] ∧ M_Big_sign x0 = some r ∧ R = RV (va T r) (stt Ω [] [])
abbrev s_Big_sign : Stmt := inClass (topS 21) 2
theorem sc_Big_sign : FnScope ["self"] ["self"] (defScope s_Big_sign) := ⟨rfl, rfl, rfl, by decide +kernel, rfl, by decide +kernel, by decide +kernel⟩
theorem ok_Big_sign {f : Addr} {fd : FuncData} (F : Fun T.K "sign" "Big.sign" s_Big_sign f fd) (bc : BCls T.K (T.C 1)) : FnOk P w T.K mg base CX0 1 f fd ["self"] (mkSp (Pre_Big_sign T)) := by
  refine fn_ok F sc_Big_sign (fun As Ω R h => ?_) (fun cdv A outer s H E hr As Ω R F0 h => ?_)
  · obtain ⟨x0, r, rfl, _⟩ := h
    rfl
  obtain ⟨x0, r, rfl, hm, rfl⟩ := h
  refine ⟨_, (pss_one (ps_ret (pe_fldK (K := T.K) (pv 0) (by rfl) rfl))), fun D hrt hnx => ?_⟩
  have ok : Okk Ω [] := okk0
  suffices hx : XS _ D F0 [some (va T x0)] (stt Ω [] []) by
    rw [show (stt Ω [] []) = Ω from stt_self (by simp)] at hx
    exact hx
  unfold M_Big_sign at hm
  obtain rfl := Option.some.inj hm
  refine xs_ret (xe_bs bc.cl bc.ns (xe_var (i := 0) rfl)) hrt.all
noncomputable def M_Big_bits (x0 : Bg) : Option Int :=
  some x0.w
def Pre_Big_bits (T : TC) : PreT := fun As Ω R => ∃ (x0 : Bg) (r : Int), As = [va T x0] ∧ M_Big_bits x0 = some r ∧ R = RV (va T r) (stt Ω [] [])
abbrev s_Big_bits : Stmt := inClass (topS 21) 4
theorem sc_Big_bits : FnScope ["self"] ["self"] (defScope s_Big_bits) := ⟨rfl, rfl, rfl, by decide +kernel, rfl, by decide +kernel, by decide +kernel⟩
theorem ok_Big_bits {f : Addr} {fd : FuncData} (F : Fun T.K "bits" "Big.bits" s_Big_bits f fd) (bc : BCls T.K (T.C 1)) : FnOk P w T.K mg base CX0 1 f fd ["self"] (mkSp (Pre_Big_bits T)) := by
  refine fn_ok F sc_Big_bits (fun As Ω R h => ?_) (fun cdv A outer s H E hr As Ω R F0 h => ?_)
  · obtain ⟨x0, r, rfl, _⟩ := h
    rfl
  obtain ⟨x0, r, rfl, hm, rfl⟩ := h
  refine ⟨_, (pss_one (ps_ret (pe_fldK (K := T.K) (pv 0) (by rfl) rfl))), fun D hrt hnx => ?_⟩
  have ok : Okk Ω [] := okk0
  suffices hx : XS _ D F0 [some (va T x0)] (stt Ω [] []) by
    rw [show (stt Ω [] []) = Ω from stt_self (by simp)] at hx
    exact hx
  unfold M_Big_bits at hm
  obtain rfl := Option.some.inj hm
  refine xs_ret (xe_bw bc.cl bc.nw (xe_var (i := 0) rfl)) hrt.all
noncomputable def M_Mach_eq (x0 : MS) (x1 : MS) : Option Bool :=
  some (true && ((decide (x0.w = x1.w)) && (decide (x0.c = x1.c))))
def Pre_Mach_eq (T : TC) : PreT := fun As Ω R => ∃ (k0 : Nat) (p0 : Addr) (x0 : MS) (k1 : Nat) (p1 : Addr) (x1 : MS) (r : Bool), As = [vr p0, vr p1] ∧ Ω[k0]? = some (machA T p0 x0) ∧ Ω[k1]? = some (machA T p1 x1) ∧ k0 ≠ k1 ∧ M_Mach_eq x0 x1 = some r ∧ R = RV (va T r) (stt Ω [] [])
abbrev s_Mach_eq : Stmt := inClass (topS 11) 1
theorem sc_Mach_eq : FnScope ["self", "other"] ["self", "other"] (defScope s_Mach_eq) := ⟨rfl, rfl, rfl, by decide +kernel, rfl, by decide +kernel, by decide +kernel⟩
theorem ok_Mach_eq {f : Addr} {fd : FuncData} (F : Fun T.K "__eq__" "Machine.__eq__" s_Mach_eq f fd) (z_isinstance : mg "isinstance" = none) (icm : ICls T.K (T.C 0)) (g_Machine : ∃ u, mg "Machine" = some u ∧ RelV (.ref (T.C 0)) u) (mc : MCls T.K (T.C 0)) : FnOk P w T.K mg base CX0 1 f fd ["self", "other"] (mkSp (Pre_Mach_eq T)) := by
  refine fn_ok F sc_Mach_eq (fun As Ω R h => ?_) (fun cdv A outer s H E hr As Ω R F0 h => ?_)
  · obtain ⟨k0, p0, x0, k1, p1, x1, r, rfl, _⟩ := h
    rfl
  obtain ⟨k0, p0, x0, k1, p1, x1, r, rfl, hk0, hk1, ne01, hm, rfl⟩ := h
  refine ⟨_, (pss_one (ps_ret (pe_and (pe_callB (cr_isiK (K := T.K) rfl) (by rfl) z_isinstance (by decide +kernel) (pa_cons (pv 1) (pa_cons (pe_gl rfl g_Machine) pa_nil))) (pe_and (pe_cmpR (op_eqXK (K := T.K) (by exact hr.units) rfl) (pe_fldK (K := T.K) (pv 0) (by rfl) rfl) (pe_fldK (K := T.K) (pv 1) (by rfl) rfl) (nomark _)) (pe_one (pe_cmpR (op_eqXK (K := T.K) (by exact hr.units) rfl) (pe_fldK (K := T.K) (pv 0) (by rfl) rfl) (pe_fldK (K := T.K) (pv 1) (by rfl) rfl) (nomark _))))))), fun D hrt hnx => ?_⟩
  have ok : Okk Ω [] := okk0
  suffices hx : XS _ D F0 [some (vr p0), some (vr p1)] (stt Ω [] []) by
    rw [show (stt Ω [] []) = Ω from stt_self (by simp)] at hx
    exact hx
  unfold M_Mach_eq at hm
  obtain rfl := Option.some.inj hm
  refine xs_ret (xe_andV (xe_isi (xe_var (i := 1) rfl) xe_vx (.own _) (fun F H v hh a => ty_mach icm (stt_getU hk1) hh a) icm.kit) (fun _ => (xe_andV (xe_eqI (xe_mw mc.cl mc.nw (xe_var (i := 0) rfl) (stt_getU hk0)) (xe_mw mc.cl mc.nw (xe_var (i := 1) rfl) (stt_getU hk1))) (fun _ => (xe_eqI (xe_mc mc.cl mc.nc (xe_var (i := 0) rfl) (stt_getU hk0)) (xe_mc mc.cl mc.nc (xe_var (i := 1) rfl) (stt_getU hk1))))))) hrt.all
theorem ok_Mach_eqX {f : Addr} {fd : FuncData} (F : Fun T.K "__eq__" "Machine.__eq__" s_Mach_eq f fd) (z_isinstance : mg "isinstance" = none) (icm : ICls T.K (T.C 0)) (g_Machine : ∃ u, mg "Machine" = some u ∧ RelV (.ref (T.C 0)) u) (mc : MCls T.K (T.C 0)) (nb : otherT T.K (T.C 0) = true) : FnOk P w T.K mg base CX0 1 f fd ["self", "other"] (mkSp (PreXT T)) := by
  refine fn_ok F sc_Mach_eq (fun As Ω R h => ?_) (fun cdv A outer s H E hr As Ω R F0 h => ?_)
  · obtain ⟨k0, p0, x0, A, rfl, _⟩ := h
    rfl
  obtain ⟨k0, p0, x0, B, rfl, hk0, ho, rfl⟩ := h
  refine ⟨_, (pss_one (ps_ret (pe_and (pe_callB (cr_isiK (K := T.K) rfl) (by rfl) z_isinstance (by decide +kernel) (pa_cons (pv 1) (pa_cons (pe_gl rfl g_Machine) pa_nil))) (pe_and (pe_cmpR (op_eqXK (K := T.K) (by exact hr.units) rfl) (pe_fldK (K := T.K) (pv 0) (by rfl) rfl) (pe_fldK (K := T.K) (pv 1) (by rfl) rfl) (nomark _)) (pe_one (pe_cmpR (op_eqXK (K := T.K) (by exact hr.units) rfl) (pe_fldK (K := T.K) (pv 0) (by rfl) rfl) (pe_fldK (K := T.K) (pv 1) (by rfl) rfl) (nomark _))))))), fun D hrt hnx => ?_⟩
  have ok : Okk Ω [] := okk0
  suffices hx : XS _ D F0 [some (vr p0), some B] (stt Ω [] []) by
    rw [show (stt Ω [] []) = Ω from stt_self (by simp)] at hx
    exact hx
  refine xs_ret (xe_andV (b := false) (c := false) (xe_isOT nb (xe_var (i := 1) rfl) xe_vx (fun F H v hh a => ho F H v (by rwa [cal0'] at hh) a)) (fun h => nomatch h)) hrt.all
noncomputable def M_order_of (x0 : Int) (x1 : Int) : Option Int :=
  if (decide (x0 < x1)) = true then some (-(1 : Int)) else some (if (decide (x0 = x1)) = true then (0 : Int) else (1 : Int))
def Pre_order_of (T : TC) : PreT := fun As Ω R => ∃ (x0 : Int) (x1 : Int) (r : Int), As = [va T x0, va T x1] ∧ M_order_of x0 x1 = some r ∧ R = RV (va T r) (stt Ω [] [])
abbrev s_order_of : Stmt := topS 28
theorem sc_order_of : FnScope ["a", "b"] ["a", "b"] (defScope s_order_of) := ⟨rfl, rfl, rfl, by decide +kernel, rfl, by decide +kernel, by decide +kernel⟩
theorem ok_order_of {f : Addr} {fd : FuncData} (F : Fun T.K "order_of" "order_of" s_order_of f fd)  : FnOk P w T.K mg base CX0 1 f fd ["a", "b"] (mkSp (Pre_order_of T)) := by
  refine fn_ok F sc_order_of (fun As Ω R h => ?_) (fun cdv A outer s H E hr As Ω R F0 h => ?_)
  · obtain ⟨x0, x1, r, rfl, _⟩ := h
    rfl
  obtain ⟨x0, x1, r, rfl, hm, rfl⟩ := h
  refine ⟨_, (pss_cons (ps_if (pt_cmpR op_lt (pv 0) (pv 1) (nomark _)) (pss_one (ps_ret (pe_un un_neg pe_int))) pss_nil) (pss_one (ps_ret (pe_ifExp (pt_cmpR (op_eqXK (K := T.K) (by exact hr.units) rfl) (pv 0) (pv 1) (nomark _)) pe_int pe_int)))), fun D hrt hnx => ?_⟩
  have ok : Okk Ω [] := okk0
  suffices hx : XS _ D F0 [some (va T x0), some (va T x1)] (stt Ω [] []) by
    rw [show (stt Ω [] []) = Ω from stt_self (by simp)] at hx
    exact hx
  unfold M_order_of at hm
  by_cases hc : (decide (x0 < x1)) = true
  · rw [if_pos hc] at hm
    refine xs_ifT (xt_eq (xt_test (T := T) (xe_lt (xe_var (i := 0) rfl) (xe_var (i := 1) rfl))) hc) ?_
    obtain rfl := Option.some.inj hm
    refine xs_ret (xe_neg xe_int) hrt.all
  · rw [if_neg hc] at hm
    refine xs_ifN (xt_eq (xt_test (T := T) (xe_lt (xe_var (i := 0) rfl) (xe_var (i := 1) rfl))) (nt hc)) ?_
    show XS (tRet _) _ _ [some (va T x0), some (va T x1)] (stt Ω [] [])
    obtain rfl := Option.some.inj hm
    refine xs_ret (xe_ite (xt_test (T := T) (xe_eqI (xe_var (i := 0) rfl) (xe_var (i := 1) rfl))) xe_int xe_int) hrt.all
abbrev s_Big_init : Stmt := inClass (topS 21) 0
theorem sc_Big_init : FnScope ["self", "width", "value", "row"] ["self", "width", "value", "row"] (defScope s_Big_init) := ⟨rfl, rfl, rfl, by decide +kernel, rfl, by decide +kernel, by decide +kernel⟩
theorem order_sgn (v : Int) : M_order_of v 0 = some (sgn v) := by
  unfold M_order_of sgn
  by_cases h : v < 0
  · rw [if_pos (decide_eq_true h), if_pos h]
  · rw [if_neg (by simpa using h), if_neg h]
    by_cases e : v = 0
    · rw [if_pos (decide_eq_true e), if_pos e]
    · rw [if_neg (by simpa using e), if_neg e]
theorem ok_Big_init {f : Addr} {fd : FuncData} (F : Fun T.K "__init__" "Big.__init__" s_Big_init f fd) (bc : BCls T.K (T.C 1)) (z_tuple : mg "tuple" = none) (c_order_of : Cal P w T.K mg base 1 "order_of" ["a", "b"] (mkSp (Pre_order_of T))) : FnOk P w T.K mg base CX0 2 f fd ["self", "width", "value", "row"] (mkSp (Pre_Big T)) := by
  refine fn_ok F sc_Big_init (fun As Ω R h => ?_) (fun cdv A outer s H E hr As Ω R F0 h => ?_)
  · obtain ⟨Ω0, p, w, sd, row, B, _, rfl, _⟩ := h; rfl
  obtain ⟨Ω0, p, w, sd, row, B, hB, rfl, rfl, rfl⟩ := h
  refine ⟨_, pss_cons (ps_fld (pv 0) (pv 1) rfl) (pss_cons (ps_fld (pv 0) (pe_cal c_order_of (hr.mono (by decide)) (by rfl) (pa_cons (pv 2) (pa_cons pe_int pa_nil))) rfl) (pss_cons (ps_fld (pv 0) (pe_callTy cr_tuple (by rfl) z_tuple (by decide +kernel) (pa_cons (pv 3) pa_nil)) rfl) (pss_one (ps_fld (pv 0) (pv 2) rfl)))), fun D hrt hnx => ?_⟩
  show XS _ D F0 [some (vr p), some (va T w), some (va T sd), some B] _
  refine xs_binit (k := Ω0.length) (row := row) bc rfl rfl rfl (fun Ω' => xe_call (xa_cons (xe_var (i := 2) rfl) (xa_cons xe_int xa_nil)) ⟨sd, 0, sgn sd, rfl, order_sgn sd, rfl⟩ cal0') (fun Ω' => ?_) app_at fun σ H ⟨F, f0, e, hh⟩ => hnx F σ H _ f0 hh ⟨rfl, set_last⟩
  rcases hB with rfl | rfl
  · exact xe_tupleL (xe_var (i := 3) rfl) isL_LF
  · exact xe_tupleT (xe_var (i := 3) rfl)
noncomputable def M_check_machine (x0 : MS) : Option Unit :=
  (chkP (true = true)).bind fun z1 => some ()
def Pre_check_machine (T : TC) : PreT := fun As Ω R => ∃ (k0 : Nat) (p0 : Addr) (x0 : MS) (r : Unit), As = [vr p0] ∧ Ω[k0]? = some (machA T p0 x0) ∧ M_check_machine x0 = some r ∧ R = RV (va T r) (stt Ω [] [])
abbrev s_check_machine : Stmt := topS 12
theorem sc_check_machine : FnScope ["machine"] ["machine"] (defScope s_check_machine) := ⟨rfl, rfl, rfl, by decide +kernel, rfl, by decide +kernel, by decide +kernel⟩
theorem ok_check_machine {f : Addr} {fd : FuncData} (F : Fun T.K "check_machine" "check_machine" s_check_machine f fd) (z_isinstance : mg "isinstance" = none) (icm : ICls T.K (T.C 0)) (g_Machine : ∃ u, mg "Machine" = some u ∧ RelV (.ref (T.C 0)) u) : FnOk P w T.K mg base CX0 1 f fd ["machine"] (mkSp (Pre_check_machine T)) := by
  refine fn_ok F sc_check_machine (fun As Ω R h => ?_) (fun cdv A outer s H E hr As Ω R F0 h => ?_)
  · obtain ⟨k0, p0, x0, r, rfl, _⟩ := h
    rfl
  obtain ⟨k0, p0, x0, r, rfl, hk0, hm, rfl⟩ := h
  refine ⟨_, (pss_one (ps_if (pt_not (pt_val (pe_callB (cr_isiK (K := T.K) rfl) (by rfl) z_isinstance (by decide +kernel) (pa_cons (pv 0) (pa_cons (pe_gl rfl g_Machine) pa_nil))))) pss_never pss_nil)), fun D hrt hnx => ?_⟩
  have ok : Okk Ω [] := okk0
  suffices hx : XS _ D F0 [some (vr p0)] (stt Ω [] []) by
    rw [show (stt Ω [] []) = Ω from stt_self (by simp)] at hx
    exact hx
  unfold M_check_machine at hm
  obtain ⟨z1, hz1, hm⟩ := bnd_some hm
  refine xs_ifF1 (xt_notF (xt_eq (xt_tB (T := T) (xe_isi (xe_var (i := 0) rfl) xe_vx (.own _) (fun F H v hh a => ty_mach icm (stt_getU hk0) hh a) icm.kit)) (chkP_some hz1))) ?_
  obtain rfl := Option.some.inj hm
  exact fun σ H ⟨F, f0, e, hh⟩ => hnx F σ H _ f0 hh.all ⟨rfl, rfl⟩
noncomputable def M_top_digit (x0 : Int) : Option Int :=
  (chkP (CShl (1 : Int) x0)).bind fun z1 => some (((1 : Int) * 2 ^ (x0).toNat) - (1 : Int))
def Pre_top_digit (T : TC) : PreT := fun As Ω R => ∃ (x0 : Int) (r : Int), As = [va T x0] ∧ M_top_digit x0 = some r ∧ R = RV (va T r) (stt Ω [] [])
abbrev s_top_digit : Stmt := topS 15
theorem sc_top_digit : FnScope ["width"] ["width"] (defScope s_top_digit) := ⟨rfl, rfl, rfl, by decide +kernel, rfl, by decide +kernel, by decide +kernel⟩
theorem ok_top_digit {f : Addr} {fd : FuncData} (F : Fun T.K "top_digit" "top_digit" s_top_digit f fd)  : FnOk P w T.K mg base CX0 1 f fd ["width"] (mkSp (Pre_top_digit T)) := by
  refine fn_ok F sc_top_digit (fun As Ω R h => ?_) (fun cdv A outer s H E hr As Ω R F0 h => ?_)
  · obtain ⟨x0, r, rfl, _⟩ := h
    rfl
  obtain ⟨x0, r, rfl, hm, rfl⟩ := h
  refine ⟨_, (pss_one (ps_ret (pe_op op_sub (pe_op op_shlW pe_int (pv 0)) pe_int))), fun D hrt hnx => ?_⟩
  have ok : Okk Ω [] := okk0
  suffices hx : XS _ D F0 [some (va T x0)] (stt Ω [] []) by
    rw [show (stt Ω [] []) = Ω from stt_self (by simp)] at hx
    exact hx
  unfold M_top_digit at hm
  obtain ⟨z1, hz1, hm⟩ := bnd_some hm
  obtain rfl := Option.some.inj hm
  refine xs_ret (xe_sub (xe_shl (chkP_some hz1) xe_int (xe_var (i := 0) rfl)) xe_int) hrt.all
noncomputable def M_size_of (x0 : Int) (x1 : Int) : Option Int :=
  (chkP (CDivW ((((Builtin.Int.intBits x1 : Nat) : Int) + x0) - (1 : Int)) x0)).bind fun z1 => some (((((Builtin.Int.intBits x1 : Nat) : Int) + x0) - (1 : Int)) / x0)
def Pre_size_of (T : TC) : PreT := fun As Ω R => ∃ (x0 : Int) (x1 : Int) (r : Int), As = [va T x0, va T x1] ∧ M_size_of x0 x1 = some r ∧ R = RV (va T r) (stt Ω [] [])
abbrev s_size_of : Stmt := topS 16
theorem sc_size_of : FnScope ["width", "n"] ["width", "n"] (defScope s_size_of) := ⟨rfl, rfl, rfl, by decide +kernel, rfl, by decide +kernel, by decide +kernel⟩
theorem ok_size_of {f : Addr} {fd : FuncData} (F : Fun T.K "size_of" "size_of" s_size_of f fd)  : FnOk P w T.K mg base CX0 2 f fd ["width", "n"] (mkSp (Pre_size_of T)) := by
  refine fn_ok F sc_size_of (fun As Ω R h => ?_) (fun cdv A outer s H E hr As Ω R F0 h => ?_)
  · obtain ⟨x0, x1, r, rfl, _⟩ := h
    rfl
  obtain ⟨x0, x1, r, rfl, hm, rfl⟩ := h
  refine ⟨_, (pss_one (ps_ret (pe_op op_fdivW (pe_op op_sub (pe_op op_addQ (pe_bits (pv 1)) (pv 0)) pe_int) (pv 0)))), fun D hrt hnx => ?_⟩
  have ok : Okk Ω [] := okk0
  suffices hx : XS _ D F0 [some (va T x0), some (va T x1)] (stt Ω [] []) by
    rw [show (stt Ω [] []) = Ω from stt_self (by simp)] at hx
    exact hx
  unfold M_size_of at hm
  obtain ⟨z1, hz1, hm⟩ := bnd_some hm
  obtain rfl := Option.some.inj hm
  refine xs_ret (xe_fdiv (chkP_some hz1) (xe_sub (xe_add (xe_bits (xe_var (i := 1) rfl)) (xe_var (i := 0) rfl)) xe_int) (xe_var (i := 0) rfl)) hrt.all
noncomputable def M_low_part (x0 : Int) (x1 : Int) (x2 : Int) : Option Int :=
  (chkP (IntMulOk x2 x0)).bind fun z1 => (chkP (CShl (1 : Int) (x2 * x0))).bind fun z2 => some (Builtin.bitAnd x1 (((1 : Int) * 2 ^ ((x2 * x0)).toNat) - (1 : Int)))
def Pre_low_part (T : TC) : PreT := fun As Ω R => ∃ (x0 : Int) (x1 : Int) (x2 : Int) (r : Int), As = [va T x0, va T x1, va T x2] ∧ M_low_part x0 x1 x2 = some r ∧ R = RV (va T r) (stt Ω [] [])
abbrev s_low_part : Stmt := topS 18
theorem sc_low_part : FnScope ["width", "n", "size"] ["width", "n", "size"] (defScope s_low_part) := ⟨rfl, rfl, rfl, by decide +kernel, rfl, by decide +kernel, by decide +kernel⟩
theorem ok_low_part {f : Addr} {fd : FuncData} (F : Fun T.K "low_part" "low_part" s_low_part f fd)  : FnOk P w T.K mg base CX0 1 f fd ["width", "n", "size"] (mkSp (Pre_low_part T)) := by
  refine fn_ok F sc_low_part (fun As Ω R h => ?_) (fun cdv A outer s H E hr As Ω R F0 h => ?_)
  · obtain ⟨x0, x1, x2, r, rfl, _⟩ := h
    rfl
  obtain ⟨x0, x1, x2, r, rfl, hm, rfl⟩ := h
  refine ⟨_, (pss_one (ps_ret (pe_op op_and (pv 1) (pe_op op_sub (pe_op op_shlW pe_int (pe_op op_mulQ (pv 2) (pv 0))) pe_int)))), fun D hrt hnx => ?_⟩
  have ok : Okk Ω [] := okk0
  suffices hx : XS _ D F0 [some (va T x0), some (va T x1), some (va T x2)] (stt Ω [] []) by
    rw [show (stt Ω [] []) = Ω from stt_self (by simp)] at hx
    exact hx
  unfold M_low_part at hm
  obtain ⟨z1, hz1, hm⟩ := bnd_some hm
  obtain ⟨z2, hz2, hm⟩ := bnd_some hm
  obtain rfl := Option.some.inj hm
  refine xs_ret (xe_band (xe_var (i := 1) rfl) (xe_sub (xe_shl (chkP_some hz2) xe_int (xe_mul (chkP_some hz1) (xe_var (i := 2) rfl) (xe_var (i := 0) rfl))) xe_int)) hrt.all
noncomputable def M_row_of : Nat → Int → Int → Int → Option (List Int)
  | 0, _, _, _ => none
  | kf + 1, x0, x1, x2 => if (decide ((32 : Int) < x2)) = true then (chkP (CDivW x2 (2 : Int))).bind fun z1 => (some (x2 / (2 : Int))).bind fun y2 => (M_low_part x0 x1 y2).bind fun z3 => (M_row_of kf x0 z3 y2).bind fun z4 => (chkP (IntMulOk y2 x0)).bind fun z5 => (chkP (0 ≤ (y2 * x0))).bind fun z6 => (M_row_of kf x0 (x1 / 2 ^ ((y2 * x0)).toNat) (x2 - y2)).bind fun z7 => (chkP (z4.length + z7.length ≤ sizeLine)).bind fun z8 => some (z4 ++ z7) else (M_top_digit x0).bind fun z9 => (some ([] : List Int)).bind fun y10 => (chkP (-(2 ^ 62) ≤ x2 ∧ x2 < 2 ^ 62)).bind fun z13 => (forM' (ρ := Unit) (fun (a15 : Int) (s14 : Int × (List Int)) => (chkP (s14.2.length < sizeLine)).bind fun z16 => (chkP (0 ≤ x0)).bind fun z17 => (some (s14.1 / 2 ^ (x0).toNat)).bind fun y18 => some (Stp.nx (y18, (s14.2 ++ [(Builtin.bitAnd s14.1 z9)])))) (rng 0 (x2).toNat) (x1, y10)).bind fun z19 => (nxt z19).bind fun s20 => some s20.2
theorem M_row_of_succ (kf : Nat) (x0 : Int) (x1 : Int) (x2 : Int) : M_row_of (kf + 1) x0 x1 x2 = (if (decide ((32 : Int) < x2)) = true then (chkP (CDivW x2 (2 : Int))).bind fun z1 => (some (x2 / (2 : Int))).bind fun y2 => (M_low_part x0 x1 y2).bind fun z3 => (M_row_of kf x0 z3 y2).bind fun z4 => (chkP (IntMulOk y2 x0)).bind fun z5 => (chkP (0 ≤ (y2 * x0))).bind fun z6 => (M_row_of kf x0 (x1 / 2 ^ ((y2 * x0)).toNat) (x2 - y2)).bind fun z7 => (chkP (z4.length + z7.length ≤ sizeLine)).bind fun z8 => some (z4 ++ z7) else (M_top_digit x0).bind fun z9 => (some ([] : List Int)).bind fun y10 => (chkP (-(2 ^ 62) ≤ x2 ∧ x2 < 2 ^ 62)).bind fun z13 => (forM' (ρ := Unit) (fun (a15 : Int) (s14 : Int × (List Int)) => (chkP (s14.2.length < sizeLine)).bind fun z16 => (chkP (0 ≤ x0)).bind fun z17 => (some (s14.1 / 2 ^ (x0).toNat)).bind fun y18 => some (Stp.nx (y18, (s14.2 ++ [(Builtin.bitAnd s14.1 z9)])))) (rng 0 (x2).toNat) (x1, y10)).bind fun z19 => (nxt z19).bind fun s20 => some s20.2) := by rw [M_row_of]
theorem M_row_of_zero (x0 : Int) (x1 : Int) (x2 : Int) : M_row_of 0 x0 x1 x2 = none := by rw [M_row_of]
def Pre_row_of (kf : Nat) (T : TC) : PreT := fun As Ω R => ∃ (x0 : Int) (x1 : Int) (x2 : Int) (r : List Int), As = [va T x0, va T x1, va T x2] ∧ M_row_of kf x0 x1 x2 = some r ∧ R = RV (va T (LF.mk r)) (stt Ω [] [])
abbrev s_row_of : Stmt := topS 17
theorem sc_row_of : FnScope ["width", "n", "size", "half", "top", "row", "place"] ["width", "n", "size"] (defScope s_row_of) := ⟨rfl, rfl, rfl, by decide +kernel, rfl, by decide +kernel, by decide +kernel⟩
theorem ok0_row_of {f : Addr} {fd : FuncData} (F : Fun T.K "row_of" "row_of" s_row_of f fd) : FnOk P w T.K mg base CX0 1 f fd ["width", "n", "size"] (mkSp (Pre_row_of 0 T)) := by
  refine fn_ok (k := 0) F sc_row_of (fun As Ω R h => ?_) (fun cdv A outer s H E hr As Ω R F0 h => ?_)
  · obtain ⟨x0, x1, x2, r, rfl, _⟩ := h
    rfl
  obtain ⟨x0, x1, x2, r, rfl, hm, rfl⟩ := h
  rw [M_row_of_zero] at hm
  cases hm
theorem ok_row_of (kf : Nat) {f : Addr} {fd : FuncData} (F : Fun T.K "row_of" "row_of" s_row_of f fd) (g_LONGEST_LOOP : ∃ u, mg "LONGEST_LOOP" = some u ∧ RelV (.int 32) u) (c_low_part : Cal P w T.K mg base 1 "low_part" ["width", "n", "size"] (mkSp (Pre_low_part T))) (c_row_of : Cal P w T.K mg base (1 + kf) "row_of" ["width", "n", "size"] (mkSp (Pre_row_of kf T))) (c_top_digit : Cal P w T.K mg base 1 "top_digit" ["width"] (mkSp (Pre_top_digit T))) (z_range : mg "range" = none) : FnOk P w T.K mg base CX0 (1 + kf + 1) f fd ["width", "n", "size"] (mkSp (Pre_row_of (kf + 1) T)) := by
  refine fn_ok F sc_row_of (fun As Ω R h => ?_) (fun cdv A outer s H E hr As Ω R F0 h => ?_)
  · obtain ⟨x0, x1, x2, r, rfl, _⟩ := h
    rfl
  obtain ⟨x0, x1, x2, r, rfl, hm, rfl⟩ := h
  refine ⟨_, (pss_cons (ps_if (pt_cmpR op_gt (pv 2) (pe_gl rfl g_LONGEST_LOOP) (nomark _)) (pss_cons (ps_set (i := 3) sc_row_of.nd rfl (.inl rfl) (pe_op op_fdivW (pv 2) pe_int)) (pss_one (ps_ret (pe_op op_addQ (pe_cal c_row_of (hr.mono (by omega)) (by rfl) (pa_cons (pv 0) (pa_cons (pe_cal c_low_part (hr.mono (by omega)) (by rfl) (pa_cons (pv 0) (pa_cons (pv 1) (pa_cons (pv 3) pa_nil)))) (pa_cons (pv 3) pa_nil)))) (pe_cal c_row_of (hr.mono (by omega)) (by rfl) (pa_cons (pv 0) (pa_cons (pe_op op_shr (pv 1) (pe_op op_mulQ (pv 3) (pv 0))) (pa_cons (pe_op op_sub (pv 2) (pv 3)) pa_nil)))))))) pss_nil) (pss_cons (ps_set (i := 4) sc_row_of.nd rfl (.inl rfl) (pe_cal c_top_digit (hr.mono (by omega)) (by rfl) (pa_cons (pv 0) pa_nil))) (pss_cons (ps_set (i := 5) sc_row_of.nd rfl (.inl rfl) (pe_lst pa_nil)) (pss_cons (ps_for PassesOwn.never rfl (pi_range1 rfl z_range (pa_cons (pv 2) pa_nil)) (pg_name (i := 6) sc_row_of.nd rfl (.inl rfl)) (pss_cons (ps_expr (pe_bm PySem.F.plainAttrs_list PySem.F.slot_list_append PySem.F.type_list_append mt_append (pv 5) (pa_cons (pe_op op_and (pv 1) (pv 4)) pa_nil))) (pss_one (ps_aug (i := 1) sc_row_of.nd rfl (.inl rfl) (pv 0) (ip_of iop_shr))))) (pss_one (ps_ret (pv 5))))))), fun D hrt hnx => ?_⟩
  have ok : Okk Ω [] := okk0
  suffices hx : XS _ D F0 [some (va T x0), some (va T x1), some (va T x2), none, none, none, none] (stt Ω [] []) by
    rw [show (stt Ω [] []) = Ω from stt_self (by simp)] at hx
    exact hx
  rw [M_row_of_succ] at hm
  by_cases hc : (decide ((32 : Int) < x2)) = true
  · rw [if_pos hc] at hm
    refine xs_ifT (xt_eq (xt_test (T := T) (xe_gt (xe_var (i := 2) rfl) xe_int)) hc) ?_
    obtain ⟨z1, hz1, hm⟩ := bnd_some hm
    obtain ⟨y2, hy2, hm⟩ := bnd_some hm
    refine xs_set (A := va T y2) (xe_eq (xe_fdiv (chkP_some hz1) (xe_var (i := 2) rfl) xe_int) (Option.some.inj hy2)) ?_
    show XS (tRet _) _ _ [some (va T x0), some (va T x1), some (va T x2), some (va T y2), none, none, none] (stt Ω [] [])
    obtain ⟨z3, hz3, hm⟩ := bnd_some hm
    obtain ⟨z4, hz4, hm⟩ := bnd_some hm
    obtain ⟨z5, hz5, hm⟩ := bnd_some hm
    obtain ⟨z6, hz6, hm⟩ := bnd_some hm
    obtain ⟨z7, hz7, hm⟩ := bnd_some hm
    obtain ⟨z8, hz8, hm⟩ := bnd_some hm
    obtain rfl := Option.some.inj hm
    refine xs_ret (xe_cat (xe_call (xa_cons (xe_var (i := 0) rfl) (xa_cons (xe_call (xa_cons (xe_var (i := 0) rfl) (xa_cons (xe_var (i := 1) rfl) (xa_cons (xe_var (i := 3) rfl) xa_nil))) ⟨x0, x1, y2, z3, rfl, hz3, rfl⟩ cal0) (xa_cons (xe_var (i := 3) rfl) xa_nil))) ⟨x0, z3, y2, z4, rfl, hz4, rfl⟩ cal0) (xe_call (xa_cons (xe_var (i := 0) rfl) (xa_cons (xe_shr (chkP_some hz6) (xe_var (i := 1) rfl) (xe_mul (chkP_some hz5) (xe_var (i := 3) rfl) (xe_var (i := 0) rfl))) (xa_cons (xe_sub (xe_var (i := 2) rfl) (xe_var (i := 3) rfl)) xa_nil))) ⟨x0, (x1 / 2 ^ ((y2 * x0)).toNat), (x2 - y2), z7, rfl, hz7, rfl⟩ cal0) isLs_LF isLs_LF (chkP_some hz8)) hrt.all
  · rw [if_neg hc] at hm
    refine xs_ifN (xt_eq (xt_test (T := T) (xe_gt (xe_var (i := 2) rfl) xe_int)) (nt hc)) ?_
    show XS (tSeq _ _) _ _ [some (va T x0), some (va T x1), some (va T x2), none, none, none, none] (stt Ω [] [])
    obtain ⟨z9, hz9, hm⟩ := bnd_some hm
    refine xs_set (A := va T z9) (xe_call (xa_cons (xe_var (i := 0) rfl) xa_nil) ⟨x0, z9, rfl, hz9, rfl⟩ cal0) ?_
    show XS (tSeq _ _) _ _ [some (va T x0), some (va T x1), some (va T x2), none, some (va T z9), none, none] (stt Ω [] [])
    obtain ⟨y10, hy10, hm⟩ := bnd_some hm
    obtain rfl := Option.some.inj hy10
    refine xs_setO ((xn_lst (T := T) (l := ([] : List Int)) xa_nil (Nat.zero_le _))) (fun pp11 => ?_)
    show XS (tSeq _ _) _ _ [some (va T x0), some (va T x1), some (va T x2), none, some (va T z9), some (vr pp11), none] (stt Ω [] [lstA T pp11 (([] : List Int) : List Int)])
    obtain ⟨z13, hz13, hm⟩ := bnd_some hm
    obtain ⟨z19, hz19, hm⟩ := bnd_some hm
    refine xs_forS (fun (s14 : Int × (List Int)) => [some (va T x0), some (va T s14.1), some (va T x2), none, some (va T z9), some (vr pp11), none]) (fun (s14 : Int × (List Int)) => (stt Ω [] [lstA T pp11 (s14.2 : List Int)])) (fun (_ : Unit) _ _ _ => False) hz19 (xi_range1 (T := T) (xa_cons (xe_var (i := 2) rfl) xa_nil) (chkP_some hz13).1 (chkP_some hz13).2) (fun _ => tgt_name) (fun a15 s14 s' ha hm F1 D1 e1 hD => ?_) (fun s20 es => ?_) (fun r1 es => ?_)
    · show XS (tSeq _ _) _ _ [some (va T x0), some (va T s14.1), some (va T x2), none, some (va T z9), some (vr pp11), some (va T a15)] (stt Ω [] [lstA T pp11 (s14.2 : List Int)])
      obtain ⟨z16, hz16, hm⟩ := bnd_some hm
      refine xs_drop (xe_appE (stt_getL (j := 0) rfl) (stt_getL (j := 0) rfl) (xe_var (i := 5) rfl) (xe_band (xe_var (i := 1) rfl) (xe_var (i := 4) rfl)) (chkP_some hz16) (stt_setL (j := 0))) ?_
      show XS (tAug _ _ _) _ _ [some (va T x0), some (va T s14.1), some (va T x2), none, some (va T z9), some (vr pp11), some (va T a15)] (stt Ω [] [lstA T pp11 ((s14.2 ++ [(Builtin.bitAnd s14.1 z9)]) : List Int)])
      obtain ⟨z17, hz17, hm⟩ := bnd_some hm
      obtain ⟨y18, hy18, hm⟩ := bnd_some hm
      refine xs_augD1 (T := T) rfl (chkP_some hz17) (xe_var (i := 0) rfl) (Option.some.inj hy18) ?_
      obtain rfl := Option.some.inj hm
      exact fun σ H n => hD.nx _ rfl σ H (n.forget 6)
    · subst es
      obtain ⟨s2, hs2, hm⟩ := bnd_some hm
      cases hs2
      show XS (tRet _) _ _ [some (va T x0), some (va T s20.1), some (va T x2), none, some (va T z9), some (vr pp11), none] (stt Ω [] [lstA T pp11 (s20.2 : List Int)])
      obtain rfl := Option.some.inj hm
      refine xs_fzJ (k := 5) (j := 0) rfl rfl ?_
      show XS _ _ _ [some (va T x0), some (va T s20.1), some (va T x2), none, some (va T z9), some (va T (LF.mk s20.2)), none] (stt Ω [] [nilA])
      exact xs_ret (xe_var (i := 5) rfl) hrt.all
    · subst es
      cases hm
noncomputable def M_last_difference (x0 : MS) (x1 : Int) (x2 : Int) : Option (Int × MS) :=
  (M_size_of x0.w x1).bind fun z1 => (M_size_of x0.w (Builtin.bitXor x1 x2)).bind fun z2 => (some (z2 - (1 : Int))).bind fun y3 => (chkP (("looked" : Str) ∈ mwords)).bind fun z4 => some (y3, (x0.step ("looked" : Str) (z1 - (max y3 (0 : Int)))))
def Pre_last_difference (T : TC) : PreT := fun As Ω R => ∃ (k0 : Nat) (p0 : Addr) (x0 : MS) (x1 : Int) (x2 : Int) (r : Int × MS), As = [vr p0, va T x1, va T x2] ∧ Ω[k0]? = some (machA T p0 x0) ∧ M_last_difference x0 x1 x2 = some r ∧ R = RV (va T r.1) (stt Ω [(k0, machA T p0 r.2)] [])
abbrev s_last_difference : Stmt := topS 19
theorem sc_last_difference : FnScope ["machine", "a", "b", "size", "place"] ["machine", "a", "b"] (defScope s_last_difference) := ⟨rfl, rfl, rfl, by decide +kernel, rfl, by decide +kernel, by decide +kernel⟩
theorem ok_last_difference {f : Addr} {fd : FuncData} (F : Fun T.K "last_difference" "last_difference" s_last_difference f fd) (mc : MCls T.K (T.C 0)) (c_size_of : Cal P w T.K mg base 2 "size_of" ["width", "n"] (mkSp (Pre_size_of T))) (z_max : mg "max" = none) (c_Mach_step : CalM P w T.K mg base 1 (T.C 0) "step" ["self", "word", "many"] (mkSp (Pre_Mach_step T))) : FnOk P w T.K mg base CX0 3 f fd ["machine", "a", "b"] (mkSp (Pre_last_difference T)) := by
  refine fn_ok F sc_last_difference (fun As Ω R h => ?_) (fun cdv A outer s H E hr As Ω R F0 h => ?_)
  · obtain ⟨k0, p0, x0, x1, x2, r, rfl, _⟩ := h
    rfl
  obtain ⟨k0, p0, x0, x1, x2, r, rfl, hk0, hm, rfl⟩ := h
  refine ⟨_, (pss_cons (ps_set (i := 3) sc_last_difference.nd rfl (.inl rfl) (pe_cal c_size_of (hr.mono (by decide)) (by rfl) (pa_cons (pe_fldK (K := T.K) (pv 0) (by rfl) rfl) (pa_cons (pv 1) pa_nil)))) (pss_cons (ps_set (i := 4) sc_last_difference.nd rfl (.inl rfl) (pe_op op_sub (pe_cal c_size_of (hr.mono (by decide)) (by rfl) (pa_cons (pe_fldK (K := T.K) (pv 0) (by rfl) rfl) (pa_cons (pe_op op_xor (pv 1) (pv 2)) pa_nil))) pe_int)) (pss_cons (ps_expr (pe_calM (pv 0) c_Mach_step (hr.mono (by decide)) (pa_cons pe_str (pa_cons (pe_op op_sub (pv 3) (pe_callB (cr_max2 rfl) (by rfl) z_max (by decide +kernel) (pa_cons (pv 4) (pa_cons pe_int pa_nil)))) pa_nil)))) (pss_one (ps_ret (pv 4)))))), fun D hrt hnx => ?_⟩
  have ok := okk1 hk0
  suffices hx : XS _ D F0 [some (vr p0), some (va T x1), some (va T x2), none, none] (stt Ω [(k0, machA T p0 x0)] []) by
    rw [show (stt Ω [(k0, machA T p0 x0)] []) = Ω from stt_self (by simp [hk0])] at hx
    exact hx
  unfold M_last_difference at hm
  obtain ⟨z1, hz1, hm⟩ := bnd_some hm
  refine xs_set (A := va T z1) (xe_call (xa_cons (xe_mw mc.cl mc.nw (xe_var (i := 0) rfl) (stt_get ok (i := 0) rfl)) (xa_cons (xe_var (i := 1) rfl) xa_nil)) ⟨x0.w, x1, z1, rfl, hz1, rfl⟩ cal0) ?_
  show XS (tSeq _ _) _ _ [some (vr p0), some (va T x1), some (va T x2), some (va T z1), none] (stt Ω [(k0, machA T p0 x0)] [])
  obtain ⟨z2, hz2, hm⟩ := bnd_some hm
  obtain ⟨y3, hy3, hm⟩ := bnd_some hm
  refine xs_set (A := va T y3) (xe_eq (xe_sub (xe_call (xa_cons (xe_mw mc.cl mc.nw (xe_var (i := 0) rfl) (stt_get ok (i := 0) rfl)) (xa_cons (xe_bxor (xe_var (i := 1) rfl) (xe_var (i := 2) rfl)) xa_nil)) ⟨x0.w, (Builtin.bitXor x1 x2), z2, rfl, hz2, rfl⟩ cal0) xe_int) (Option.some.inj hy3)) ?_
  show XS (tSeq _ _) _ _ [some (vr p0), some (va T x1), some (va T x2), some (va T z1), some (va T y3)] (stt Ω [(k0, machA T p0 x0)] [])
  obtain ⟨z4, hz4, hm⟩ := bnd_some hm
  refine xs_drop (xe_mcall (xe_var (i := 0) rfl) (stt_get ok (i := 0) rfl) (xa_cons xe_str (xa_cons (xe_sub (xe_var (i := 3) rfl) (xe_max2 (xe_var (i := 4) rfl) xe_int)) xa_nil)) ⟨k0, p0, x0, ("looked" : Str), (z1 - (max y3 (0 : Int))), rfl, (stt_get ok (i := 0) rfl), chkP_some hz4, rfl⟩ (cal1 ok (i := 0) rfl)) ?_
  show XS (tRet _) _ _ [some (vr p0), some (va T x1), some (va T x2), some (va T z1), some (va T y3)] (stt Ω [(k0, machA T p0 (x0.step ("looked" : Str) (z1 - (max y3 (0 : Int)))))] [])
  obtain rfl := Option.some.inj hm
  refine xs_ret (xe_var (i := 4) rfl) hrt.all
noncomputable def M_check_big (x0 : Bg) (x1 : Str) : Option Unit :=
  (chkP (true = true)).bind fun z1 => some ()
def Pre_check_big (T : TC) : PreT := fun As Ω R => ∃ (x0 : Bg) (x1 : Str) (r : Unit), As = [va T x0, va T x1] ∧ M_check_big x0 x1 = some r ∧ R = RV (va T r) (stt Ω [] [])
abbrev s_check_big : Stmt := topS 22
theorem sc_check_big : FnScope ["value", "name"] ["value", "name"] (defScope s_check_big) := ⟨rfl, rfl, rfl, by decide +kernel, rfl, by decide +kernel, by decide +kernel⟩
theorem ok_check_big {f : Addr} {fd : FuncData} (F : Fun T.K "check_big" "check_big" s_check_big f fd) (z_isinstance : mg "isinstance" = none) (icb : ICls T.K (T.C 1)) (g_Big : ∃ u, mg "Big" = some u ∧ RelV (.ref (T.C 1)) u) : FnOk P w T.K mg base CX0 1 f fd ["value", "name"] (mkSp (Pre_check_big T)) := by
  refine fn_ok F sc_check_big (fun As Ω R h => ?_) (fun cdv A outer s H E hr As Ω R F0 h => ?_)
  · obtain ⟨x0, x1, r, rfl, _⟩ := h
    rfl
  obtain ⟨x0, x1, r, rfl, hm, rfl⟩ := h
  refine ⟨_, (pss_one (ps_if (pt_not (pt_val (pe_callB (cr_isiK (K := T.K) rfl) (by rfl) z_isinstance (by decide +kernel) (pa_cons (pv 0) (pa_cons (pe_gl rfl g_Big) pa_nil))))) pss_never pss_nil)), fun D hrt hnx => ?_⟩
  have ok : Okk Ω [] := okk0
  suffices hx : XS _ D F0 [some (va T x0), some (va T x1)] (stt Ω [] []) by
    rw [show (stt Ω [] []) = Ω from stt_self (by simp)] at hx
    exact hx
  unfold M_check_big at hm
  obtain ⟨z1, hz1, hm⟩ := bnd_some hm
  refine xs_ifF1 (xt_notF (xt_eq (xt_tB (T := T) (xe_isi (xe_var (i := 0) rfl) xe_vx (.own _) (fun F H v hh a => ty_big icb hh a) icb.kit)) (chkP_some hz1))) ?_
  obtain rfl := Option.some.inj hm
  exact fun σ H ⟨F, f0, e, hh⟩ => hnx F σ H _ f0 hh.all ⟨rfl, rfl⟩
noncomputable def M_check_fit (x0 : MS) (x1 : Bg) (x2 : Str) : Option Unit :=
  (M_check_big x1 x2).bind fun z1 => (chkP (x1.w = x0.w)).bind fun z2 => some ()
def Pre_check_fit (T : TC) : PreT := fun As Ω R => ∃ (k0 : Nat) (p0 : Addr) (x0 : MS) (x1 : Bg) (x2 : Str) (r : Unit), As = [vr p0, va T x1, va T x2] ∧ Ω[k0]? = some (machA T p0 x0) ∧ M_check_fit x0 x1 x2 = some r ∧ R = RV (va T r) (stt Ω [] [])
abbrev s_check_fit : Stmt := topS 25
theorem sc_check_fit : FnScope ["machine", "value", "name"] ["machine", "value", "name"] (defScope s_check_fit) := ⟨rfl, rfl, rfl, by decide +kernel, rfl, by decide +kernel, by decide +kernel⟩
theorem ok_check_fit {f : Addr} {fd : FuncData} (F : Fun T.K "check_fit" "check_fit" s_check_fit f fd) (c_check_big : Cal P w T.K mg base 1 "check_big" ["value", "name"] (mkSp (Pre_check_big T))) (bc : BCls T.K (T.C 1)) (mc : MCls T.K (T.C 0)) : FnOk P w T.K mg base CX0 2 f fd ["machine", "value", "name"] (mkSp (Pre_check_fit T)) := by
  refine fn_ok F sc_check_fit (fun As Ω R h => ?_) (fun cdv A outer s H E hr As Ω R F0 h => ?_)
  · obtain ⟨k0, p0, x0, x1, x2, r, rfl, _⟩ := h
    rfl
  obtain ⟨k0, p0, x0, x1, x2, r, rfl, hk0, hm, rfl⟩ := h
  refine ⟨_, (pss_cons (ps_expr (pe_cal c_check_big (hr.mono (by decide)) (by rfl) (pa_cons (pv 1) (pa_cons (pv 2) pa_nil)))) (pss_one (ps_if (pt_cmpR (op_neXK (K := T.K) (by exact hr.units) rfl) (pe_fldK (K := T.K) (pv 1) (by rfl) rfl) (pe_fldK (K := T.K) (pv 0) (by rfl) rfl) (nomark _)) pss_never pss_nil))), fun D hrt hnx => ?_⟩
  have ok : Okk Ω [] := okk0
  suffices hx : XS _ D F0 [some (vr p0), some (va T x1), some (va T x2)] (stt Ω [] []) by
    rw [show (stt Ω [] []) = Ω from stt_self (by simp)] at hx
    exact hx
  unfold M_check_fit at hm
  obtain ⟨z1, hz1, hm⟩ := bnd_some hm
  refine xs_drop (xe_call (xa_cons (xe_var (i := 1) rfl) (xa_cons (xe_var (i := 2) rfl) xa_nil)) ⟨x1, x2, z1, rfl, hz1, rfl⟩ cal0) ?_
  show XS (tIfS _ _ _) _ _ [some (vr p0), some (va T x1), some (va T x2)] (stt Ω [] [])
  obtain ⟨z2, hz2, hm⟩ := bnd_some hm
  refine xs_ifF1 (xt_test (T := T) (xe_eq (xe_neI (xe_bw bc.cl bc.nw (xe_var (i := 1) rfl)) (xe_mw mc.cl mc.nw (xe_var (i := 0) rfl) (stt_getU hk0))) (neK_ (chkP_some hz2)))) ?_
  obtain rfl := Option.some.inj hm
  exact fun σ H ⟨F, f0, e, hh⟩ => hnx F σ H _ f0 hh.all ⟨rfl, rfl⟩
noncomputable def M_check_one (x0 : MS) (x1 : Bg) : Option Unit :=
  (M_check_machine x0).bind fun z1 => (M_check_fit x0 x1 ("x" : Str)).bind fun z2 => some ()
def Pre_check_one (T : TC) : PreT := fun As Ω R => ∃ (k0 : Nat) (p0 : Addr) (x0 : MS) (x1 : Bg) (r : Unit), As = [vr p0, va T x1] ∧ Ω[k0]? = some (machA T p0 x0) ∧ M_check_one x0 x1 = some r ∧ R = RV (va T r) (stt Ω [] [])
abbrev s_check_one : Stmt := topS 23
theorem sc_check_one : FnScope ["machine", "x"] ["machine", "x"] (defScope s_check_one) := ⟨rfl, rfl, rfl, by decide +kernel, rfl, by decide +kernel, by decide +kernel⟩
theorem ok_check_one {f : Addr} {fd : FuncData} (F : Fun T.K "check_one" "check_one" s_check_one f fd) (c_check_machine : Cal P w T.K mg base 1 "check_machine" ["machine"] (mkSp (Pre_check_machine T))) (c_check_fit : Cal P w T.K mg base 2 "check_fit" ["machine", "value", "name"] (mkSp (Pre_check_fit T))) : FnOk P w T.K mg base CX0 3 f fd ["machine", "x"] (mkSp (Pre_check_one T)) := by
  refine fn_ok F sc_check_one (fun As Ω R h => ?_) (fun cdv A outer s H E hr As Ω R F0 h => ?_)
  · obtain ⟨k0, p0, x0, x1, r, rfl, _⟩ := h
    rfl
  obtain ⟨k0, p0, x0, x1, r, rfl, hk0, hm, rfl⟩ := h
  refine ⟨_, (pss_cons (ps_expr (pe_cal c_check_machine (hr.mono (by decide)) (by rfl) (pa_cons (pv 0) pa_nil))) (pss_one (ps_expr (pe_cal c_check_fit (hr.mono (by decide)) (by rfl) (pa_cons (pv 0) (pa_cons (pv 1) (pa_cons pe_str pa_nil))))))), fun D hrt hnx => ?_⟩
  have ok : Okk Ω [] := okk0
  suffices hx : XS _ D F0 [some (vr p0), some (va T x1)] (stt Ω [] []) by
    rw [show (stt Ω [] []) = Ω from stt_self (by simp)] at hx
    exact hx
  unfold M_check_one at hm
  obtain ⟨z1, hz1, hm⟩ := bnd_some hm
  refine xs_drop (xe_call (xa_cons (xe_var (i := 0) rfl) xa_nil) ⟨k0, p0, x0, z1, rfl, (stt_getU hk0), hz1, rfl⟩ cal0) ?_
  show XS (tDrop _) _ _ [some (vr p0), some (va T x1)] (stt Ω [] [])
  obtain ⟨z2, hz2, hm⟩ := bnd_some hm
  refine xs_drop1 (xe_call (xa_cons (xe_var (i := 0) rfl) (xa_cons (xe_var (i := 1) rfl) (xa_cons xe_str xa_nil))) ⟨k0, p0, x0, x1, ("x" : Str), z2, rfl, (stt_getU hk0), hz2, rfl⟩ cal0) ?_
  obtain rfl := Option.some.inj hm
  exact fun σ H ⟨F, f0, e, hh⟩ => hnx F σ H _ f0 hh.all ⟨rfl, rfl⟩
noncomputable def M_check_two (x0 : MS) (x1 : Bg) (x2 : Bg) : Option Unit :=
  (M_check_one x0 x1).bind fun z1 => (M_check_fit x0 x2 ("y" : Str)).bind fun z2 => some ()
def Pre_check_two (T : TC) : PreT := fun As Ω R => ∃ (k0 : Nat) (p0 : Addr) (x0 : MS) (x1 : Bg) (x2 : Bg) (r : Unit), As = [vr p0, va T x1, va T x2] ∧ Ω[k0]? = some (machA T p0 x0) ∧ M_check_two x0 x1 x2 = some r ∧ R = RV (va T r) (stt Ω [] [])
abbrev s_check_two : Stmt := topS 24
theorem sc_check_two : FnScope ["machine", "x", "y"] ["machine", "x", "y"] (defScope s_check_two) := ⟨rfl, rfl, rfl, by decide +kernel, rfl, by decide +kernel, by decide +kernel⟩
theorem ok_check_two {f : Addr} {fd : FuncData} (F : Fun T.K "check_two" "check_two" s_check_two f fd) (c_check_one : Cal P w T.K mg base 3 "check_one" ["machine", "x"] (mkSp (Pre_check_one T))) (c_check_fit : Cal P w T.K mg base 2 "check_fit" ["machine", "value", "name"] (mkSp (Pre_check_fit T))) : FnOk P w T.K mg base CX0 4 f fd ["machine", "x", "y"] (mkSp (Pre_check_two T)) := by
  refine fn_ok F sc_check_two (fun As Ω R h => ?_) (fun cdv A outer s H E hr As Ω R F0 h => ?_)
  · obtain ⟨k0, p0, x0, x1, x2, r, rfl, _⟩ := h
    rfl
  obtain ⟨k0, p0, x0, x1, x2, r, rfl, hk0, hm, rfl⟩ := h
  refine ⟨_, (pss_cons (ps_expr (pe_cal c_check_one (hr.mono (by decide)) (by rfl) (pa_cons (pv 0) (pa_cons (pv 1) pa_nil)))) (pss_one (ps_expr (pe_cal c_check_fit (hr.mono (by decide)) (by rfl) (pa_cons (pv 0) (pa_cons (pv 2) (pa_cons pe_str pa_nil))))))), fun D hrt hnx => ?_⟩
  have ok : Okk Ω [] := okk0
  suffices hx : XS _ D F0 [some (vr p0), some (va T x1), some (va T x2)] (stt Ω [] []) by
    rw [show (stt Ω [] []) = Ω from stt_self (by simp)] at hx
    exact hx
  unfold M_check_two at hm
  obtain ⟨z1, hz1, hm⟩ := bnd_some hm
  refine xs_drop (xe_call (xa_cons (xe_var (i := 0) rfl) (xa_cons (xe_var (i := 1) rfl) xa_nil)) ⟨k0, p0, x0, x1, z1, rfl, (stt_getU hk0), hz1, rfl⟩ cal0) ?_
  show XS (tDrop _) _ _ [some (vr p0), some (va T x1), some (va T x2)] (stt Ω [] [])
  obtain ⟨z2, hz2, hm⟩ := bnd_some hm
  refine xs_drop1 (xe_call (xa_cons (xe_var (i := 0) rfl) (xa_cons (xe_var (i := 2) rfl) (xa_cons xe_str xa_nil))) ⟨k0, p0, x0, x2, ("y" : Str), z2, rfl, (stt_getU hk0), hz2, rfl⟩ cal0) ?_
  obtain rfl := Option.some.inj hm
  exact fun σ H ⟨F, f0, e, hh⟩ => hnx F σ H _ f0 hh.all ⟨rfl, rfl⟩
noncomputable def M_big_of (x0 : MS) (x1 : Int) : Option Bg :=
  (M_size_of x0.w x1).bind fun z1 => (M_row_of 20 x0.w ((x1.natAbs : Nat) : Int) z1).bind fun z2 => some (Bg.mk x0.w z2 x1)
def Pre_big_of (T : TC) : PreT := fun As Ω R => ∃ (k0 : Nat) (p0 : Addr) (x0 : MS) (x1 : Int) (r : Bg), As = [vr p0, va T x1] ∧ Ω[k0]? = some (machA T p0 x0) ∧ M_big_of x0 x1 = some r ∧ R = RV (va T r) (stt Ω [] [])
abbrev s_big_of : Stmt := topS 26
theorem sc_big_of : FnScope ["machine", "value"] ["machine", "value"] (defScope s_big_of) := ⟨rfl, rfl, rfl, by decide +kernel, rfl, by decide +kernel, by decide +kernel⟩
theorem ok_big_of {f : Addr} {fd : FuncData} (F : Fun T.K "big_of" "big_of" s_big_of f fd) (mc : MCls T.K (T.C 0)) (z_abs : mg "abs" = none) (c_size_of : Cal P w T.K mg base 2 "size_of" ["width", "n"] (mkSp (Pre_size_of T))) (c_row_of : Cal P w T.K mg base 21 "row_of" ["width", "n", "size"] (mkSp (Pre_row_of 20 T))) (c_Big : CalC P w T.K mg base 2 "Big" (T.C 1) ["self", "width", "value", "row"] [] (mkSp (Pre_Big T))) : FnOk P w T.K mg base CX0 22 f fd ["machine", "value"] (mkSp (Pre_big_of T)) := by
  refine fn_ok F sc_big_of (fun As Ω R h => ?_) (fun cdv A outer s H E hr As Ω R F0 h => ?_)
  · obtain ⟨k0, p0, x0, x1, r, rfl, _⟩ := h
    rfl
  obtain ⟨k0, p0, x0, x1, r, rfl, hk0, hm, rfl⟩ := h
  refine ⟨_, (pss_one (ps_ret (pe_calC c_Big (hr.mono (by decide)) (by rfl) (pa_cons (pe_fldK (K := T.K) (pv 0) (by rfl) rfl) (pa_cons (pv 1) (pa_cons (pe_cal c_row_of (hr.mono (by decide)) (by rfl) (pa_cons (pe_fldK (K := T.K) (pv 0) (by rfl) rfl) (pa_cons (pe_callB cr_abs (by rfl) z_abs (by decide +kernel) (pa_cons (pv 1) pa_nil)) (pa_cons (pe_cal c_size_of (hr.mono (by decide)) (by rfl) (pa_cons (pe_fldK (K := T.K) (pv 0) (by rfl) rfl) (pa_cons (pv 1) pa_nil))) pa_nil)))) pa_nil)))))), fun D hrt hnx => ?_⟩
  have ok : Okk Ω [] := okk0
  suffices hx : XS _ D F0 [some (vr p0), some (va T x1)] (stt Ω [] []) by
    rw [show (stt Ω [] []) = Ω from stt_self (by simp)] at hx
    exact hx
  unfold M_big_of at hm
  obtain ⟨z1, hz1, hm⟩ := bnd_some hm
  obtain ⟨z2, hz2, hm⟩ := bnd_some hm
  obtain rfl := Option.some.inj hm
  refine xs_ret (xe_fzB (xn_make (Ds := []) (xa_cons (xe_mw mc.cl mc.nw (xe_var (i := 0) rfl) (stt_getU hk0)) (xa_cons (xe_var (i := 1) rfl) (xa_cons (xe_call (xa_cons (xe_mw mc.cl mc.nw (xe_var (i := 0) rfl) (stt_getU hk0)) (xa_cons (xe_abs (xe_var (i := 1) rfl)) (xa_cons (xe_call (xa_cons (xe_mw mc.cl mc.nw (xe_var (i := 0) rfl) (stt_getU hk0)) (xa_cons (xe_var (i := 1) rfl) xa_nil)) ⟨x0.w, x1, z1, rfl, hz1, rfl⟩ cal0) xa_nil))) ⟨x0.w, ((x1.natAbs : Nat) : Int), z1, z2, rfl, hz2, rfl⟩ cal0) xa_nil))) (fun _ => .nil) (fun q => ⟨_, q, x0.w, x1, z2, _, .inl rfl, rfl, rfl, rfl⟩))) hrt.all
noncomputable def M_are_compact (x0 : MS) (x1 : Int) (x2 : Int) : Option Bool :=
  some ((decide (((Builtin.Int.intBits x1 : Nat) : Int) ≤ x0.w)) && (decide (((Builtin.Int.intBits x2 : Nat) : Int) ≤ x0.w)))
def Pre_are_compact (T : TC) : PreT := fun As Ω R => ∃ (k0 : Nat) (p0 : Addr) (x0 : MS) (x1 : Int) (x2 : Int) (r : Bool), As = [vr p0, va T x1, va T x2] ∧ Ω[k0]? = some (machA T p0 x0) ∧ M_are_compact x0 x1 x2 = some r ∧ R = RV (va T r) (stt Ω [] [])
abbrev s_are_compact : Stmt := topS 27
theorem sc_are_compact : FnScope ["machine", "x", "y"] ["machine", "x", "y"] (defScope s_are_compact) := ⟨rfl, rfl, rfl, by decide +kernel, rfl, by decide +kernel, by decide +kernel⟩
theorem ok_are_compact {f : Addr} {fd : FuncData} (F : Fun T.K "are_compact" "are_compact" s_are_compact f fd) (mc : MCls T.K (T.C 0)) : FnOk P w T.K mg base CX0 2 f fd ["machine", "x", "y"] (mkSp (Pre_are_compact T)) := by
  refine fn_ok F sc_are_compact (fun As Ω R h => ?_) (fun cdv A outer s H E hr As Ω R F0 h => ?_)
  · obtain ⟨k0, p0, x0, x1, x2, r, rfl, _⟩ := h
    rfl
  obtain ⟨k0, p0, x0, x1, x2, r, rfl, hk0, hm, rfl⟩ := h
  refine ⟨_, (pss_one (ps_ret (pe_and (pe_cmpR op_le (pe_bits (pv 1)) (pe_fldK (K := T.K) (pv 0) (by rfl) rfl) (nomark _)) (pe_one (pe_cmpR op_le (pe_bits (pv 2)) (pe_fldK (K := T.K) (pv 0) (by rfl) rfl) (nomark _)))))), fun D hrt hnx => ?_⟩
  have ok : Okk Ω [] := okk0
  suffices hx : XS _ D F0 [some (vr p0), some (va T x1), some (va T x2)] (stt Ω [] []) by
    rw [show (stt Ω [] []) = Ω from stt_self (by simp)] at hx
    exact hx
  unfold M_are_compact at hm
  obtain rfl := Option.some.inj hm
  refine xs_ret (xe_andV (xe_le (xe_bits (xe_var (i := 1) rfl)) (xe_mw mc.cl mc.nw (xe_var (i := 0) rfl) (stt_getU hk0))) (fun _ => (xe_le (xe_bits (xe_var (i := 2) rfl)) (xe_mw mc.cl mc.nw (xe_var (i := 0) rfl) (stt_getU hk0))))) hrt.all
noncomputable def M_big (x0 : MS) (x1 : Int) : Option Bg :=
  (M_check_machine x0).bind fun z1 => (M_is_integer x1).bind fun z2 => (chkP (z2 = true)).bind fun z3 => (M_big_of x0 x1).bind fun z4 => some z4
def Pre_big (T : TC) : PreT := fun As Ω R => ∃ (k0 : Nat) (p0 : Addr) (x0 : MS) (x1 : Int) (r : Bg), As = [vr p0, va T x1] ∧ Ω[k0]? = some (machA T p0 x0) ∧ M_big x0 x1 = some r ∧ R = RV (va T r) (stt Ω [] [])
abbrev s_big : Stmt := topS 29
theorem sc_big : FnScope ["machine", "n"] ["machine", "n"] (defScope s_big) := ⟨rfl, rfl, rfl, by decide +kernel, rfl, by decide +kernel, by decide +kernel⟩
theorem ok_big {f : Addr} {fd : FuncData} (F : Fun T.K "big" "big" s_big f fd) (c_check_machine : Cal P w T.K mg base 1 "check_machine" ["machine"] (mkSp (Pre_check_machine T))) (c_is_integer : Cal P w T.K mg base 1 "is_integer" ["value"] (mkSp (Pre_is_integer T))) (c_big_of : Cal P w T.K mg base 22 "big_of" ["machine", "value"] (mkSp (Pre_big_of T))) : FnOk P w T.K mg base CX0 23 f fd ["machine", "n"] (mkSp (Pre_big T)) := by
  refine fn_ok F sc_big (fun As Ω R h => ?_) (fun cdv A outer s H E hr As Ω R F0 h => ?_)
  · obtain ⟨k0, p0, x0, x1, r, rfl, _⟩ := h
    rfl
  obtain ⟨k0, p0, x0, x1, r, rfl, hk0, hm, rfl⟩ := h
  refine ⟨_, (pss_cons (ps_expr (pe_cal c_check_machine (hr.mono (by decide)) (by rfl) (pa_cons (pv 0) pa_nil))) (pss_cons (ps_if (pt_not (pt_val (pe_cal c_is_integer (hr.mono (by decide)) (by rfl) (pa_cons (pv 1) pa_nil)))) pss_never pss_nil) (pss_one (ps_ret (pe_cal c_big_of (hr.mono (by decide)) (by rfl) (pa_cons (pv 0) (pa_cons (pv 1) pa_nil))))))), fun D hrt hnx => ?_⟩
  have ok : Okk Ω [] := okk0
  suffices hx : XS _ D F0 [some (vr p0), some (va T x1)] (stt Ω [] []) by
    rw [show (stt Ω [] []) = Ω from stt_self (by simp)] at hx
    exact hx
  unfold M_big at hm
  obtain ⟨z1, hz1, hm⟩ := bnd_some hm
  refine xs_drop (xe_call (xa_cons (xe_var (i := 0) rfl) xa_nil) ⟨k0, p0, x0, z1, rfl, (stt_getU hk0), hz1, rfl⟩ cal0) ?_
  show XS (tSeq _ _) _ _ [some (vr p0), some (va T x1)] (stt Ω [] [])
  obtain ⟨z2, hz2, hm⟩ := bnd_some hm
  obtain ⟨z3, hz3, hm⟩ := bnd_some hm
  refine xs_ifN (xt_notF (xt_eq (xt_tB (T := T) (xe_call (xa_cons (xe_var (i := 1) rfl) xa_nil) ⟨x1, z2, rfl, hz2, rfl⟩ cal0)) (chkP_some hz3))) ?_
  show XS (tRet _) _ _ [some (vr p0), some (va T x1)] (stt Ω [] [])
  obtain ⟨z4, hz4, hm⟩ := bnd_some hm
  obtain rfl := Option.some.inj hm
  refine xs_ret (xe_call (xa_cons (xe_var (i := 0) rfl) (xa_cons (xe_var (i := 1) rfl) xa_nil)) ⟨k0, p0, x0, x1, z4, rfl, (stt_getU hk0), hz4, rfl⟩ cal0) hrt.all
noncomputable def M_added (x0 : MS) (x1 : Int) (x2 : Int) (x3 : Int) (x4 : Int) : Option (Int × MS) :=
  (chkP (("sum" : Str) ∈ mwords)).bind fun z1 => some ((x1 + x3), ((x0.enter ("add" : Str) x2 x4).step ("sum" : Str) (max x2 x4)))
def Pre_added (T : TC) : PreT := fun As Ω R => ∃ (k0 : Nat) (p0 : Addr) (x0 : MS) (x1 : Int) (x2 : Int) (x3 : Int) (x4 : Int) (r : Int × MS), As = [vr p0, va T x1, va T x2, va T x3, va T x4] ∧ Ω[k0]? = some (machA T p0 x0) ∧ M_added x0 x1 x2 x3 x4 = some r ∧ R = RV (va T r.1) (stt Ω [(k0, machA T p0 r.2)] [])
abbrev s_added : Stmt := topS 34
theorem sc_added : FnScope ["machine", "a", "m", "b", "n"] ["machine", "a", "m", "b", "n"] (defScope s_added) := ⟨rfl, rfl, rfl, by decide +kernel, rfl, by decide +kernel, by decide +kernel⟩
theorem ok_added {f : Addr} {fd : FuncData} (F : Fun T.K "added" "added" s_added f fd) (mc : MCls T.K (T.C 0)) (c_Mach_enter : CalM P w T.K mg base 1 (T.C 0) "enter" ["self", "word", "m", "n"] (mkSp (Pre_Mach_enter T))) (z_max : mg "max" = none) (c_Mach_step : CalM P w T.K mg base 1 (T.C 0) "step" ["self", "word", "many"] (mkSp (Pre_Mach_step T))) : FnOk P w T.K mg base CX0 2 f fd ["machine", "a", "m", "b", "n"] (mkSp (Pre_added T)) := by
  refine fn_ok F sc_added (fun As Ω R h => ?_) (fun cdv A outer s H E hr As Ω R F0 h => ?_)
  · obtain ⟨k0, p0, x0, x1, x2, x3, x4, r, rfl, _⟩ := h
    rfl
  obtain ⟨k0, p0, x0, x1, x2, x3, x4, r, rfl, hk0, hm, rfl⟩ := h
  refine ⟨_, (pss_cons (ps_expr (pe_calM (pv 0) c_Mach_enter (hr.mono (by decide)) (pa_cons pe_str (pa_cons (pv 2) (pa_cons (pv 4) pa_nil))))) (pss_cons (ps_expr (pe_calM (pv 0) c_Mach_step (hr.mono (by decide)) (pa_cons pe_str (pa_cons (pe_callB (cr_max2 rfl) (by rfl) z_max (by decide +kernel) (pa_cons (pv 2) (pa_cons (pv 4) pa_nil))) pa_nil)))) (pss_one (ps_ret (pe_op op_addQ (pv 1) (pv 3)))))), fun D hrt hnx => ?_⟩
  have ok := okk1 hk0
  suffices hx : XS _ D F0 [some (vr p0), some (va T x1), some (va T x2), some (va T x3), some (va T x4)] (stt Ω [(k0, machA T p0 x0)] []) by
    rw [show (stt Ω [(k0, machA T p0 x0)] []) = Ω from stt_self (by simp [hk0])] at hx
    exact hx
  unfold M_added at hm
  refine xs_drop (xe_mcall (xe_var (i := 0) rfl) (stt_get ok (i := 0) rfl) (xa_cons xe_str (xa_cons (xe_var (i := 2) rfl) (xa_cons (xe_var (i := 4) rfl) xa_nil))) ⟨k0, p0, x0, ("add" : Str), x2, x4, rfl, (stt_get ok (i := 0) rfl), rfl⟩ (cal1 ok (i := 0) rfl)) ?_
  show XS (tSeq _ _) _ _ [some (vr p0), some (va T x1), some (va T x2), some (va T x3), some (va T x4)] (stt Ω [(k0, machA T p0 (x0.enter ("add" : Str) x2 x4))] [])
  obtain ⟨z1, hz1, hm⟩ := bnd_some hm
  refine xs_drop (xe_mcall (xe_var (i := 0) rfl) (stt_get ok (i := 0) rfl) (xa_cons xe_str (xa_cons (xe_max2 (xe_var (i := 2) rfl) (xe_var (i := 4) rfl)) xa_nil)) ⟨k0, p0, (x0.enter ("add" : Str) x2 x4), ("sum" : Str), (max x2 x4), rfl, (stt_get ok (i := 0) rfl), chkP_some hz1, rfl⟩ (cal1 ok (i := 0) rfl)) ?_
  show XS (tRet _) _ _ [some (vr p0), some (va T x1), some (va T x2), some (va T x3), some (va T x4)] (stt Ω [(k0, machA T p0 ((x0.enter ("add" : Str) x2 x4).step ("sum" : Str) (max x2 x4)))] [])
  obtain rfl := Option.some.inj hm
  refine xs_ret (xe_add (xe_var (i := 1) rfl) (xe_var (i := 3) rfl)) hrt.all
noncomputable def M_taken (x0 : MS) (x1 : Int) (x2 : Int) : Option (Int × MS) :=
  (M_size_of x0.w x1).bind fun z1 => (M_size_of x0.w x2).bind fun z2 => (if (decide (z1 = z2)) = true then (M_last_difference (x0.enter ("take" : Str) z1 z2) x1 x2).bind fun z3 => (chkP (("sum" : Str) ∈ mwords)).bind fun z4 => some (z3.2.step ("sum" : Str) (z3.1 + (1 : Int))) else (chkP (("sum" : Str) ∈ mwords)).bind fun z6 => some ((x0.enter ("take" : Str) z1 z2).step ("sum" : Str) (max z1 z2))).bind fun z8 => some ((x1 - x2), z8)
def Pre_taken (T : TC) : PreT := fun As Ω R => ∃ (k0 : Nat) (p0 : Addr) (x0 : MS) (x1 : Int) (x2 : Int) (r : Int × MS), As = [vr p0, va T x1, va T x2] ∧ Ω[k0]? = some (machA T p0 x0) ∧ M_taken x0 x1 x2 = some r ∧ R = RV (va T r.1) (stt Ω [(k0, machA T p0 r.2)] [])
abbrev s_taken : Stmt := topS 35
theorem sc_taken : FnScope ["machine", "a", "b", "m", "n"] ["machine", "a", "b"] (defScope s_taken) := ⟨rfl, rfl, rfl, by decide +kernel, rfl, by decide +kernel, by decide +kernel⟩
theorem ok_taken {f : Addr} {fd : FuncData} (F : Fun T.K "taken" "taken" s_taken f fd) (mc : MCls T.K (T.C 0)) (c_size_of : Cal P w T.K mg base 2 "size_of" ["width", "n"] (mkSp (Pre_size_of T))) (c_Mach_enter : CalM P w T.K mg base 1 (T.C 0) "enter" ["self", "word", "m", "n"] (mkSp (Pre_Mach_enter T))) (c_last_difference : Cal P w T.K mg base 3 "last_difference" ["machine", "a", "b"] (mkSp (Pre_last_difference T))) (c_Mach_step : CalM P w T.K mg base 1 (T.C 0) "step" ["self", "word", "many"] (mkSp (Pre_Mach_step T))) (z_max : mg "max" = none) : FnOk P w T.K mg base CX0 4 f fd ["machine", "a", "b"] (mkSp (Pre_taken T)) := by
  refine fn_ok F sc_taken (fun As Ω R h => ?_) (fun cdv A outer s H E hr As Ω R F0 h => ?_)
  · obtain ⟨k0, p0, x0, x1, x2, r, rfl, _⟩ := h
    rfl
  obtain ⟨k0, p0, x0, x1, x2, r, rfl, hk0, hm, rfl⟩ := h
  refine ⟨_, (pss_cons (ps_set (i := 3) sc_taken.nd rfl (.inl rfl) (pe_cal c_size_of (hr.mono (by decide)) (by rfl) (pa_cons (pe_fldK (K := T.K) (pv 0) (by rfl) rfl) (pa_cons (pv 1) pa_nil)))) (pss_cons (ps_set (i := 4) sc_taken.nd rfl (.inl rfl) (pe_cal c_size_of (hr.mono (by decide)) (by rfl) (pa_cons (pe_fldK (K := T.K) (pv 0) (by rfl) rfl) (pa_cons (pv 2) pa_nil)))) (pss_cons (ps_expr (pe_calM (pv 0) c_Mach_enter (hr.mono (by decide)) (pa_cons pe_str (pa_cons (pv 3) (pa_cons (pv 4) pa_nil))))) (Evl.pss_cut (ps_if (pt_cmpR (op_eqXK (K := T.K) (by exact hr.units) rfl) (pv 3) (pv 4) (nomark _)) (pss_one (ps_expr (pe_calM (pv 0) c_Mach_step (hr.mono (by decide)) (pa_cons pe_str (pa_cons (pe_op op_addQ (pe_cal c_last_difference (hr.mono (by decide)) (by rfl) (pa_cons (pv 0) (pa_cons (pv 1) (pa_cons (pv 2) pa_nil)))) pe_int) pa_nil))))) (pss_one (ps_expr (pe_calM (pv 0) c_Mach_step (hr.mono (by decide)) (pa_cons pe_str (pa_cons (pe_callB (cr_max2 rfl) (by rfl) z_max (by decide +kernel) (pa_cons (pv 3) (pa_cons (pv 4) pa_nil))) pa_nil)))))) (pss_one (ps_ret (pe_op op_sub (pv 1) (pv 2)))))))), fun D hrt hnx => ?_⟩
  have ok := okk1 hk0
  suffices hx : XS _ D F0 [some (vr p0), some (va T x1), some (va T x2), none, none] (stt Ω [(k0, machA T p0 x0)] []) by
    rw [show (stt Ω [(k0, machA T p0 x0)] []) = Ω from stt_self (by simp [hk0])] at hx
    exact hx
  unfold M_taken at hm
  obtain ⟨z1, hz1, hm⟩ := bnd_some hm
  refine xs_set (A := va T z1) (xe_call (xa_cons (xe_mw mc.cl mc.nw (xe_var (i := 0) rfl) (stt_get ok (i := 0) rfl)) (xa_cons (xe_var (i := 1) rfl) xa_nil)) ⟨x0.w, x1, z1, rfl, hz1, rfl⟩ cal0) ?_
  show XS (tSeq _ _) _ _ [some (vr p0), some (va T x1), some (va T x2), some (va T z1), none] (stt Ω [(k0, machA T p0 x0)] [])
  obtain ⟨z2, hz2, hm⟩ := bnd_some hm
  refine xs_set (A := va T z2) (xe_call (xa_cons (xe_mw mc.cl mc.nw (xe_var (i := 0) rfl) (stt_get ok (i := 0) rfl)) (xa_cons (xe_var (i := 2) rfl) xa_nil)) ⟨x0.w, x2, z2, rfl, hz2, rfl⟩ cal0) ?_
  show XS (tSeq _ _) _ _ [some (vr p0), some (va T x1), some (va T x2), some (va T z1), some (va T z2)] (stt Ω [(k0, machA T p0 x0)] [])
  refine xs_drop (xe_mcall (xe_var (i := 0) rfl) (stt_get ok (i := 0) rfl) (xa_cons xe_str (xa_cons (xe_var (i := 3) rfl) (xa_cons (xe_var (i := 4) rfl) xa_nil))) ⟨k0, p0, x0, ("take" : Str), z1, z2, rfl, (stt_get ok (i := 0) rfl), rfl⟩ (cal1 ok (i := 0) rfl)) ?_
  show XS (Evl.tCut _ _) _ _ [some (vr p0), some (va T x1), some (va T x2), some (va T z1), some (va T z2)] (stt Ω [(k0, machA T p0 (x0.enter ("take" : Str) z1 z2))] [])
  obtain ⟨z8, hz8, hm⟩ := bnd_some hm
  refine xs_cut (Γ' := [some (vr p0), some (va T x1), some (va T x2), some (va T z1), some (va T z2)]) (Ω' := (stt Ω [(k0, machA T p0 z8)] [])) ?_ ?_
  · clear hm
    have hm := hz8
    clear hz8
    by_cases hc : (decide (z1 = z2)) = true
    · rw [if_pos hc] at hm
      refine xs_ifT1 (xt_eq (xt_test (T := T) (xe_eqI (xe_var (i := 3) rfl) (xe_var (i := 4) rfl))) hc) ?_
      obtain ⟨z3, hz3, hm⟩ := bnd_some hm
      obtain ⟨z4, hz4, hm⟩ := bnd_some hm
      refine xs_drop1 (xe_mcall (xe_var (i := 0) rfl) (stt_get ok (i := 0) rfl) (xa_cons xe_str (xa_cons (xe_add (xe_call (xa_cons (xe_var (i := 0) rfl) (xa_cons (xe_var (i := 1) rfl) (xa_cons (xe_var (i := 2) rfl) xa_nil))) ⟨k0, p0, (x0.enter ("take" : Str) z1 z2), x1, x2, z3, rfl, (stt_get ok (i := 0) rfl), hz3, rfl⟩ (cal1 ok (i := 0) rfl)) xe_int) xa_nil)) ⟨k0, p0, z3.2, ("sum" : Str), (z3.1 + (1 : Int)), rfl, (stt_get ok (i := 0) rfl), chkP_some hz4, rfl⟩ (cal1 ok (i := 0) rfl)) ?_
      obtain rfl := Option.some.inj hm
      exact fun σ H n => n
    · rw [if_neg hc] at hm
      refine xs_ifF1 (xt_eq (xt_test (T := T) (xe_eqI (xe_var (i := 3) rfl) (xe_var (i := 4) rfl))) (nt hc)) ?_
      obtain ⟨z6, hz6, hm⟩ := bnd_some hm
      refine xs_drop1 (xe_mcall (xe_var (i := 0) rfl) (stt_get ok (i := 0) rfl) (xa_cons xe_str (xa_cons (xe_max2 (xe_var (i := 3) rfl) (xe_var (i := 4) rfl)) xa_nil)) ⟨k0, p0, (x0.enter ("take" : Str) z1 z2), ("sum" : Str), (max z1 z2), rfl, (stt_get ok (i := 0) rfl), chkP_some hz6, rfl⟩ (cal1 ok (i := 0) rfl)) ?_
      obtain rfl := Option.some.inj hm
      exact fun σ H n => n
  · obtain rfl := Option.some.inj hm
    refine xs_ret (xe_sub (xe_var (i := 1) rfl) (xe_var (i := 2) rfl)) hrt.all
noncomputable def M_joined (x0 : MS) (x1 : Int) (x2 : Int) (x3 : Int) : Option (Int × MS) :=
  (M_are_compact x0 x1 x2).bind fun z1 => if z1 = true then (chkP (("short" : Str) ∈ mwords)).bind fun z2 => (chkP (IntMulOk x3 x2)).bind fun z3 => some ((x1 + (x3 * x2)), (x0.step ("short" : Str) (1 : Int))) else if (decide ((decide ((decide (x1 < (0 : Int))) = (decide (x2 < (0 : Int))))) = (decide (x3 = (1 : Int))))) = true then (M_size_of x0.w x1).bind fun z4 => (M_size_of x0.w x2).bind fun z5 => (M_added x0 ((x1.natAbs : Nat) : Int) z4 ((x2.natAbs : Nat) : Int) z5).bind fun z6 => some ((if (decide (x1 < (0 : Int))) = true then (-z6.1) else z6.1), z6.2) else if (decide (x1 < (0 : Int))) = true then (M_taken x0 ((x2.natAbs : Nat) : Int) ((x1.natAbs : Nat) : Int)).bind fun z7 => some (z7.1, z7.2) else (M_taken x0 ((x1.natAbs : Nat) : Int) ((x2.natAbs : Nat) : Int)).bind fun z8 => some (z8.1, z8.2)
def Pre_joined (T : TC) : PreT := fun As Ω R => ∃ (k0 : Nat) (p0 : Addr) (x0 : MS) (x1 : Int) (x2 : Int) (x3 : Int) (r : Int × MS), As = [vr p0, va T x1, va T x2, va T x3] ∧ Ω[k0]? = some (machA T p0 x0) ∧ M_joined x0 x1 x2 x3 = some r ∧ R = RV (va T r.1) (stt Ω [(k0, machA T p0 r.2)] [])
abbrev s_joined : Stmt := topS 33
theorem sc_joined : FnScope ["machine", "x", "y", "turn", "total"] ["machine", "x", "y", "turn"] (defScope s_joined) := ⟨rfl, rfl, rfl, by decide +kernel, rfl, by decide +kernel, by decide +kernel⟩
theorem ok_joined {f : Addr} {fd : FuncData} (F : Fun T.K "joined" "joined" s_joined f fd) (c_are_compact : Cal P w T.K mg base 2 "are_compact" ["machine", "x", "y"] (mkSp (Pre_are_compact T))) (mc : MCls T.K (T.C 0)) (c_Mach_step : CalM P w T.K mg base 1 (T.C 0) "step" ["self", "word", "many"] (mkSp (Pre_Mach_step T))) (z_abs : mg "abs" = none) (c_size_of : Cal P w T.K mg base 2 "size_of" ["width", "n"] (mkSp (Pre_size_of T))) (c_added : Cal P w T.K mg base 2 "added" ["machine", "a", "m", "b", "n"] (mkSp (Pre_added T))) (c_taken : Cal P w T.K mg base 4 "taken" ["machine", "a", "b"] (mkSp (Pre_taken T))) : FnOk P w T.K mg base CX0 5 f fd ["machine", "x", "y", "turn"] (mkSp (Pre_joined T)) := by
  refine fn_ok F sc_joined (fun As Ω R h => ?_) (fun cdv A outer s H E hr As Ω R F0 h => ?_)
  · obtain ⟨k0, p0, x0, x1, x2, x3, r, rfl, _⟩ := h
    rfl
  obtain ⟨k0, p0, x0, x1, x2, x3, r, rfl, hk0, hm, rfl⟩ := h
  refine ⟨_, (pss_cons (ps_if (pt_val (pe_cal c_are_compact (hr.mono (by decide)) (by rfl) (pa_cons (pv 0) (pa_cons (pv 1) (pa_cons (pv 2) pa_nil))))) (pss_cons (ps_expr (pe_calM (pv 0) c_Mach_step (hr.mono (by decide)) (pa_cons pe_str (pa_cons pe_int pa_nil)))) (pss_one (ps_ret (pe_op op_addQ (pv 1) (pe_op op_mulQ (pv 3) (pv 2)))))) pss_nil) (pss_cons (ps_if (pt_cmpR (op_eqXK (K := T.K) (by exact hr.units) rfl) (pe_cmpR (op_eqXK (K := T.K) (by exact hr.units) rfl) (pe_cmpR op_lt (pv 1) pe_int (nomark _)) (pe_cmpR op_lt (pv 2) pe_int (nomark _)) (nomark _)) (pe_cmpR (op_eqXK (K := T.K) (by exact hr.units) rfl) (pv 3) pe_int (nomark _)) (nomark _)) (pss_cons (ps_set (i := 4) sc_joined.nd rfl (.inl rfl) (pe_cal c_added (hr.mono (by decide)) (by rfl) (pa_cons (pv 0) (pa_cons (pe_callB cr_abs (by rfl) z_abs (by decide +kernel) (pa_cons (pv 1) pa_nil)) (pa_cons (pe_cal c_size_of (hr.mono (by decide)) (by rfl) (pa_cons (pe_fldK (K := T.K) (pv 0) (by rfl) rfl) (pa_cons (pv 1) pa_nil))) (pa_cons (pe_callB cr_abs (by rfl) z_abs (by decide +kernel) (pa_cons (pv 2) pa_nil)) (pa_cons (pe_cal c_size_of (hr.mono (by decide)) (by rfl) (pa_cons (pe_fldK (K := T.K) (pv 0) (by rfl) rfl) (pa_cons (pv 2) pa_nil))) pa_nil))))))) (pss_one (ps_ret (pe_ifExp (pt_cmpR op_lt (pv 1) pe_int (nomark _)) (pe_un un_neg (pv 4)) (pv 4))))) pss_nil) (pss_cons (ps_if (pt_cmpR op_lt (pv 1) pe_int (nomark _)) (pss_one (ps_ret (pe_cal c_taken (hr.mono (by decide)) (by rfl) (pa_cons (pv 0) (pa_cons (pe_callB cr_abs (by rfl) z_abs (by decide +kernel) (pa_cons (pv 2) pa_nil)) (pa_cons (pe_callB cr_abs (by rfl) z_abs (by decide +kernel) (pa_cons (pv 1) pa_nil)) pa_nil)))))) pss_nil) (pss_one (ps_ret (pe_cal c_taken (hr.mono (by decide)) (by rfl) (pa_cons (pv 0) (pa_cons (pe_callB cr_abs (by rfl) z_abs (by decide +kernel) (pa_cons (pv 1) pa_nil)) (pa_cons (pe_callB cr_abs (by rfl) z_abs (by decide +kernel) (pa_cons (pv 2) pa_nil)) pa_nil))))))))), fun D hrt hnx => ?_⟩
  have ok := okk1 hk0
  suffices hx : XS _ D F0 [some (vr p0), some (va T x1), some (va T x2), some (va T x3), none] (stt Ω [(k0, machA T p0 x0)] []) by
    rw [show (stt Ω [(k0, machA T p0 x0)] []) = Ω from stt_self (by simp [hk0])] at hx
    exact hx
  unfold M_joined at hm
  obtain ⟨z1, hz1, hm⟩ := bnd_some hm
  by_cases hc : z1 = true
  · rw [if_pos hc] at hm
    refine xs_ifT (xt_eq (xt_tB (T := T) (xe_call (xa_cons (xe_var (i := 0) rfl) (xa_cons (xe_var (i := 1) rfl) (xa_cons (xe_var (i := 2) rfl) xa_nil))) ⟨k0, p0, x0, x1, x2, z1, rfl, (stt_get ok (i := 0) rfl), hz1, rfl⟩ cal0)) hc) ?_
    obtain ⟨z2, hz2, hm⟩ := bnd_some hm
    refine xs_drop (xe_mcall (xe_var (i := 0) rfl) (stt_get ok (i := 0) rfl) (xa_cons xe_str (xa_cons xe_int xa_nil)) ⟨k0, p0, x0, ("short" : Str), (1 : Int), rfl, (stt_get ok (i := 0) rfl), chkP_some hz2, rfl⟩ (cal1 ok (i := 0) rfl)) ?_
    show XS (tRet _) _ _ [some (vr p0), some (va T x1), some (va T x2), some (va T x3), none] (stt Ω [(k0, machA T p0 (x0.step ("short" : Str) (1 : Int)))] [])
    obtain ⟨z3, hz3, hm⟩ := bnd_some hm
    obtain rfl := Option.some.inj hm
    refine xs_ret (xe_add (xe_var (i := 1) rfl) (xe_mul (chkP_some hz3) (xe_var (i := 3) rfl) (xe_var (i := 2) rfl))) hrt.all
  · rw [if_neg hc] at hm
    refine xs_ifN (xt_eq (xt_tB (T := T) (xe_call (xa_cons (xe_var (i := 0) rfl) (xa_cons (xe_var (i := 1) rfl) (xa_cons (xe_var (i := 2) rfl) xa_nil))) ⟨k0, p0, x0, x1, x2, z1, rfl, (stt_get ok (i := 0) rfl), hz1, rfl⟩ cal0)) (nt hc)) ?_
    show XS (tSeq _ _) _ _ [some (vr p0), some (va T x1), some (va T x2), some (va T x3), none] (stt Ω [(k0, machA T p0 x0)] [])
    by_cases hc : (decide ((decide ((decide (x1 < (0 : Int))) = (decide (x2 < (0 : Int))))) = (decide (x3 = (1 : Int))))) = true
    · rw [if_pos hc] at hm
      refine xs_ifT (xt_eq (xt_test (T := T) (xe_eqB (xe_eqB (xe_lt (xe_var (i := 1) rfl) xe_int) (xe_lt (xe_var (i := 2) rfl) xe_int)) (xe_eqI (xe_var (i := 3) rfl) xe_int))) hc) ?_
      obtain ⟨z4, hz4, hm⟩ := bnd_some hm
      obtain ⟨z5, hz5, hm⟩ := bnd_some hm
      obtain ⟨z6, hz6, hm⟩ := bnd_some hm
      refine xs_set (A := va T z6.1) (xe_call (xa_cons (xe_var (i := 0) rfl) (xa_cons (xe_abs (xe_var (i := 1) rfl)) (xa_cons (xe_call (xa_cons (xe_mw mc.cl mc.nw (xe_var (i := 0) rfl) (stt_get ok (i := 0) rfl)) (xa_cons (xe_var (i := 1) rfl) xa_nil)) ⟨x0.w, x1, z4, rfl, hz4, rfl⟩ cal0) (xa_cons (xe_abs (xe_var (i := 2) rfl)) (xa_cons (xe_call (xa_cons (xe_mw mc.cl mc.nw (xe_var (i := 0) rfl) (stt_get ok (i := 0) rfl)) (xa_cons (xe_var (i := 2) rfl) xa_nil)) ⟨x0.w, x2, z5, rfl, hz5, rfl⟩ cal0) xa_nil))))) ⟨k0, p0, x0, ((x1.natAbs : Nat) : Int), z4, ((x2.natAbs : Nat) : Int), z5, z6, rfl, (stt_get ok (i := 0) rfl), hz6, rfl⟩ (cal1 ok (i := 0) rfl)) ?_
      show XS (tRet _) _ _ [some (vr p0), some (va T x1), some (va T x2), some (va T x3), some (va T z6.1)] (stt Ω [(k0, machA T p0 z6.2)] [])
      obtain rfl := Option.some.inj hm
      refine xs_ret (xe_ite (xt_test (T := T) (xe_lt (xe_var (i := 1) rfl) xe_int)) (xe_neg (xe_var (i := 4) rfl)) (xe_var (i := 4) rfl)) hrt.all
    · rw [if_neg hc] at hm
      refine xs_ifN (xt_eq (xt_test (T := T) (xe_eqB (xe_eqB (xe_lt (xe_var (i := 1) rfl) xe_int) (xe_lt (xe_var (i := 2) rfl) xe_int)) (xe_eqI (xe_var (i := 3) rfl) xe_int))) (nt hc)) ?_
      show XS (tSeq _ _) _ _ [some (vr p0), some (va T x1), some (va T x2), some (va T x3), none] (stt Ω [(k0, machA T p0 x0)] [])
      by_cases hc : (decide (x1 < (0 : Int))) = true
      · rw [if_pos hc] at hm
        refine xs_ifT (xt_eq (xt_test (T := T) (xe_lt (xe_var (i := 1) rfl) xe_int)) hc) ?_
        obtain ⟨z7, hz7, hm⟩ := bnd_some hm
        obtain rfl := Option.some.inj hm
        refine xs_ret (xe_call (xa_cons (xe_var (i := 0) rfl) (xa_cons (xe_abs (xe_var (i := 2) rfl)) (xa_cons (xe_abs (xe_var (i := 1) rfl)) xa_nil))) ⟨k0, p0, x0, ((x2.natAbs : Nat) : Int), ((x1.natAbs : Nat) : Int), z7, rfl, (stt_get ok (i := 0) rfl), hz7, rfl⟩ (cal1 ok (i := 0) rfl)) hrt.all
      · rw [if_neg hc] at hm
        refine xs_ifN (xt_eq (xt_test (T := T) (xe_lt (xe_var (i := 1) rfl) xe_int)) (nt hc)) ?_
        show XS (tRet _) _ _ [some (vr p0), some (va T x1), some (va T x2), some (va T x3), none] (stt Ω [(k0, machA T p0 x0)] [])
        obtain ⟨z8, hz8, hm⟩ := bnd_some hm
        obtain rfl := Option.some.inj hm
        refine xs_ret (xe_call (xa_cons (xe_var (i := 0) rfl) (xa_cons (xe_abs (xe_var (i := 1) rfl)) (xa_cons (xe_abs (xe_var (i := 2) rfl)) xa_nil))) ⟨k0, p0, x0, ((x1.natAbs : Nat) : Int), ((x2.natAbs : Nat) : Int), z8, rfl, (stt_get ok (i := 0) rfl), hz8, rfl⟩ (cal1 ok (i := 0) rfl)) hrt.all
noncomputable def M_add (x0 : MS) (x1 : Bg) (x2 : Bg) : Option (Bg × MS) :=
  (M_check_two x0 x1 x2).bind fun z1 => (M_joined x0 x1.v x2.v (1 : Int)).bind fun z2 => (M_big_of z2.2 z2.1).bind fun z3 => some (z3, z2.2)
def Pre_add (T : TC) : PreT := fun As Ω R => ∃ (k0 : Nat) (p0 : Addr) (x0 : MS) (x1 : Bg) (x2 : Bg) (r : Bg × MS), As = [vr p0, va T x1, va T x2] ∧ Ω[k0]? = some (machA T p0 x0) ∧ M_add x0 x1 x2 = some r ∧ R = RV (va T r.1) (stt Ω [(k0, machA T p0 r.2)] [])
abbrev s_add : Stmt := topS 31
theorem sc_add : FnScope ["machine", "x", "y"] ["machine", "x", "y"] (defScope s_add) := ⟨rfl, rfl, rfl, by decide +kernel, rfl, by decide +kernel, by decide +kernel⟩
theorem ok_add {f : Addr} {fd : FuncData} (F : Fun T.K "add" "add" s_add f fd) (c_check_two : Cal P w T.K mg base 4 "check_two" ["machine", "x", "y"] (mkSp (Pre_check_two T))) (bc : BCls T.K (T.C 1)) (c_joined : Cal P w T.K mg base 5 "joined" ["machine", "x", "y", "turn"] (mkSp (Pre_joined T))) (c_big_of : Cal P w T.K mg base 22 "big_of" ["machine", "value"] (mkSp (Pre_big_of T))) : FnOk P w T.K mg base CX0 23 f fd ["machine", "x", "y"] (mkSp (Pre_add T)) := by
  refine fn_ok F sc_add (fun As Ω R h => ?_) (fun cdv A outer s H E hr As Ω R F0 h => ?_)
  · obtain ⟨k0, p0, x0, x1, x2, r, rfl, _⟩ := h
    rfl
  obtain ⟨k0, p0, x0, x1, x2, r, rfl, hk0, hm, rfl⟩ := h
  refine ⟨_, (pss_cons (ps_expr (pe_cal c_check_two (hr.mono (by decide)) (by rfl) (pa_cons (pv 0) (pa_cons (pv 1) (pa_cons (pv 2) pa_nil))))) (pss_one (ps_ret (pe_cal c_big_of (hr.mono (by decide)) (by rfl) (pa_cons (pv 0) (pa_cons (pe_cal c_joined (hr.mono (by decide)) (by rfl) (pa_cons (pv 0) (pa_cons (pe_fldK (K := T.K) (pv 1) (by rfl) rfl) (pa_cons (pe_fldK (K := T.K) (pv 2) (by rfl) rfl) (pa_cons pe_int pa_nil))))) pa_nil)))))), fun D hrt hnx => ?_⟩
  have ok := okk1 hk0
  suffices hx : XS _ D F0 [some (vr p0), some (va T x1), some (va T x2)] (stt Ω [(k0, machA T p0 x0)] []) by
    rw [show (stt Ω [(k0, machA T p0 x0)] []) = Ω from stt_self (by simp [hk0])] at hx
    exact hx
  unfold M_add at hm
  obtain ⟨z1, hz1, hm⟩ := bnd_some hm
  refine xs_drop (xe_call (xa_cons (xe_var (i := 0) rfl) (xa_cons (xe_var (i := 1) rfl) (xa_cons (xe_var (i := 2) rfl) xa_nil))) ⟨k0, p0, x0, x1, x2, z1, rfl, (stt_get ok (i := 0) rfl), hz1, rfl⟩ cal0) ?_
  show XS (tRet _) _ _ [some (vr p0), some (va T x1), some (va T x2)] (stt Ω [(k0, machA T p0 x0)] [])
  obtain ⟨z2, hz2, hm⟩ := bnd_some hm
  obtain ⟨z3, hz3, hm⟩ := bnd_some hm
  obtain rfl := Option.some.inj hm
  refine xs_ret (xe_call (xa_cons (xe_var (i := 0) rfl) (xa_cons (xe_call (xa_cons (xe_var (i := 0) rfl) (xa_cons (xe_bv bc.cl bc.nv (xe_var (i := 1) rfl)) (xa_cons (xe_bv bc.cl bc.nv (xe_var (i := 2) rfl)) (xa_cons xe_int xa_nil)))) ⟨k0, p0, x0, x1.v, x2.v, (1 : Int), z2, rfl, (stt_get ok (i := 0) rfl), hz2, rfl⟩ (cal1 ok (i := 0) rfl)) xa_nil)) ⟨k0, p0, z2.2, z2.1, z3, rfl, (stt_get ok (i := 0) rfl), hz3, rfl⟩ cal0) hrt.all
noncomputable def M_subtract (x0 : MS) (x1 : Bg) (x2 : Bg) : Option (Bg × MS) :=
  (M_check_two x0 x1 x2).bind fun z1 => (M_joined x0 x1.v x2.v (-(1 : Int))).bind fun z2 => (M_big_of z2.2 z2.1).bind fun z3 => some (z3, z2.2)
def Pre_subtract (T : TC) : PreT := fun As Ω R => ∃ (k0 : Nat) (p0 : Addr) (x0 : MS) (x1 : Bg) (x2 : Bg) (r : Bg × MS), As = [vr p0, va T x1, va T x2] ∧ Ω[k0]? = some (machA T p0 x0) ∧ M_subtract x0 x1 x2 = some r ∧ R = RV (va T r.1) (stt Ω [(k0, machA T p0 r.2)] [])
abbrev s_subtract : Stmt := topS 32
theorem sc_subtract : FnScope ["machine", "x", "y"] ["machine", "x", "y"] (defScope s_subtract) := ⟨rfl, rfl, rfl, by decide +kernel, rfl, by decide +kernel, by decide +kernel⟩
theorem ok_subtract {f : Addr} {fd : FuncData} (F : Fun T.K "subtract" "subtract" s_subtract f fd) (c_check_two : Cal P w T.K mg base 4 "check_two" ["machine", "x", "y"] (mkSp (Pre_check_two T))) (bc : BCls T.K (T.C 1)) (c_joined : Cal P w T.K mg base 5 "joined" ["machine", "x", "y", "turn"] (mkSp (Pre_joined T))) (c_big_of : Cal P w T.K mg base 22 "big_of" ["machine", "value"] (mkSp (Pre_big_of T))) : FnOk P w T.K mg base CX0 23 f fd ["machine", "x", "y"] (mkSp (Pre_subtract T)) := by
  refine fn_ok F sc_subtract (fun As Ω R h => ?_) (fun cdv A outer s H E hr As Ω R F0 h => ?_)
  · obtain ⟨k0, p0, x0, x1, x2, r, rfl, _⟩ := h
    rfl
  obtain ⟨k0, p0, x0, x1, x2, r, rfl, hk0, hm, rfl⟩ := h
  refine ⟨_, (pss_cons (ps_expr (pe_cal c_check_two (hr.mono (by decide)) (by rfl) (pa_cons (pv 0) (pa_cons (pv 1) (pa_cons (pv 2) pa_nil))))) (pss_one (ps_ret (pe_cal c_big_of (hr.mono (by decide)) (by rfl) (pa_cons (pv 0) (pa_cons (pe_cal c_joined (hr.mono (by decide)) (by rfl) (pa_cons (pv 0) (pa_cons (pe_fldK (K := T.K) (pv 1) (by rfl) rfl) (pa_cons (pe_fldK (K := T.K) (pv 2) (by rfl) rfl) (pa_cons (pe_un un_neg pe_int) pa_nil))))) pa_nil)))))), fun D hrt hnx => ?_⟩
  have ok := okk1 hk0
  suffices hx : XS _ D F0 [some (vr p0), some (va T x1), some (va T x2)] (stt Ω [(k0, machA T p0 x0)] []) by
    rw [show (stt Ω [(k0, machA T p0 x0)] []) = Ω from stt_self (by simp [hk0])] at hx
    exact hx
  unfold M_subtract at hm
  obtain ⟨z1, hz1, hm⟩ := bnd_some hm
  refine xs_drop (xe_call (xa_cons (xe_var (i := 0) rfl) (xa_cons (xe_var (i := 1) rfl) (xa_cons (xe_var (i := 2) rfl) xa_nil))) ⟨k0, p0, x0, x1, x2, z1, rfl, (stt_get ok (i := 0) rfl), hz1, rfl⟩ cal0) ?_
  show XS (tRet _) _ _ [some (vr p0), some (va T x1), some (va T x2)] (stt Ω [(k0, machA T p0 x0)] [])
  obtain ⟨z2, hz2, hm⟩ := bnd_some hm
  obtain ⟨z3, hz3, hm⟩ := bnd_some hm
  obtain rfl := Option.some.inj hm
  refine xs_ret (xe_call (xa_cons (xe_var (i := 0) rfl) (xa_cons (xe_call (xa_cons (xe_var (i := 0) rfl) (xa_cons (xe_bv bc.cl bc.nv (xe_var (i := 1) rfl)) (xa_cons (xe_bv bc.cl bc.nv (xe_var (i := 2) rfl)) (xa_cons (xe_neg xe_int) xa_nil)))) ⟨k0, p0, x0, x1.v, x2.v, (-(1 : Int)), z2, rfl, (stt_get ok (i := 0) rfl), hz2, rfl⟩ (cal1 ok (i := 0) rfl)) xa_nil)) ⟨k0, p0, z2.2, z2.1, z3, rfl, (stt_get ok (i := 0) rfl), hz3, rfl⟩ cal0) hrt.all
noncomputable def M__law_source_of (x0 : Int) : Option (List Int) :=
  (if (decide ((0 : Int) ≤ x0)) = true then some x0 else (chkP (IntMulOk (3 : Int) x0)).bind fun z1 => some (((0 : Int) - ((3 : Int) * x0)) - (1 : Int))).bind fun z2 => (chkP (CPow (10 : Int) (18 : Int))).bind fun z4 => (chkP (IntMulOk z2 (if (decide (((10 : Int) ^ ((18 : Int)).toNat) ≤ z2)) = true then (1 : Int) else 0))).bind fun z5 => (chkP (0 < (2147483647 : Int))).bind fun z6 => some ([(z2 * (if (decide (((10 : Int) ^ ((18 : Int)).toNat) ≤ z2)) = true then (1 : Int) else 0)), (z2 % (2147483647 : Int)), (0 : Int)] : List Int)
def Pre__law_source_of (T : TC) : PreT := fun As Ω R => ∃ (x0 : Int) (r : List Int), As = [va T x0] ∧ M__law_source_of x0 = some r ∧ R = RN (stt Ω [] []) (fun q => lstA T q r)
abbrev s__law_source_of : Stmt := topS 37
theorem sc__law_source_of : FnScope ["_law_cell"] ["_law_cell"] (defScope s__law_source_of) := ⟨rfl, rfl, rfl, by decide +kernel, rfl, by decide +kernel, by decide +kernel⟩
theorem ok__law_source_of {f : Addr} {fd : FuncData} (F : Fun T.K "_law_source_of" "_law_source_of" s__law_source_of f fd) (z_int : mg "int" = none) : FnOk P w T.K mg base CX0 1 f fd ["_law_cell"] (mkSp (Pre__law_source_of T)) := by
  refine fn_ok F sc__law_source_of (fun As Ω R h => ?_) (fun cdv A outer s H E hr As Ω R F0 h => ?_)
  · obtain ⟨x0, r, rfl, _⟩ := h
    rfl
  obtain ⟨x0, r, rfl, hm, rfl⟩ := h
  refine ⟨_, (pss_cons (ps_set (i := 0) sc__law_source_of.nd rfl (.inl rfl) (pe_ifExp (pt_cmpR op_ge (pv 0) pe_int (nomark _)) (pv 0) (pe_op op_sub (pe_op op_sub pe_int (pe_op op_mulQ pe_int (pv 0))) pe_int))) (pss_one (ps_ret (pe_lst (pa_cons (pe_op op_mulQ (pv 0) (pe_callTy cr_int (by rfl) z_int (by decide +kernel) (pa_cons (pe_cmpR op_ge (pv 0) (pe_op op_pow pe_int pe_int) (nomark _)) pa_nil))) (pa_cons (pe_op op_mod (pe_callTy cr_int (by rfl) z_int (by decide +kernel) (pa_cons (pv 0) pa_nil)) pe_int) (pa_cons pe_int pa_nil))))))), fun D hrt hnx => ?_⟩
  have ok : Okk Ω [] := okk0
  suffices hx : XS _ D F0 [some (va T x0)] (stt Ω [] []) by
    rw [show (stt Ω [] []) = Ω from stt_self (by simp)] at hx
    exact hx
  unfold M__law_source_of at hm
  obtain ⟨z2, hz2, hm⟩ := bnd_some hm
  refine xs_set (A := va T z2) (show XE _ _ _ (va T z2) (stt Ω [] []) from ?q3) ?_
  case q3 =>
    exact (by
      by_cases hc : (decide ((0 : Int) ≤ x0)) = true
      · rw [if_pos hc] at hz2
        obtain rfl := Option.some.inj hz2
        exact xe_ifT (xt_eq (xt_test (T := T) (xe_ge (xe_var (i := 0) rfl) xe_int)) hc) (xe_var (i := 0) rfl)
      · rw [if_neg hc] at hz2
        obtain ⟨z1, hz1, hz2⟩ := bnd_some hz2
        obtain rfl := Option.some.inj hz2
        exact xe_ifF (xt_eq (xt_test (T := T) (xe_ge (xe_var (i := 0) rfl) xe_int)) (nt hc)) (xe_sub (xe_sub xe_int (xe_mul (chkP_some hz1) xe_int (xe_var (i := 0) rfl))) xe_int))
  show XS (tRet _) _ _ [some (va T z2)] (stt Ω [] [])
  obtain ⟨z4, hz4, hm⟩ := bnd_some hm
  obtain ⟨z5, hz5, hm⟩ := bnd_some hm
  obtain ⟨z6, hz6, hm⟩ := bnd_some hm
  obtain rfl := Option.some.inj hm
  refine xs_ret (xn_lst (T := T) (l := [(z2 * (if (decide (((10 : Int) ^ ((18 : Int)).toNat) ≤ z2)) = true then (1 : Int) else 0)), (z2 % (2147483647 : Int)), (0 : Int)]) (xa_cons (xe_mul (chkP_some hz5) (xe_var (i := 0) rfl) (xe_intb (xe_ge (xe_var (i := 0) rfl) (xe_pow (chkP_some hz4) xe_int xe_int)))) (xa_cons (xe_mod (chkP_some hz6) (xe_int1 (xe_var (i := 0) rfl)) xe_int) (xa_cons xe_int xa_nil))) (by show 3 ≤ sizeLine; decide)) (RT.allN hrt)
noncomputable def M__law_next (x0 : List Int) (x1 : Int) : Option (Int × List Int) :=
  (atI x0 (0 : Int)).bind fun z1 => if (decide ((0 : Int) < z1)) = true then (atI x0 (0 : Int)).bind fun z2 => (chkP (0 < x1)).bind fun z3 => (some (z2 % x1)).bind fun y4 => (atI x0 (0 : Int)).bind fun z5 => (chkP (CDivW z5 x1)).bind fun z6 => (some (z5 / x1)).bind fun y7 => (ixN x0.length (0 : Int)).bind fun z8 => some (y4, (x0.set z8 y7)) else (atI x0 (2 : Int)).bind fun z9 => (some (z9 + (1 : Int))).bind fun y10 => (ixN x0.length (2 : Int)).bind fun z11 => (atI (x0.set z11 y10) (1 : Int)).bind fun z12 => (atI (x0.set z11 y10) (2 : Int)).bind fun z13 => (chkP (IntMulOk (104729 : Int) z13)).bind fun z14 => (chkP (0 < (2147483647 : Int))).bind fun z15 => (some (((z12 + ((104729 : Int) * z13)) + (7919 : Int)) % (2147483647 : Int))).bind fun y16 => (chkP (IntMulOk y16 (48271 : Int))).bind fun z17 => (chkP (0 < (2147483647 : Int))).bind fun z18 => (some ((y16 * (48271 : Int)) % (2147483647 : Int))).bind fun y19 => (chkP (CDivW y19 (1009 : Int))).bind fun z20 => (chkP (IntMulOk y19 ((y19 / (1009 : Int)) + (69621 : Int)))).bind fun z21 => (chkP (0 < (2147483647 : Int))).bind fun z22 => (some ((y19 * ((y19 / (1009 : Int)) + (69621 : Int))) % (2147483647 : Int))).bind fun y23 => (chkP (CDivW y23 (2003 : Int))).bind fun z24 => (chkP (IntMulOk y23 ((y23 / (2003 : Int)) + (40692 : Int)))).bind fun z25 => (chkP (0 < (2147483399 : Int))).bind fun z26 => (some ((y23 * ((y23 / (2003 : Int)) + (40692 : Int))) % (2147483399 : Int))).bind fun y27 => (chkP (CDivW y27 (7 : Int))).bind fun z28 => (chkP (0 < x1)).bind fun z29 => some (((y27 / (7 : Int)) % x1), (x0.set z11 y10))
def Pre__law_next (T : TC) : PreT := fun As Ω R => ∃ (k0 : Nat) (p0 : Addr) (x0 : List Int) (x1 : Int) (r : Int × List Int), As = [vr p0, va T x1] ∧ Ω[k0]? = some (lstA T p0 x0) ∧ M__law_next x0 x1 = some r ∧ R = RV (va T r.1) (stt Ω [(k0, lstA T p0 r.2)] [])
abbrev s__law_next : Stmt := topS 38
theorem sc__law_next : FnScope ["_law_source", "_law_count_of", "_law_found", "_law_prime", "_law_number_here"] ["_law_source", "_law_count_of"] (defScope s__law_next) := ⟨rfl, rfl, rfl, by decide +kernel, rfl, by decide +kernel, by decide +kernel⟩
theorem ok__law_next {f : Addr} {fd : FuncData} (F : Fun T.K "_law_next" "_law_next" s__law_next f fd) (z_int : mg "int" = none) : FnOk P w T.K mg base CX0 1 f fd ["_law_source", "_law_count_of"] (mkSp (Pre__law_next T)) := by
  refine fn_ok F sc__law_next (fun As Ω R h => ?_) (fun cdv A outer s H E hr As Ω R F0 h => ?_)
  · obtain ⟨k0, p0, x0, x1, r, rfl, _⟩ := h
    rfl
  obtain ⟨k0, p0, x0, x1, r, rfl, hk0, hm, rfl⟩ := h
  refine ⟨_, (pss_cons (ps_if (pt_cmpR op_gt (pe_ix (ix_seqK (K := T.K) rfl) (pv 0) pe_int (by intro _ _; rfl)) pe_int (nomark _)) (pss_cons (ps_set (i := 2) sc__law_next.nd rfl (.inl rfl) (pe_op op_mod (pe_callTy cr_int (by rfl) z_int (by decide +kernel) (pa_cons (pe_ix (ix_seqK (K := T.K) rfl) (pv 0) pe_int (by intro _ _; rfl)) pa_nil)) (pv 1))) (pss_cons (ps_asg (pe_op op_fdivW (pe_ix (ix_seqK (K := T.K) rfl) (pv 0) pe_int (by intro _ _; rfl)) (pv 1)) (pg_sub (pv 0) pe_int set_list)) (pss_one (ps_ret (pv 2))))) pss_nil) (pss_cons (ps_asg (pe_op op_addQ (pe_ix (ix_seqK (K := T.K) rfl) (pv 0) pe_int (by intro _ _; rfl)) pe_int) (pg_sub (pv 0) pe_int set_list)) (pss_cons (ps_set (i := 3) sc__law_next.nd rfl (.inl rfl) pe_int) (pss_cons (ps_set (i := 4) sc__law_next.nd rfl (.inl rfl) (pe_op op_mod (pe_callTy cr_int (by rfl) z_int (by decide +kernel) (pa_cons (pe_op op_addQ (pe_op op_addQ (pe_ix (ix_seqK (K := T.K) rfl) (pv 0) pe_int (by intro _ _; rfl)) (pe_op op_mulQ pe_int (pe_ix (ix_seqK (K := T.K) rfl) (pv 0) pe_int (by intro _ _; rfl)))) pe_int) pa_nil)) (pv 3))) (pss_cons (ps_set (i := 4) sc__law_next.nd rfl (.inl rfl) (pe_op op_mod (pe_callTy cr_int (by rfl) z_int (by decide +kernel) (pa_cons (pe_op op_mulQ (pv 4) pe_int) pa_nil)) (pv 3))) (pss_cons (ps_set (i := 4) sc__law_next.nd rfl (.inl rfl) (pe_op op_mod (pe_callTy cr_int (by rfl) z_int (by decide +kernel) (pa_cons (pe_op op_mulQ (pv 4) (pe_op op_addQ (pe_op op_fdivW (pv 4) pe_int) pe_int)) pa_nil)) (pv 3))) (pss_cons (ps_set (i := 4) sc__law_next.nd rfl (.inl rfl) (pe_op op_mod (pe_callTy cr_int (by rfl) z_int (by decide +kernel) (pa_cons (pe_op op_mulQ (pv 4) (pe_op op_addQ (pe_op op_fdivW (pv 4) pe_int) pe_int)) pa_nil)) pe_int)) (pss_one (ps_ret (pe_op op_mod (pe_callTy cr_int (by rfl) z_int (by decide +kernel) (pa_cons (pe_op op_fdivW (pv 4) pe_int) pa_nil)) (pv 1))))))))))), fun D hrt hnx => ?_⟩
  have ok := okk1 hk0
  suffices hx : XS _ D F0 [some (vr p0), some (va T x1), none, none, none] (stt Ω [(k0, lstA T p0 (x0 : List Int))] []) by
    rw [show (stt Ω [(k0, lstA T p0 (x0 : List Int))] []) = Ω from stt_self (by simp [hk0])] at hx
    exact hx
  unfold M__law_next at hm
  obtain ⟨z1, hz1, hm⟩ := bnd_some hm
  by_cases hc : (decide ((0 : Int) < z1)) = true
  · rw [if_pos hc] at hm
    refine xs_ifT (xt_eq (xt_test (T := T) (xe_gt (xe_ix (xe_var (i := 0) rfl) xe_int (isL_M (stt_get ok (i := 0) rfl)) hz1) xe_int)) hc) ?_
    obtain ⟨z2, hz2, hm⟩ := bnd_some hm
    obtain ⟨z3, hz3, hm⟩ := bnd_some hm
    obtain ⟨y4, hy4, hm⟩ := bnd_some hm
    refine xs_set (A := va T y4) (xe_eq (xe_mod (chkP_some hz3) (xe_int1 (xe_ix (xe_var (i := 0) rfl) xe_int (isL_M (stt_get ok (i := 0) rfl)) hz2)) (xe_var (i := 1) rfl)) (Option.some.inj hy4)) ?_
    show XS (tSeq _ _) _ _ [some (vr p0), some (va T x1), some (va T y4), none, none] (stt Ω [(k0, lstA T p0 (x0 : List Int))] [])
    obtain ⟨z5, hz5, hm⟩ := bnd_some hm
    obtain ⟨z6, hz6, hm⟩ := bnd_some hm
    obtain ⟨y7, hy7, hm⟩ := bnd_some hm
    obtain ⟨z8, hz8, hm⟩ := bnd_some hm
    refine xs_setL (xe_eq (xe_fdiv (chkP_some hz6) (xe_ix (xe_var (i := 0) rfl) xe_int (isL_M (stt_get ok (i := 0) rfl)) hz5) (xe_var (i := 1) rfl)) (Option.some.inj hy7)) (xe_var (i := 0) rfl) xe_int (stt_get ok (i := 0) rfl) hz8 ?_
    rw [(stt_set ok (i := 0) rfl)]
    show XS (tRet _) _ _ [some (vr p0), some (va T x1), some (va T y4), none, none] (stt Ω [(k0, lstA T p0 ((x0.set z8 y7) : List Int))] [])
    obtain rfl := Option.some.inj hm
    refine xs_ret (xe_var (i := 2) rfl) hrt.all
  · rw [if_neg hc] at hm
    refine xs_ifN (xt_eq (xt_test (T := T) (xe_gt (xe_ix (xe_var (i := 0) rfl) xe_int (isL_M (stt_get ok (i := 0) rfl)) hz1) xe_int)) (nt hc)) ?_
    show XS (tSeq _ _) _ _ [some (vr p0), some (va T x1), none, none, none] (stt Ω [(k0, lstA T p0 (x0 : List Int))] [])
    obtain ⟨z9, hz9, hm⟩ := bnd_some hm
    obtain ⟨y10, hy10, hm⟩ := bnd_some hm
    obtain ⟨z11, hz11, hm⟩ := bnd_some hm
    refine xs_setL (xe_eq (xe_add (xe_ix (xe_var (i := 0) rfl) xe_int (isL_M (stt_get ok (i := 0) rfl)) hz9) xe_int) (Option.some.inj hy10)) (xe_var (i := 0) rfl) xe_int (stt_get ok (i := 0) rfl) hz11 ?_
    rw [(stt_set ok (i := 0) rfl)]
    show XS (tSeq _ _) _ _ [some (vr p0), some (va T x1), none, none, none] (stt Ω [(k0, lstA T p0 ((x0.set z11 y10) : List Int))] [])
    refine xs_set (A := va T (2147483647 : Int)) xe_int ?_
    show XS (tSeq _ _) _ _ [some (vr p0), some (va T x1), none, some (va T (2147483647 : Int)), none] (stt Ω [(k0, lstA T p0 ((x0.set z11 y10) : List Int))] [])
    obtain ⟨z12, hz12, hm⟩ := bnd_some hm
    obtain ⟨z13, hz13, hm⟩ := bnd_some hm
    obtain ⟨z14, hz14, hm⟩ := bnd_some hm
    obtain ⟨z15, hz15, hm⟩ := bnd_some hm
    obtain ⟨y16, hy16, hm⟩ := bnd_some hm
    refine xs_set (A := va T y16) (xe_eq (xe_mod (chkP_some hz15) (xe_int1 (xe_add (xe_add (xe_ix (xe_var (i := 0) rfl) xe_int (isL_M (stt_get ok (i := 0) rfl)) hz12) (xe_mul (chkP_some hz14) xe_int (xe_ix (xe_var (i := 0) rfl) xe_int (isL_M (stt_get ok (i := 0) rfl)) hz13))) xe_int)) (xe_var (i := 3) rfl)) (Option.some.inj hy16)) ?_
    show XS (tSeq _ _) _ _ [some (vr p0), some (va T x1), none, some (va T (2147483647 : Int)), some (va T y16)] (stt Ω [(k0, lstA T p0 ((x0.set z11 y10) : List Int))] [])
    obtain ⟨z17, hz17, hm⟩ := bnd_some hm
    obtain ⟨z18, hz18, hm⟩ := bnd_some hm
    obtain ⟨y19, hy19, hm⟩ := bnd_some hm
    refine xs_set (A := va T y19) (xe_eq (xe_mod (chkP_some hz18) (xe_int1 (xe_mul (chkP_some hz17) (xe_var (i := 4) rfl) xe_int)) (xe_var (i := 3) rfl)) (Option.some.inj hy19)) ?_
    show XS (tSeq _ _) _ _ [some (vr p0), some (va T x1), none, some (va T (2147483647 : Int)), some (va T y19)] (stt Ω [(k0, lstA T p0 ((x0.set z11 y10) : List Int))] [])
    obtain ⟨z20, hz20, hm⟩ := bnd_some hm
    obtain ⟨z21, hz21, hm⟩ := bnd_some hm
    obtain ⟨z22, hz22, hm⟩ := bnd_some hm
    obtain ⟨y23, hy23, hm⟩ := bnd_some hm
    refine xs_set (A := va T y23) (xe_eq (xe_mod (chkP_some hz22) (xe_int1 (xe_mul (chkP_some hz21) (xe_var (i := 4) rfl) (xe_add (xe_fdiv (chkP_some hz20) (xe_var (i := 4) rfl) xe_int) xe_int))) (xe_var (i := 3) rfl)) (Option.some.inj hy23)) ?_
    show XS (tSeq _ _) _ _ [some (vr p0), some (va T x1), none, some (va T (2147483647 : Int)), some (va T y23)] (stt Ω [(k0, lstA T p0 ((x0.set z11 y10) : List Int))] [])
    obtain ⟨z24, hz24, hm⟩ := bnd_some hm
    obtain ⟨z25, hz25, hm⟩ := bnd_some hm
    obtain ⟨z26, hz26, hm⟩ := bnd_some hm
    obtain ⟨y27, hy27, hm⟩ := bnd_some hm
    refine xs_set (A := va T y27) (xe_eq (xe_mod (chkP_some hz26) (xe_int1 (xe_mul (chkP_some hz25) (xe_var (i := 4) rfl) (xe_add (xe_fdiv (chkP_some hz24) (xe_var (i := 4) rfl) xe_int) xe_int))) xe_int) (Option.some.inj hy27)) ?_
    show XS (tRet _) _ _ [some (vr p0), some (va T x1), none, some (va T (2147483647 : Int)), some (va T y27)] (stt Ω [(k0, lstA T p0 ((x0.set z11 y10) : List Int))] [])
    obtain ⟨z28, hz28, hm⟩ := bnd_some hm
    obtain ⟨z29, hz29, hm⟩ := bnd_some hm
    obtain rfl := Option.some.inj hm
    refine xs_ret (xe_mod (chkP_some hz29) (xe_int1 (xe_fdiv (chkP_some hz28) (xe_var (i := 4) rfl) xe_int)) (xe_var (i := 1) rfl)) hrt.all
noncomputable def M__law_cell_at (x0 : List Int) (x1 : Int) : Option Int :=
  (chkP ((cut x0 (some x1) (some (x1 + (1 : Int)))).length + ([(0 : Int)] : List Int).length ≤ sizeLine)).bind fun z1 => (atI ((cut x0 (some x1) (some (x1 + (1 : Int)))) ++ ([(0 : Int)] : List Int)) (0 : Int)).bind fun z2 => some z2
def Pre__law_cell_at (T : TC) : PreT := fun As Ω R => ∃ (x0 : List Int) (x1 : Int) (r : Int), As = [va T (SF.mk x0), va T x1] ∧ M__law_cell_at x0 x1 = some r ∧ R = RV (va T r) (stt Ω [] [])
abbrev s__law_cell_at : Stmt := topS 40
theorem sc__law_cell_at : FnScope ["_law_script", "_law_index"] ["_law_script", "_law_index"] (defScope s__law_cell_at) := ⟨rfl, rfl, rfl, by decide +kernel, rfl, by decide +kernel, by decide +kernel⟩
theorem ok__law_cell_at {f : Addr} {fd : FuncData} (F : Fun T.K "_law_cell_at" "_law_cell_at" s__law_cell_at f fd)  : FnOk P w T.K mg base CX0 1 f fd ["_law_script", "_law_index"] (mkSp (Pre__law_cell_at T)) := by
  refine fn_ok F sc__law_cell_at (fun As Ω R h => ?_) (fun cdv A outer s H E hr As Ω R F0 h => ?_)
  · obtain ⟨x0, x1, r, rfl, _⟩ := h
    rfl
  obtain ⟨x0, x1, r, rfl, hm, rfl⟩ := h
  refine ⟨_, (pss_one (ps_ret (pe_ix (ix_seqK (K := T.K) rfl) (pe_op op_addQ (pe_slice (sl_listK (K := T.K) rfl) (pv 0) (po_some (pv 1)) (po_some (pe_op op_addQ (pv 1) pe_int))) (pe_lst (pa_cons pe_int pa_nil))) pe_int (by intro _ _; rfl)))), fun D hrt hnx => ?_⟩
  have ok : Okk Ω [] := okk0
  suffices hx : XS _ D F0 [some (va T (SF.mk x0)), some (va T x1)] (stt Ω [] []) by
    rw [show (stt Ω [] []) = Ω from stt_self (by simp)] at hx
    exact hx
  unfold M__law_cell_at at hm
  obtain ⟨z1, hz1, hm⟩ := bnd_some hm
  obtain ⟨z2, hz2, hm⟩ := bnd_some hm
  obtain rfl := Option.some.inj hm
  refine xs_ret (xe_ix (xe_cat (xe_sliceL (xe_var (i := 0) rfl) (xo_some (T := T) (xe_var (i := 1) rfl)) (xo_some (T := T) (xe_add (xe_var (i := 1) rfl) xe_int)) isL_SF) (xe_lst (l := [(0 : Int)]) (xa_cons xe_int xa_nil) (by show 1 ≤ sizeLine; decide)) isLs_LF isLs_LF (chkP_some hz1)) xe_int isL_LF hz2) hrt.all
noncomputable def M__law_power (x0 : Int) (x1 : Int) : Option Int :=
  (chkP (-(2 ^ 62) ≤ x1 ∧ x1 < 2 ^ 62)).bind fun z1 => (forM' (ρ := Unit) (fun (a3 : Int) (s2 : Int) => (chkP (IntMulOk s2 x0)).bind fun z4 => (some (s2 * x0)).bind fun y5 => some (Stp.nx y5)) (rng 0 (x1).toNat) (1 : Int)).bind fun z6 => (nxt z6).bind fun s7 => some s7
def Pre__law_power (T : TC) : PreT := fun As Ω R => ∃ (x0 : Int) (x1 : Int) (r : Int), As = [va T x0, va T x1] ∧ M__law_power x0 x1 = some r ∧ R = RV (va T r) (stt Ω [] [])
abbrev s__law_power : Stmt := topS 41
theorem sc__law_power : FnScope ["_law_base", "_law_n", "_law_found", "_law_k"] ["_law_base", "_law_n"] (defScope s__law_power) := ⟨rfl, rfl, rfl, by decide +kernel, rfl, by decide +kernel, by decide +kernel⟩
theorem ok__law_power {f : Addr} {fd : FuncData} (F : Fun T.K "_law_power" "_law_power" s__law_power f fd) (z_range : mg "range" = none) : FnOk P w T.K mg base CX0 1 f fd ["_law_base", "_law_n"] (mkSp (Pre__law_power T)) := by
  refine fn_ok F sc__law_power (fun As Ω R h => ?_) (fun cdv A outer s H E hr As Ω R F0 h => ?_)
  · obtain ⟨x0, x1, r, rfl, _⟩ := h
    rfl
  obtain ⟨x0, x1, r, rfl, hm, rfl⟩ := h
  refine ⟨_, (pss_cons (ps_set (i := 2) sc__law_power.nd rfl (.inl rfl) pe_int) (pss_cons (ps_for PassesOwn.never rfl (pi_range1 rfl z_range (pa_cons (pv 1) pa_nil)) (pg_name (i := 3) sc__law_power.nd rfl (.inl rfl)) (pss_one (ps_set (i := 2) sc__law_power.nd rfl (.inl rfl) (pe_op op_mulQ (pv 2) (pv 0))))) (pss_one (ps_ret (pv 2))))), fun D hrt hnx => ?_⟩
  have ok : Okk Ω [] := okk0
  suffices hx : XS _ D F0 [some (va T x0), some (va T x1), none, none] (stt Ω [] []) by
    rw [show (stt Ω [] []) = Ω from stt_self (by simp)] at hx
    exact hx
  unfold M__law_power at hm
  refine xs_set (A := va T (1 : Int)) xe_int ?_
  show XS (tSeq _ _) _ _ [some (va T x0), some (va T x1), some (va T (1 : Int)), none] (stt Ω [] [])
  obtain ⟨z1, hz1, hm⟩ := bnd_some hm
  obtain ⟨z6, hz6, hm⟩ := bnd_some hm
  refine xs_forS (fun (s2 : Int) => [some (va T x0), some (va T x1), some (va T s2), none]) (fun (s2 : Int) => (stt Ω [] [])) (fun (_ : Unit) _ _ _ => False) hz6 (xi_range1 (T := T) (xa_cons (xe_var (i := 1) rfl) xa_nil) (chkP_some hz1).1 (chkP_some hz1).2) (fun _ => tgt_name) (fun a3 s2 s' ha hm F1 D1 e1 hD => ?_) (fun s7 es => ?_) (fun r1 es => ?_)
  · show XS (tAsg _ _) _ _ [some (va T x0), some (va T x1), some (va T s2), some (va T a3)] (stt Ω [] [])
    obtain ⟨z4, hz4, hm⟩ := bnd_some hm
    obtain ⟨y5, hy5, hm⟩ := bnd_some hm
    refine xs_set1 (A := va T y5) (xe_eq (xe_mul (chkP_some hz4) (xe_var (i := 2) rfl) (xe_var (i := 0) rfl)) (Option.some.inj hy5)) ?_
    obtain rfl := Option.some.inj hm
    exact fun σ H n => hD.nx _ rfl σ H (n.forget 3)
  · subst es
    obtain ⟨s2, hs2, hm⟩ := bnd_some hm
    cases hs2
    show XS (tRet _) _ _ [some (va T x0), some (va T x1), some (va T s7), none] (stt Ω [] [])
    obtain rfl := Option.some.inj hm
    refine xs_ret (xe_var (i := 2) rfl) hrt.all
  · subst es
    cases hm
noncomputable def M__law_words  : Option (List Str) :=
  (some ([("short" : Str), ("sum" : Str), ("product" : Str), ("quotient" : Str), ("corrected" : Str)] : List Str)).bind fun y1 => (chkP (y1.length + ([("restored" : Str), ("shifted" : Str), ("combined" : Str), ("complemented" : Str), ("looked" : Str)] : List Str).length ≤ sizeLine)).bind fun z2 => some (y1 ++ ([("restored" : Str), ("shifted" : Str), ("combined" : Str), ("complemented" : Str), ("looked" : Str)] : List Str))
def Pre__law_words (T : TC) : PreT := fun As Ω R => ∃  (r : List Str), As = [] ∧ M__law_words  = some r ∧ R = RV (va T (LF.mk r)) (stt Ω [] [])
abbrev s__law_words : Stmt := topS 46
theorem sc__law_words : FnScope ["_law_first"] [] (defScope s__law_words) := ⟨rfl, rfl, rfl, by decide +kernel, rfl, by decide +kernel, by decide +kernel⟩
theorem ok__law_words {f : Addr} {fd : FuncData} (F : Fun T.K "_law_words" "_law_words" s__law_words f fd)  : FnOk P w T.K mg base CX0 1 f fd [] (mkSp (Pre__law_words T)) := by
  refine fn_ok F sc__law_words (fun As Ω R h => ?_) (fun cdv A outer s H E hr As Ω R F0 h => ?_)
  · obtain ⟨r, rfl, _⟩ := h
    rfl
  obtain ⟨r, rfl, hm, rfl⟩ := h
  refine ⟨_, (pss_cons (ps_set (i := 0) sc__law_words.nd rfl (.inl rfl) (pe_lst (pa_cons pe_str (pa_cons pe_str (pa_cons pe_str (pa_cons pe_str (pa_cons pe_str pa_nil))))))) (pss_one (ps_ret (pe_op op_addQ (pv 0) (pe_lst (pa_cons pe_str (pa_cons pe_str (pa_cons pe_str (pa_cons pe_str (pa_cons pe_str pa_nil)))))))))), fun D hrt hnx => ?_⟩
  have ok : Okk Ω [] := okk0
  suffices hx : XS _ D F0 [none] (stt Ω [] []) by
    rw [show (stt Ω [] []) = Ω from stt_self (by simp)] at hx
    exact hx
  unfold M__law_words at hm
  obtain ⟨y1, hy1, hm⟩ := bnd_some hm
  refine xs_set (A := va T (LF.mk y1)) (xe_eq (xe_lst (l := [("short" : Str), ("sum" : Str), ("product" : Str), ("quotient" : Str), ("corrected" : Str)]) (xa_cons xe_str (xa_cons xe_str (xa_cons xe_str (xa_cons xe_str (xa_cons xe_str xa_nil))))) (by show 5 ≤ sizeLine; decide)) (congrArg LF.mk (Option.some.inj hy1))) ?_
  show XS (tRet _) _ _ [some (va T (LF.mk y1))] (stt Ω [] [])
  obtain ⟨z2, hz2, hm⟩ := bnd_some hm
  obtain rfl := Option.some.inj hm
  refine xs_ret (xe_cat (xe_var (i := 0) rfl) (xe_lst (l := [("restored" : Str), ("shifted" : Str), ("combined" : Str), ("complemented" : Str), ("looked" : Str)]) (xa_cons xe_str (xa_cons xe_str (xa_cons xe_str (xa_cons xe_str (xa_cons xe_str xa_nil))))) (by show 5 ≤ sizeLine; decide)) isLs_LF isLs_LF (chkP_some hz2)) hrt.all
noncomputable def M__law_counts_right (x0 : List Int) (x1 : MS) (x2 : MS) (x3 : Int) : Option (Bool × List Int × MS) :=
  (chkP ((([(("short" : Str), (0 : Int)), (("sum" : Str), (0 : Int))] : List (Str × Int)).map (·.1)).Nodup)).bind fun z1 => (M__law_next x0 (12 : Int)).bind fun z6 => (chkP (-(2 ^ 62) ≤ z6.1 ∧ z6.1 < 2 ^ 62)).bind fun z7 => (forM' (ρ := Unit) (fun (a9 : Int) (s8 : (List Int) × MS × (List (Str × Int)) × (List (T3 Str Int Int))) => (M__law_next s8.1 (5 : Int)).bind fun z10 => (M__law_next z10.2 (5 : Int)).bind fun z11 => (M__law_power x3 z10.1).bind fun z12 => (M_big s8.2.1 (z12 - (1 : Int))).bind fun z13 => (M__law_power x3 z11.1).bind fun z14 => (M_big s8.2.1 (z14 - (1 : Int))).bind fun z15 => (M_add s8.2.1 z13 z15).bind fun z16 => if ((decide (z10.1 < (2 : Int))) && (decide (z11.1 < (2 : Int)))) = true then (s8.2.2.1.lookup ("short" : Str)).bind fun z17 => (chkP (s8.2.2.1.length < sizeLine)).bind fun z18 => some (Stp.nx (z11.2, z16.2, (dput s8.2.2.1 ("short" : Str) (z17 + (1 : Int))), s8.2.2.2)) else (s8.2.2.1.lookup ("sum" : Str)).bind fun z19 => (chkP (s8.2.2.1.length < sizeLine)).bind fun z20 => (chkP (s8.2.2.2.length < sizeLine)).bind fun z21 => some (Stp.nx (z11.2, z16.2, (dput s8.2.2.1 ("sum" : Str) (z19 + (max z10.1 z11.1))), (s8.2.2.2 ++ [(T3.mk ("add" : Str) z10.1 z11.1)])))) (rng 0 (z6.1).toNat) (z6.2, x1, [(("short" : Str), (0 : Int)), (("sum" : Str), (0 : Int))], ([] : List (T3 Str Int Int)))).bind fun z22 => (nxt z22).bind fun s23 => (M__law_words ).bind fun z26 => (chkP (z26.length ≤ sizeLine)).bind fun z27 => (lcM (fun (a29 : Str) (s28 : Unit) => (if (s23.2.2.1.lookup a29).isSome = true then (s23.2.2.1.lookup a29).bind fun z30 => some z30 else some (0 : Int)).bind fun z31 => some (some (a29, z31), ())) z26 ()).bind fun z33 => (chkP ((LF.mk s23.2.1.tally) = (LF.mk z33.1) ∧ Dat.ok (LF.mk s23.2.1.tally))).bind fun z35 => (chkP ((LF.mk s23.2.1.wk) = (LF.mk s23.2.2.2) ∧ Dat.ok (LF.mk s23.2.1.wk))).bind fun z36 => (chkP (s23.2.1.tally.length < sizeLine)).bind fun z37 => (chkP (s23.2.1.wk.length < sizeLine)).bind fun z40 => (chkP ((LF.mk s23.2.1.wk) = (LF.mk s23.2.2.2) ∧ Dat.ok (LF.mk s23.2.1.wk))).bind fun z41 => (chkP ((s23.2.1.tally.length : Int) = (10 : Int))).bind fun z42 => (M_Mach_eq s23.2.1 x2).bind fun z43 => (chkP ((!z43) = false)).bind fun z44 => (chkP ((LF.mk x2.wk) = (LF.mk ([] : List (T3 Str Int Int))) ∧ Dat.ok (LF.mk x2.wk))).bind fun z45 => (chkP (false = false)).bind fun z46 => (chkP ((LF.mk s23.2.1.reset.tally) = (LF.mk x2.tally) ∧ Dat.ok (LF.mk s23.2.1.reset.tally))).bind fun z47 => (chkP ((LF.mk s23.2.1.reset.wk) = (LF.mk ([] : List (T3 Str Int Int))) ∧ Dat.ok (LF.mk s23.2.1.reset.wk))).bind fun z48 => (M__law_words ).bind fun z49 => (chkP (z49.length ≤ sizeLine)).bind fun z50 => (lcM (fun (a52 : Str) (s51 : Unit) => (if (s23.2.2.1.lookup a52).isSome = true then (s23.2.2.1.lookup a52).bind fun z53 => some z53 else some (0 : Int)).bind fun z54 => some (some (a52, z54), ())) z49 ()).bind fun z56 => (chkP (Dat.ok (LF.mk (cut (s23.2.1.tally ++ [(("more" : Str), (1 : Int))]) none (some (10 : Int)))) ∧ Dat.ok (LF.mk z56.1))).bind fun z58 => (chkP ((eqD (LF.mk (cut (s23.2.1.tally ++ [(("more" : Str), (1 : Int))]) none (some (10 : Int)))) (LF.mk z56.1)) = true)).bind fun z59 => some (true, s23.1, s23.2.1.reset)
def Pre__law_counts_right (T : TC) : PreT := fun As Ω R => ∃ (k0 : Nat) (p0 : Addr) (x0 : List Int) (k1 : Nat) (p1 : Addr) (x1 : MS) (k2 : Nat) (p2 : Addr) (x2 : MS) (x3 : Int) (r : Bool × List Int × MS), As = [vr p0, vr p1, vr p2, va T x3] ∧ Ω[k0]? = some (lstA T p0 x0) ∧ Ω[k1]? = some (machA T p1 x1) ∧ Ω[k2]? = some (machA T p2 x2) ∧ k0 ≠ k1 ∧ k0 ≠ k2 ∧ k1 ≠ k2 ∧ M__law_counts_right x0 x1 x2 x3 = some r ∧ R = RV (va T r.1) (stt Ω [(k0, lstA T p0 r.2.1), (k1, machA T p1 r.2.2)] [])
abbrev s__law_counts_right : Stmt := topS 48
theorem sc__law_counts_right : FnScope ["_law_source", "_law_one_here", "_law_other", "_law_base", "_law_due", "_law_walk", "_law_k", "_law_m", "_law_n", "_law_x", "_law_y", "_law_heard", "_law_seen", "_law_word"] ["_law_source", "_law_one_here", "_law_other", "_law_base"] (defScope s__law_counts_right) := ⟨rfl, rfl, rfl, by decide +kernel, rfl, by decide +kernel, by decide +kernel⟩
theorem ok__law_counts_right {f : Addr} {fd : FuncData} (F : Fun T.K "_law_counts_right" "_law_counts_right" s__law_counts_right f fd) (c__law_next : Cal P w T.K mg base 1 "_law_next" ["_law_source", "_law_count_of"] (mkSp (Pre__law_next T))) (z_range : mg "range" = none) (c__law_power : Cal P w T.K mg base 1 "_law_power" ["_law_base", "_law_n"] (mkSp (Pre__law_power T))) (c_big : Cal P w T.K mg base 23 "big" ["machine", "n"] (mkSp (Pre_big T))) (c_add : Cal P w T.K mg base 23 "add" ["machine", "x", "y"] (mkSp (Pre_add T))) (z_max : mg "max" = none) (mc : MCls T.K (T.C 0)) (c_Mach_tallyN : CalM P w T.K mg base 1 (T.C 0) "tally" ["self"] (mkSp (Pre_Mach_tallyN T))) (c__law_words : Cal P w T.K mg base 1 "_law_words" [] (mkSp (Pre__law_words T))) (c_Mach_walk : CalM P w T.K mg base 1 (T.C 0) "walk" ["self"] (mkSp (Pre_Mach_walk T))) (c_Mach_walkN : CalM P w T.K mg base 1 (T.C 0) "walk" ["self"] (mkSp (Pre_Mach_walkN T))) (c_Mach_tally : CalM P w T.K mg base 1 (T.C 0) "tally" ["self"] (mkSp (Pre_Mach_tally T))) (z_len : mg "len" = none) (ceqm : CalEq P w T.K mg base 1 (T.C 0) (mkSp (Pre_Mach_eq T))) (c_Mach_reset : CalM P w T.K mg base 1 (T.C 0) "reset" ["self"] (mkSp (Pre_Mach_reset T))) : FnOk P w T.K mg base CX0 24 f fd ["_law_source", "_law_one_here", "_law_other", "_law_base"] (mkSp (Pre__law_counts_right T)) := by
  refine fn_ok F sc__law_counts_right (fun As Ω R h => ?_) (fun cdv A outer s H E hr As Ω R F0 h => ?_)
  · obtain ⟨k0, p0, x0, k1, p1, x1, k2, p2, x2, x3, r, rfl, _⟩ := h
    rfl
  obtain ⟨k0, p0, x0, k1, p1, x1, k2, p2, x2, x3, r, rfl, hk0, hk1, hk2, ne01, ne02, ne12, hm, rfl⟩ := h
  refine ⟨_, (pss_cons (ps_asg (pe_tup (pa_cons (pe_disp (pps_cons pe_str pe_int (pps_cons pe_str pe_int pps_nil)) (by rfl) (by rfl) (fun z => by cases z) (by decide)) (pa_cons (pe_lst pa_nil) pa_nil))) (pg_tupK (K := T.K) (n := 2) rfl rfl (pgs_cons (pg_name (i := 4) sc__law_counts_right.nd rfl (.inr rfl)) (pgs_cons (pg_name (i := 5) sc__law_counts_right.nd rfl (.inl rfl)) pgs_nil)))) (pss_cons (ps_for PassesOwn.never rfl (pi_range1 rfl z_range (pa_cons (pe_cal c__law_next (hr.mono (by decide)) (by rfl) (pa_cons (pv 0) (pa_cons pe_int pa_nil))) pa_nil)) (pg_name (i := 6) sc__law_counts_right.nd rfl (.inl rfl)) (pss_cons (ps_par (i := 7) (j := 8) rfl sc__law_counts_right.nd rfl rfl (by decide) rfl rfl (pa_cons (pe_cal c__law_next (hr.mono (by decide)) (by rfl) (pa_cons (pv 0) (pa_cons pe_int pa_nil))) (pa_cons (pe_cal c__law_next (hr.mono (by decide)) (by rfl) (pa_cons (pv 0) (pa_cons pe_int pa_nil))) pa_nil)) (by rfl)) (pss_cons (ps_par (i := 9) (j := 10) rfl sc__law_counts_right.nd rfl rfl (by decide) rfl rfl (pa_cons (pe_cal c_big (hr.mono (by decide)) (by rfl) (pa_cons (pv 1) (pa_cons (pe_op op_sub (pe_cal c__law_power (hr.mono (by decide)) (by rfl) (pa_cons (pv 3) (pa_cons (pv 7) pa_nil))) pe_int) pa_nil))) (pa_cons (pe_cal c_big (hr.mono (by decide)) (by rfl) (pa_cons (pv 1) (pa_cons (pe_op op_sub (pe_cal c__law_power (hr.mono (by decide)) (by rfl) (pa_cons (pv 3) (pa_cons (pv 8) pa_nil))) pe_int) pa_nil))) pa_nil)) (by rfl)) (pss_cons (ps_expr (pe_cal c_add (hr.mono (by decide)) (by rfl) (pa_cons (pv 1) (pa_cons (pv 9) (pa_cons (pv 10) pa_nil))))) (pss_one (ps_if (PW.pt (pw_and (pt_cmpR op_lt (pv 7) pe_int (nomark _)) (pw_and1 (pt_cmpR op_lt (pv 8) pe_int (nomark _))))) (pss_one (ps_asg (pe_op op_addQ (pe_dget (by exact hu_of hr) (pv 4) pe_str (by intro _ _; rfl)) pe_int) (pg_sub (pv 4) pe_str (set_dict (Nat.lt_of_le_of_lt (Nat.add_le_add_left (by decide : 1 ≤ 64) _) (by exact hr.units)))))) (pss_cons (ps_asg (pe_op op_addQ (pe_dget (by exact hu_of hr) (pv 4) pe_str (by intro _ _; rfl)) (pe_callB (cr_max2 rfl) (by rfl) z_max (by decide +kernel) (pa_cons (pv 7) (pa_cons (pv 8) pa_nil)))) (pg_sub (pv 4) pe_str (set_dict (Nat.lt_of_le_of_lt (Nat.add_le_add_left (by decide : 1 ≤ 64) _) (by exact hr.units))))) (pss_one (ps_expr (pe_bm PySem.F.plainAttrs_list PySem.F.slot_list_append PySem.F.type_list_append mt_append (pv 5) (pa_cons (pe_tup (pa_cons pe_str (pa_cons (pv 7) (pa_cons (pv 8) pa_nil)))) pa_nil))))))))))) (pss_cons (ps_set (i := 11) sc__law_counts_right.nd rfl (.inl rfl) (pe_calM0 (pv 1) c_Mach_tallyN (hr.mono (by decide)))) (pss_cons (ps_if (pt_cmpR (op_neXK (K := T.K) (by exact hr.units) rfl) (pv 11) (pe_lc (own := [("_law_word", 13)]) rfl sc__law_counts_right.nd (pi_listK (K := T.K) (pe_cal0 c__law_words (hr.mono (by decide)) (by rfl)) rfl) (blkOk_by (N := ["_law_source", "_law_one_here", "_law_other", "_law_base", "_law_due", "_law_walk", "_law_k", "_law_m", "_law_n", "_law_x", "_law_y", "_law_heard", "_law_seen", "_law_word"]) (sc := defScope s__law_counts_right) (by decide +kernel)) (fun _ _ _ _ _ => (pg_name (i := 13) sc__law_counts_right.nd rfl (.inl rfl))) (fun _ _ _ _ _ => pts_nil) (fun _ _ _ _ _ => (pe_tup (pa_cons (pv 13) (pa_cons (pe_ifExp (pt_cmp (pc_din (by exact hu_of hr) (pv 13) (pv 4))) (pe_dget (by exact hu_of hr) (pv 4) (pv 13) (by intro _ _; rfl)) pe_int) pa_nil))))) (nomark _)) pss_never pss_nil) (pss_cons (ps_if (pt_cmpR (op_neXK (K := T.K) (by exact hr.units) rfl) (pe_calM0 (pv 1) c_Mach_walk (hr.mono (by decide))) (pv 5) (nomark _)) pss_never pss_nil) (pss_cons (ps_expr (pe_bm PySem.F.plainAttrs_list PySem.F.slot_list_append PySem.F.type_list_append mt_append (pv 11) (pa_cons (pe_tup (pa_cons pe_str (pa_cons pe_int pa_nil))) pa_nil))) (pss_cons (ps_set (i := 12) sc__law_counts_right.nd rfl (.inl rfl) (pe_calM0 (pv 1) c_Mach_walkN (hr.mono (by decide)))) (pss_cons (ps_expr (pe_bm PySem.F.plainAttrs_list PySem.F.slot_list_append PySem.F.type_list_append mt_append (pv 12) (pa_cons (pe_tup (pa_cons pe_str (pa_cons pe_int (pa_cons pe_int pa_nil)))) pa_nil))) (pss_cons (ps_if (PW.pt (pw_or (pt_cmpR (op_neXK (K := T.K) (by exact hr.units) rfl) (pe_calM0 (pv 1) c_Mach_walk (hr.mono (by decide))) (pv 5) (nomark _)) (pw_or (pt_cmpR (op_neXK (K := T.K) (by exact hr.units) rfl) (pe_callB (cr_lenK (K := T.K) rfl) (by rfl) z_len PySem.boot_len (pa_cons (pe_calM0 (pv 1) c_Mach_tally (hr.mono (by decide))) pa_nil)) pe_int (nomark _)) (pw_or (pt_cmpR (op_neC ceqm (hr.mono (by decide))) (pv 1) (pv 2) (nomark _)) (pw_or1 (pt_cmpR (op_neXK (K := T.K) (by exact hr.units) rfl) (pe_calM0 (pv 2) c_Mach_walk (hr.mono (by decide))) (pe_lst pa_nil) (nomark _))))))) pss_never pss_nil) (pss_cons (ps_if (PW.pt (pw_or (pt_cmpR op_noN (pe_calM0 (pv 1) c_Mach_reset (hr.mono (by decide))) pe_non (nomark _)) (pw_or (pt_cmpR (op_neXK (K := T.K) (by exact hr.units) rfl) (pe_calM0 (pv 1) c_Mach_tally (hr.mono (by decide))) (pe_calM0 (pv 2) c_Mach_tally (hr.mono (by decide))) (nomark _)) (pw_or1 (pt_cmpR (op_neXK (K := T.K) (by exact hr.units) rfl) (pe_calM0 (pv 1) c_Mach_walk (hr.mono (by decide))) (pe_lst pa_nil) (nomark _)))))) pss_never pss_nil) (pss_one (ps_ret (pe_cmpR (op_eqXK (K := T.K) (by exact hr.units) rfl) (pe_slice (sl_listK (K := T.K) rfl) (pv 11) po_none (po_some pe_int)) (pe_lc (own := [("_law_word", 13)]) rfl sc__law_counts_right.nd (pi_listK (K := T.K) (pe_cal0 c__law_words (hr.mono (by decide)) (by rfl)) rfl) (blkOk_by (N := ["_law_source", "_law_one_here", "_law_other", "_law_base", "_law_due", "_law_walk", "_law_k", "_law_m", "_law_n", "_law_x", "_law_y", "_law_heard", "_law_seen", "_law_word"]) (sc := defScope s__law_counts_right) (by decide +kernel)) (fun _ _ _ _ _ => (pg_name (i := 13) sc__law_counts_right.nd rfl (.inl rfl))) (fun _ _ _ _ _ => pts_nil) (fun _ _ _ _ _ => (pe_tup (pa_cons (pv 13) (pa_cons (pe_ifExp (pt_cmp (pc_din (by exact hu_of hr) (pv 13) (pv 4))) (pe_dget (by exact hu_of hr) (pv 4) (pv 13) (by intro _ _; rfl)) pe_int) pa_nil))))) (nomark _)))))))))))))), fun D hrt hnx => ?_⟩
  have ok := okk2 hk0 hk1 ne01
  suffices hx : XS _ D F0 [some (vr p0), some (vr p1), some (vr p2), some (va T x3), none, none, none, none, none, none, none, none, none, none] (stt Ω [(k0, lstA T p0 (x0 : List Int)), (k1, machA T p1 x1)] []) by
    rw [show (stt Ω [(k0, lstA T p0 (x0 : List Int)), (k1, machA T p1 x1)] []) = Ω from stt_self (by simp [hk0, hk1])] at hx
    exact hx
  unfold M__law_counts_right at hm
  obtain ⟨z1, hz1, hm⟩ := bnd_some hm
  refine xs_asgNN (xn_disp (fun X => (xps_cons (T := T) xe_str xe_int (xps_cons (T := T) xe_str xe_int xps_nil))) (chkP_some hz1) (by show 2 ≤ 15; decide)) (fun pp2 => (xn_lst (T := T) (l := ([] : List (T3 Str Int Int))) xa_nil (Nat.zero_le _))) (fun pp2 pp4 => ?_)
  show XS (tSeq _ _) _ _ [some (vr p0), some (vr p1), some (vr p2), some (va T x3), some (vr pp2), some (vr pp4), none, none, none, none, none, none, none, none] (stt Ω [(k0, lstA T p0 (x0 : List Int)), (k1, machA T p1 x1)] [rawD pp2 (dkv ([(("short" : Str), (0 : Int)), (("sum" : Str), (0 : Int))])), lstA T pp4 (([] : List (T3 Str Int Int)) : List (T3 Str Int Int))])
  obtain ⟨z6, hz6, hm⟩ := bnd_some hm
  obtain ⟨z7, hz7, hm⟩ := bnd_some hm
  obtain ⟨z22, hz22, hm⟩ := bnd_some hm
  refine xs_forS (fun (s8 : (List Int) × MS × (List (Str × Int)) × (List (T3 Str Int Int))) => [some (vr p0), some (vr p1), some (vr p2), some (va T x3), some (vr pp2), some (vr pp4), none, none, none, none, none, none, none, none]) (fun (s8 : (List Int) × MS × (List (Str × Int)) × (List (T3 Str Int Int))) => (stt Ω [(k0, lstA T p0 (s8.1 : List Int)), (k1, machA T p1 s8.2.1)] [rawD pp2 (dkv s8.2.2.1), lstA T pp4 (s8.2.2.2 : List (T3 Str Int Int))])) (fun (_ : Unit) _ _ _ => False) hz22 (xi_range1 (T := T) (xa_cons (xe_call (xa_cons (xe_var (i := 0) rfl) (xa_cons xe_int xa_nil)) ⟨k0, p0, x0, (12 : Int), z6, rfl, (stt_get ok (i := 0) rfl), hz6, rfl⟩ (cal1 ok (i := 0) rfl)) xa_nil) (chkP_some hz7).1 (chkP_some hz7).2) (fun _ => tgt_name) (fun a9 s8 s' ha hm F1 D1 e1 hD => ?_) (fun s23 es => ?_) (fun r1 es => ?_)
  · show XS (tSeq _ _) _ _ [some (vr p0), some (vr p1), some (vr p2), some (va T x3), some (vr pp2), some (vr pp4), some (va T a9), none, none, none, none, none, none, none] (stt Ω [(k0, lstA T p0 (s8.1 : List Int)), (k1, machA T p1 s8.2.1)] [rawD pp2 (dkv s8.2.2.1), lstA T pp4 (s8.2.2.2 : List (T3 Str Int Int))])
    obtain ⟨z10, hz10, hm⟩ := bnd_some hm
    obtain ⟨z11, hz11, hm⟩ := bnd_some hm
    refine xs_par2 (A := va T z10.1) (B := va T z11.1) (xa_cons (xe_call (xa_cons (xe_var (i := 0) rfl) (xa_cons xe_int xa_nil)) ⟨k0, p0, s8.1, (5 : Int), z10, rfl, (stt_get ok (i := 0) rfl), hz10, rfl⟩ (cal1 ok (i := 0) rfl)) (xa_cons (xe_call (xa_cons (xe_var (i := 0) rfl) (xa_cons xe_int xa_nil)) ⟨k0, p0, z10.2, (5 : Int), z11, rfl, (stt_get ok (i := 0) rfl), hz11, rfl⟩ (cal1 ok (i := 0) rfl)) xa_nil)) ?_
    show XS (tSeq _ _) _ _ [some (vr p0), some (vr p1), some (vr p2), some (va T x3), some (vr pp2), some (vr pp4), some (va T a9), some (va T z10.1), some (va T z11.1), none, none, none, none, none] (stt Ω [(k0, lstA T p0 (z11.2 : List Int)), (k1, machA T p1 s8.2.1)] [rawD pp2 (dkv s8.2.2.1), lstA T pp4 (s8.2.2.2 : List (T3 Str Int Int))])
    obtain ⟨z12, hz12, hm⟩ := bnd_some hm
    obtain ⟨z13, hz13, hm⟩ := bnd_some hm
    obtain ⟨z14, hz14, hm⟩ := bnd_some hm
    obtain ⟨z15, hz15, hm⟩ := bnd_some hm
    refine xs_par2 (A := va T z13) (B := va T z15) (xa_cons (xe_call (xa_cons (xe_var (i := 1) rfl) (xa_cons (xe_sub (xe_call (xa_cons (xe_var (i := 3) rfl) (xa_cons (xe_var (i := 7) rfl) xa_nil)) ⟨x3, z10.1, z12, rfl, hz12, rfl⟩ cal0) xe_int) xa_nil)) ⟨k1, p1, s8.2.1, (z12 - (1 : Int)), z13, rfl, (stt_get ok (i := 1) rfl), hz13, rfl⟩ cal0) (xa_cons (xe_call (xa_cons (xe_var (i := 1) rfl) (xa_cons (xe_sub (xe_call (xa_cons (xe_var (i := 3) rfl) (xa_cons (xe_var (i := 8) rfl) xa_nil)) ⟨x3, z11.1, z14, rfl, hz14, rfl⟩ cal0) xe_int) xa_nil)) ⟨k1, p1, s8.2.1, (z14 - (1 : Int)), z15, rfl, (stt_get ok (i := 1) rfl), hz15, rfl⟩ cal0) xa_nil)) ?_
    show XS (tSeq _ _) _ _ [some (vr p0), some (vr p1), some (vr p2), some (va T x3), some (vr pp2), some (vr pp4), some (va T a9), some (va T z10.1), some (va T z11.1), some (va T z13), some (va T z15), none, none, none] (stt Ω [(k0, lstA T p0 (z11.2 : List Int)), (k1, machA T p1 s8.2.1)] [rawD pp2 (dkv s8.2.2.1), lstA T pp4 (s8.2.2.2 : List (T3 Str Int Int))])
    obtain ⟨z16, hz16, hm⟩ := bnd_some hm
    refine xs_drop (xe_call (xa_cons (xe_var (i := 1) rfl) (xa_cons (xe_var (i := 9) rfl) (xa_cons (xe_var (i := 10) rfl) xa_nil))) ⟨k1, p1, s8.2.1, z13, z15, z16, rfl, (stt_get ok (i := 1) rfl), hz16, rfl⟩ (cal1 ok (i := 1) rfl)) ?_
    show XS (tIfS _ _ _) _ _ [some (vr p0), some (vr p1), some (vr p2), some (va T x3), some (vr pp2), some (vr pp4), some (va T a9), some (va T z10.1), some (va T z11.1), some (va T z13), some (va T z15), none, none, none] (stt Ω [(k0, lstA T p0 (z11.2 : List Int)), (k1, machA T p1 z16.2)] [rawD pp2 (dkv s8.2.2.1), lstA T pp4 (s8.2.2.2 : List (T3 Str Int Int))])
    by_cases hc : ((decide (z10.1 < (2 : Int))) && (decide (z11.1 < (2 : Int)))) = true
    · rw [if_pos hc] at hm
      refine xs_ifT1 (xt_eq (xt_and (xt_test (T := T) (xe_lt (xe_var (i := 7) rfl) xe_int)) (fun _ => (xt_test (T := T) (xe_lt (xe_var (i := 8) rfl) xe_int))) (fun _ => rfl)) hc) ?_
      obtain ⟨z17, hz17, hm⟩ := bnd_some hm
      obtain ⟨z18, hz18, hm⟩ := bnd_some hm
      refine xs_asgO1 (xe_add (xe_dgetO (xe_var (i := 4) rfl) xe_str (stt_getL (j := 0) rfl) hz17) xe_int) (tgo_dict (T := T) (xe_var (i := 4) rfl) xe_str (stt_getL (j := 0) rfl) (chkP_some hz18) (stt_setL (j := 0))) ?_
      obtain rfl := Option.some.inj hm
      exact fun σ H n => hD.nx _ rfl σ H (((((n.forget 7).forget 8).forget 9).forget 10).forget 6)
    · rw [if_neg hc] at hm
      refine xs_ifF1 (xt_eq (xt_and (xt_test (T := T) (xe_lt (xe_var (i := 7) rfl) xe_int)) (fun _ => (xt_test (T := T) (xe_lt (xe_var (i := 8) rfl) xe_int))) (fun _ => rfl)) (nt hc)) ?_
      obtain ⟨z19, hz19, hm⟩ := bnd_some hm
      obtain ⟨z20, hz20, hm⟩ := bnd_some hm
      refine xs_asgO (xe_add (xe_dgetO (xe_var (i := 4) rfl) xe_str (stt_getL (j := 0) rfl) hz19) (xe_max2 (xe_var (i := 7) rfl) (xe_var (i := 8) rfl))) (tgo_dict (T := T) (xe_var (i := 4) rfl) xe_str (stt_getL (j := 0) rfl) (chkP_some hz20) (stt_setL (j := 0))) ?_
      show XS (tDrop _) _ _ [some (vr p0), some (vr p1), some (vr p2), some (va T x3), some (vr pp2), some (vr pp4), some (va T a9), some (va T z10.1), some (va T z11.1), some (va T z13), some (va T z15), none, none, none] (stt Ω [(k0, lstA T p0 (z11.2 : List Int)), (k1, machA T p1 z16.2)] [rawD pp2 (dkv (dput s8.2.2.1 ("sum" : Str) (z19 + (max z10.1 z11.1)))), lstA T pp4 (s8.2.2.2 : List (T3 Str Int Int))])
      obtain ⟨z21, hz21, hm⟩ := bnd_some hm
      refine xs_drop1 (xe_appE (stt_getL (j := 1) rfl) (stt_getL (j := 1) rfl) (xe_var (i := 5) rfl) (xe_tup3 (xa_cons xe_str (xa_cons (xe_var (i := 7) rfl) (xa_cons (xe_var (i := 8) rfl) xa_nil)))) (chkP_some hz21) (stt_setL (j := 1))) ?_
      obtain rfl := Option.some.inj hm
      exact fun σ H n => hD.nx _ rfl σ H (((((n.forget 7).forget 8).forget 9).forget 10).forget 6)
  · subst es
    obtain ⟨s2, hs2, hm⟩ := bnd_some hm
    cases hs2
    show XS (tSeq _ _) _ _ [some (vr p0), some (vr p1), some (vr p2), some (va T x3), some (vr pp2), some (vr pp4), none, none, none, none, none, none, none, none] (stt Ω [(k0, lstA T p0 (s23.1 : List Int)), (k1, machA T p1 s23.2.1)] [rawD pp2 (dkv s23.2.2.1), lstA T pp4 (s23.2.2.2 : List (T3 Str Int Int))])
    refine xs_fzJ (k := 5) (j := 1) rfl rfl ?_
    show XS _ _ _ [some (vr p0), some (vr p1), some (vr p2), some (va T x3), some (vr pp2), some (va T (LF.mk s23.2.2.2)), none, none, none, none, none, none, none, none] (stt Ω [(k0, lstA T p0 (s23.1 : List Int)), (k1, machA T p1 s23.2.1)] [rawD pp2 (dkv s23.2.2.1), nilA])
    refine xs_setO (xn_mcall (xe_var (i := 1) rfl) (stt_get ok (i := 1) rfl) xa_nil ⟨k1, p1, s23.2.1, rfl, (stt_get ok (i := 1) rfl), rfl⟩ rfl) (fun pp24 => ?_)
    show XS (tSeq _ _) _ _ [some (vr p0), some (vr p1), some (vr p2), some (va T x3), some (vr pp2), some (va T (LF.mk s23.2.2.2)), none, none, none, none, none, some (vr pp24), none, none] (stt Ω [(k0, lstA T p0 (s23.1 : List Int)), (k1, machA T p1 s23.2.1)] [rawD pp2 (dkv s23.2.2.1), nilA, lstA T pp24 (s23.2.1.tally : List (Str × Int))])
    obtain ⟨z26, hz26, hm⟩ := bnd_some hm
    obtain ⟨z27, hz27, hm⟩ := bnd_some hm
    obtain ⟨z33, hz33, hm⟩ := bnd_some hm
    obtain ⟨z35, hz35, hm⟩ := bnd_some hm
    refine xs_ifN (xt_test (T := T) (xe_neK (chkP_some hz35) (by decide) (xe_var (i := 11) rfl) (xe_fz (xn_lcS (T := T) (fun (s28 : Unit) => [(k0, lstA T p0 (s23.1 : List Int)), (k1, machA T p1 s23.2.1)]) (fun (s28 : Unit) => [rawD pp2 (dkv s23.2.2.1), nilA, lstA T pp24 (s23.2.1.tally : List (Str × Int))]) hz33 (xi_LF (xe_call xa_nil ⟨z26, rfl, hz26, rfl⟩ cal0)) (fun _ => tgt_name) (by simp) (chkP_some hz27) ?q34)) (isD_M (stt_getL (j := 2) rfl)) isD_va)) ?_
    case q34 =>
      exact (fun a29 s28 o s2 ha hm X => by
        obtain ⟨z31, hz31, hm⟩ := bnd_some hm
        obtain ⟨rfl, rfl⟩ := Prod.mk.inj (Option.some.inj hm)
        refine ⟨(fun e => nomatch e), fun y e => ?_⟩
        obtain rfl := Option.some.inj e
        refine ⟨xt_yes, (xe_tup2 (xa_cons (xe_var (i := 13) rfl) (xa_cons (show XE _ _ _ (va T z31) (stt Ω [(k0, lstA T p0 (s23.1 : List Int)), (k1, machA T p1 s23.2.1)] [rawD pp2 (dkv s23.2.2.1), nilA, lstA T pp24 (s23.2.1.tally : List (Str × Int)), X]) from ?q32) xa_nil)))⟩
        case q32 =>
          exact (by
            by_cases hc : (s23.2.2.1.lookup a29).isSome = true
            · rw [if_pos hc] at hz31
              obtain ⟨z30, hz30, hz31⟩ := bnd_some hz31
              obtain rfl := Option.some.inj hz31
              exact xe_ifT (xt_eq (xt_test (T := T) (xe_dinO (xe_var (i := 13) rfl) (xe_var (i := 4) rfl) (stt_getL (j := 0) rfl))) hc) (xe_dgetO (xe_var (i := 4) rfl) (xe_var (i := 13) rfl) (stt_getL (j := 0) rfl) hz30)
            · rw [if_neg hc] at hz31
              obtain rfl := Option.some.inj hz31
              exact xe_ifF (xt_eq (xt_test (T := T) (xe_dinO (xe_var (i := 13) rfl) (xe_var (i := 4) rfl) (stt_getL (j := 0) rfl))) (nt hc)) xe_int))
    show XS (tSeq _ _) _ _ [some (vr p0), some (vr p1), some (vr p2), some (va T x3), some (vr pp2), some (va T (LF.mk s23.2.2.2)), none, none, none, none, none, some (vr pp24), none, none] (stt Ω [(k0, lstA T p0 (s23.1 : List Int)), (k1, machA T p1 s23.2.1)] [rawD pp2 (dkv s23.2.2.1), nilA, lstA T pp24 (s23.2.1.tally : List (Str × Int))])
    obtain ⟨z36, hz36, hm⟩ := bnd_some hm
    refine xs_ifN (xt_test (T := T) (xe_neK (chkP_some hz36) (by decide) (xe_mcall (xe_var (i := 1) rfl) (stt_get ok (i := 1) rfl) xa_nil ⟨k1, p1, s23.2.1, rfl, (stt_get ok (i := 1) rfl), rfl⟩ rfl) (xe_var (i := 5) rfl) isD_va isD_va)) ?_
    show XS (tSeq _ _) _ _ [some (vr p0), some (vr p1), some (vr p2), some (va T x3), some (vr pp2), some (va T (LF.mk s23.2.2.2)), none, none, none, none, none, some (vr pp24), none, none] (stt Ω [(k0, lstA T p0 (s23.1 : List Int)), (k1, machA T p1 s23.2.1)] [rawD pp2 (dkv s23.2.2.1), nilA, lstA T pp24 (s23.2.1.tally : List (Str × Int))])
    obtain ⟨z37, hz37, hm⟩ := bnd_some hm
    refine xs_drop (xe_appE (stt_getL (j := 2) rfl) (stt_getL (j := 2) rfl) (xe_var (i := 11) rfl) (xe_tup2 (xa_cons xe_str (xa_cons xe_int xa_nil))) (chkP_some hz37) (stt_setL (j := 2))) ?_
    show XS (tSeq _ _) _ _ [some (vr p0), some (vr p1), some (vr p2), some (va T x3), some (vr pp2), some (va T (LF.mk s23.2.2.2)), none, none, none, none, none, some (vr pp24), none, none] (stt Ω [(k0, lstA T p0 (s23.1 : List Int)), (k1, machA T p1 s23.2.1)] [rawD pp2 (dkv s23.2.2.1), nilA, lstA T pp24 ((s23.2.1.tally ++ [(("more" : Str), (1 : Int))]) : List (Str × Int))])
    refine xs_fzJ (k := 11) (j := 2) rfl rfl ?_
    show XS _ _ _ [some (vr p0), some (vr p1), some (vr p2), some (va T x3), some (vr pp2), some (va T (LF.mk s23.2.2.2)), none, none, none, none, none, some (va T (LF.mk (s23.2.1.tally ++ [(("more" : Str), (1 : Int))]))), none, none] (stt Ω [(k0, lstA T p0 (s23.1 : List Int)), (k1, machA T p1 s23.2.1)] [rawD pp2 (dkv s23.2.2.1), nilA, nilA])
    refine xs_setO (xn_mcall (xe_var (i := 1) rfl) (stt_get ok (i := 1) rfl) xa_nil ⟨k1, p1, s23.2.1, rfl, (stt_get ok (i := 1) rfl), rfl⟩ rfl) (fun pp38 => ?_)
    show XS (tSeq _ _) _ _ [some (vr p0), some (vr p1), some (vr p2), some (va T x3), some (vr pp2), some (va T (LF.mk s23.2.2.2)), none, none, none, none, none, some (va T (LF.mk (s23.2.1.tally ++ [(("more" : Str), (1 : Int))]))), some (vr pp38), none] (stt Ω [(k0, lstA T p0 (s23.1 : List Int)), (k1, machA T p1 s23.2.1)] [rawD pp2 (dkv s23.2.2.1), nilA, nilA, lstA T pp38 (s23.2.1.wk : List (T3 Str Int Int))])
    obtain ⟨z40, hz40, hm⟩ := bnd_some hm
    refine xs_drop (xe_appE (stt_getL (j := 3) rfl) (stt_getL (j := 3) rfl) (xe_var (i := 12) rfl) (xe_tup3 (xa_cons xe_str (xa_cons xe_int (xa_cons xe_int xa_nil)))) (chkP_some hz40) (stt_setL (j := 3))) ?_
    show XS (tSeq _ _) _ _ [some (vr p0), some (vr p1), some (vr p2), some (va T x3), some (vr pp2), some (va T (LF.mk s23.2.2.2)), none, none, none, none, none, some (va T (LF.mk (s23.2.1.tally ++ [(("more" : Str), (1 : Int))]))), some (vr pp38), none] (stt Ω [(k0, lstA T p0 (s23.1 : List Int)), (k1, machA T p1 s23.2.1)] [rawD pp2 (dkv s23.2.2.1), nilA, nilA, lstA T pp38 ((s23.2.1.wk ++ [(T3.mk ("more" : Str) (1 : Int) (1 : Int))]) : List (T3 Str Int Int))])
    obtain ⟨z41, hz41, hm⟩ := bnd_some hm
    obtain ⟨z42, hz42, hm⟩ := bnd_some hm
    obtain ⟨z43, hz43, hm⟩ := bnd_some hm
    obtain ⟨z44, hz44, hm⟩ := bnd_some hm
    obtain ⟨z45, hz45, hm⟩ := bnd_some hm
    refine xs_ifN (xt_orF (xt_test (T := T) (xe_neK (chkP_some hz41) (by decide) (xe_mcall (xe_var (i := 1) rfl) (stt_get ok (i := 1) rfl) xa_nil ⟨k1, p1, s23.2.1, rfl, (stt_get ok (i := 1) rfl), rfl⟩ rfl) (xe_var (i := 5) rfl) isD_va isD_va)) (xt_orF (xt_test (T := T) (xe_eq (xe_neI (xe_lenL (xe_mcall (xe_var (i := 1) rfl) (stt_get ok (i := 1) rfl) xa_nil ⟨k1, p1, s23.2.1, rfl, (stt_get ok (i := 1) rfl), rfl⟩ rfl) isL_LF) xe_int) (neK_ (chkP_some hz42)))) (xt_orF (xt_eq (xt_test (T := T) (xe_ownNeM (xe_var (i := 1) rfl) (xe_var (i := 2) rfl) (stt_get ok (i := 1) rfl) (stt_getU hk2 (by simp [ne01, ne01.symm, ne02, ne02.symm, ne12, ne12.symm])) ⟨k1, p1, s23.2.1, k2, p2, x2, z43, rfl, (stt_get ok (i := 1) rfl), (stt_getU hk2 (by simp [ne01, ne01.symm, ne02, ne02.symm, ne12, ne12.symm])), (by first | assumption | exact Ne.symm (by assumption)), hz43, rfl⟩ cal0)) (chkP_some hz44)) (xt_test (T := T) (xe_neK (chkP_some hz45) (by decide) (xe_mcall (xe_var (i := 2) rfl) (stt_getU hk2 (by simp [ne01, ne01.symm, ne02, ne02.symm, ne12, ne12.symm])) xa_nil ⟨k2, p2, x2, rfl, (stt_getU hk2 (by simp [ne01, ne01.symm, ne02, ne02.symm, ne12, ne12.symm])), rfl⟩ rfl) (xe_lst (T := T) (l := ([] : List (T3 Str Int Int))) xa_nil (Nat.zero_le _)) isD_va isD_va))))) ?_
    show XS (tSeq _ _) _ _ [some (vr p0), some (vr p1), some (vr p2), some (va T x3), some (vr pp2), some (va T (LF.mk s23.2.2.2)), none, none, none, none, none, some (va T (LF.mk (s23.2.1.tally ++ [(("more" : Str), (1 : Int))]))), some (vr pp38), none] (stt Ω [(k0, lstA T p0 (s23.1 : List Int)), (k1, machA T p1 s23.2.1)] [rawD pp2 (dkv s23.2.2.1), nilA, nilA, lstA T pp38 ((s23.2.1.wk ++ [(T3.mk ("more" : Str) (1 : Int) (1 : Int))]) : List (T3 Str Int Int))])
    obtain ⟨z46, hz46, hm⟩ := bnd_some hm
    obtain ⟨z47, hz47, hm⟩ := bnd_some hm
    obtain ⟨z48, hz48, hm⟩ := bnd_some hm
    refine xs_ifN (xt_orF (xt_eq (xt_test (T := T) (xe_notNU (xe_mcall (xe_var (i := 1) rfl) (stt_get ok (i := 1) rfl) xa_nil ⟨k1, p1, s23.2.1, rfl, (stt_get ok (i := 1) rfl), rfl⟩ (cal1 ok (i := 1) rfl)) xe_non)) (chkP_some hz46)) (xt_orF (xt_test (T := T) (xe_neK (chkP_some hz47) (by decide) (xe_mcall (xe_var (i := 1) rfl) (stt_get ok (i := 1) rfl) xa_nil ⟨k1, p1, s23.2.1.reset, rfl, (stt_get ok (i := 1) rfl), rfl⟩ rfl) (xe_mcall (xe_var (i := 2) rfl) (stt_getU hk2 (by simp [ne01, ne01.symm, ne02, ne02.symm, ne12, ne12.symm])) xa_nil ⟨k2, p2, x2, rfl, (stt_getU hk2 (by simp [ne01, ne01.symm, ne02, ne02.symm, ne12, ne12.symm])), rfl⟩ rfl) isD_va isD_va)) (xt_test (T := T) (xe_neK (chkP_some hz48) (by decide) (xe_mcall (xe_var (i := 1) rfl) (stt_get ok (i := 1) rfl) xa_nil ⟨k1, p1, s23.2.1.reset, rfl, (stt_get ok (i := 1) rfl), rfl⟩ rfl) (xe_lst (T := T) (l := ([] : List (T3 Str Int Int))) xa_nil (Nat.zero_le _)) isD_va isD_va)))) ?_
    show XS (tRet _) _ _ [some (vr p0), some (vr p1), some (vr p2), some (va T x3), some (vr pp2), some (va T (LF.mk s23.2.2.2)), none, none, none, none, none, some (va T (LF.mk (s23.2.1.tally ++ [(("more" : Str), (1 : Int))]))), some (vr pp38), none] (stt Ω [(k0, lstA T p0 (s23.1 : List Int)), (k1, machA T p1 s23.2.1.reset)] [rawD pp2 (dkv s23.2.2.1), nilA, nilA, lstA T pp38 ((s23.2.1.wk ++ [(T3.mk ("more" : Str) (1 : Int) (1 : Int))]) : List (T3 Str Int Int))])
    obtain ⟨z49, hz49, hm⟩ := bnd_some hm
    obtain ⟨z50, hz50, hm⟩ := bnd_some hm
    obtain ⟨z56, hz56, hm⟩ := bnd_some hm
    obtain ⟨z58, hz58, hm⟩ := bnd_some hm
    obtain ⟨z59, hz59, hm⟩ := bnd_some hm
    obtain rfl := Option.some.inj hm
    refine xs_ret (xe_eq (xe_eqD (chkP_some hz58) (by decide) (xe_sliceL (xe_var (i := 11) rfl) xo_none (xo_some (T := T) xe_int) isL_LF) (xe_fz (xn_lcS (T := T) (fun (s51 : Unit) => [(k0, lstA T p0 (s23.1 : List Int)), (k1, machA T p1 s23.2.1.reset)]) (fun (s51 : Unit) => [rawD pp2 (dkv s23.2.2.1), nilA, nilA, lstA T pp38 ((s23.2.1.wk ++ [(T3.mk ("more" : Str) (1 : Int) (1 : Int))]) : List (T3 Str Int Int))]) hz56 (xi_LF (xe_call xa_nil ⟨z49, rfl, hz49, rfl⟩ cal0)) (fun _ => tgt_name) (by simp) (chkP_some hz50) ?q57)) isD_va isD_va) (chkP_some hz59)) hrt.all
    case q57 =>
      exact (fun a52 s51 o s2 ha hm X => by
        obtain ⟨z54, hz54, hm⟩ := bnd_some hm
        obtain ⟨rfl, rfl⟩ := Prod.mk.inj (Option.some.inj hm)
        refine ⟨(fun e => nomatch e), fun y e => ?_⟩
        obtain rfl := Option.some.inj e
        refine ⟨xt_yes, (xe_tup2 (xa_cons (xe_var (i := 13) rfl) (xa_cons (show XE _ _ _ (va T z54) (stt Ω [(k0, lstA T p0 (s23.1 : List Int)), (k1, machA T p1 s23.2.1.reset)] [rawD pp2 (dkv s23.2.2.1), nilA, nilA, lstA T pp38 ((s23.2.1.wk ++ [(T3.mk ("more" : Str) (1 : Int) (1 : Int))]) : List (T3 Str Int Int)), X]) from ?q55) xa_nil)))⟩
        case q55 =>
          exact (by
            by_cases hc : (s23.2.2.1.lookup a52).isSome = true
            · rw [if_pos hc] at hz54
              obtain ⟨z53, hz53, hz54⟩ := bnd_some hz54
              obtain rfl := Option.some.inj hz54
              exact xe_ifT (xt_eq (xt_test (T := T) (xe_dinO (xe_var (i := 13) rfl) (xe_var (i := 4) rfl) (stt_getL (j := 0) rfl))) hc) (xe_dgetO (xe_var (i := 4) rfl) (xe_var (i := 13) rfl) (stt_getL (j := 0) rfl) hz53)
            · rw [if_neg hc] at hz54
              obtain rfl := Option.some.inj hz54
              exact xe_ifF (xt_eq (xt_test (T := T) (xe_dinO (xe_var (i := 13) rfl) (xe_var (i := 4) rfl) (stt_getL (j := 0) rfl))) (nt hc)) xe_int))
  · subst es
    cases hm
noncomputable def M__law_right (x0 : List Int) : Option (Bool × List Int) :=
  (M__law_next x0 (23 : Int)).bind fun z1 => (M__law_next z1.2 (999 : Int)).bind fun z2 => (some ((8 : Int) + z1.1)).bind fun y3 => (some ((2 : Int) + z2.1)).bind fun y4 => (chkP ((8 ≤ y3 ∧ y3 ≤ 30) ∧ 2 ≤ y4 ∧ y4 ≤ 1000)).bind fun z5 => (chkP ((8 ≤ y3 ∧ y3 ≤ 30) ∧ 2 ≤ y4 ∧ y4 ≤ 1000)).bind fun z8 => (chkP (((MS.fresh y3 y4).w, (MS.fresh y3 y4).c) = (y3, y4) ∧ Dat.ok ((MS.fresh y3 y4).w, (MS.fresh y3 y4).c))).bind fun z11 => (M_Mach_eq (MS.fresh y3 y4) (MS.fresh y3 y4)).bind fun z12 => (chkP ((!z12) = false)).bind fun z13 => (chkP ((8 ≤ y3 ∧ y3 ≤ 30) ∧ 2 ≤ (if (decide ((2 : Int) < y4)) = true then (2 : Int) else (3 : Int)) ∧ (if (decide ((2 : Int) < y4)) = true then (2 : Int) else (3 : Int)) ≤ 1000)).bind fun z14 => (M_Mach_eq (MS.fresh y3 y4) (MS.fresh y3 (if (decide ((2 : Int) < y4)) = true then (2 : Int) else (3 : Int)))).bind fun z15 => (chkP (z15 = false)).bind fun z16 => (chkP (false = false)).bind fun z17 => (chkP ((8 ≤ (if (decide ((8 : Int) < y3)) = true then (y3 - (1 : Int)) else (9 : Int)) ∧ (if (decide ((8 : Int) < y3)) = true then (y3 - (1 : Int)) else (9 : Int)) ≤ 30) ∧ 2 ≤ y4 ∧ y4 ≤ 1000)).bind fun z18 => (M_Mach_eq (MS.fresh y3 y4) (MS.fresh (if (decide ((8 : Int) < y3)) = true then (y3 - (1 : Int)) else (9 : Int)) y4)).bind fun z19 => (chkP (z19 = false)).bind fun z20 => (M__law_words ).bind fun z21 => (chkP (z21.length ≤ sizeLine)).bind fun z22 => (lcM (fun (a24 : Str) (s23 : Unit) => some (some (a24, (0 : Int)), ())) z21 ()).bind fun z25 => (chkP ((LF.mk (MS.fresh y3 y4).tally) = (LF.mk z25.1) ∧ Dat.ok (LF.mk (MS.fresh y3 y4).tally))).bind fun z27 => (chkP (CShl (1 : Int) y3)).bind fun z28 => (M__law_counts_right z2.2 (MS.fresh y3 y4) (MS.fresh y3 y4) ((1 : Int) * 2 ^ (y3).toNat)).bind fun z29 => (chkP (z29.1 = true)).bind fun z30 => some (true, z29.2.1)
def Pre__law_right (T : TC) : PreT := fun As Ω R => ∃ (k0 : Nat) (p0 : Addr) (x0 : List Int) (r : Bool × List Int), As = [vr p0] ∧ Ω[k0]? = some (lstA T p0 x0) ∧ M__law_right x0 = some r ∧ R = RV (va T r.1) (stt Ω [(k0, lstA T p0 r.2)] [])
abbrev s__law_right : Stmt := topS 47
theorem sc__law_right : FnScope ["_law_source", "_law_bits_here", "_law_cutoff_here", "_law_one_here", "_law_other", "_law_word"] ["_law_source"] (defScope s__law_right) := ⟨rfl, rfl, rfl, by decide +kernel, rfl, by decide +kernel, by decide +kernel⟩
theorem ok__law_right {f : Addr} {fd : FuncData} (F : Fun T.K "_law_right" "_law_right" s__law_right f fd) (c__law_next : Cal P w T.K mg base 1 "_law_next" ["_law_source", "_law_count_of"] (mkSp (Pre__law_next T))) (c_Machine2 : CalC P w T.K mg base 3 "Machine" (T.C 0) ["self", "bits", "cutoff"] [] (mkSp (Pre_Machine T))) (ck_Machine_cutoff_bits : CalCK P w T.K mg base 3 "Machine" (T.C 0) ["self", "bits", "cutoff"] ["cutoff", "bits"] [0, 2, 1] (mkSp (Pre_Machine T))) (mc : MCls T.K (T.C 0)) (c_Mach_parts : CalM P w T.K mg base 1 (T.C 0) "parts" ["self"] (mkSp (Pre_Mach_parts T))) (ceqm : CalEq P w T.K mg base 1 (T.C 0) (mkSp (Pre_Mach_eq T))) (ceqt : CalEqT P w T.K mg base 1 (T.C 0) (mkSp (PreXT T))) (c_Mach_tally : CalM P w T.K mg base 1 (T.C 0) "tally" ["self"] (mkSp (Pre_Mach_tally T))) (c__law_words : Cal P w T.K mg base 1 "_law_words" [] (mkSp (Pre__law_words T))) (c__law_counts_right : Cal P w T.K mg base 24 "_law_counts_right" ["_law_source", "_law_one_here", "_law_other", "_law_base"] (mkSp (Pre__law_counts_right T))) : FnOk P w T.K mg base CX0 25 f fd ["_law_source"] (mkSp (Pre__law_right T)) := by
  refine fn_ok F sc__law_right (fun As Ω R h => ?_) (fun cdv A outer s H E hr As Ω R F0 h => ?_)
  · obtain ⟨k0, p0, x0, r, rfl, _⟩ := h
    rfl
  obtain ⟨k0, p0, x0, r, rfl, hk0, hm, rfl⟩ := h
  refine ⟨_, (pss_cons (ps_par (i := 1) (j := 2) rfl sc__law_right.nd rfl rfl (by decide) rfl rfl (pa_cons (pe_op op_addQ pe_int (pe_cal c__law_next (hr.mono (by decide)) (by rfl) (pa_cons (pv 0) (pa_cons pe_int pa_nil)))) (pa_cons (pe_op op_addQ pe_int (pe_cal c__law_next (hr.mono (by decide)) (by rfl) (pa_cons (pv 0) (pa_cons pe_int pa_nil)))) pa_nil)) (by rfl)) (pss_cons (ps_par (i := 3) (j := 4) rfl sc__law_right.nd rfl rfl (by decide) rfl rfl (pa_cons (pe_calC c_Machine2 (hr.mono (by decide)) (by rfl) (pa_cons (pv 1) (pa_cons (pv 2) pa_nil))) (pa_cons (pe_calCK0 ck_Machine_cutoff_bits (hr.mono (by decide)) (by rfl) (pk_cons (pv 2) (pk_cons (pv 1) pk_nil))) pa_nil)) (by rfl)) (pss_cons (ps_if (pt_cmpR (op_neXK (K := T.K) (by exact hr.units) rfl) (pe_calM0 (pv 3) c_Mach_parts (hr.mono (by decide))) (pe_tup (pa_cons (pv 1) (pa_cons (pv 2) pa_nil))) (nomark _)) pss_never pss_nil) (pss_cons (ps_if (pt_cmpR (op_neC ceqm (hr.mono (by decide))) (pv 3) (pv 4) (nomark _)) pss_never pss_nil) (pss_cons (ps_if (pt_cmpR (op_eqC ceqm (hr.mono (by decide))) (pv 3) (pe_calC c_Machine2 (hr.mono (by decide)) (by rfl) (pa_cons (pv 1) (pa_cons (pe_ifExp (pt_cmpR op_gt (pv 2) pe_int (nomark _)) pe_int pe_int) pa_nil))) (nomark _)) pss_never pss_nil) (pss_cons (ps_if (pt_cmpR (op_eqXTK (K := T.K) rfl ceqt (hr.mono (by decide))) (pv 3) (pe_tup (pa_cons (pv 1) (pa_cons (pv 2) pa_nil))) (nomark _)) pss_never pss_nil) (pss_cons (ps_if (pt_cmpR (op_eqC ceqm (hr.mono (by decide))) (pv 3) (pe_calC c_Machine2 (hr.mono (by decide)) (by rfl) (pa_cons (pe_ifExp (pt_cmpR op_gt (pv 1) pe_int (nomark _)) (pe_op op_sub (pv 1) pe_int) pe_int) (pa_cons (pv 2) pa_nil))) (nomark _)) pss_never pss_nil) (pss_cons (ps_if (pt_cmpR (op_neXK (K := T.K) (by exact hr.units) rfl) (pe_calM0 (pv 3) c_Mach_tally (hr.mono (by decide))) (pe_lc (own := [("_law_word", 5)]) rfl sc__law_right.nd (pi_listK (K := T.K) (pe_cal0 c__law_words (hr.mono (by decide)) (by rfl)) rfl) (blkOk_by (N := ["_law_source", "_law_bits_here", "_law_cutoff_here", "_law_one_here", "_law_other", "_law_word"]) (sc := defScope s__law_right) (by decide +kernel)) (fun _ _ _ _ _ => (pg_name (i := 5) sc__law_right.nd rfl (.inl rfl))) (fun _ _ _ _ _ => pts_nil) (fun _ _ _ _ _ => (pe_tup (pa_cons (pv 5) (pa_cons pe_int pa_nil))))) (nomark _)) pss_never pss_nil) (pss_one (ps_ret (pe_cal c__law_counts_right (hr.mono (by decide)) (by rfl) (pa_cons (pv 0) (pa_cons (pv 3) (pa_cons (pv 4) (pa_cons (pe_op op_shlW pe_int (pv 1)) pa_nil))))))))))))))), fun D hrt hnx => ?_⟩
  have ok := okk1 hk0
  suffices hx : XS _ D F0 [some (vr p0), none, none, none, none, none] (stt Ω [(k0, lstA T p0 (x0 : List Int))] []) by
    rw [show (stt Ω [(k0, lstA T p0 (x0 : List Int))] []) = Ω from stt_self (by simp [hk0])] at hx
    exact hx
  unfold M__law_right at hm
  obtain ⟨z1, hz1, hm⟩ := bnd_some hm
  obtain ⟨z2, hz2, hm⟩ := bnd_some hm
  obtain ⟨y3, hy3, hm⟩ := bnd_some hm
  obtain ⟨y4, hy4, hm⟩ := bnd_some hm
  refine xs_par2 (A := va T y3) (B := va T y4) (xa_cons (xe_eq (xe_add xe_int (xe_call (xa_cons (xe_var (i := 0) rfl) (xa_cons xe_int xa_nil)) ⟨k0, p0, x0, (23 : Int), z1, rfl, (stt_get ok (i := 0) rfl), hz1, rfl⟩ (cal1 ok (i := 0) rfl))) (Option.some.inj hy3)) (xa_cons (xe_eq (xe_add xe_int (xe_call (xa_cons (xe_var (i := 0) rfl) (xa_cons xe_int xa_nil)) ⟨k0, p0, z1.2, (999 : Int), z2, rfl, (stt_get ok (i := 0) rfl), hz2, rfl⟩ (cal1 ok (i := 0) rfl))) (Option.some.inj hy4)) xa_nil)) ?_
  show XS (tSeq _ _) _ _ [some (vr p0), some (va T y3), some (va T y4), none, none, none] (stt Ω [(k0, lstA T p0 (z2.2 : List Int))] [])
  obtain ⟨z5, hz5, hm⟩ := bnd_some hm
  obtain ⟨z8, hz8, hm⟩ := bnd_some hm
  refine xs_parNN (xn_make (Ds := []) (xa_cons (xe_var (i := 1) rfl) (xa_cons (xe_var (i := 2) rfl) xa_nil)) (fun _ => .nil) (fun q => ⟨_, q, y3, y4, rfl, chkP_some hz5, rfl, rfl⟩)) (fun pp6 => (xn_makeK (xa_cons (xe_var (i := 2) rfl) (xa_cons (xe_var (i := 1) rfl) xa_nil)) (fun q => ⟨_, q, y3, y4, rfl, chkP_some hz8, rfl, rfl⟩))) (fun pp6 pp9 => ?_)
  show XS (tSeq _ _) _ _ [some (vr p0), some (va T y3), some (va T y4), some (vr pp6), some (vr pp9), none] (stt Ω [(k0, lstA T p0 (z2.2 : List Int))] [machA T pp6 (MS.fresh y3 y4), machA T pp9 (MS.fresh y3 y4)])
  obtain ⟨z11, hz11, hm⟩ := bnd_some hm
  refine xs_ifN (xt_test (T := T) (xe_neK (chkP_some hz11) (by decide) (xe_mcall (xe_var (i := 3) rfl) (stt_getL (j := 0) rfl) xa_nil ⟨(Ω.length + 0), pp6, (MS.fresh y3 y4), rfl, (stt_getL (j := 0) rfl), rfl⟩ rfl) (xe_tup2 (xa_cons (xe_var (i := 1) rfl) (xa_cons (xe_var (i := 2) rfl) xa_nil))) isD_va isD_va)) ?_
  show XS (tSeq _ _) _ _ [some (vr p0), some (va T y3), some (va T y4), some (vr pp6), some (vr pp9), none] (stt Ω [(k0, lstA T p0 (z2.2 : List Int))] [machA T pp6 (MS.fresh y3 y4), machA T pp9 (MS.fresh y3 y4)])
  obtain ⟨z12, hz12, hm⟩ := bnd_some hm
  obtain ⟨z13, hz13, hm⟩ := bnd_some hm
  refine xs_ifN (xt_eq (xt_test (T := T) (xe_ownNeM (xe_var (i := 3) rfl) (xe_var (i := 4) rfl) (stt_getL (j := 0) rfl) (stt_getL (j := 1) rfl) ⟨(Ω.length + 0), pp6, (MS.fresh y3 y4), (Ω.length + 1), pp9, (MS.fresh y3 y4), z12, rfl, (stt_getL (j := 0) rfl), (stt_getL (j := 1) rfl), (by omega), hz12, rfl⟩ cal0)) (chkP_some hz13)) ?_
  show XS (tSeq _ _) _ _ [some (vr p0), some (va T y3), some (va T y4), some (vr pp6), some (vr pp9), none] (stt Ω [(k0, lstA T p0 (z2.2 : List Int))] [machA T pp6 (MS.fresh y3 y4), machA T pp9 (MS.fresh y3 y4)])
  obtain ⟨z14, hz14, hm⟩ := bnd_some hm
  obtain ⟨z15, hz15, hm⟩ := bnd_some hm
  obtain ⟨z16, hz16, hm⟩ := bnd_some hm
  refine xs_ifN (xt_eq (xt_test (T := T) (xe_ownEqMF (Ω := Ω) (ks := [(k0, lstA T p0 (z2.2 : List Int))]) (L := [machA T pp6 (MS.fresh y3 y4), machA T pp9 (MS.fresh y3 y4)]) (y := (MS.fresh y3 (if (decide ((2 : Int) < y4)) = true then (2 : Int) else (3 : Int)))) (xe_var (i := 3) rfl) (xn_make (Ds := []) (xa_cons (xe_var (i := 1) rfl) (xa_cons (xe_ite (xt_test (T := T) (xe_gt (xe_var (i := 2) rfl) xe_int)) xe_int xe_int) xa_nil)) (fun _ => .nil) (fun q => ⟨_, q, y3, (if (decide ((2 : Int) < y4)) = true then (2 : Int) else (3 : Int)), rfl, chkP_some hz14, rfl, rfl⟩)) (fun q => (stt_getL (j := 0) rfl)) (fun q => ⟨(Ω.length + 0), pp6, (MS.fresh y3 y4), (Ω.length + 2), q, (MS.fresh y3 (if (decide ((2 : Int) < y4)) = true then (2 : Int) else (3 : Int))), z15, rfl, (stt_getL (j := 0) rfl), (stt_getL (j := 2) rfl), (by omega), hz15, rfl⟩) (fun q => cal0))) (chkP_some hz16)) ?_
  show XS (tSeq _ _) _ _ [some (vr p0), some (va T y3), some (va T y4), some (vr pp6), some (vr pp9), none] (stt Ω [(k0, lstA T p0 (z2.2 : List Int))] [machA T pp6 (MS.fresh y3 y4), machA T pp9 (MS.fresh y3 y4)])
  obtain ⟨z17, hz17, hm⟩ := bnd_some hm
  refine xs_ifN (xt_eq (xt_test (T := T) (xe_ownXT (xe_var (i := 3) rfl) (xe_tup2 (xa_cons (xe_var (i := 1) rfl) (xa_cons (xe_var (i := 2) rfl) xa_nil))) (stt_getL (j := 0) rfl) (fun F H v hh a => isOT_pair hh a))) (chkP_some hz17)) ?_
  show XS (tSeq _ _) _ _ [some (vr p0), some (va T y3), some (va T y4), some (vr pp6), some (vr pp9), none] (stt Ω [(k0, lstA T p0 (z2.2 : List Int))] [machA T pp6 (MS.fresh y3 y4), machA T pp9 (MS.fresh y3 y4)])
  obtain ⟨z18, hz18, hm⟩ := bnd_some hm
  obtain ⟨z19, hz19, hm⟩ := bnd_some hm
  obtain ⟨z20, hz20, hm⟩ := bnd_some hm
  refine xs_ifN (xt_eq (xt_test (T := T) (xe_ownEqMF (Ω := Ω) (ks := [(k0, lstA T p0 (z2.2 : List Int))]) (L := [machA T pp6 (MS.fresh y3 y4), machA T pp9 (MS.fresh y3 y4)]) (y := (MS.fresh (if (decide ((8 : Int) < y3)) = true then (y3 - (1 : Int)) else (9 : Int)) y4)) (xe_var (i := 3) rfl) (xn_make (Ds := []) (xa_cons (xe_ite (xt_test (T := T) (xe_gt (xe_var (i := 1) rfl) xe_int)) (xe_sub (xe_var (i := 1) rfl) xe_int) xe_int) (xa_cons (xe_var (i := 2) rfl) xa_nil)) (fun _ => .nil) (fun q => ⟨_, q, (if (decide ((8 : Int) < y3)) = true then (y3 - (1 : Int)) else (9 : Int)), y4, rfl, chkP_some hz18, rfl, rfl⟩)) (fun q => (stt_getL (j := 0) rfl)) (fun q => ⟨(Ω.length + 0), pp6, (MS.fresh y3 y4), (Ω.length + 2), q, (MS.fresh (if (decide ((8 : Int) < y3)) = true then (y3 - (1 : Int)) else (9 : Int)) y4), z19, rfl, (stt_getL (j := 0) rfl), (stt_getL (j := 2) rfl), (by omega), hz19, rfl⟩) (fun q => cal0))) (chkP_some hz20)) ?_
  show XS (tSeq _ _) _ _ [some (vr p0), some (va T y3), some (va T y4), some (vr pp6), some (vr pp9), none] (stt Ω [(k0, lstA T p0 (z2.2 : List Int))] [machA T pp6 (MS.fresh y3 y4), machA T pp9 (MS.fresh y3 y4)])
  obtain ⟨z21, hz21, hm⟩ := bnd_some hm
  obtain ⟨z22, hz22, hm⟩ := bnd_some hm
  obtain ⟨z25, hz25, hm⟩ := bnd_some hm
  obtain ⟨z27, hz27, hm⟩ := bnd_some hm
  refine xs_ifN (xt_test (T := T) (xe_neK (chkP_some hz27) (by decide) (xe_mcall (xe_var (i := 3) rfl) (stt_getL (j := 0) rfl) xa_nil ⟨(Ω.length + 0), pp6, (MS.fresh y3 y4), rfl, (stt_getL (j := 0) rfl), rfl⟩ rfl) (xe_fz (xn_lcS (T := T) (fun (s23 : Unit) => [(k0, lstA T p0 (z2.2 : List Int))]) (fun (s23 : Unit) => [machA T pp6 (MS.fresh y3 y4), machA T pp9 (MS.fresh y3 y4)]) hz25 (xi_LF (xe_call xa_nil ⟨z21, rfl, hz21, rfl⟩ cal0)) (fun _ => tgt_name) (by simp) (chkP_some hz22) ?q26)) isD_va isD_va)) ?_
  case q26 =>
    exact (fun a24 s23 o s2 ha hm X => by
      obtain ⟨rfl, rfl⟩ := Prod.mk.inj (Option.some.inj hm)
      refine ⟨(fun e => nomatch e), fun y e => ?_⟩
      obtain rfl := Option.some.inj e
      refine ⟨xt_yes, (xe_tup2 (xa_cons (xe_var (i := 5) rfl) (xa_cons xe_int xa_nil)))⟩)
  show XS (tRet _) _ _ [some (vr p0), some (va T y3), some (va T y4), some (vr pp6), some (vr pp9), none] (stt Ω [(k0, lstA T p0 (z2.2 : List Int))] [machA T pp6 (MS.fresh y3 y4), machA T pp9 (MS.fresh y3 y4)])
  obtain ⟨z28, hz28, hm⟩ := bnd_some hm
  obtain ⟨z29, hz29, hm⟩ := bnd_some hm
  obtain ⟨z30, hz30, hm⟩ := bnd_some hm
  obtain rfl := Option.some.inj hm
  refine xs_ret (xe_eq (xe_call (xa_cons (xe_var (i := 0) rfl) (xa_cons (xe_var (i := 3) rfl) (xa_cons (xe_var (i := 4) rfl) (xa_cons (xe_shl (chkP_some hz28) xe_int (xe_var (i := 1) rfl)) xa_nil)))) ⟨k0, p0, z2.2, (Ω.length + 0), pp6, (MS.fresh y3 y4), (Ω.length + 1), pp9, (MS.fresh y3 y4), ((1 : Int) * 2 ^ (y3).toNat), z29, rfl, (stt_get ok (i := 0) rfl), (stt_getL (j := 0) rfl), (stt_getL (j := 1) rfl), (ne_kL (by exact getlt hk0)), (ne_kL (by exact getlt hk0)), (by omega), hz29, rfl⟩ ((stt_two.trans (congrArg (fun W => stt W _ []) (cal1L (j := 0)))).trans (cal1 ok (i := 0) rfl))) (chkP_some hz30)) hrt.all
noncomputable def M__law_long_right (x0 : List Int) : Option (Bool × List Int) :=
  (chkP ((8 ≤ (8 : Int) ∧ (8 : Int) ≤ 30) ∧ 2 ≤ (4 : Int) ∧ (4 : Int) ≤ 1000)).bind fun z1 => (some (MS.fresh (8 : Int) (4 : Int))).bind fun y2 => (M__law_next x0 (20 : Int)).bind fun z5 => (some ((995 : Int) + z5.1)).bind fun y6 => (M_big y2 (70000 : Int)).bind fun z7 => (M_big y2 (300 : Int)).bind fun z8 => (chkP (-(2 ^ 62) ≤ y6 ∧ y6 < 2 ^ 62)).bind fun z9 => (forM' (ρ := Unit) (fun (a11 : Int) (s10 : MS) => (if (decide (a11 < (500 : Int))) = true then (M_add s10 z7 z8).bind fun z12 => some (z12.1, z12.2) else (M_subtract s10 z7 z8).bind fun z13 => some (z13.1, z13.2)).bind fun z14 => some (Stp.nx z14.2)) (rng 0 (y6).toNat) y2).bind fun z16 => (nxt z16).bind fun s17 => (chkP ((-(2 ^ 63) ≤ (500 : Int) ∧ (500 : Int) < 2 ^ 63) ∧ ([(T3.mk ("add" : Str) (3 : Int) (2 : Int))] : List (T3 Str Int Int)).length * ((500 : Int)).toNat ≤ sizeLine)).bind fun z18 => (chkP ((-(2 ^ 63) ≤ ((min y6 (1000 : Int)) - (500 : Int)) ∧ ((min y6 (1000 : Int)) - (500 : Int)) < 2 ^ 63) ∧ ([(T3.mk ("take" : Str) (3 : Int) (2 : Int))] : List (T3 Str Int Int)).length * (((min y6 (1000 : Int)) - (500 : Int))).toNat ≤ sizeLine)).bind fun z19 => (chkP (((List.replicate ((500 : Int)).toNat ([(T3.mk ("add" : Str) (3 : Int) (2 : Int))] : List (T3 Str Int Int))).flatten).length + ((List.replicate (((min y6 (1000 : Int)) - (500 : Int))).toNat ([(T3.mk ("take" : Str) (3 : Int) (2 : Int))] : List (T3 Str Int Int))).flatten).length ≤ sizeLine)).bind fun z20 => (some ((List.replicate ((500 : Int)).toNat ([(T3.mk ("add" : Str) (3 : Int) (2 : Int))] : List (T3 Str Int Int))).flatten ++ (List.replicate (((min y6 (1000 : Int)) - (500 : Int))).toNat ([(T3.mk ("take" : Str) (3 : Int) (2 : Int))] : List (T3 Str Int Int))).flatten)).bind fun y21 => (chkP ((LF.mk s17.wk) = (LF.mk y21) ∧ Dat.ok (LF.mk s17.wk))).bind fun z22 => (atI s17.tally (1 : Int)).bind fun z23 => (chkP (IntMulOk (3 : Int) y6)).bind fun z24 => (chkP (z23 = (("sum" : Str), ((3 : Int) * y6)) ∧ Dat.ok z23)).bind fun z25 => (atI s17.tally (0 : Int)).bind fun z26 => (chkP (Dat.ok z26 ∧ Dat.ok (("short" : Str), (0 : Int)))).bind fun z27 => (chkP ((eqD z26 (("short" : Str), (0 : Int))) = true)).bind fun z28 => some (true, z5.2)
def Pre__law_long_right (T : TC) : PreT := fun As Ω R => ∃ (k0 : Nat) (p0 : Addr) (x0 : List Int) (r : Bool × List Int), As = [vr p0] ∧ Ω[k0]? = some (lstA T p0 x0) ∧ M__law_long_right x0 = some r ∧ R = RV (va T r.1) (stt Ω [(k0, lstA T p0 r.2)] [])
abbrev s__law_long_right : Stmt := topS 49
theorem sc__law_long_right : FnScope ["_law_source", "_law_machine_here", "_law_count_of", "_law_x", "_law_y", "_law_k", "_law_due"] ["_law_source"] (defScope s__law_long_right) := ⟨rfl, rfl, rfl, by decide +kernel, rfl, by decide +kernel, by decide +kernel⟩
theorem ok__law_long_right {f : Addr} {fd : FuncData} (F : Fun T.K "_law_long_right" "_law_long_right" s__law_long_right f fd) (c_Machine2 : CalC P w T.K mg base 3 "Machine" (T.C 0) ["self", "bits", "cutoff"] [] (mkSp (Pre_Machine T))) (c__law_next : Cal P w T.K mg base 1 "_law_next" ["_law_source", "_law_count_of"] (mkSp (Pre__law_next T))) (c_big : Cal P w T.K mg base 23 "big" ["machine", "n"] (mkSp (Pre_big T))) (z_range : mg "range" = none) (c_add : Cal P w T.K mg base 23 "add" ["machine", "x", "y"] (mkSp (Pre_add T))) (c_subtract : Cal P w T.K mg base 23 "subtract" ["machine", "x", "y"] (mkSp (Pre_subtract T))) (z_min : mg "min" = none) (mc : MCls T.K (T.C 0)) (c_Mach_walk : CalM P w T.K mg base 1 (T.C 0) "walk" ["self"] (mkSp (Pre_Mach_walk T))) (c_Mach_tally : CalM P w T.K mg base 1 (T.C 0) "tally" ["self"] (mkSp (Pre_Mach_tally T))) : FnOk P w T.K mg base CX0 24 f fd ["_law_source"] (mkSp (Pre__law_long_right T)) := by
  refine fn_ok F sc__law_long_right (fun As Ω R h => ?_) (fun cdv A outer s H E hr As Ω R F0 h => ?_)
  · obtain ⟨k0, p0, x0, r, rfl, _⟩ := h
    rfl
  obtain ⟨k0, p0, x0, r, rfl, hk0, hm, rfl⟩ := h
  refine ⟨_, (pss_cons (ps_par (i := 1) (j := 2) rfl sc__law_long_right.nd rfl rfl (by decide) rfl rfl (pa_cons (pe_calC c_Machine2 (hr.mono (by decide)) (by rfl) (pa_cons pe_int (pa_cons pe_int pa_nil))) (pa_cons (pe_op op_addQ pe_int (pe_cal c__law_next (hr.mono (by decide)) (by rfl) (pa_cons (pv 0) (pa_cons pe_int pa_nil)))) pa_nil)) (by rfl)) (pss_cons (ps_par (i := 3) (j := 4) rfl sc__law_long_right.nd rfl rfl (by decide) rfl rfl (pa_cons (pe_cal c_big (hr.mono (by decide)) (by rfl) (pa_cons (pv 1) (pa_cons pe_int pa_nil))) (pa_cons (pe_cal c_big (hr.mono (by decide)) (by rfl) (pa_cons (pv 1) (pa_cons pe_int pa_nil))) pa_nil)) (by rfl)) (pss_cons (ps_for PassesOwn.never rfl (pi_range1 rfl z_range (pa_cons (pv 2) pa_nil)) (pg_name (i := 5) sc__law_long_right.nd rfl (.inl rfl)) (pss_one (ps_expr (pe_ifExp (pt_cmpR op_lt (pv 5) pe_int (nomark _)) (pe_cal c_add (hr.mono (by decide)) (by rfl) (pa_cons (pv 1) (pa_cons (pv 3) (pa_cons (pv 4) pa_nil)))) (pe_cal c_subtract (hr.mono (by decide)) (by rfl) (pa_cons (pv 1) (pa_cons (pv 3) (pa_cons (pv 4) pa_nil)))))))) (pss_cons (ps_set (i := 6) sc__law_long_right.nd rfl (.inl rfl) (pe_op op_addQ (pe_op op_mulQ (pe_lst (pa_cons (pe_tup (pa_cons pe_str (pa_cons pe_int (pa_cons pe_int pa_nil)))) pa_nil)) pe_int) (pe_op op_mulQ (pe_lst (pa_cons (pe_tup (pa_cons pe_str (pa_cons pe_int (pa_cons pe_int pa_nil)))) pa_nil)) (pe_op op_sub (pe_callB (cr_min2 rfl) (by rfl) z_min (by decide +kernel) (pa_cons (pv 2) (pa_cons pe_int pa_nil))) pe_int)))) (pss_cons (ps_if (pt_not (pt_cmpR (op_eqXK (K := T.K) (by exact hr.units) rfl) (pe_calM0 (pv 1) c_Mach_walk (hr.mono (by decide))) (pv 6) (nomark _))) pss_never pss_nil) (pss_cons (ps_if (pt_not (pt_cmpR (op_eqXK (K := T.K) (by exact hr.units) rfl) (pe_ix (ix_seqK (K := T.K) rfl) (pe_calM0 (pv 1) c_Mach_tally (hr.mono (by decide))) pe_int (by intro _ _; rfl)) (pe_tup (pa_cons pe_str (pa_cons (pe_op op_mulQ pe_int (pv 2)) pa_nil))) (nomark _))) pss_never pss_nil) (pss_one (ps_ret (pe_cmpR (op_eqXK (K := T.K) (by exact hr.units) rfl) (pe_ix (ix_seqK (K := T.K) rfl) (pe_calM0 (pv 1) c_Mach_tally (hr.mono (by decide))) pe_int (by intro _ _; rfl)) (pe_tup (pa_cons pe_str (pa_cons pe_int pa_nil))) (nomark _)))))))))), fun D hrt hnx => ?_⟩
  have ok := okk1 hk0
  suffices hx : XS _ D F0 [some (vr p0), none, none, none, none, none, none] (stt Ω [(k0, lstA T p0 (x0 : List Int))] []) by
    rw [show (stt Ω [(k0, lstA T p0 (x0 : List Int))] []) = Ω from stt_self (by simp [hk0])] at hx
    exact hx
  unfold M__law_long_right at hm
  obtain ⟨z1, hz1, hm⟩ := bnd_some hm
  obtain ⟨y2, hy2, hm⟩ := bnd_some hm
  obtain ⟨z5, hz5, hm⟩ := bnd_some hm
  obtain ⟨y6, hy6, hm⟩ := bnd_some hm
  obtain rfl := Option.some.inj hy2
  refine xs_parNV (A := va T y6) (xn_make (Ds := []) (xa_cons xe_int (xa_cons xe_int xa_nil)) (fun _ => .nil) (fun q => ⟨_, q, (8 : Int), (4 : Int), rfl, chkP_some hz1, rfl, rfl⟩)) (fun pp3 => (xe_eq (xe_add xe_int (xe_call (xa_cons (xe_var (i := 0) rfl) (xa_cons xe_int xa_nil)) ⟨k0, p0, x0, (20 : Int), z5, rfl, (stt_get ok (i := 0) rfl), hz5, rfl⟩ (cal1 ok (i := 0) rfl))) (Option.some.inj hy6))) (fun pp3 => ?_)
  show XS (tSeq _ _) _ _ [some (vr p0), some (vr pp3), some (va T y6), none, none, none, none] (stt Ω [(k0, lstA T p0 (z5.2 : List Int))] [machA T pp3 (MS.fresh (8 : Int) (4 : Int))])
  obtain ⟨z7, hz7, hm⟩ := bnd_some hm
  obtain ⟨z8, hz8, hm⟩ := bnd_some hm
  refine xs_par2 (A := va T z7) (B := va T z8) (xa_cons (xe_call (xa_cons (xe_var (i := 1) rfl) (xa_cons xe_int xa_nil)) ⟨(Ω.length + 0), pp3, (MS.fresh (8 : Int) (4 : Int)), (70000 : Int), z7, rfl, (stt_getL (j := 0) rfl), hz7, rfl⟩ cal0) (xa_cons (xe_call (xa_cons (xe_var (i := 1) rfl) (xa_cons xe_int xa_nil)) ⟨(Ω.length + 0), pp3, (MS.fresh (8 : Int) (4 : Int)), (300 : Int), z8, rfl, (stt_getL (j := 0) rfl), hz8, rfl⟩ cal0) xa_nil)) ?_
  show XS (tSeq _ _) _ _ [some (vr p0), some (vr pp3), some (va T y6), some (va T z7), some (va T z8), none, none] (stt Ω [(k0, lstA T p0 (z5.2 : List Int))] [machA T pp3 (MS.fresh (8 : Int) (4 : Int))])
  obtain ⟨z9, hz9, hm⟩ := bnd_some hm
  obtain ⟨z16, hz16, hm⟩ := bnd_some hm
  refine xs_forS (fun (s10 : MS) => [some (vr p0), some (vr pp3), some (va T y6), some (va T z7), some (va T z8), none, none]) (fun (s10 : MS) => (stt Ω [(k0, lstA T p0 (z5.2 : List Int))] [machA T pp3 s10])) (fun (_ : Unit) _ _ _ => False) hz16 (xi_range1 (T := T) (xa_cons (xe_var (i := 2) rfl) xa_nil) (chkP_some hz9).1 (chkP_some hz9).2) (fun _ => tgt_name) (fun a11 s10 s' ha hm F1 D1 e1 hD => ?_) (fun s17 es => ?_) (fun r1 es => ?_)
  · show XS (tDrop _) _ _ [some (vr p0), some (vr pp3), some (va T y6), some (va T z7), some (va T z8), some (va T a11), none] (stt Ω [(k0, lstA T p0 (z5.2 : List Int))] [machA T pp3 s10])
    obtain ⟨z14, hz14, hm⟩ := bnd_some hm
    refine xs_drop1 (show XE _ _ _ (va T z14.1) (stt Ω [(k0, lstA T p0 (z5.2 : List Int))] [machA T pp3 z14.2]) from ?q15) ?_
    case q15 =>
      exact (by
        by_cases hc : (decide (a11 < (500 : Int))) = true
        · rw [if_pos hc] at hz14
          obtain ⟨z12, hz12, hz14⟩ := bnd_some hz14
          obtain rfl := Option.some.inj hz14
          exact xe_ifT (xt_eq (xt_test (T := T) (xe_lt (xe_var (i := 5) rfl) xe_int)) hc) (xe_call (xa_cons (xe_var (i := 1) rfl) (xa_cons (xe_var (i := 3) rfl) (xa_cons (xe_var (i := 4) rfl) xa_nil))) ⟨(Ω.length + 0), pp3, s10, z7, z8, z12, rfl, (stt_getL (j := 0) rfl), hz12, rfl⟩ (cal1L (j := 0)))
        · rw [if_neg hc] at hz14
          obtain ⟨z13, hz13, hz14⟩ := bnd_some hz14
          obtain rfl := Option.some.inj hz14
          exact xe_ifF (xt_eq (xt_test (T := T) (xe_lt (xe_var (i := 5) rfl) xe_int)) (nt hc)) (xe_call (xa_cons (xe_var (i := 1) rfl) (xa_cons (xe_var (i := 3) rfl) (xa_cons (xe_var (i := 4) rfl) xa_nil))) ⟨(Ω.length + 0), pp3, s10, z7, z8, z13, rfl, (stt_getL (j := 0) rfl), hz13, rfl⟩ (cal1L (j := 0))))
    obtain rfl := Option.some.inj hm
    exact fun σ H n => hD.nx _ rfl σ H (n.forget 5)
  · subst es
    obtain ⟨s2, hs2, hm⟩ := bnd_some hm
    cases hs2
    show XS (tSeq _ _) _ _ [some (vr p0), some (vr pp3), some (va T y6), some (va T z7), some (va T z8), none, none] (stt Ω [(k0, lstA T p0 (z5.2 : List Int))] [machA T pp3 s17])
    obtain ⟨z18, hz18, hm⟩ := bnd_some hm
    obtain ⟨z19, hz19, hm⟩ := bnd_some hm
    obtain ⟨z20, hz20, hm⟩ := bnd_some hm
    obtain ⟨y21, hy21, hm⟩ := bnd_some hm
    refine xs_set (A := va T (LF.mk y21)) (xe_eq (xe_cat (xe_rep (xe_lst (l := [(T3.mk ("add" : Str) (3 : Int) (2 : Int))]) (xa_cons (xe_tup3 (xa_cons xe_str (xa_cons xe_int (xa_cons xe_int xa_nil)))) xa_nil) (by show 1 ≤ sizeLine; decide)) xe_int isLs_LF (chkP_some hz18)) (xe_rep (xe_lst (l := [(T3.mk ("take" : Str) (3 : Int) (2 : Int))]) (xa_cons (xe_tup3 (xa_cons xe_str (xa_cons xe_int (xa_cons xe_int xa_nil)))) xa_nil) (by show 1 ≤ sizeLine; decide)) (xe_sub (xe_min2 (xe_var (i := 2) rfl) xe_int) xe_int) isLs_LF (chkP_some hz19)) isLs_LF isLs_LF (chkP_some hz20)) (congrArg LF.mk (Option.some.inj hy21))) ?_
    show XS (tSeq _ _) _ _ [some (vr p0), some (vr pp3), some (va T y6), some (va T z7), some (va T z8), none, some (va T (LF.mk y21))] (stt Ω [(k0, lstA T p0 (z5.2 : List Int))] [machA T pp3 s17])
    obtain ⟨z22, hz22, hm⟩ := bnd_some hm
    refine xs_ifN (xt_notF (xt_test (T := T) (xe_eqK (chkP_some hz22) (by decide) (xe_mcall (xe_var (i := 1) rfl) (stt_getL (j := 0) rfl) xa_nil ⟨(Ω.length + 0), pp3, s17, rfl, (stt_getL (j := 0) rfl), rfl⟩ rfl) (xe_var (i := 6) rfl) isD_va isD_va))) ?_
    show XS (tSeq _ _) _ _ [some (vr p0), some (vr pp3), some (va T y6), some (va T z7), some (va T z8), none, some (va T (LF.mk y21))] (stt Ω [(k0, lstA T p0 (z5.2 : List Int))] [machA T pp3 s17])
    obtain ⟨z23, hz23, hm⟩ := bnd_some hm
    obtain ⟨z24, hz24, hm⟩ := bnd_some hm
    obtain ⟨z25, hz25, hm⟩ := bnd_some hm
    refine xs_ifN (xt_notF (xt_test (T := T) (xe_eqK (chkP_some hz25) (by decide) (xe_ix (xe_mcall (xe_var (i := 1) rfl) (stt_getL (j := 0) rfl) xa_nil ⟨(Ω.length + 0), pp3, s17, rfl, (stt_getL (j := 0) rfl), rfl⟩ rfl) xe_int isL_LF hz23) (xe_tup2 (xa_cons xe_str (xa_cons (xe_mul (chkP_some hz24) xe_int (xe_var (i := 2) rfl)) xa_nil))) isD_va isD_va))) ?_
    show XS (tRet _) _ _ [some (vr p0), some (vr pp3), some (va T y6), some (va T z7), some (va T z8), none, some (va T (LF.mk y21))] (stt Ω [(k0, lstA T p0 (z5.2 : List Int))] [machA T pp3 s17])
    obtain ⟨z26, hz26, hm⟩ := bnd_some hm
    obtain ⟨z27, hz27, hm⟩ := bnd_some hm
    obtain ⟨z28, hz28, hm⟩ := bnd_some hm
    obtain rfl := Option.some.inj hm
    refine xs_ret (xe_eq (xe_eqD (chkP_some hz27) (by decide) (xe_ix (xe_mcall (xe_var (i := 1) rfl) (stt_getL (j := 0) rfl) xa_nil ⟨(Ω.length + 0), pp3, s17, rfl, (stt_getL (j := 0) rfl), rfl⟩ rfl) xe_int isL_LF hz26) (xe_tup2 (xa_cons xe_str (xa_cons xe_int xa_nil))) isD_va isD_va) (chkP_some hz28)) hrt.all
  · subst es
    cases hm
noncomputable def M_law (x0 : List Int) : Option Bool :=
  (M__law_cell_at x0 (0 : Int)).bind fun z1 => (chkP (([z1] : List Int).length + (cut x0 (some (1 : Int)) (some (5 : Int))).length ≤ sizeLine)).bind fun z2 => (forM' (ρ := Unit) (fun (a4 : Int) (s3 : Unit) => (M__law_source_of a4).bind fun z5 => (M__law_right z5).bind fun z8 => (chkP (z8.1 = true)).bind fun z9 => (M__law_right z8.2).bind fun z10 => (chkP (z10.1 = true)).bind fun z11 => some (Stp.nx ())) (([z1] : List Int) ++ (cut x0 (some (1 : Int)) (some (5 : Int)))) ()).bind fun z12 => (nxt z12).bind fun s13 => (M__law_cell_at x0 (0 : Int)).bind fun z14 => (M__law_source_of z14).bind fun z15 => (M__law_long_right z15).bind fun z16 => (chkP (z16.1 = true)).bind fun z17 => (chkP (Dat.ok ((MS.fresh 30 70).w, (MS.fresh 30 70).c) ∧ Dat.ok ((30 : Int), (70 : Int)))).bind fun z18 => (chkP ((eqD ((MS.fresh 30 70).w, (MS.fresh 30 70).c) ((30 : Int), (70 : Int))) = true)).bind fun z19 => some true
def Pre_law (T : TC) : PreT := fun As Ω R => ∃ (x0 : List Int) (r : Bool), As = [va T (SF.mk x0)] ∧ M_law x0 = some r ∧ R = RV (va T r) (stt Ω [] [])
abbrev s_law : Stmt := topS 50
theorem sc_law : FnScope ["_law_script", "_law_cell", "_law_source"] ["_law_script"] (defScope s_law) := ⟨rfl, rfl, rfl, by decide +kernel, rfl, by decide +kernel, by decide +kernel⟩
theorem ok_law {f : Addr} {fd : FuncData} (F : Fun T.K "law" "law" s_law f fd) (c__law_cell_at : Cal P w T.K mg base 1 "_law_cell_at" ["_law_script", "_law_index"] (mkSp (Pre__law_cell_at T))) (c__law_source_of : Cal P w T.K mg base 1 "_law_source_of" ["_law_cell"] (mkSp (Pre__law_source_of T))) (c__law_right : Cal P w T.K mg base 25 "_law_right" ["_law_source"] (mkSp (Pre__law_right T))) (c__law_long_right : Cal P w T.K mg base 24 "_law_long_right" ["_law_source"] (mkSp (Pre__law_long_right T))) (c_Machine0 : CalC P w T.K mg base 3 "Machine" (T.C 0) ["self", "bits", "cutoff"] [.int 30, .int 70] (mkSp (Pre_Machine T))) (c_Mach_parts : CalM P w T.K mg base 1 (T.C 0) "parts" ["self"] (mkSp (Pre_Mach_parts T))) : FnOk P w T.K mg base CX0 26 f fd ["_law_script"] (mkSp (Pre_law T)) := by
  refine fn_ok F sc_law (fun As Ω R h => ?_) (fun cdv A outer s H E hr As Ω R F0 h => ?_)
  · obtain ⟨x0, r, rfl, _⟩ := h
    rfl
  obtain ⟨x0, r, rfl, hm, rfl⟩ := h
  refine ⟨_, (pss_cons (ps_for PassesOwn.never rfl (pi_listK (K := T.K) (pe_op op_addQ (pe_lst (pa_cons (pe_cal c__law_cell_at (hr.mono (by decide)) (by rfl) (pa_cons (pv 0) (pa_cons pe_int pa_nil))) pa_nil)) (pe_slice (sl_listK (K := T.K) rfl) (pv 0) (po_some pe_int) (po_some pe_int))) rfl) (pg_name (i := 1) sc_law.nd rfl (.inl rfl)) (pss_cons (ps_set (i := 2) sc_law.nd rfl (.inl rfl) (pe_cal c__law_source_of (hr.mono (by decide)) (by rfl) (pa_cons (pv 1) pa_nil))) (pss_one (ps_if (PW.pt (pw_or (pt_not (pt_val (pe_cal c__law_right (hr.mono (by decide)) (by rfl) (pa_cons (pv 2) pa_nil)))) (pw_or1 (pt_not (pt_val (pe_cal c__law_right (hr.mono (by decide)) (by rfl) (pa_cons (pv 2) pa_nil))))))) pss_never pss_nil)))) (pss_cons (ps_if (pt_not (pt_val (pe_cal c__law_long_right (hr.mono (by decide)) (by rfl) (pa_cons (pe_cal c__law_source_of (hr.mono (by decide)) (by rfl) (pa_cons (pe_cal c__law_cell_at (hr.mono (by decide)) (by rfl) (pa_cons (pv 0) (pa_cons pe_int pa_nil))) pa_nil)) pa_nil)))) pss_never pss_nil) (pss_one (ps_ret (pe_cmpR (op_eqXK (K := T.K) (by exact hr.units) rfl) (pe_calM0 (pe_calC0 c_Machine0 (hr.mono (by decide)) (by rfl)) c_Mach_parts (hr.mono (by decide))) (pe_tup (pa_cons pe_int (pa_cons pe_int pa_nil))) (nomark _)))))), fun D hrt hnx => ?_⟩
  have ok : Okk Ω [] := okk0
  suffices hx : XS _ D F0 [some (va T (SF.mk x0)), none, none] (stt Ω [] []) by
    rw [show (stt Ω [] []) = Ω from stt_self (by simp)] at hx
    exact hx
  unfold M_law at hm
  obtain ⟨z1, hz1, hm⟩ := bnd_some hm
  obtain ⟨z2, hz2, hm⟩ := bnd_some hm
  obtain ⟨z12, hz12, hm⟩ := bnd_some hm
  refine xs_forS (fun (s3 : Unit) => [some (va T (SF.mk x0)), none, none]) (fun (s3 : Unit) => (stt Ω [] [])) (fun (_ : Unit) _ _ _ => False) hz12 (xi_LF (xe_cat (xe_lst (l := [z1]) (xa_cons (xe_call (xa_cons (xe_var (i := 0) rfl) (xa_cons xe_int xa_nil)) ⟨x0, (0 : Int), z1, rfl, hz1, rfl⟩ cal0) xa_nil) (by show 1 ≤ sizeLine; decide)) (xe_sliceL (xe_var (i := 0) rfl) (xo_some (T := T) xe_int) (xo_some (T := T) xe_int) isL_SF) isLs_LF isLs_LF (chkP_some hz2))) (fun _ => tgt_name) (fun a4 s3 s' ha hm F1 D1 e1 hD => ?_) (fun s13 es => ?_) (fun r1 es => ?_)
  · show XS (tSeq _ _) _ _ [some (va T (SF.mk x0)), some (va T a4), none] (stt Ω [] [])
    obtain ⟨z5, hz5, hm⟩ := bnd_some hm
    refine xs_setO (xn_call (xa_cons (xe_var (i := 1) rfl) xa_nil) ⟨a4, z5, rfl, hz5, rfl⟩ cal0) (fun pp6 => ?_)
    show XS (tIfS _ _ _) _ _ [some (va T (SF.mk x0)), some (va T a4), some (vr pp6)] (stt Ω [] [lstA T pp6 (z5 : List Int)])
    obtain ⟨z8, hz8, hm⟩ := bnd_some hm
    obtain ⟨z9, hz9, hm⟩ := bnd_some hm
    obtain ⟨z10, hz10, hm⟩ := bnd_some hm
    obtain ⟨z11, hz11, hm⟩ := bnd_some hm
    refine xs_ifF1 (xt_orF (xt_notF (xt_eq (xt_tB (T := T) (xe_call (xa_cons (xe_var (i := 2) rfl) xa_nil) ⟨(Ω.length + 0), pp6, z5, z8, rfl, (stt_getL (j := 0) rfl), hz8, rfl⟩ (cal1L (j := 0)))) (chkP_some hz9))) (xt_notF (xt_eq (xt_tB (T := T) (xe_call (xa_cons (xe_var (i := 2) rfl) xa_nil) ⟨(Ω.length + 0), pp6, z8.2, z10, rfl, (stt_getL (j := 0) rfl), hz10, rfl⟩ (cal1L (j := 0)))) (chkP_some hz11)))) ?_
    obtain rfl := Option.some.inj hm
    exact fun σ H n => hD.nx _ rfl σ H (NX.cutL [] [lstA T pp6 (z10.2 : List Int)] ((n.forget 2).forget 1))
  · subst es
    obtain ⟨s2, hs2, hm⟩ := bnd_some hm
    cases hs2
    show XS (tSeq _ _) _ _ [some (va T (SF.mk x0)), none, none] (stt Ω [] [])
    obtain ⟨z14, hz14, hm⟩ := bnd_some hm
    obtain ⟨z15, hz15, hm⟩ := bnd_some hm
    obtain ⟨z16, hz16, hm⟩ := bnd_some hm
    obtain ⟨z17, hz17, hm⟩ := bnd_some hm
    refine xs_ifN (xt_notF (xt_eq (xt_tB (T := T) (xe_callF2 (Ω := Ω) (ks := []) (L := []) (o := fun q => lstA T q (z15 : List Int)) (o2 := fun q => lstA T q z16.2) (xn_call (xa_cons (xe_call (xa_cons (xe_var (i := 0) rfl) (xa_cons xe_int xa_nil)) ⟨x0, (0 : Int), z14, rfl, hz14, rfl⟩ cal0) xa_nil) ⟨z14, z15, rfl, hz15, rfl⟩ cal0) (fun q => xa_nil) (fun q => ⟨(Ω.length + 0), q, z15, z16, rfl, (stt_getL (j := 0) rfl), hz16, rfl⟩) (fun q => cal1L (j := 0)))) (chkP_some hz17))) ?_
    show XS (tRet _) _ _ [some (va T (SF.mk x0)), none, none] (stt Ω [] [])
    obtain ⟨z18, hz18, hm⟩ := bnd_some hm
    obtain ⟨z19, hz19, hm⟩ := bnd_some hm
    obtain rfl := Option.some.inj hm
    refine xs_ret (xe_eq (xe_eqD (chkP_some hz18) (by decide) (xe_mcallF (Ω := Ω) (ks := []) (L := []) (s := (MS.fresh 30 70)) (xn_make (Ds := [va T (30 : Int), va T (70 : Int)]) xa_nil (fun _ => .cons rfl (.cons rfl .nil)) (fun q => ⟨_, q, 30, 70, rfl, by decide, rfl, rfl⟩)) (fun q => ⟨(Ω.length + 0), q, (MS.fresh 30 70), rfl, (stt_getL (j := 0) rfl), rfl⟩) (fun q => rfl)) (xe_tup2 (xa_cons xe_int (xa_cons xe_int xa_nil))) isD_va isD_va) (chkP_some hz19)) hrt.all
  · subst es
    cases hm
end
end P

set_option Elab.async false
set_option linter.all false
set_option maxRecDepth 100000
set_option exponentiation.threshold 4000
namespace P
open PySem L2 VL
/-- a source: three numbers -/
def Src (s : List Int) : Prop := ∃ a b c : Int, s = [a, b, c]
theorem cdiv_log {i j : Int} (h : 0 < j) (h2 : j.natAbs.log2 < 9000) : CDivW i j := ⟨h, h2⟩
theorem cdiv_small {i j : Int} (h : 0 < j) (h2 : j < 2 ^ 64) : CDivW i j := ⟨h, by
  have : j.natAbs < 2 ^ 64 := by omega
  have h0 : j.natAbs ≠ 0 := by omega
  have := (Nat.log2_lt h0 (k := 64)).mpr this
  omega⟩
theorem mul_l {a b : Int} (h1 : -(2 ^ 64) < a) (h2 : a < 2 ^ 64) : IntMulOk a b := .of_left (intBits_le_64 h1 h2)
theorem mul_r {a b : Int} (h1 : -(2 ^ 64) < b) (h2 : b < 2 ^ 64) : IntMulOk a b := .of_right (intBits_le_64 h1 h2)
theorem next_log {s : List Int} {m : Int} (hs : Src s) (h : 0 < m) (h2 : m.natAbs.log2 < 9000) : ∃ r s', M__law_next s m = some (r, s') ∧ Src s' ∧ 0 ≤ r ∧ r < m := by
  obtain ⟨a, b, c, rfl⟩ := hs
  unfold M__law_next
  rw [show atI [a, b, c] (0 : Int) = some a from rfl]
  simp only [Option.bind_some]
  by_cases ha : (0 : Int) < a
  · rw [if_pos (decide_eq_true ha), chkP_eq h, chkP_eq (cdiv_log h h2)]
    exact ⟨_, _, rfl, ⟨_, _, _, rfl⟩, Int.emod_nonneg _ (by omega), Int.emod_lt_of_pos _ h⟩
  · rw [if_neg (by simpa using ha)]
    rw [show atI [a, b, c] (2 : Int) = some c from rfl]
    simp only [Option.bind_some]
    rw [show ixN [a, b, c].length (2 : Int) = some 2 from rfl]
    simp only [Option.bind_some]
    rw [show [a, b, c].set 2 (c + 1) = [a, b, c + 1] from rfl, show atI [a, b, c + 1] (1 : Int) = some b from rfl, show atI [a, b, c + 1] (2 : Int) = some (c + 1) from rfl]
    simp only [Option.bind_some]
    rw [chkP_eq (mul_l (by decide) (by decide)), chkP_eq (by decide : (0 : Int) < 2147483647)]
    simp only [Option.bind_some]
    generalize hy : ((b + 104729 * (c + 1)) + 7919) % (2147483647 : Int) = y
    have hy1 : 0 ≤ y ∧ y < 2147483647 := by omega
    generalize hz : (y * 48271) % (2147483647 : Int) = z
    have hz1 : 0 ≤ z ∧ z < 2147483647 := by omega
    generalize hu : (z * ((z / 1009) + 69621)) % (2147483647 : Int) = u
    have hu1 : 0 ≤ u ∧ u < 2147483647 := by rw [← hu]; exact ⟨Int.emod_nonneg _ (by decide), Int.emod_lt_of_pos _ (by decide)⟩
    rw [chkP_eq (mul_r (by decide) (by decide)), chkP_eq (cdiv_small (by decide) (by decide)), chkP_eq (mul_l (by omega) (by omega)), chkP_eq (cdiv_small (by decide) (by decide)), chkP_eq (mul_l (by omega) (by omega)),
      chkP_eq (by decide : (0 : Int) < 2147483399), chkP_eq (cdiv_small (by decide) (by decide)), chkP_eq h]
    exact ⟨_, _, rfl, ⟨_, _, _, rfl⟩, Int.emod_nonneg _ (by omega), Int.emod_lt_of_pos _ h⟩
theorem next_ok {s : List Int} {m : Int} (hs : Src s) (h : 0 < m) (h2 : m < 2 ^ 64) : ∃ r s', M__law_next s m = some (r, s') ∧ Src s' ∧ 0 ≤ r ∧ r < m := next_log hs h (cdiv_small (i := 0) h h2).2
theorem src_ok (x : Int) : ∃ s, M__law_source_of x = some s ∧ Src s := by
  have key : ∀ z : Int, ∃ s, ((chkP (CPow (10 : Int) (18 : Int))).bind fun z4 => (chkP (IntMulOk z (if (decide (((10 : Int) ^ ((18 : Int)).toNat) ≤ z)) = true then (1 : Int) else 0))).bind fun z5 => (chkP (0 < (2147483647 : Int))).bind fun z6 => some ([(z * (if (decide (((10 : Int) ^ ((18 : Int)).toNat) ≤ z)) = true then (1 : Int) else 0)), (z % (2147483647 : Int)), (0 : Int)] : List Int)) = some s ∧ Src s := fun z => by
    rw [chkP_eq (by unfold CPow; decide), chkP_eq (show IntMulOk z _ from by split <;> exact mul_r (by decide) (by decide)), chkP_eq (by decide : (0 : Int) < 2147483647)]
    exact ⟨_, rfl, _, _, _, rfl⟩
  unfold M__law_source_of
  by_cases h : (0 : Int) ≤ x
  · rw [if_pos (decide_eq_true h)]
    exact key x
  · rw [if_neg (by simpa using h), chkP_eq (mul_l (by decide) (by decide))]
    exact key _
theorem next_s {s : List Int} {m : Int} (hs : Src s) (h : 0 < m) (h2 : m < 2 ^ 64) : Sat (M__law_next s m) (fun r => Src r.2 ∧ 0 ≤ r.1 ∧ r.1 < m) := by
  obtain ⟨r, s', e, h1, h2, h3⟩ := next_ok hs h h2
  exact ⟨_, e, h1, h2, h3⟩
theorem src_s (x : Int) : Sat (M__law_source_of x) Src := src_ok x
theorem power_ok {B : Int} (hB0 : 0 < B) (hB : B ≤ 1073741824) {i : Int} (h0 : 0 ≤ i) (h : i < 2 ^ 62) : M__law_power B i = some (B ^ i.toNat) := by
  have e : ∀ n : Nat, (rng 0 n).foldl (fun (s : Int) (_ : Int) => s * B) 1 = B ^ n := fun n => by
    induction n with
    | zero => rw [Int.pow_zero]; rfl
    | succ n ih =>
      have e : rng 0 (n + 1) = rng 0 n ++ [(0 : Int) + (n : Int)] := by
        unfold rng
        rw [List.range_succ, List.map_append]
        rfl
      rw [e, List.foldl_append, ih, Int.pow_succ]
      rfl
  unfold M__law_power
  rw [chkP_eq (by omega), Option.bind_some, forM_fold (fun (s : Int) (_ : Int) => s * B) (fun _ => True) (fun x _ s _ => ⟨by rw [chkP_eq (mul_r (by omega) (by omega))]; rfl, trivial⟩) trivial, e]
  rfl
theorem cell_ok (ns : List Int) (i : Int) (h : ns.length ≤ 63) : ∃ z, M__law_cell_at ns i = some z := by
  have hc := cut_len ns (some i) (some (i + 1))
  unfold M__law_cell_at
  rw [chkP_eq (size_le (n := (cut ns (some i) (some (i + 1))).length + ([0] : List Int).length) (m := 64) (by show _ + 1 ≤ 64; omega) (by decide)), Option.bind_some]
  have lt : 0 < (cut ns (some i) (some (i + 1)) ++ [(0 : Int)]).length := by rw [List.length_append]; show 0 < _ + 1; omega
  exact ⟨_, bnd_of (atI_nat (j := 0) (List.getElem?_eq_getElem lt)) rfl⟩
/-! ### the program's functions -/
theorem top_ok {W : Nat} (h : W ≤ 30) : M_top_digit (W : Int) = some ((2 ^ W - 1 : Nat) : Int) := by
  unfold M_top_digit
  refine bnd_of (chkP_eq (shl_ok (k := 1) (by decide) (by omega) (by omega))) ?_
  rw [Int.toNat_natCast, Int.one_mul, p2, Int.ofNat_sub (Nat.two_pow_pos W)]
  rfl
theorem size_ok {W : Nat} (h8 : 8 ≤ W) (h : W ≤ 30) (n : Int) : M_size_of (W : Int) n = some ((sz W n.natAbs : Nat) : Int) := by
  unfold M_size_of
  refine bnd_of (chkP_eq (cdiv_s (by omega) (by omega))) ?_
  rw [intBits_abs]
  unfold sz
  congr 1
  rw [show ((bl n.natAbs : Nat) : Int) + (W : Int) - 1 = ((bl n.natAbs + W - 1 : Nat) : Int) from by omega]
  exact (Int.natCast_ediv _ _).symm
theorem kW_le {W k : Nat} (h : W ≤ 30) (hk : k ≤ 4194304) : k * W ≤ 125829120 := Nat.le_trans (Nat.mul_le_mul hk h) (by decide)
theorem low_ok {W k : Nat} (h : W ≤ 30) (n : Int) (hk : k ≤ 4194304) : M_low_part (W : Int) n (k : Int) = some (n % 2 ^ (k * W)) := by
  have hm := kW_le h hk
  unfold M_low_part
  refine bnd_of (chkP_eq (mul_small' (by omega))) ?_
  rw [← Int.natCast_mul]
  refine bnd_of (chkP_eq (shl_ok (k := 1) (by decide) (by omega) (by omega))) ?_
  rw [Int.toNat_natCast, Int.one_mul, p2, ← Int.natCast_one, ← Int.ofNat_sub (Nat.two_pow_pos _), and_low, p2]
theorem row_loop {W : Nat} (h : W ≤ 30) : ∀ (xs : List Int) (n : Int) (row : List Int), row.length + xs.length < 16777216 →
    forM' (ρ := Unit) (fun (a15 : Int) (s14 : Int × (List Int)) => (chkP (s14.2.length < sizeLine)).bind fun z16 => (chkP (0 ≤ (W : Int))).bind fun z17 => (some (s14.1 / 2 ^ ((W : Int)).toNat)).bind fun y18 => some (Stp.nx (y18, (s14.2 ++ [(Builtin.bitAnd s14.1 ((2 ^ W - 1 : Nat) : Int))])))) xs (n, row) = some (.nx (n / 2 ^ (xs.length * W), row ++ rw_ W n xs.length))
  | [], n, row, _ => by
    show some (Stp.nx (n, row)) = some (Stp.nx (n / 2 ^ (0 * W), row ++ []))
    rw [Nat.zero_mul, Int.pow_zero, Int.ediv_one, List.append_nil]
  | x :: r, n, row, hl => by
    rw [List.length_cons] at hl
    rw [forM_cons (s' := (n / 2 ^ W, row ++ [n % 2 ^ W])) (by
      refine bnd_of (chkP_eq (size_lt (m := 16777215) (by show row.length ≤ _; omega) (by decide))) ?_
      refine bnd_of (chkP_eq (by omega)) ?_
      refine bnd_of rfl ?_
      rw [Int.toNat_natCast, and_low]), row_loop h r _ _ (by rw [List.length_append]; show row.length + 1 + r.length < _; omega)]
    rw [ediv_pow, List.length_cons, show W + r.length * W = (r.length + 1) * W from by rw [Nat.succ_mul]; omega, List.append_assoc]
    rfl
theorem row_ok {W : Nat} (h8 : 8 ≤ W) (h : W ≤ 30) : ∀ (f k : Nat) (n : Int), k ≤ 32 * 2 ^ f → k ≤ 4194304 → M_row_of (f + 1) (W : Int) n (k : Int) = some (rw_ W n k) := by
  intro f
  induction f with
  | zero =>
    intro k n hk hk2
    rw [M_row_of_succ, if_neg (by rw [decide_eq_true_iff]; omega)]
    refine bnd_of (top_ok h) ?_
    refine bnd_of rfl ?_
    refine bnd_of (chkP_eq (by omega)) ?_
    rw [Int.toNat_natCast]
    refine bnd_of (row_loop h (rng 0 k) n [] (by rw [rng_len]; show 0 + k < _; omega)) ?_
    rw [rng_len]
    rfl
  | succ f ih =>
    intro k n hk hk2
    rw [M_row_of_succ]
    by_cases q : 32 < k
    · rw [if_pos (decide_eq_true (by omega))]
      refine bnd_of (chkP_eq (cdiv_s (by decide) (by decide))) ?_
      refine bnd_of rfl ?_
      rw [show (k : Int) / 2 = ((k / 2 : Nat) : Int) from rfl]
      have hp : 32 * 2 ^ (f + 1) = 2 * (32 * 2 ^ f) := by rw [Nat.pow_succ]; omega
      have hm := kW_le (k := k / 2) h (by omega)
      refine bnd_of (low_ok h n (by omega)) ?_
      refine bnd_of (ih (k / 2) _ (by omega) (by omega)) ?_
      refine bnd_of (chkP_eq (mul_small' (by omega))) ?_
      rw [← Int.natCast_mul, Int.toNat_natCast, show (k : Int) - ((k / 2 : Nat) : Int) = ((k - k / 2 : Nat) : Int) from by omega]
      refine bnd_of (chkP_eq (by omega)) ?_
      refine bnd_of (ih (k - k / 2) _ (by omega) (by omega)) ?_
      refine bnd_of (chkP_eq (size_le (m := 4194304) (by rw [rw_len, rw_len]; omega) (by decide))) ?_
      rw [rw_mod, ← rw_app, show k / 2 + (k - k / 2) = k from by omega]
    · rw [if_neg (by rw [decide_eq_true_iff]; omega)]
      refine bnd_of (top_ok h) ?_
      refine bnd_of rfl ?_
      refine bnd_of (chkP_eq (by omega)) ?_
      rw [Int.toNat_natCast]
      refine bnd_of (row_loop h (rng 0 k) n [] (by rw [rng_len]; show 0 + k < _; omega)) ?_
      rw [rng_len]
      rfl
/-- the number as the program keeps it -/
abbrev bg (W : Nat) (n : Int) : Bg := ⟨(W : Int), dg W n.natAbs, n⟩
theorem bigof_ok {W : Nat} {S : MS} (hS : S.w = (W : Int)) (h8 : 8 ≤ W) (h : W ≤ 30) {n : Int} (hn : sz W n.natAbs ≤ 4194304) : M_big_of S n = some (bg W n) := by
  unfold M_big_of
  rw [hS]
  refine bnd_of (size_ok h8 h n) ?_
  refine bnd_of (row_ok h8 h 19 _ _ (Nat.le_trans hn (by decide)) hn) ?_
  rw [rw_dg (by omega)]
theorem big_ok {W : Nat} {S : MS} (hS : S.w = (W : Int)) (h8 : 8 ≤ W) (h : W ≤ 30) {n : Int} (hn : sz W n.natAbs ≤ 4194304) : M_big S n = some (bg W n) := by
  unfold M_big
  refine bnd_of (show M_check_machine S = some () from bnd_of (chkP_eq rfl) rfl) ?_
  refine bnd_of (show M_is_integer n = some true from rfl) ?_
  refine bnd_of (chkP_eq rfl) ?_
  exact bnd_of (bigof_ok hS h8 h hn) rfl
theorem fit_ok {W : Nat} {S : MS} (hS : S.w = (W : Int)) (a : Int) (x : Str) : M_check_fit S (bg W a) x = some () := by
  unfold M_check_fit M_check_big
  exact bnd_of (a := ()) (bnd_of (a := ()) (chkP_eq rfl) rfl) (bnd_of (a := ()) (chkP_eq hS.symm) rfl)
theorem one_big {W : Nat} {S : MS} (hS : S.w = (W : Int)) (a : Int) : M_check_one S (bg W a) = some () := by
  unfold M_check_one M_check_machine
  exact bnd_of (a := ()) (bnd_of (a := ()) (chkP_eq rfl) rfl) (bnd_of (fit_ok hS a _) rfl)
theorem two_ok {W : Nat} {S : MS} (hS : S.w = (W : Int)) (a b : Int) : M_check_two S (bg W a) (bg W b) = some () := by
  unfold M_check_two
  exact bnd_of (one_big hS a) (bnd_of (fit_ok hS b _) rfl)
/-- both have at most one digit -/
def cpt (W : Nat) (x y : Int) : Bool := decide (sz W x.natAbs ≤ 1) && decide (sz W y.natAbs ≤ 1)
theorem compact_ok {W : Nat} {S : MS} (hS : S.w = (W : Int)) (hw : W ≠ 0) (x y : Int) : M_are_compact S x y = some (cpt W x y) := by
  unfold M_are_compact cpt
  rw [hS, intBits_abs, intBits_abs]
  have e : ∀ n : Int, decide (((bl n.natAbs : Nat) : Int) ≤ (W : Int)) = decide (sz W n.natAbs ≤ 1) := fun n => decide_eq_decide.mpr (by rw [sz_one hw]; omega)
  rw [e, e]
/-- what comparing two rows of one size counts -/
def lookN (W a b : Nat) : Int := ((sz W a : Nat) : Int) - max (((sz W (a ^^^ b) : Nat) : Int) - 1) 0
theorem ldiff_ok {W : Nat} {S : MS} (hS : S.w = (W : Int)) (h8 : 8 ≤ W) (h : W ≤ 30) (a b : Nat) : M_last_difference S (a : Int) (b : Int) = some (((sz W (a ^^^ b) : Nat) : Int) - 1, S.step "looked" (lookN W a b)) := by
  unfold M_last_difference
  rw [hS]
  refine bnd_of (size_ok h8 h _) ?_
  refine bnd_of (size_ok h8 h _) ?_
  refine bnd_of rfl ?_
  refine bnd_of (chkP_eq (by decide +kernel)) ?_
  rw [bxor_nat, Int.natAbs_natCast, Int.natAbs_natCast]
  rfl
def addS (S : MS) (m n : Int) : MS := (S.enter "add" m n).step "sum" (max m n)
def takS (W : Nat) (S : MS) (a b : Nat) : MS := if sz W a = sz W b then ((S.enter "take" (sz W a : Nat) (sz W b : Nat)).step "looked" (lookN W a b)).step "sum" (sz W (a ^^^ b) : Nat) else (S.enter "take" (sz W a : Nat) (sz W b : Nat)).step "sum" (max ((sz W a : Nat) : Int) (sz W b : Nat))
/-- what a sum (t = 1), a difference (t = -1) counts -/
def joinS (W : Nat) (S : MS) (x y t : Int) : MS :=
  if cpt W x y = true then S.step "short" 1 else
  if decide (decide (x < 0) = decide (y < 0)) = decide (t = 1) then addS S (sz W x.natAbs : Nat) (sz W y.natAbs : Nat) else
  if x < 0 then takS W S y.natAbs x.natAbs else takS W S x.natAbs y.natAbs
theorem added_ok (S : MS) (a m b n : Int) : M_added S a m b n = some (a + b, addS S m n) := by
  unfold M_added
  exact bnd_of (chkP_eq (by decide +kernel)) rfl
theorem taken_ok {W : Nat} {S : MS} (hS : S.w = (W : Int)) (h8 : 8 ≤ W) (h : W ≤ 30) (a b : Nat) : M_taken S (a : Int) (b : Int) = some ((a : Int) - b, takS W S a b) := by
  unfold M_taken takS
  rw [hS]
  refine bnd_of (size_ok h8 h _) ?_
  refine bnd_of (size_ok h8 h _) ?_
  rw [Int.natAbs_natCast, Int.natAbs_natCast]
  by_cases e : sz W a = sz W b
  · rw [if_pos (decide_eq_true (by rw [e])), if_pos e]
    refine bnd_of (bnd_of (ldiff_ok (S := S.enter "take" (sz W a : Nat) (sz W b : Nat)) hS h8 h a b) (bnd_of (chkP_eq (by decide +kernel)) rfl)) ?_
    rw [show ((sz W (a ^^^ b) : Nat) : Int) - 1 + 1 = ((sz W (a ^^^ b) : Nat) : Int) from by omega]
  · rw [if_neg (by rw [decide_eq_true_iff]; omega), if_neg e]
    exact bnd_of (bnd_of (chkP_eq (by decide +kernel)) rfl) rfl
theorem joined_ok {W : Nat} {S : MS} (hS : S.w = (W : Int)) (h8 : 8 ≤ W) (h : W ≤ 30) {x y t : Int} (ht : t = 1 ∨ t = -1) : M_joined S x y t = some (x + t * y, joinS W S x y t) := by
  unfold M_joined joinS
  refine bnd_of (compact_ok hS (by omega) x y) ?_
  by_cases q : cpt W x y = true
  · rw [if_pos q, if_pos q]
    refine bnd_of (chkP_eq (by decide +kernel)) ?_
    exact bnd_of (chkP_eq (mul_small (by rcases ht with e | e <;> subst e <;> decide))) rfl
  · rw [if_neg q, if_neg q]
    by_cases s : decide (decide (x < 0) = decide (y < 0)) = decide (t = 1)
    · rw [if_pos (decide_eq_true s), if_pos s, hS]
      refine bnd_of (size_ok h8 h _) ?_
      refine bnd_of (size_ok h8 h _) ?_
      refine bnd_of (added_ok _ _ _ _ _) ?_
      congr 2
      by_cases x0 : x < 0
      · rw [if_pos (decide_eq_true x0)]
        by_cases y0 : y < 0
        · rw [decide_eq_true x0, decide_eq_true y0] at s
          rcases ht with e | e
          · subst e; omega
          · subst e; exact absurd s (by decide)
        · rw [decide_eq_true x0, decide_eq_false y0] at s
          rcases ht with e | e
          · subst e; exact absurd s (by decide)
          · subst e; omega
      · rw [if_neg (by simpa using x0)]
        by_cases y0 : y < 0
        · rw [decide_eq_false x0, decide_eq_true y0] at s
          rcases ht with e | e
          · subst e; exact absurd s (by decide)
          · subst e; omega
        · rw [decide_eq_false x0, decide_eq_false y0] at s
          rcases ht with e | e
          · subst e; omega
          · subst e; exact absurd s (by decide)
    · rw [if_neg (by simpa using s), if_neg s]
      have key : (x < 0 → ((y.natAbs : Nat) : Int) - ((x.natAbs : Nat) : Int) = x + t * y) ∧ (¬ x < 0 → ((x.natAbs : Nat) : Int) - ((y.natAbs : Nat) : Int) = x + t * y) := by
        by_cases x0 : x < 0 <;> by_cases y0 : y < 0 <;> rcases ht with e | e <;> subst e <;> first | exact ⟨fun _ => by omega, fun _ => by omega⟩ | exact absurd (by simp [x0, y0]) s
      by_cases x0 : x < 0
      · rw [if_pos (decide_eq_true x0), if_pos x0]
        refine bnd_of (taken_ok hS h8 h _ _) ?_
        rw [key.1 x0]
      · rw [if_neg (by simpa using x0), if_neg x0]
        refine bnd_of (taken_ok hS h8 h _ _) ?_
        rw [key.2 x0]
theorem joinS_w {W : Nat} {S : MS} {x y t : Int} : (joinS W S x y t).w = S.w := by
  have h1 : ∀ (S : MS) (w : Str) (n : Int), (S.step w n).w = S.w := fun _ _ _ => rfl
  have h2 : ∀ (S : MS) (w : Str) (m n : Int), (S.enter w m n).w = S.w := fun _ _ _ _ => rfl
  unfold joinS addS takS
  (repeat' split) <;> rfl
theorem sum_sz {W : Nat} (h8 : 8 ≤ W) {x y t : Int} (ht : t = 1 ∨ t = -1) (hx : sz W x.natAbs ≤ 4194303) (hy : sz W y.natAbs ≤ 4194303) : sz W (x + t * y).natAbs ≤ 4194304 := by
  rw [sz_le (by omega)] at hx hy ⊢
  rw [show W * 4194304 = W * 4194303 + W from by omega, Nat.pow_add]
  have : 2 ^ 8 ≤ 2 ^ W := Nat.pow_le_pow_right (by decide) h8
  have h2 : 2 ^ (W * 4194303) * 2 ≤ 2 ^ (W * 4194303) * 2 ^ W := Nat.mul_le_mul_left _ (by omega)
  generalize 2 ^ (W * 4194303) = Q at *
  generalize Q * 2 ^ W = R at *
  have : (x + t * y).natAbs ≤ x.natAbs + y.natAbs := by rcases ht with e | e <;> subst e <;> omega
  omega
theorem add_ok {W : Nat} {S : MS} (hS : S.w = (W : Int)) (h8 : 8 ≤ W) (h : W ≤ 30) {x y : Int} (hx : sz W x.natAbs ≤ 4194303) (hy : sz W y.natAbs ≤ 4194303) : M_add S (bg W x) (bg W y) = some (bg W (x + y), joinS W S x y 1) := by
  unfold M_add
  refine bnd_of (two_ok hS x y) ?_
  refine bnd_of (joined_ok hS h8 h (.inl rfl)) ?_
  refine bnd_of (bigof_ok (joinS_w.trans hS) h8 h (sum_sz h8 (.inl rfl) hx hy)) ?_
  rw [Int.one_mul]
theorem sub_ok {W : Nat} {S : MS} (hS : S.w = (W : Int)) (h8 : 8 ≤ W) (h : W ≤ 30) {x y : Int} (hx : sz W x.natAbs ≤ 4194303) (hy : sz W y.natAbs ≤ 4194303) : M_subtract S (bg W x) (bg W y) = some (bg W (x - y), joinS W S x y (-1)) := by
  unfold M_subtract
  refine bnd_of (two_ok hS x y) ?_
  refine bnd_of (joined_ok hS h8 h (.inr rfl)) ?_
  refine bnd_of (bigof_ok (joinS_w.trans hS) h8 h (sum_sz h8 (.inr rfl) hx hy)) ?_
  rw [show x + -1 * y = x - y from by omega]
theorem cut_take {α : Type} (l : List α) {k : Nat} (hk : k ≤ l.length) : cut l none (some (k : Int)) = l.take k := by
  have h1 : HT.sIx l.length 0 none = 0 := rfl
  have h2 : HT.sIx l.length l.length (some (k : Int)) = k := by rw [HT.sIx_nat, Nat.min_eq_left hk]
  unfold cut
  rw [h1, h2, List.drop_zero, Nat.sub_zero]
theorem words_ok : M__law_words = some mwords := by
  unfold M__law_words
  refine bnd_of rfl ?_
  exact bnd_of (chkP_eq (size_le (m := 10) (by show 10 ≤ 10; decide) (by decide))) rfl
theorem mach_eq (w c w2 c2 : Int) : M_Mach_eq (MS.fresh w c) (MS.fresh w2 c2) = some (decide (w = w2) && decide (c = c2)) := rfl
theorem szp {W m : Nat} (hw : W ≠ 0) : sz W (2 ^ (W * m) - 1) = m := eq_of_le fun k => by
  rw [sz_le hw]
  constructor
  · intro h
    by_cases q : m ≤ k
    · exact q
    · exfalso
      have h1 : 2 ^ (W * k + 1) ≤ 2 ^ (W * m) := Nat.pow_le_pow_right (by decide) (by
        have := Nat.mul_le_mul_left W (show k + 1 ≤ m by omega)
        rw [Nat.mul_succ] at this
        omega)
      have p0 := Nat.two_pow_pos (W * k)
      rw [Nat.pow_succ] at h1
      omega
  · intro h
    have h1 : 2 ^ (W * m) ≤ 2 ^ (W * k) := Nat.pow_le_pow_right (by decide) (Nat.mul_le_mul_left W h)
    have := Nat.two_pow_pos (W * m)
    omega
theorem xm_abs (W m : Nat) : (((2 : Int) ^ W) ^ m - 1).natAbs = 2 ^ (W * m) - 1 ∧ 0 ≤ ((2 : Int) ^ W) ^ m - 1 := by
  rw [← Int.pow_mul, p2]
  have := Nat.two_pow_pos (W * m)
  omega
theorem join_pow {W : Nat} (hw : W ≠ 0) (S : MS) (m n : Nat) : joinS W S (((2 : Int) ^ W) ^ m - 1) (((2 : Int) ^ W) ^ n - 1) 1 = if m ≤ 1 ∧ n ≤ 1 then S.step "short" 1 else addS S (m : Int) (n : Int) := by
  obtain ⟨a1, a2⟩ := xm_abs W m
  obtain ⟨b1, b2⟩ := xm_abs W n
  unfold joinS cpt
  rw [a1, b1, szp hw, szp hw]
  by_cases q : m ≤ 1 ∧ n ≤ 1
  · rw [if_pos q, if_pos (by rw [decide_eq_true q.1, decide_eq_true q.2]; rfl)]
  · rw [if_neg q, if_neg (by simpa using q), if_pos (by rw [decide_eq_false (show ¬ ((2 : Int) ^ W) ^ m - 1 < 0 by omega), decide_eq_false (show ¬ ((2 : Int) ^ W) ^ n - 1 < 0 by omega)]; rfl)]
theorem ne_ss : ("sum" : Str) ≠ ("short" : Str) := by decide +kernel
def dd (a b : Int) : List (Str × Int) := [(("short" : Str), a), (("sum" : Str), b)]
def cf (a b : Int) : Str → Int := fun w => if w = ("short" : Str) then a else if w = ("sum" : Str) then b else 0
theorem dd_lk (a b : Int) (w : Str) : (dd a b).lookup w = if w = ("short" : Str) then some a else if w = ("sum" : Str) then some b else none := by
  unfold dd
  by_cases h1 : w = ("short" : Str)
  · subst h1; rw [if_pos rfl, lookup_self]
  · rw [if_neg h1, lookup_skip h1]
    by_cases h2 : w = ("sum" : Str)
    · subst h2; rw [if_pos rfl, lookup_self]
    · rw [if_neg h2, lookup_skip h2]
      rfl
theorem dd_p1 (a b v : Int) : dput (dd a b) ("short" : Str) v = dd v b := by
  have ne := ne_ss
  unfold dput dd
  simp [ne]
theorem dd_p2 (a b v : Int) : dput (dd a b) ("sum" : Str) v = dd a v := by
  have ne := ne_ss
  unfold dput dd
  simp [ne.symm]
theorem cf_short (S : MS) {a b : Int} (h : S.cnt = cf a b) (n : Int) : (S.step "short" n).cnt = cf (a + n) b := by
  show (fun x => if x = ("short" : Str) then S.cnt x + n else S.cnt x) = _
  rw [h]
  funext x
  unfold cf
  by_cases q : x = ("short" : Str)
  · rw [if_pos q, if_pos q, if_pos q]
  · rw [if_neg q, if_neg q, if_neg q]
theorem cf_sum (S : MS) {a b : Int} (h : S.cnt = cf a b) (n : Int) : (S.step "sum" n).cnt = cf a (b + n) := by
  show (fun x => if x = ("sum" : Str) then S.cnt x + n else S.cnt x) = _
  rw [h]
  funext x
  unfold cf
  by_cases q : x = ("sum" : Str)
  · subst q
    rw [if_pos rfl, if_neg ne_ss, if_neg ne_ss, if_pos rfl, if_pos rfl]
  · rw [if_neg q, if_neg q, if_neg q]
theorem lk_words (a b : Int) : lcM (fun (a29 : Str) (s28 : Unit) => (if ((dd a b).lookup a29).isSome = true then ((dd a b).lookup a29).bind fun z30 => some z30 else some (0 : Int)).bind fun z31 => some (some (a29, z31), ())) mwords () = some (mwords.map (fun w => (w, cf a b w)), ()) := by
  refine lcM_mapU fun x _ => ?_
  rw [dd_lk]
  unfold cf
  by_cases h1 : x = ("short" : Str)
  · rw [if_pos h1, if_pos h1]; rfl
  · rw [if_neg h1, if_neg h1]
    by_cases h2 : x = ("sum" : Str)
    · rw [if_pos h2, if_pos h2]; rfl
    · rw [if_neg h2, if_neg h2]; rfl
theorem mword_lay : ∀ w ∈ mwords, (PyData.str w).canLay0 = true := by decide +kernel
theorem tally_dat (S : MS) : Dat.ok (LF.mk S.tally) := fun x hx => ⟨mword_lay x.1 (mem_tally.mp hx).1, trivial⟩
theorem tally_len (S : MS) : S.tally.length = 10 := by unfold MS.tally; rw [List.length_map]; rfl
def In4 (W : Nat) (c : Int) (i : Nat) (s : List Int × MS × List (Str × Int) × List (T3 Str Int Int)) : Prop :=
  Src s.1 ∧ s.2.1.w = (W : Int) ∧ s.2.1.c = c ∧ (∃ a b : Int, s.2.2.1 = dd a b ∧ s.2.1.cnt = cf a b) ∧ s.2.1.wk = s.2.2.2 ∧ s.2.2.2.length ≤ i ∧ WkOk s.2.2.2
section
variable {W : Nat} {c : Int} (h8 : 8 ≤ W) (h : W ≤ 30)
include h8 h in
theorem counts_ok {s : List Int} (hs : Src s) : Sat (M__law_counts_right s (MS.fresh (W : Int) c) (MS.fresh (W : Int) c) (2 ^ W)) (fun r => r.1 = true ∧ Src r.2.1) := by
  have hw : W ≠ 0 := by omega
  have hW := ppos W
  have B2 : (2 : Int) ^ W ≤ 1073741824 := ipow_le (b := 2) (j := 30) (by decide) h
  unfold M__law_counts_right
  refine sat_chk (by
    have := ne_ss
    simp [this.symm]) ?_
  refine sat_bind (next_s hs (by decide) (by decide)) fun r1 ⟨g1, a1, b1⟩ => ?_
  refine sat_chk (by omega) ?_
  refine sat_for (In4 W c) (fun i x st hx ⟨q1, q2, q3, ⟨a, b, q4, q5⟩, q6, q7, q8⟩ => ?_) ⟨g1, rfl, rfl, ⟨0, 0, rfl, ?_⟩, rfl, Nat.le_refl _, wkok_nil⟩ fun st ⟨q1, q2, q3, ⟨a, b, q4, q5⟩, q6, q7, q8⟩ => ?_
  · obtain ⟨s0, S, l, wl⟩ := st
    have q1 : Src s0 := q1
    have q2 : S.w = (W : Int) := q2
    have q4 : l = dd a b := q4
    have q5 : S.cnt = cf a b := q5
    have q6 : S.wk = wl := q6
    have q7 : wl.length ≤ i := q7
    have q8 : WkOk wl := q8
    obtain ⟨hi, _⟩ := rng_get hx
    refine sat_bind (next_s q1 (by decide) (by decide)) fun r2 ⟨g2, a2, b2⟩ => ?_
    refine sat_bind (next_s g2 (by decide) (by decide)) fun r3 ⟨g3, a3, b3⟩ => ?_
    obtain ⟨m, em⟩ := Int.eq_ofNat_of_zero_le a2
    obtain ⟨n, en⟩ := Int.eq_ofNat_of_zero_le a3
    rw [em, en]
    have pw : ∀ k : Nat, k ≤ 4 → M__law_power (2 ^ W) (k : Int) = some ((2 ^ W) ^ k) := fun k hk => by rw [power_ok hW B2 (by omega) (by omega), Int.toNat_natCast]
    have bg_ : ∀ k : Nat, k ≤ 4 → M_big S ((2 ^ W) ^ k - 1) = some (bg W ((2 ^ W) ^ k - 1)) := fun k hk => big_ok q2 h8 h (by rw [(xm_abs W k).1, szp hw]; omega)
    refine sat_eq (pw m (by omega)) ?_
    refine sat_eq (bg_ m (by omega)) ?_
    refine sat_eq (pw n (by omega)) ?_
    refine sat_eq (bg_ n (by omega)) ?_
    refine sat_eq (add_ok q2 h8 h (by rw [(xm_abs W m).1, szp hw]; omega) (by rw [(xm_abs W n).1, szp hw]; omega)) ?_
    rw [join_pow hw]
    by_cases q : m ≤ 1 ∧ n ≤ 1
    · rw [if_pos q, decide_eq_true (show (m : Int) < 2 by omega), decide_eq_true (show (n : Int) < 2 by omega), if_pos (show (true && true) = true from rfl)]
      show Sat ((l.lookup ("short" : Str)).bind _) _
      rw [q4, dd_lk, if_pos rfl]
      refine sat_let ?_
      refine sat_chk (size_lt (m := 2) (Nat.le_refl 2) (by decide)) ?_
      refine sat_some ⟨_, rfl, g3, q2, q3, ⟨a + 1, b, dd_p1 a b _, cf_short S q5 1⟩, q6, by show wl.length ≤ i + 1; omega, q8⟩
    · rw [if_neg q, if_neg (by
        rw [Bool.and_eq_true, decide_eq_true_iff, decide_eq_true_iff]
        omega)]
      show Sat ((l.lookup ("sum" : Str)).bind _) _
      rw [q4, dd_lk, if_neg ne_ss, if_pos rfl]
      refine sat_let ?_
      refine sat_chk (size_lt (m := 2) (Nat.le_refl 2) (by decide)) ?_
      refine sat_chk (size_lt (m := 100) (by show wl.length ≤ 100; omega) (by decide)) ?_
      have ew : (addS S (m : Int) (n : Int)).wk = wl ++ [T3.mk ("add" : Str) (m : Int) (n : Int)] := by
        show (S.enter "add" (m : Int) (n : Int)).wk = _
        rw [wk_enter (by rw [q6]; omega), q6]
      refine sat_some ⟨_, rfl, g3, q2, q3, ⟨a, b + max (m : Int) (n : Int), dd_p2 a b _, cf_sum (S.enter "add" (m : Int) (n : Int)) q5 _⟩, ew, by show (wl ++ [_]).length ≤ i + 1; rw [List.length_append]; show wl.length + 1 ≤ _; omega, fun x hx => ?_⟩
      rcases List.mem_append.mp hx with hx | hx
      · exact q8 x hx
      · exact wkok_one (by decide +kernel) x hx
  · funext w
    show (0 : Int) = if w = ("short" : Str) then 0 else if w = ("sum" : Str) then 0 else 0
    by_cases h1 : w = ("short" : Str)
    · rw [if_pos h1]
    · rw [if_neg h1]
      by_cases h2 : w = ("sum" : Str)
      · rw [if_pos h2]
      · rw [if_neg h2]
  · obtain ⟨s0, S, l, wl⟩ := st
    have q1 : Src s0 := q1
    have q2 : S.w = (W : Int) := q2
    have q3 : S.c = c := q3
    have q4 : l = dd a b := q4
    have q5 : S.cnt = cf a b := q5
    have q6 : S.wk = wl := q6
    have q7 : wl.length ≤ (rng 0 r1.1.toNat).length := q7
    rw [rng_len] at q7
    have q8 : WkOk wl := q8
    have et : S.tally = mwords.map (fun w => (w, cf a b w)) := by unfold MS.tally; rw [q5]
    have er : S.reset = MS.fresh (W : Int) c := by
      show MS.fresh S.w S.c = _
      rw [q2, q3]
    have lw : mwords.length ≤ sizeLine := size_le (m := 10) (by show 10 ≤ 10; decide) (by decide)
    refine sat_nx ?_
    dsimp only
    rw [q4]
    refine sat_eq words_ok ?_
    refine sat_chk lw ?_
    refine sat_eq (lk_words a b) ?_
    refine sat_chk ⟨by rw [et], tally_dat S⟩ ?_
    refine sat_chk ⟨by rw [q6], by rw [q6]; exact wkok_dat q8⟩ ?_
    refine sat_chk (size_lt (m := 10) (by rw [tally_len]; omega) (by decide)) ?_
    refine sat_chk (size_lt (m := 100) (by rw [q6]; omega) (by decide)) ?_
    refine sat_chk ⟨by rw [q6], by rw [q6]; exact wkok_dat q8⟩ ?_
    refine sat_chk (by rw [tally_len]; rfl) ?_
    refine sat_eq (a := true) (by
      show some (true && (decide (S.w = (W : Int)) && decide (S.c = c))) = some true
      rw [decide_eq_true q2, decide_eq_true q3]
      rfl) ?_
    refine sat_chk rfl ?_
    refine sat_chk ⟨rfl, fun x hx => (by cases hx)⟩ ?_
    refine sat_chk rfl ?_
    rw [er]
    refine sat_chk ⟨rfl, tally_dat _⟩ ?_
    refine sat_chk ⟨rfl, fun x hx => (by cases hx)⟩ ?_
    refine sat_eq words_ok ?_
    refine sat_chk lw ?_
    refine sat_eq (lk_words a b) ?_
    have ec : cut (S.tally ++ [(("more" : Str), (1 : Int))]) none (some (10 : Int)) = mwords.map (fun w => (w, cf a b w)) := by
      have := cut_take (S.tally ++ [(("more" : Str), (1 : Int))]) (k := 10) (by rw [List.length_append, tally_len]; decide)
      rw [show ((10 : Nat) : Int) = 10 from rfl] at this
      rw [this, List.take_left' (tally_len S), et]
    have ed : Dat.ok (LF.mk (mwords.map (fun w => (w, cf a b w)))) := by
      have := tally_dat S
      rwa [et] at this
    rw [ec]
    refine sat_chk ⟨ed, ed⟩ ?_
    refine sat_chk (eqD_iff.mpr rfl) ?_
    exact sat_some ⟨rfl, q1⟩
end
theorem right_ok {s : List Int} (hs : Src s) : Sat (M__law_right s) (fun r => r.1 = true ∧ Src r.2) := by
  unfold M__law_right
  refine sat_bind (next_s hs (by decide) (by decide)) fun r1 ⟨g1, a1, b1⟩ => ?_
  refine sat_bind (next_s g1 (by decide) (by decide)) fun r2 ⟨g2, a2, b2⟩ => ?_
  obtain ⟨W, eW⟩ := Int.eq_ofNat_of_zero_le (a := 8 + r1.1) (by omega)
  rw [eW]
  refine sat_let ?_
  have h8 : 8 ≤ W := by omega
  have h : W ≤ 30 := by omega
  generalize ec : (2 : Int) + r2.1 = c
  have c0 : 2 ≤ c ∧ c ≤ 1000 := by omega
  refine sat_let ?_
  refine sat_chk (by omega) ?_
  refine sat_chk (by omega) ?_
  refine sat_chk ⟨rfl, trivial, trivial⟩ ?_
  refine sat_eq (mach_eq _ _ _ _) ?_
  refine sat_chk (by rw [decide_eq_true rfl, decide_eq_true rfl]; rfl) ?_
  refine sat_chk (by split <;> omega) ?_
  refine sat_eq (mach_eq _ _ _ _) ?_
  refine sat_chk (by
    rw [decide_eq_true rfl, Bool.true_and]
    by_cases q : 2 < c
    · rw [if_pos (decide_eq_true q), decide_eq_false (by omega)]
    · rw [if_neg (by simpa using q), decide_eq_false (by omega)]) ?_
  refine sat_chk rfl ?_
  refine sat_chk (by split <;> rename_i q <;> simp only [decide_eq_true_eq] at q <;> omega) ?_
  refine sat_eq (mach_eq _ _ _ _) ?_
  refine sat_chk (by
    by_cases q : (8 : Int) < (W : Int)
    · rw [if_pos (decide_eq_true q), decide_eq_false (by omega)]; rfl
    · rw [if_neg (by simpa using q), decide_eq_false (by omega)]; rfl) ?_
  refine sat_eq words_ok ?_
  refine sat_chk (size_le (m := 10) (by show 10 ≤ 10; decide) (by decide)) ?_
  refine sat_eq (lcM_mapU (f := fun w => (w, (0 : Int))) fun x _ => rfl) ?_
  refine sat_chk ⟨rfl, tally_dat _⟩ ?_
  refine sat_chk (shl_ok (k := 1) (by decide) (by omega) (by omega)) ?_
  rw [Int.one_mul, Int.toNat_natCast]
  refine sat_bind (counts_ok h8 h g2) fun r3 ⟨t3, g3⟩ => ?_
  refine sat_chk t3 ?_
  exact sat_some ⟨rfl, g3⟩
/-! ### a long walk -/
theorem flatG {α : Type} (x : α) : ∀ k : Nat, (List.replicate k [x]).flatten = List.replicate k x
  | 0 => rfl
  | k + 1 => by rw [List.replicate_succ, List.flatten_cons, flatG x k]; rfl
def tA : T3 Str Int Int := T3.mk "add" 3 2
def tB : T3 Str Int Int := T3.mk "take" 3 2
def wkOf (i : Nat) : List (T3 Str Int Int) := List.replicate (min i 500) tA ++ List.replicate (min i 1000 - 500) tB
theorem wkOf_len (i : Nat) : (wkOf i).length = min i 1000 := by
  unfold wkOf
  rw [List.length_append, List.length_replicate, List.length_replicate]
  omega
theorem wkOf_add {i : Nat} (h : i < 500) : wkOf i ++ [tA] = wkOf (i + 1) := by
  unfold wkOf
  rw [show min i 500 = i by omega, show min i 1000 - 500 = 0 by omega, show min (i + 1) 500 = i + 1 by omega, show min (i + 1) 1000 - 500 = 0 by omega, List.replicate_zero, List.append_nil, List.append_nil, List.replicate_succ']
theorem wkOf_take {i : Nat} (h : 500 ≤ i) (h2 : i < 1000) : wkOf i ++ [tB] = wkOf (i + 1) := by
  unfold wkOf
  rw [show min i 500 = 500 by omega, show min i 1000 - 500 = i - 500 by omega, show min (i + 1) 500 = 500 by omega, show min (i + 1) 1000 - 500 = i - 500 + 1 by omega, show List.replicate (i - 500 + 1) tB = List.replicate (i - 500) tB ++ [tB] from List.replicate_succ', List.append_assoc]
theorem wkOf_full {i : Nat} (h : 1000 ≤ i) : wkOf i = wkOf (i + 1) := by
  unfold wkOf
  rw [show min i 500 = 500 by omega, show min i 1000 - 500 = 500 by omega, show min (i + 1) 500 = 500 by omega, show min (i + 1) 1000 - 500 = 500 by omega]
theorem wkOf_ok (i : Nat) : WkOk (wkOf i) := fun x hx => by
  unfold wkOf at hx
  rcases List.mem_append.mp hx with hx | hx
  · rw [(List.mem_replicate.mp hx).2]; show (PyData.str ("add" : Str)).canLay0 = true; decide +kernel
  · rw [(List.mem_replicate.mp hx).2]; show (PyData.str ("take" : Str)).canLay0 = true; decide +kernel
def InL (i : Nat) (S : MS) : Prop := S.w = ((8 : Nat) : Int) ∧ S.wk = wkOf i ∧ S.cnt = cf 0 (3 * (i : Int))
theorem inl_add {i : Nat} {S : MS} (h : InL i S) (q : i < 500) : InL (i + 1) ((S.enter "add" 3 2).step "sum" 3) := by
  obtain ⟨h1, h2, h3⟩ := h
  refine ⟨h1, ?_, ?_⟩
  · show (S.enter "add" 3 2).wk = _
    rw [wk_enter (by rw [h2, wkOf_len]; omega), h2]
    exact wkOf_add q
  · rw [cf_sum (S.enter "add" 3 2) h3]
    congr 1 <;> omega
theorem inl_take {i : Nat} {S : MS} (h : InL i S) (q : 500 ≤ i) : InL (i + 1) ((S.enter "take" 3 2).step "sum" 3) := by
  obtain ⟨h1, h2, h3⟩ := h
  refine ⟨h1, ?_, ?_⟩
  · by_cases f : i < 1000
    · show (S.enter "take" 3 2).wk = _
      rw [wk_enter (by rw [h2, wkOf_len]; omega), h2]
      exact wkOf_take q f
    · show (if S.wk.length < 1000 then S.wk ++ [T3.mk ("take" : Str) (3 : Int) (2 : Int)] else S.wk) = _
      rw [if_neg (by rw [h2, wkOf_len]; omega), h2]
      exact wkOf_full (by omega)
  · rw [cf_sum (S.enter "take" 3 2) h3]
    congr 1 <;> omega
theorem sz3 : sz 8 70000 = 3 := by decide +kernel
theorem sz2 : sz 8 300 = 2 := by decide +kernel
theorem join_a (S : MS) : joinS 8 S 70000 300 1 = (S.enter "add" 3 2).step "sum" 3 := by
  unfold joinS cpt
  rw [show (70000 : Int).natAbs = 70000 from rfl, show (300 : Int).natAbs = 300 from rfl, sz3, sz2]
  rfl
theorem join_t (S : MS) : joinS 8 S 70000 300 (-1) = (S.enter "take" 3 2).step "sum" 3 := by
  unfold joinS cpt takS
  rw [show (70000 : Int).natAbs = 70000 from rfl, show (300 : Int).natAbs = 300 from rfl, sz3, sz2]
  rfl
theorem long_ok {s : List Int} (hs : Src s) : Sat (M__law_long_right s) (fun r => r.1 = true) := by
  unfold M__law_long_right
  refine sat_chk (by omega) ?_
  refine sat_let ?_
  refine sat_bind (next_s hs (by decide) (by decide)) fun r1 ⟨g1, a1, b1⟩ => ?_
  obtain ⟨k, ek⟩ := Int.eq_ofNat_of_zero_le (a := 995 + r1.1) (by omega)
  rw [ek]
  refine sat_let ?_
  have k1 : 995 ≤ k ∧ k < 1015 := by omega
  refine sat_eq (big_ok (W := 8) (n := 70000) rfl (by decide) (by decide) (by show sz 8 70000 ≤ _; rw [sz3]; decide)) ?_
  refine sat_eq (big_ok (W := 8) (n := 300) rfl (by decide) (by decide) (by show sz 8 300 ≤ _; rw [sz2]; decide)) ?_
  refine sat_chk (by omega) ?_
  rw [Int.toNat_natCast]
  refine sat_for InL (fun i x S hx hS => ?_) ⟨rfl, rfl, ?_⟩ fun S hS => ?_
  · obtain ⟨hi, ex⟩ := rng_get hx
    by_cases q : i < 500
    · rw [if_pos (decide_eq_true (by omega))]
      have e := add_ok (W := 8) (S := S) hS.1 (by decide) (by decide) (x := 70000) (y := 300) (by show sz 8 70000 ≤ _; rw [sz3]; decide) (by show sz 8 300 ≤ _; rw [sz2]; decide)
      rw [join_a] at e
      rw [e]
      exact sat_some ⟨_, rfl, inl_add hS q⟩
    · rw [if_neg (by rw [decide_eq_true_iff]; omega)]
      have e := sub_ok (W := 8) (S := S) hS.1 (by decide) (by decide) (x := 70000) (y := 300) (by show sz 8 70000 ≤ _; rw [sz3]; decide) (by show sz 8 300 ≤ _; rw [sz2]; decide)
      rw [join_t] at e
      rw [e]
      exact sat_some ⟨_, rfl, inl_take hS (by omega)⟩
  · funext w
    show (0 : Int) = if w = ("short" : Str) then 0 else if w = ("sum" : Str) then 3 * 0 else 0
    by_cases h1 : w = ("short" : Str)
    · rw [if_pos h1]
    · rw [if_neg h1]
      by_cases h2 : w = ("sum" : Str)
      · rw [if_pos h2]
        rfl
      · rw [if_neg h2]
  · rw [rng_len] at hS
    obtain ⟨w1, w2, w3⟩ := hS
    refine sat_nx ?_
    have e1 : (min (k : Int) 1000 - 500).toNat = min k 1000 - 500 := by omega
    have e5 : ((500 : Int)).toNat = 500 := rfl
    rw [e1, e5, flatG, flatG]
    refine sat_chk ⟨by omega, size_le (m := 500) (by show 1 * 500 ≤ 500; decide) (by decide)⟩ ?_
    refine sat_chk ⟨by omega, size_le (m := 500) (by show 1 * (min k 1000 - 500) ≤ 500; omega) (by decide)⟩ ?_
    refine sat_chk (size_le (m := 1000) (by rw [List.length_replicate, List.length_replicate]; omega) (by decide)) ?_
    refine sat_let ?_
    have ew : wkOf k = List.replicate 500 (T3.mk ("add" : Str) (3 : Int) (2 : Int)) ++ List.replicate (min k 1000 - 500) (T3.mk ("take" : Str) (3 : Int) (2 : Int)) := by
      unfold wkOf
      rw [show min k 500 = 500 by omega]
      rfl
    refine sat_chk ⟨by rw [w2, ew], by rw [w2]; exact wkok_dat (wkOf_ok k)⟩ ?_
    refine sat_eq (a := (("sum" : Str), S.cnt "sum")) rfl ?_
    refine sat_chk (mul_small (by decide)) ?_
    have lay1 : (PyData.str ("sum" : Str)).canLay0 = true := by decide +kernel
    have lay2 : (PyData.str ("short" : Str)).canLay0 = true := by decide +kernel
    have c1 : S.cnt "sum" = 3 * (k : Int) := by
      rw [w3]
      show (if ("sum" : Str) = ("short" : Str) then (0 : Int) else if ("sum" : Str) = ("sum" : Str) then 3 * (k : Int) else 0) = _
      rw [if_neg ne_ss, if_pos rfl]
    have c2 : S.cnt "short" = 0 := by
      rw [w3]
      show (if ("short" : Str) = ("short" : Str) then (0 : Int) else if ("short" : Str) = ("sum" : Str) then 3 * (k : Int) else 0) = _
      rw [if_pos rfl]
    refine sat_chk ⟨by rw [c1], lay1, trivial⟩ ?_
    refine sat_eq (a := (("short" : Str), S.cnt "short")) rfl ?_
    refine sat_chk ⟨⟨lay2, trivial⟩, lay2, trivial⟩ ?_
    refine sat_chk (eqD_iff.mpr (by rw [c2])) ?_
    exact sat_some rfl
theorem law_right (ns : List Int) (hns : ns.length ≤ 63) : M_law ns = some true := by
  obtain ⟨z0, e0⟩ := cell_ok ns 0 hns
  have c5 := cut_len ns (some 1) (some 5)
  refine sat_get ?_
  unfold M_law
  refine sat_eq e0 ?_
  refine sat_chk (size_le (m := 64) (by show 1 + _ ≤ 64; omega) (by decide)) ?_
  refine sat_forA (fun _ => True) (fun x _ u _ => ?_) trivial fun _ _ => sat_nx ?_
  · refine sat_bind (src_s x) fun s hs => ?_
    refine sat_bind (right_ok hs) fun r1 ⟨t1, g1⟩ => ?_
    refine sat_chk t1 ?_
    refine sat_bind (right_ok g1) fun r2 ⟨t2, g2⟩ => ?_
    refine sat_chk t2 ?_
    exact sat_end trivial
  · refine sat_eq e0 ?_
    refine sat_bind (src_s z0) fun s hs => ?_
    refine sat_bind (long_ok hs) fun r1 t1 => ?_
    refine sat_chk t1 ?_
    refine sat_chk ⟨⟨trivial, trivial⟩, trivial, trivial⟩ ?_
    refine sat_chk (eqD_iff.mpr rfl) ?_
    exact sat_some rfl
end P

set_option Elab.async false
set_option linter.all false
set_option maxRecDepth 100000
set_option maxHeartbeats 0
namespace P
open PySem L2 VL

theorem Fun.ofD {K : PySem.W.Frag} {x qual : Str} {st : Stmt} {f : Addr} {fd : FuncData} (F : FunD K x qual (defArgs st) (defBody st) (defScope st) [] [] f fd) : Fun K x qual st f fd := by
  obtain ⟨oc, od, dV, kV, doc, pm, an, cdv, ct, osl, rfl, lk, hcd, hD, hK⟩ := F.ex
  rcases hD with ⟨_, rfl⟩ | ⟨e, _⟩
  · exact ⟨⟨oc, od, kV, doc, pm, an, cdv, ct, osl, rfl, lk, hcd⟩, F.kp⟩
  · exact absurd rfl e
def iclsB (K : PySem.W.Frag) (C : Addr) : Bool := He.eqO (PySem.W.findIn K (.ref C) "__class__") (some (some (.builtin "object.__class__"))) && (He.eqO (PySem.W.specialIn K (.builtin "object.__class__") "__get__") (some (some (.builtin "getset_descriptor.__get__"))) &&
  (decide (PySem.W.takesIn K (.builtin "object.__class__") = some true) && (decide (PySem.W.mroIn K C (.type "object") = some true) && decide (PySem.W.kitOne K (.ref C) (.ref C) = some true))))
theorem iclsB_ok {K : PySem.W.Frag} {C : Addr} (cl : Cls K C) (h : iclsB K C = true) : ICls K C := by
  obtain ⟨h1, h⟩ := He.ba h
  obtain ⟨h2, h⟩ := He.ba h
  obtain ⟨h3, h⟩ := He.ba h
  obtain ⟨h4, h5⟩ := He.ba h
  exact ⟨cl, He.eqO_ok h1, He.eqO_ok h2, of_decide_eq_true h3, of_decide_eq_true h4, of_decide_eq_true h5⟩
theorem codeIs_of {K : PySem.W.Frag} {p : He.Defn} : CodeIs K (He.fAd K p) (He.codeOf K p) := fun oc od x qual ar body sc dV kV doc pm an cdv ct osl lk hc => by
  obtain ⟨c, rfl⟩ := He.codeIn_ref hc
  rw [He.codeOf_eq lk rfl]
theorem hu_of {l : List (Addr × Str)} (nd : (l.map (·.1)).Nodup) {A : Addr} {q : Str} (hm : (A, q) ∈ l) : ∀ p ∈ l, p.1 = A → p.2 = q := by
  induction l with
  | nil => cases hm
  | cons a r ih =>
    obtain ⟨h1, h2⟩ := List.nodup_cons.mp (show (a.1 :: r.map (·.1)).Nodup from nd)
    intro p hp e
    rcases List.mem_cons.mp hm with m | m
    · rcases List.mem_cons.mp hp with z | z
      · rw [z, ← m]
      · exact absurd (List.mem_map.mpr ⟨p, z, by rw [e, ← m]⟩) h1
    · rcases List.mem_cons.mp hp with z | z
      · exact absurd (List.mem_map.mpr ⟨_, m, by rw [← e, z]⟩) h1
      · exact ih h2 m p z e
theorem gInt {K : PySem.W.Frag} {h : Heap} {mg : Str → Option Value} {x : Str} {i : Int} (X : K.In h) (G : h.Ns mainGlobals mg) (c : (He.Fa.int x i).ok K = true) : ∃ u, mg x = some u ∧ RelV (.int i) u := by
  obtain ⟨t, e⟩ := He.int_ok X G c
  exact ⟨_, e, t, rfl⟩
theorem gRef {K : PySem.W.Frag} {h : Heap} {mg : Str → Option Value} {x : Str} (X : K.In h) (G : h.Ns mainGlobals mg) (c : (He.Fa.glo x).ok K = true) : ∃ u, mg x = some u ∧ RelV (.ref (He.ga K x)) u := ⟨_, He.glo_ok X G c, rfl⟩
def d_is_integer : He.DefD := ⟨("is_integer", none), "is_integer", "is_integer", defArgs s_is_integer, defBody s_is_integer, defScope s_is_integer, [], []⟩
def d_is_between : He.DefD := ⟨("is_between", none), "is_between", "is_between", defArgs s_is_between, defBody s_is_between, defScope s_is_between, [], []⟩
def d_order_of : He.DefD := ⟨("order_of", none), "order_of", "order_of", defArgs s_order_of, defBody s_order_of, defScope s_order_of, [], []⟩
def d_check_machine : He.DefD := ⟨("check_machine", none), "check_machine", "check_machine", defArgs s_check_machine, defBody s_check_machine, defScope s_check_machine, [], []⟩
def d_top_digit : He.DefD := ⟨("top_digit", none), "top_digit", "top_digit", defArgs s_top_digit, defBody s_top_digit, defScope s_top_digit, [], []⟩
def d_size_of : He.DefD := ⟨("size_of", none), "size_of", "size_of", defArgs s_size_of, defBody s_size_of, defScope s_size_of, [], []⟩
def d_low_part : He.DefD := ⟨("low_part", none), "low_part", "low_part", defArgs s_low_part, defBody s_low_part, defScope s_low_part, [], []⟩
def d_row_of : He.DefD := ⟨("row_of", none), "row_of", "row_of", defArgs s_row_of, defBody s_row_of, defScope s_row_of, [], []⟩
def d_last_difference : He.DefD := ⟨("last_difference", none), "last_difference", "last_difference", defArgs s_last_difference, defBody s_last_difference, defScope s_last_difference, [], []⟩
def d_check_big : He.DefD := ⟨("check_big", none), "check_big", "check_big", defArgs s_check_big, defBody s_check_big, defScope s_check_big, [], []⟩
def d_check_fit : He.DefD := ⟨("check_fit", none), "check_fit", "check_fit", defArgs s_check_fit, defBody s_check_fit, defScope s_check_fit, [], []⟩
def d_check_one : He.DefD := ⟨("check_one", none), "check_one", "check_one", defArgs s_check_one, defBody s_check_one, defScope s_check_one, [], []⟩
def d_check_two : He.DefD := ⟨("check_two", none), "check_two", "check_two", defArgs s_check_two, defBody s_check_two, defScope s_check_two, [], []⟩
def d_big_of : He.DefD := ⟨("big_of", none), "big_of", "big_of", defArgs s_big_of, defBody s_big_of, defScope s_big_of, [], []⟩
def d_are_compact : He.DefD := ⟨("are_compact", none), "are_compact", "are_compact", defArgs s_are_compact, defBody s_are_compact, defScope s_are_compact, [], []⟩
def d_big : He.DefD := ⟨("big", none), "big", "big", defArgs s_big, defBody s_big, defScope s_big, [], []⟩
def d_added : He.DefD := ⟨("added", none), "added", "added", defArgs s_added, defBody s_added, defScope s_added, [], []⟩
def d_taken : He.DefD := ⟨("taken", none), "taken", "taken", defArgs s_taken, defBody s_taken, defScope s_taken, [], []⟩
def d_joined : He.DefD := ⟨("joined", none), "joined", "joined", defArgs s_joined, defBody s_joined, defScope s_joined, [], []⟩
def d_add : He.DefD := ⟨("add", none), "add", "add", defArgs s_add, defBody s_add, defScope s_add, [], []⟩
def d_subtract : He.DefD := ⟨("subtract", none), "subtract", "subtract", defArgs s_subtract, defBody s_subtract, defScope s_subtract, [], []⟩
def d__law_source_of : He.DefD := ⟨("_law_source_of", none), "_law_source_of", "_law_source_of", defArgs s__law_source_of, defBody s__law_source_of, defScope s__law_source_of, [], []⟩
def d__law_next : He.DefD := ⟨("_law_next", none), "_law_next", "_law_next", defArgs s__law_next, defBody s__law_next, defScope s__law_next, [], []⟩
def d__law_cell_at : He.DefD := ⟨("_law_cell_at", none), "_law_cell_at", "_law_cell_at", defArgs s__law_cell_at, defBody s__law_cell_at, defScope s__law_cell_at, [], []⟩
def d__law_power : He.DefD := ⟨("_law_power", none), "_law_power", "_law_power", defArgs s__law_power, defBody s__law_power, defScope s__law_power, [], []⟩
def d__law_words : He.DefD := ⟨("_law_words", none), "_law_words", "_law_words", defArgs s__law_words, defBody s__law_words, defScope s__law_words, [], []⟩
def d__law_counts_right : He.DefD := ⟨("_law_counts_right", none), "_law_counts_right", "_law_counts_right", defArgs s__law_counts_right, defBody s__law_counts_right, defScope s__law_counts_right, [], []⟩
def d__law_right : He.DefD := ⟨("_law_right", none), "_law_right", "_law_right", defArgs s__law_right, defBody s__law_right, defScope s__law_right, [], []⟩
def d__law_long_right : He.DefD := ⟨("_law_long_right", none), "_law_long_right", "_law_long_right", defArgs s__law_long_right, defBody s__law_long_right, defScope s__law_long_right, [], []⟩
def d_law : He.DefD := ⟨("law", none), "law", "law", defArgs s_law, defBody s_law, defScope s_law, [], []⟩
def d_Mach_step : He.DefD := ⟨("Machine", some "step"), "step", "Machine.step", defArgs s_Mach_step, defBody s_Mach_step, defScope s_Mach_step, [], []⟩
def d_Mach_enter : He.DefD := ⟨("Machine", some "enter"), "enter", "Machine.enter", defArgs s_Mach_enter, defBody s_Mach_enter, defScope s_Mach_enter, [], []⟩
def d_Mach_reset : He.DefD := ⟨("Machine", some "reset"), "reset", "Machine.reset", defArgs s_Mach_reset, defBody s_Mach_reset, defScope s_Mach_reset, [], []⟩
def d_Mach_tally : He.DefD := ⟨("Machine", some "tally"), "tally", "Machine.tally", defArgs s_Mach_tally, defBody s_Mach_tally, defScope s_Mach_tally, [], []⟩
def d_Mach_walk : He.DefD := ⟨("Machine", some "walk"), "walk", "Machine.walk", defArgs s_Mach_walk, defBody s_Mach_walk, defScope s_Mach_walk, [], []⟩
def d_Mach_parts : He.DefD := ⟨("Machine", some "parts"), "parts", "Machine.parts", defArgs s_Mach_parts, defBody s_Mach_parts, defScope s_Mach_parts, [], []⟩
def d_Mach_init : He.DefD := ⟨("Machine", some "__init__"), "__init__", "Machine.__init__", defArgs s_Mach_init, defBody s_Mach_init, defScope s_Mach_init, [.int 30, .int 70], []⟩
def d_Big_init : He.DefD := ⟨("Big", some "__init__"), "__init__", "Big.__init__", defArgs s_Big_init, defBody s_Big_init, defScope s_Big_init, [], []⟩
def d_Big_eq : He.DefD := ⟨("Big", some "__eq__"), "__eq__", "Big.__eq__", defArgs s_Big_eq, defBody s_Big_eq, defScope s_Big_eq, [], []⟩
def d_Big_digits : He.DefD := ⟨("Big", some "digits"), "digits", "Big.digits", defArgs s_Big_digits, defBody s_Big_digits, defScope s_Big_digits, [], []⟩
def d_Big_sign : He.DefD := ⟨("Big", some "sign"), "sign", "Big.sign", defArgs s_Big_sign, defBody s_Big_sign, defScope s_Big_sign, [], []⟩
def d_Big_bits : He.DefD := ⟨("Big", some "bits"), "bits", "Big.bits", defArgs s_Big_bits, defBody s_Big_bits, defScope s_Big_bits, [], []⟩
def d_Mach_eq : He.DefD := ⟨("Machine", some "__eq__"), "__eq__", "Machine.__eq__", defArgs s_Mach_eq, defBody s_Mach_eq, defScope s_Mach_eq, [], []⟩
def fa0 : List He.Fa := [.cls "Machine", .noat "Machine" "width", .noat "Machine" "cutoff", .noat "Machine" "counts", .noat "Machine" "entered", .cls "Big", .noat "Big" "width", .noat "Big" "side", .noat "Big" "row", .noat "Big" "value", .free "isinstance", .free "int", .free "bool", .glo "is_integer", .glo "is_between", .meth "Machine" "step", .free "len", .int "LONGEST_WALK" 1000, .meth "Machine" "enter", .glo "WORDS", .meth "Machine" "reset", .meth "Machine" "tally", .free "list", .meth "Machine" "walk", .meth "Machine" "parts", .glo "Machine", .mkr "Machine", .glo "Big", .meth "Big" "__eq__", .meth "Big" "digits"]
def fa1 : List He.Fa := [.meth "Big" "sign", .meth "Big" "bits", .meth "Machine" "__eq__", .glo "order_of", .free "tuple", .mkr "Big", .glo "check_machine", .glo "top_digit", .glo "size_of", .glo "low_part", .glo "row_of", .int "LONGEST_LOOP" 32, .free "range", .free "max", .glo "last_difference", .glo "check_big", .glo "check_fit", .glo "check_one", .glo "check_two", .free "abs", .glo "big_of", .glo "are_compact", .glo "big", .glo "added", .glo "taken", .glo "joined", .glo "add", .glo "subtract", .glo "_law_source_of", .glo "_law_next"]
def fa2 : List He.Fa := [.glo "_law_cell_at", .glo "_law_power", .glo "_law_words", .glo "_law_counts_right", .glo "_law_right", .free "min", .glo "_law_long_right", .glo "law"]
def fa : List He.Fa := fa0 ++ fa1 ++ fa2
def fn : List He.DefD := [d_is_integer, d_is_between, d_order_of, d_check_machine, d_top_digit, d_size_of, d_low_part, d_row_of, d_last_difference, d_check_big, d_check_fit, d_check_one, d_check_two, d_big_of, d_are_compact, d_big, d_added, d_taken, d_joined, d_add, d_subtract, d__law_source_of, d__law_next, d__law_cell_at, d__law_power, d__law_words, d__law_counts_right, d__law_right, d__law_long_right, d_law, d_Mach_step, d_Mach_enter, d_Mach_reset, d_Mach_tally, d_Mach_walk, d_Mach_parts, d_Mach_init, d_Big_init, d_Big_eq, d_Big_digits, d_Big_sign, d_Big_bits, d_Mach_eq]
def exB (K : PySem.W.Frag) : Bool := He.tupB K "WORDS" (mwords.map He.Dv.str) && (iclsB K (He.ga K "Machine") && (iclsB K (He.ga K "Big") && (ownB K (He.ga K "Big") (He.ma K (He.ga K "Big") "__eq__") && (ownB K (He.ga K "Machine") (He.ma K (He.ga K "Machine") "__eq__") && otherT K (He.ga K "Machine")))))
def loose0 : List Str := ["BitsError", "InvalidMachine", "InvalidBound", "shown", "is_integer", "is_between", "WORDS", "LONGEST_WALK", "Machine", "check_machine", "LONGEST_LOOP", "top_digit", "size_of", "row_of", "low_part", "last_difference", "Big", "check_big", "check_one", "check_two", "check_fit", "big_of", "are_compact", "order_of", "big", "add", "subtract", "joined", "added", "taken"]
def loose1 : List Str := ["_law_source_of", "_law_next", "_law_one", "_law_cell_at", "_law_power", "_law_machine", "_law_digits", "_law_value", "_law_number", "_law_words", "_law_right", "_law_counts_right", "_law_long_right"]
def loose : List Str := loose0 ++ loose1
abbrev R : PySem.W.OpenRow := PySem.W.OpenLaw.row PySem.Challenge.rw_thirtybits_k04_machines
abbrev hk : PySem.W.Hook := He.hookX 5 fa fn [] [] exB
def ob (s : PySem.W.SharedT) : He.AlX := He.obsX 5 fa fn [] [] exB (HandSHeadRun.getT s)
theorem ob_eq (s : PySem.W.SharedT) : ob s = hk.obs s.abs := He.obsX_eq (HandSHeadRun.getT_eq s)
theorem run (w : World) : HandSHeadRun.RunEq R (PySem.W.view R.prog [50]) hk ob 12000 loose w := by
  intro os
  kernel_rfl
theorem facts {P : Program} {w : World} {K : PySem.W.Frag} {h : Heap} {mg : Str → Option Value} {f : Addr} (X : K.In h) (G : h.Ns mainGlobals mg) (hfa : mg ("law" : Str) = some (.ref f)) (c : He.SaysX fa fn [] [] exB w h K) :
    ∃ (T : TC) (fd : FuncData), T.K = K ∧ (∀ (s : Shared) (v : Value), BindsTo s fd ⟨[v], []⟩ [("_law_script", v)]) ∧ ∀ base : Heap, K.In base → base.Ns mainGlobals mg → FnOk P w K mg base CX0 26 f fd ["_law_script"] (mkSp (Pre_law T)) := by
  have cd : He.SaysD fa fn K := c.t.d
  obtain ⟨ex1, exr⟩ := He.ba c.more
  obtain ⟨ex2, exs⟩ := He.ba exr
  obtain ⟨ex3, ext⟩ := He.ba exs
  obtain ⟨ex4, exu⟩ := He.ba ext
  obtain ⟨exm1, exm2⟩ := He.ba exu
  let T : TC := ⟨K, fun i => match i with | 0 => He.ga K "Machine" | 1 => He.ga K "Big" | _ => He.ga K "Big"⟩
  refine ⟨T, ?_⟩
  obtain ⟨fd_law, G_law⟩ := cd.def_ 29 (d := d_law) rfl
  cases hfa.symm.trans (He.glo_ok X G (cd.fact 67 (f := .glo "law") rfl))
  refine ⟨fd_law, rfl, fun s v => (FunD.bindsA (ps := ["_law_script"]) G_law fun _ _ _ _ _ _ us hl => match us, hl with | [_], _ => rfl) s [v] rfl, fun base _ _ => ?_⟩
  have clM : Cls K (He.ga K "Machine") := He.cls_ok (cd.fact 0 (f := .cls "Machine") rfl)
  have mc : MCls T.K (T.C 0) := ⟨clM, (He.noat_ok (cd.fact 1 (f := .noat "Machine" "width") rfl)), (He.noat_ok (cd.fact 2 (f := .noat "Machine" "cutoff") rfl)), (He.noat_ok (cd.fact 3 (f := .noat "Machine" "counts") rfl)), (He.noat_ok (cd.fact 4 (f := .noat "Machine" "entered") rfl))⟩
  have icm : ICls T.K (T.C 0) := iclsB_ok clM ex2
  have clB : Cls K (He.ga K "Big") := He.cls_ok (cd.fact 5 (f := .cls "Big") rfl)
  have bc : BCls T.K (T.C 1) := ⟨clB, (He.noat_ok (cd.fact 6 (f := .noat "Big" "width") rfl)), (He.noat_ok (cd.fact 7 (f := .noat "Big" "side") rfl)), (He.noat_ok (cd.fact 8 (f := .noat "Big" "row") rfl)), (He.noat_ok (cd.fact 9 (f := .noat "Big" "value") rfl))⟩
  have icb : ICls T.K (T.C 1) := iclsB_ok clB ex3
  have hW : ∀ H, SqT T.K H (He.ga K "WORDS") (mwords.map V.str) := fun H => He.tupB_ok ex1 H
  obtain ⟨fd_is_integer, F_is_integer⟩ := cd.def_ 0 (d := d_is_integer) rfl
  have F_is_integer := Fun.ofD (st := s_is_integer) F_is_integer
  have c_is_integer : Cal P w K mg base 1 "is_integer" ["value"] (mkSp (Pre_is_integer T)) := ⟨⟨_, _, ok_is_integer (T := T) F_is_integer (He.free_ok X G (cd.fact 10 (f := .free "isinstance") rfl)) (He.free_ok X G (cd.fact 11 (f := .free "int") rfl)) (He.free_ok X G (cd.fact 12 (f := .free "bool") rfl)), He.glo_ok X G (cd.fact 13 (f := .glo "is_integer") rfl), F_is_integer.kp, (F_is_integer.binds (ps := ["value"]) fun _ _ _ _ _ _ us hl => match us, hl with | [_], _ => rfl)⟩⟩
  obtain ⟨fd_is_between, F_is_between⟩ := cd.def_ 1 (d := d_is_between) rfl
  have F_is_between := Fun.ofD (st := s_is_between) F_is_between
  have c_is_between : Cal P w K mg base 2 "is_between" ["value", "low", "high"] (mkSp (Pre_is_between T)) := ⟨⟨_, _, ok_is_between (T := T) F_is_between c_is_integer, He.glo_ok X G (cd.fact 14 (f := .glo "is_between") rfl), F_is_between.kp, (F_is_between.binds (ps := ["value", "low", "high"]) fun _ _ _ _ _ _ us hl => match us, hl with | [_, _, _], _ => rfl)⟩⟩
  obtain ⟨fd_Mach_step, F_Mach_step⟩ := cd.def_ 30 (d := d_Mach_step) rfl
  have F_Mach_step := Fun.ofD (st := s_Mach_step) F_Mach_step
  have c_Mach_step : CalM P w K mg base 1 (T.C 0) "step" ["self", "word", "many"] (mkSp (Pre_Mach_step T)) := ⟨⟨_, _, ok_Mach_step (T := T) F_Mach_step mc , He.meth_ok (cd.fact 15 (f := .meth "Machine" "step") rfl), (F_Mach_step.binds (ps := ["self", "word", "many"]) fun _ _ _ _ _ _ us hl => match us, hl with | [_, _, _], _ => rfl)⟩, clM⟩
  obtain ⟨fd_Mach_enter, F_Mach_enter⟩ := cd.def_ 31 (d := d_Mach_enter) rfl
  have F_Mach_enter := Fun.ofD (st := s_Mach_enter) F_Mach_enter
  have c_Mach_enter : CalM P w K mg base 1 (T.C 0) "enter" ["self", "word", "m", "n"] (mkSp (Pre_Mach_enter T)) := ⟨⟨_, _, ok_Mach_enter (T := T) F_Mach_enter mc (He.free_ok X G (cd.fact 16 (f := .free "len") rfl)) (gInt X G (cd.fact 17 (f := .int "LONGEST_WALK" 1000) rfl)), He.meth_ok (cd.fact 18 (f := .meth "Machine" "enter") rfl), (F_Mach_enter.binds (ps := ["self", "word", "m", "n"]) fun _ _ _ _ _ _ us hl => match us, hl with | [_, _, _, _], _ => rfl)⟩, clM⟩
  obtain ⟨fd_Mach_reset, F_Mach_reset⟩ := cd.def_ 32 (d := d_Mach_reset) rfl
  have F_Mach_reset := Fun.ofD (st := s_Mach_reset) F_Mach_reset
  have c_Mach_reset : CalM P w K mg base 1 (T.C 0) "reset" ["self"] (mkSp (Pre_Mach_reset T)) := ⟨⟨_, _, ok_Mach_reset (T := T) F_Mach_reset mc (gRef X G (cd.fact 19 (f := .glo "WORDS") rfl)) hW, He.meth_ok (cd.fact 20 (f := .meth "Machine" "reset") rfl), (F_Mach_reset.binds (ps := ["self"]) fun _ _ _ _ _ _ us hl => match us, hl with | [_], _ => rfl)⟩, clM⟩
  obtain ⟨fd_Mach_tally, F_Mach_tally⟩ := cd.def_ 33 (d := d_Mach_tally) rfl
  have F_Mach_tally := Fun.ofD (st := s_Mach_tally) F_Mach_tally
  have c_Mach_tally : CalM P w K mg base 1 (T.C 0) "tally" ["self"] (mkSp (Pre_Mach_tally T)) := ⟨⟨_, _, ok_Mach_tally (T := T) F_Mach_tally mc (gRef X G (cd.fact 19 (f := .glo "WORDS") rfl)) hW, He.meth_ok (cd.fact 21 (f := .meth "Machine" "tally") rfl), (F_Mach_tally.binds (ps := ["self"]) fun _ _ _ _ _ _ us hl => match us, hl with | [_], _ => rfl)⟩, clM⟩
  have c_Mach_tallyN : CalM P w K mg base 1 (T.C 0) "tally" ["self"] (mkSp (Pre_Mach_tallyN T)) := ⟨⟨_, _, ok_Mach_tallyN (T := T) F_Mach_tally mc (gRef X G (cd.fact 19 (f := .glo "WORDS") rfl)) hW, He.meth_ok (cd.fact 21 (f := .meth "Machine" "tally") rfl), (F_Mach_tally.binds (ps := ["self"]) fun _ _ _ _ _ _ us hl => match us, hl with | [_], _ => rfl)⟩, clM⟩
  obtain ⟨fd_Mach_walk, F_Mach_walk⟩ := cd.def_ 34 (d := d_Mach_walk) rfl
  have F_Mach_walk := Fun.ofD (st := s_Mach_walk) F_Mach_walk
  have c_Mach_walk : CalM P w K mg base 1 (T.C 0) "walk" ["self"] (mkSp (Pre_Mach_walk T)) := ⟨⟨_, _, ok_Mach_walk (T := T) F_Mach_walk mc (He.free_ok X G (cd.fact 22 (f := .free "list") rfl)), He.meth_ok (cd.fact 23 (f := .meth "Machine" "walk") rfl), (F_Mach_walk.binds (ps := ["self"]) fun _ _ _ _ _ _ us hl => match us, hl with | [_], _ => rfl)⟩, clM⟩
  have c_Mach_walkN : CalM P w K mg base 1 (T.C 0) "walk" ["self"] (mkSp (Pre_Mach_walkN T)) := ⟨⟨_, _, ok_Mach_walkN (T := T) F_Mach_walk mc (He.free_ok X G (cd.fact 22 (f := .free "list") rfl)), He.meth_ok (cd.fact 23 (f := .meth "Machine" "walk") rfl), (F_Mach_walk.binds (ps := ["self"]) fun _ _ _ _ _ _ us hl => match us, hl with | [_], _ => rfl)⟩, clM⟩
  obtain ⟨fd_Mach_parts, F_Mach_parts⟩ := cd.def_ 35 (d := d_Mach_parts) rfl
  have F_Mach_parts := Fun.ofD (st := s_Mach_parts) F_Mach_parts
  have c_Mach_parts : CalM P w K mg base 1 (T.C 0) "parts" ["self"] (mkSp (Pre_Mach_parts T)) := ⟨⟨_, _, ok_Mach_parts (T := T) F_Mach_parts mc , He.meth_ok (cd.fact 24 (f := .meth "Machine" "parts") rfl), (F_Mach_parts.binds (ps := ["self"]) fun _ _ _ _ _ _ us hl => match us, hl with | [_], _ => rfl)⟩, clM⟩
  obtain ⟨fd_Mach_init, F_Mach_init⟩ := cd.def_ 36 (d := d_Mach_init) rfl
  have ck_Machine_cutoff_bits : CalCK P w K mg base 3 "Machine" (T.C 0) ["self", "bits", "cutoff"] ["cutoff", "bits"] [0, 2, 1] (mkSp (Pre_Machine T)) := by
    obtain ⟨its, hb⟩ := FunD.kbindsD (ps := ["self", "bits", "cutoff"]) F_Mach_init 1 ["cutoff", "bits"] (fun us _ zs => prm [0, 2, 1] (us ++ zs)) (fun e => nomatch e) (fun r1 _ r2 => prm_rel [0, 2, 1] (Vals.append r1 r2)) fun _ _ _ _ _ _ _ us its ws hl hi hw => match us, its, ws, hl, hi, hw with | [_], [_, _], [_, _], _, _, _ => ⟨_, rfl, rfl⟩
    exact ⟨⟨_, _, _, ok_Mach_init (T := T) F_Mach_init mc (gRef X G (cd.fact 19 (f := .glo "WORDS") rfl)) hW c_is_between, He.glo_ok X G (cd.fact 25 (f := .glo "Machine") rfl), He.mkr_ok (cd.fact 26 (f := .mkr "Machine") rfl), hb⟩⟩
  have c_Machine2 : CalC P w K mg base 3 "Machine" (T.C 0) ["self", "bits", "cutoff"] [] (mkSp (Pre_Machine T)) := by
    obtain ⟨ds, hv, hb⟩ := FunD.binds1 (ps := ["self", "bits", "cutoff"]) F_Mach_init 3 2 (fun e => nomatch e) rfl fun _ _ _ _ _ _ _ us its hl hi => match us, its, hl, hi with | [_, _, _], [_, _], _, _ => ⟨_, rfl, rfl⟩
    exact ⟨⟨_, _, ds, ok_Mach_init (T := T) F_Mach_init mc (gRef X G (cd.fact 19 (f := .glo "WORDS") rfl)) hW c_is_between, He.glo_ok X G (cd.fact 25 (f := .glo "Machine") rfl), He.mkr_ok (cd.fact 26 (f := .mkr "Machine") rfl), hv, hb⟩⟩
  have c_Machine0 : CalC P w K mg base 3 "Machine" (T.C 0) ["self", "bits", "cutoff"] [.int 30, .int 70] (mkSp (Pre_Machine T)) := by
    obtain ⟨ds, hv, hb⟩ := FunD.binds1 (ps := ["self", "bits", "cutoff"]) F_Mach_init 1 0 (fun e => nomatch e) rfl fun _ _ _ _ _ _ _ us its hl hi => match us, its, hl, hi with | [_], [_, _], _, _ => ⟨_, rfl, rfl⟩
    exact ⟨⟨_, _, ds, ok_Mach_init (T := T) F_Mach_init mc (gRef X G (cd.fact 19 (f := .glo "WORDS") rfl)) hW c_is_between, He.glo_ok X G (cd.fact 25 (f := .glo "Machine") rfl), He.mkr_ok (cd.fact 26 (f := .mkr "Machine") rfl), hv, hb⟩⟩
  obtain ⟨fd_Big_eq, F_Big_eq⟩ := cd.def_ 38 (d := d_Big_eq) rfl
  have F_Big_eq := Fun.ofD (st := s_Big_eq) F_Big_eq
  have ceq : CalEq P w K mg base 1 (T.C 1) (mkSp (Pre_Big_eq T)) := ⟨⟨_, _, ok_Big_eq (T := T) F_Big_eq (He.free_ok X G (cd.fact 10 (f := .free "isinstance") rfl)) icb (gRef X G (cd.fact 27 (f := .glo "Big") rfl)) bc, ex4, He.meth_ok (cd.fact 28 (f := .meth "Big" "__eq__") rfl), (F_Big_eq.binds (ps := ["self", "other"]) fun _ _ _ _ _ _ us hl => match us, hl with | [_, _], _ => rfl)⟩⟩
  obtain ⟨fd_Big_digits, F_Big_digits⟩ := cd.def_ 39 (d := d_Big_digits) rfl
  have F_Big_digits := Fun.ofD (st := s_Big_digits) F_Big_digits
  have c_Big_digits : CalM P w K mg base 1 (T.C 1) "digits" ["self"] (mkSp (Pre_Big_digits T)) := ⟨⟨_, _, ok_Big_digits (T := T) F_Big_digits bc (He.free_ok X G (cd.fact 22 (f := .free "list") rfl)), He.meth_ok (cd.fact 29 (f := .meth "Big" "digits") rfl), (F_Big_digits.binds (ps := ["self"]) fun _ _ _ _ _ _ us hl => match us, hl with | [_], _ => rfl)⟩, clB⟩
  obtain ⟨fd_Big_sign, F_Big_sign⟩ := cd.def_ 40 (d := d_Big_sign) rfl
  have F_Big_sign := Fun.ofD (st := s_Big_sign) F_Big_sign
  have c_Big_sign : CalM P w K mg base 1 (T.C 1) "sign" ["self"] (mkSp (Pre_Big_sign T)) := ⟨⟨_, _, ok_Big_sign (T := T) F_Big_sign bc, He.meth_ok (cd.fact 30 (f := .meth "Big" "sign") rfl), (F_Big_sign.binds (ps := ["self"]) fun _ _ _ _ _ _ us hl => match us, hl with | [_], _ => rfl)⟩, clB⟩
  obtain ⟨fd_Big_bits, F_Big_bits⟩ := cd.def_ 41 (d := d_Big_bits) rfl
  have F_Big_bits := Fun.ofD (st := s_Big_bits) F_Big_bits
  have c_Big_bits : CalM P w K mg base 1 (T.C 1) "bits" ["self"] (mkSp (Pre_Big_bits T)) := ⟨⟨_, _, ok_Big_bits (T := T) F_Big_bits bc, He.meth_ok (cd.fact 31 (f := .meth "Big" "bits") rfl), (F_Big_bits.binds (ps := ["self"]) fun _ _ _ _ _ _ us hl => match us, hl with | [_], _ => rfl)⟩, clB⟩
  obtain ⟨fd_Mach_eq, F_Mach_eq⟩ := cd.def_ 42 (d := d_Mach_eq) rfl
  have F_Mach_eq := Fun.ofD (st := s_Mach_eq) F_Mach_eq
  have ceqm : CalEq P w K mg base 1 (T.C 0) (mkSp (Pre_Mach_eq T)) := ⟨⟨_, _, ok_Mach_eq (T := T) F_Mach_eq (He.free_ok X G (cd.fact 10 (f := .free "isinstance") rfl)) icm (gRef X G (cd.fact 25 (f := .glo "Machine") rfl)) mc, exm1, He.meth_ok (cd.fact 32 (f := .meth "Machine" "__eq__") rfl), (F_Mach_eq.binds (ps := ["self", "other"]) fun _ _ _ _ _ _ us hl => match us, hl with | [_, _], _ => rfl)⟩⟩
  have ceqt : CalEqT P w K mg base 1 (T.C 0) (mkSp (PreXT T)) := ⟨⟨_, _, ok_Mach_eqX (T := T) F_Mach_eq (He.free_ok X G (cd.fact 10 (f := .free "isinstance") rfl)) icm (gRef X G (cd.fact 25 (f := .glo "Machine") rfl)) mc exm2, exm2, He.meth_ok (cd.fact 32 (f := .meth "Machine" "__eq__") rfl), (F_Mach_eq.binds (ps := ["self", "other"]) fun _ _ _ _ _ _ us hl => match us, hl with | [_, _], _ => rfl)⟩⟩
  obtain ⟨fd_order_of, F_order_of⟩ := cd.def_ 2 (d := d_order_of) rfl
  have F_order_of := Fun.ofD (st := s_order_of) F_order_of
  have c_order_of : Cal P w K mg base 1 "order_of" ["a", "b"] (mkSp (Pre_order_of T)) := ⟨⟨_, _, ok_order_of (T := T) F_order_of , He.glo_ok X G (cd.fact 33 (f := .glo "order_of") rfl), F_order_of.kp, (F_order_of.binds (ps := ["a", "b"]) fun _ _ _ _ _ _ us hl => match us, hl with | [_, _], _ => rfl)⟩⟩
  obtain ⟨fd_Big_init, F_Big_init⟩ := cd.def_ 37 (d := d_Big_init) rfl
  have F_Big_init := Fun.ofD (st := s_Big_init) F_Big_init
  have c_Big : CalC P w K mg base 2 "Big" (T.C 1) ["self", "width", "value", "row"] [] (mkSp (Pre_Big T)) := ⟨⟨_, _, [], ok_Big_init (T := T) F_Big_init bc (He.free_ok X G (cd.fact 34 (f := .free "tuple") rfl)) c_order_of, He.glo_ok X G (cd.fact 27 (f := .glo "Big") rfl), He.mkr_ok (cd.fact 35 (f := .mkr "Big") rfl), .nil, (F_Big_init.binds (ps := ["self", "width", "value", "row"]) fun _ _ _ _ _ _ us hl => match us, hl with | [_, _, _, _], _ => rfl)⟩⟩
  obtain ⟨fd_check_machine, F_check_machine⟩ := cd.def_ 3 (d := d_check_machine) rfl
  have F_check_machine := Fun.ofD (st := s_check_machine) F_check_machine
  have c_check_machine : Cal P w K mg base 1 "check_machine" ["machine"] (mkSp (Pre_check_machine T)) := ⟨⟨_, _, ok_check_machine (T := T) F_check_machine (He.free_ok X G (cd.fact 10 (f := .free "isinstance") rfl)) icm (gRef X G (cd.fact 25 (f := .glo "Machine") rfl)), He.glo_ok X G (cd.fact 36 (f := .glo "check_machine") rfl), F_check_machine.kp, (F_check_machine.binds (ps := ["machine"]) fun _ _ _ _ _ _ us hl => match us, hl with | [_], _ => rfl)⟩⟩
  obtain ⟨fd_top_digit, F_top_digit⟩ := cd.def_ 4 (d := d_top_digit) rfl
  have F_top_digit := Fun.ofD (st := s_top_digit) F_top_digit
  have c_top_digit : Cal P w K mg base 1 "top_digit" ["width"] (mkSp (Pre_top_digit T)) := ⟨⟨_, _, ok_top_digit (T := T) F_top_digit , He.glo_ok X G (cd.fact 37 (f := .glo "top_digit") rfl), F_top_digit.kp, (F_top_digit.binds (ps := ["width"]) fun _ _ _ _ _ _ us hl => match us, hl with | [_], _ => rfl)⟩⟩
  obtain ⟨fd_size_of, F_size_of⟩ := cd.def_ 5 (d := d_size_of) rfl
  have F_size_of := Fun.ofD (st := s_size_of) F_size_of
  have c_size_of : Cal P w K mg base 2 "size_of" ["width", "n"] (mkSp (Pre_size_of T)) := ⟨⟨_, _, ok_size_of (T := T) F_size_of , He.glo_ok X G (cd.fact 38 (f := .glo "size_of") rfl), F_size_of.kp, (F_size_of.binds (ps := ["width", "n"]) fun _ _ _ _ _ _ us hl => match us, hl with | [_, _], _ => rfl)⟩⟩
  obtain ⟨fd_low_part, F_low_part⟩ := cd.def_ 6 (d := d_low_part) rfl
  have F_low_part := Fun.ofD (st := s_low_part) F_low_part
  have c_low_part : Cal P w K mg base 1 "low_part" ["width", "n", "size"] (mkSp (Pre_low_part T)) := ⟨⟨_, _, ok_low_part (T := T) F_low_part , He.glo_ok X G (cd.fact 39 (f := .glo "low_part") rfl), F_low_part.kp, (F_low_part.binds (ps := ["width", "n", "size"]) fun _ _ _ _ _ _ us hl => match us, hl with | [_, _, _], _ => rfl)⟩⟩
  obtain ⟨fd_row_of, F_row_of⟩ := cd.def_ 7 (d := d_row_of) rfl
  have F_row_of := Fun.ofD (st := s_row_of) F_row_of
  have r_row_of : ∀ n : Nat, FnOk P w K mg base CX0 (1 + n) (He.ga K "row_of") fd_row_of ["width", "n", "size"] (mkSp (Pre_row_of n T)) := by
    intro n
    induction n with
    | zero => exact ok0_row_of (T := T) F_row_of
    | succ n ih =>
      have i_row_of := ih
      have c_row_of : Cal P w K mg base (1 + n) "row_of" ["width", "n", "size"] (mkSp (Pre_row_of n T)) := ⟨⟨_, _, i_row_of, He.glo_ok X G (cd.fact 40 (f := .glo "row_of") rfl), F_row_of.kp, (F_row_of.binds (ps := ["width", "n", "size"]) fun _ _ _ _ _ _ us hl => match us, hl with | [_, _, _], _ => rfl)⟩⟩
      exact ok_row_of (T := T) n F_row_of (gInt X G (cd.fact 41 (f := .int "LONGEST_LOOP" 32) rfl)) c_low_part c_row_of c_top_digit (He.free_ok X G (cd.fact 42 (f := .free "range") rfl))
  have c_row_of : Cal P w K mg base 21 "row_of" ["width", "n", "size"] (mkSp (Pre_row_of 20 T)) := ⟨⟨_, _, (r_row_of 20), He.glo_ok X G (cd.fact 40 (f := .glo "row_of") rfl), F_row_of.kp, (F_row_of.binds (ps := ["width", "n", "size"]) fun _ _ _ _ _ _ us hl => match us, hl with | [_, _, _], _ => rfl)⟩⟩
  obtain ⟨fd_last_difference, F_last_difference⟩ := cd.def_ 8 (d := d_last_difference) rfl
  have F_last_difference := Fun.ofD (st := s_last_difference) F_last_difference
  have c_last_difference : Cal P w K mg base 3 "last_difference" ["machine", "a", "b"] (mkSp (Pre_last_difference T)) := ⟨⟨_, _, ok_last_difference (T := T) F_last_difference mc c_size_of (He.free_ok X G (cd.fact 43 (f := .free "max") rfl)) c_Mach_step, He.glo_ok X G (cd.fact 44 (f := .glo "last_difference") rfl), F_last_difference.kp, (F_last_difference.binds (ps := ["machine", "a", "b"]) fun _ _ _ _ _ _ us hl => match us, hl with | [_, _, _], _ => rfl)⟩⟩
  obtain ⟨fd_check_big, F_check_big⟩ := cd.def_ 9 (d := d_check_big) rfl
  have F_check_big := Fun.ofD (st := s_check_big) F_check_big
  have c_check_big : Cal P w K mg base 1 "check_big" ["value", "name"] (mkSp (Pre_check_big T)) := ⟨⟨_, _, ok_check_big (T := T) F_check_big (He.free_ok X G (cd.fact 10 (f := .free "isinstance") rfl)) icb (gRef X G (cd.fact 27 (f := .glo "Big") rfl)), He.glo_ok X G (cd.fact 45 (f := .glo "check_big") rfl), F_check_big.kp, (F_check_big.binds (ps := ["value", "name"]) fun _ _ _ _ _ _ us hl => match us, hl with | [_, _], _ => rfl)⟩⟩
  obtain ⟨fd_check_fit, F_check_fit⟩ := cd.def_ 10 (d := d_check_fit) rfl
  have F_check_fit := Fun.ofD (st := s_check_fit) F_check_fit
  have c_check_fit : Cal P w K mg base 2 "check_fit" ["machine", "value", "name"] (mkSp (Pre_check_fit T)) := ⟨⟨_, _, ok_check_fit (T := T) F_check_fit c_check_big bc mc, He.glo_ok X G (cd.fact 46 (f := .glo "check_fit") rfl), F_check_fit.kp, (F_check_fit.binds (ps := ["machine", "value", "name"]) fun _ _ _ _ _ _ us hl => match us, hl with | [_, _, _], _ => rfl)⟩⟩
  obtain ⟨fd_check_one, F_check_one⟩ := cd.def_ 11 (d := d_check_one) rfl
  have F_check_one := Fun.ofD (st := s_check_one) F_check_one
  have c_check_one : Cal P w K mg base 3 "check_one" ["machine", "x"] (mkSp (Pre_check_one T)) := ⟨⟨_, _, ok_check_one (T := T) F_check_one c_check_machine c_check_fit, He.glo_ok X G (cd.fact 47 (f := .glo "check_one") rfl), F_check_one.kp, (F_check_one.binds (ps := ["machine", "x"]) fun _ _ _ _ _ _ us hl => match us, hl with | [_, _], _ => rfl)⟩⟩
  obtain ⟨fd_check_two, F_check_two⟩ := cd.def_ 12 (d := d_check_two) rfl
  have F_check_two := Fun.ofD (st := s_check_two) F_check_two
  have c_check_two : Cal P w K mg base 4 "check_two" ["machine", "x", "y"] (mkSp (Pre_check_two T)) := ⟨⟨_, _, ok_check_two (T := T) F_check_two c_check_one c_check_fit, He.glo_ok X G (cd.fact 48 (f := .glo "check_two") rfl), F_check_two.kp, (F_check_two.binds (ps := ["machine", "x", "y"]) fun _ _ _ _ _ _ us hl => match us, hl with | [_, _, _], _ => rfl)⟩⟩
  obtain ⟨fd_big_of, F_big_of⟩ := cd.def_ 13 (d := d_big_of) rfl
  have F_big_of := Fun.ofD (st := s_big_of) F_big_of
  have c_big_of : Cal P w K mg base 22 "big_of" ["machine", "value"] (mkSp (Pre_big_of T)) := ⟨⟨_, _, ok_big_of (T := T) F_big_of mc (He.free_ok X G (cd.fact 49 (f := .free "abs") rfl)) c_size_of c_row_of c_Big, He.glo_ok X G (cd.fact 50 (f := .glo "big_of") rfl), F_big_of.kp, (F_big_of.binds (ps := ["machine", "value"]) fun _ _ _ _ _ _ us hl => match us, hl with | [_, _], _ => rfl)⟩⟩
  obtain ⟨fd_are_compact, F_are_compact⟩ := cd.def_ 14 (d := d_are_compact) rfl
  have F_are_compact := Fun.ofD (st := s_are_compact) F_are_compact
  have c_are_compact : Cal P w K mg base 2 "are_compact" ["machine", "x", "y"] (mkSp (Pre_are_compact T)) := ⟨⟨_, _, ok_are_compact (T := T) F_are_compact mc, He.glo_ok X G (cd.fact 51 (f := .glo "are_compact") rfl), F_are_compact.kp, (F_are_compact.binds (ps := ["machine", "x", "y"]) fun _ _ _ _ _ _ us hl => match us, hl with | [_, _, _], _ => rfl)⟩⟩
  obtain ⟨fd_big, F_big⟩ := cd.def_ 15 (d := d_big) rfl
  have F_big := Fun.ofD (st := s_big) F_big
  have c_big : Cal P w K mg base 23 "big" ["machine", "n"] (mkSp (Pre_big T)) := ⟨⟨_, _, ok_big (T := T) F_big c_check_machine c_is_integer c_big_of, He.glo_ok X G (cd.fact 52 (f := .glo "big") rfl), F_big.kp, (F_big.binds (ps := ["machine", "n"]) fun _ _ _ _ _ _ us hl => match us, hl with | [_, _], _ => rfl)⟩⟩
  obtain ⟨fd_added, F_added⟩ := cd.def_ 16 (d := d_added) rfl
  have F_added := Fun.ofD (st := s_added) F_added
  have c_added : Cal P w K mg base 2 "added" ["machine", "a", "m", "b", "n"] (mkSp (Pre_added T)) := ⟨⟨_, _, ok_added (T := T) F_added mc c_Mach_enter (He.free_ok X G (cd.fact 43 (f := .free "max") rfl)) c_Mach_step, He.glo_ok X G (cd.fact 53 (f := .glo "added") rfl), F_added.kp, (F_added.binds (ps := ["machine", "a", "m", "b", "n"]) fun _ _ _ _ _ _ us hl => match us, hl with | [_, _, _, _, _], _ => rfl)⟩⟩
  obtain ⟨fd_taken, F_taken⟩ := cd.def_ 17 (d := d_taken) rfl
  have F_taken := Fun.ofD (st := s_taken) F_taken
  have c_taken : Cal P w K mg base 4 "taken" ["machine", "a", "b"] (mkSp (Pre_taken T)) := ⟨⟨_, _, ok_taken (T := T) F_taken mc c_size_of c_Mach_enter c_last_difference c_Mach_step (He.free_ok X G (cd.fact 43 (f := .free "max") rfl)), He.glo_ok X G (cd.fact 54 (f := .glo "taken") rfl), F_taken.kp, (F_taken.binds (ps := ["machine", "a", "b"]) fun _ _ _ _ _ _ us hl => match us, hl with | [_, _, _], _ => rfl)⟩⟩
  obtain ⟨fd_joined, F_joined⟩ := cd.def_ 18 (d := d_joined) rfl
  have F_joined := Fun.ofD (st := s_joined) F_joined
  have c_joined : Cal P w K mg base 5 "joined" ["machine", "x", "y", "turn"] (mkSp (Pre_joined T)) := ⟨⟨_, _, ok_joined (T := T) F_joined c_are_compact mc c_Mach_step (He.free_ok X G (cd.fact 49 (f := .free "abs") rfl)) c_size_of c_added c_taken, He.glo_ok X G (cd.fact 55 (f := .glo "joined") rfl), F_joined.kp, (F_joined.binds (ps := ["machine", "x", "y", "turn"]) fun _ _ _ _ _ _ us hl => match us, hl with | [_, _, _, _], _ => rfl)⟩⟩
  obtain ⟨fd_add, F_add⟩ := cd.def_ 19 (d := d_add) rfl
  have F_add := Fun.ofD (st := s_add) F_add
  have c_add : Cal P w K mg base 23 "add" ["machine", "x", "y"] (mkSp (Pre_add T)) := ⟨⟨_, _, ok_add (T := T) F_add c_check_two bc c_joined c_big_of, He.glo_ok X G (cd.fact 56 (f := .glo "add") rfl), F_add.kp, (F_add.binds (ps := ["machine", "x", "y"]) fun _ _ _ _ _ _ us hl => match us, hl with | [_, _, _], _ => rfl)⟩⟩
  obtain ⟨fd_subtract, F_subtract⟩ := cd.def_ 20 (d := d_subtract) rfl
  have F_subtract := Fun.ofD (st := s_subtract) F_subtract
  have c_subtract : Cal P w K mg base 23 "subtract" ["machine", "x", "y"] (mkSp (Pre_subtract T)) := ⟨⟨_, _, ok_subtract (T := T) F_subtract c_check_two bc c_joined c_big_of, He.glo_ok X G (cd.fact 57 (f := .glo "subtract") rfl), F_subtract.kp, (F_subtract.binds (ps := ["machine", "x", "y"]) fun _ _ _ _ _ _ us hl => match us, hl with | [_, _, _], _ => rfl)⟩⟩
  obtain ⟨fd__law_source_of, F__law_source_of⟩ := cd.def_ 21 (d := d__law_source_of) rfl
  have F__law_source_of := Fun.ofD (st := s__law_source_of) F__law_source_of
  have c__law_source_of : Cal P w K mg base 1 "_law_source_of" ["_law_cell"] (mkSp (Pre__law_source_of T)) := ⟨⟨_, _, ok__law_source_of (T := T) F__law_source_of (He.free_ok X G (cd.fact 11 (f := .free "int") rfl)), He.glo_ok X G (cd.fact 58 (f := .glo "_law_source_of") rfl), F__law_source_of.kp, (F__law_source_of.binds (ps := ["_law_cell"]) fun _ _ _ _ _ _ us hl => match us, hl with | [_], _ => rfl)⟩⟩
  obtain ⟨fd__law_next, F__law_next⟩ := cd.def_ 22 (d := d__law_next) rfl
  have F__law_next := Fun.ofD (st := s__law_next) F__law_next
  have c__law_next : Cal P w K mg base 1 "_law_next" ["_law_source", "_law_count_of"] (mkSp (Pre__law_next T)) := ⟨⟨_, _, ok__law_next (T := T) F__law_next (He.free_ok X G (cd.fact 11 (f := .free "int") rfl)), He.glo_ok X G (cd.fact 59 (f := .glo "_law_next") rfl), F__law_next.kp, (F__law_next.binds (ps := ["_law_source", "_law_count_of"]) fun _ _ _ _ _ _ us hl => match us, hl with | [_, _], _ => rfl)⟩⟩
  obtain ⟨fd__law_cell_at, F__law_cell_at⟩ := cd.def_ 23 (d := d__law_cell_at) rfl
  have F__law_cell_at := Fun.ofD (st := s__law_cell_at) F__law_cell_at
  have c__law_cell_at : Cal P w K mg base 1 "_law_cell_at" ["_law_script", "_law_index"] (mkSp (Pre__law_cell_at T)) := ⟨⟨_, _, ok__law_cell_at (T := T) F__law_cell_at , He.glo_ok X G (cd.fact 60 (f := .glo "_law_cell_at") rfl), F__law_cell_at.kp, (F__law_cell_at.binds (ps := ["_law_script", "_law_index"]) fun _ _ _ _ _ _ us hl => match us, hl with | [_, _], _ => rfl)⟩⟩
  obtain ⟨fd__law_power, F__law_power⟩ := cd.def_ 24 (d := d__law_power) rfl
  have F__law_power := Fun.ofD (st := s__law_power) F__law_power
  have c__law_power : Cal P w K mg base 1 "_law_power" ["_law_base", "_law_n"] (mkSp (Pre__law_power T)) := ⟨⟨_, _, ok__law_power (T := T) F__law_power (He.free_ok X G (cd.fact 42 (f := .free "range") rfl)), He.glo_ok X G (cd.fact 61 (f := .glo "_law_power") rfl), F__law_power.kp, (F__law_power.binds (ps := ["_law_base", "_law_n"]) fun _ _ _ _ _ _ us hl => match us, hl with | [_, _], _ => rfl)⟩⟩
  obtain ⟨fd__law_words, F__law_words⟩ := cd.def_ 25 (d := d__law_words) rfl
  have F__law_words := Fun.ofD (st := s__law_words) F__law_words
  have c__law_words : Cal P w K mg base 1 "_law_words" [] (mkSp (Pre__law_words T)) := ⟨⟨_, _, ok__law_words (T := T) F__law_words , He.glo_ok X G (cd.fact 62 (f := .glo "_law_words") rfl), F__law_words.kp, (F__law_words.binds (ps := []) fun _ _ _ _ _ _ us hl => match us, hl with | [], _ => rfl)⟩⟩
  obtain ⟨fd__law_counts_right, F__law_counts_right⟩ := cd.def_ 26 (d := d__law_counts_right) rfl
  have F__law_counts_right := Fun.ofD (st := s__law_counts_right) F__law_counts_right
  have c__law_counts_right : Cal P w K mg base 24 "_law_counts_right" ["_law_source", "_law_one_here", "_law_other", "_law_base"] (mkSp (Pre__law_counts_right T)) := ⟨⟨_, _, ok__law_counts_right (T := T) F__law_counts_right c__law_next (He.free_ok X G (cd.fact 42 (f := .free "range") rfl)) c__law_power c_big c_add (He.free_ok X G (cd.fact 43 (f := .free "max") rfl)) mc c_Mach_tallyN c__law_words c_Mach_walk c_Mach_walkN c_Mach_tally (He.free_ok X G (cd.fact 16 (f := .free "len") rfl)) ceqm c_Mach_reset, He.glo_ok X G (cd.fact 63 (f := .glo "_law_counts_right") rfl), F__law_counts_right.kp, (F__law_counts_right.binds (ps := ["_law_source", "_law_one_here", "_law_other", "_law_base"]) fun _ _ _ _ _ _ us hl => match us, hl with | [_, _, _, _], _ => rfl)⟩⟩
  obtain ⟨fd__law_right, F__law_right⟩ := cd.def_ 27 (d := d__law_right) rfl
  have F__law_right := Fun.ofD (st := s__law_right) F__law_right
  have c__law_right : Cal P w K mg base 25 "_law_right" ["_law_source"] (mkSp (Pre__law_right T)) := ⟨⟨_, _, ok__law_right (T := T) F__law_right c__law_next c_Machine2 ck_Machine_cutoff_bits mc c_Mach_parts ceqm ceqt c_Mach_tally c__law_words c__law_counts_right, He.glo_ok X G (cd.fact 64 (f := .glo "_law_right") rfl), F__law_right.kp, (F__law_right.binds (ps := ["_law_source"]) fun _ _ _ _ _ _ us hl => match us, hl with | [_], _ => rfl)⟩⟩
  obtain ⟨fd__law_long_right, F__law_long_right⟩ := cd.def_ 28 (d := d__law_long_right) rfl
  have F__law_long_right := Fun.ofD (st := s__law_long_right) F__law_long_right
  have c__law_long_right : Cal P w K mg base 24 "_law_long_right" ["_law_source"] (mkSp (Pre__law_long_right T)) := ⟨⟨_, _, ok__law_long_right (T := T) F__law_long_right c_Machine2 c__law_next c_big (He.free_ok X G (cd.fact 42 (f := .free "range") rfl)) c_add c_subtract (He.free_ok X G (cd.fact 65 (f := .free "min") rfl)) mc c_Mach_walk c_Mach_tally, He.glo_ok X G (cd.fact 66 (f := .glo "_law_long_right") rfl), F__law_long_right.kp, (F__law_long_right.binds (ps := ["_law_source"]) fun _ _ _ _ _ _ us hl => match us, hl with | [_], _ => rfl)⟩⟩
  have F_law := Fun.ofD (st := s_law) G_law
  exact ok_law (T := T) F_law c__law_cell_at c__law_source_of c__law_right c__law_long_right c_Machine0 c_Mach_parts
end P

open PySem PySem.W PySem.Calls PyProof.Rows in
theorem PySem.Challenge.cw_thirtybits_k04_machines_holds : PySem.Challenge.rw_thirtybits_k04_machines.Holds := by
  w_on; o_law
  refine HandSHeadRun.head_any (r := OpenLaw.row PySem.Challenge.rw_thirtybits_k04_machines) (q := view (OpenLaw.row PySem.Challenge.rw_thirtybits_k04_machines).prog [50]) (H := P.hk) (ob := P.ob) (M := 12000) (loose := P.loose) (d := HandSHeadRun.topDef (OpenLaw.row PySem.Challenge.rw_thirtybits_k04_machines).prog 50) (kwd := []) P.ob_eq
    (by kernel_rfl) (fun s => by kernel_rfl) P.run (by kernel_rfl) (by kernel_rfl) (by kernel_rfl) (by rfl) (by first | assumption | decide +kernel) (by decide +kernel) ⟨rfl, rfl, rfl, rfl, rfl, by decide +kernel⟩ ?hw ?hc
  case hw => w_witness2
  case hc =>
    refine L2.walk_ofE (l := PySem.Challenge.rw_thirtybits_k04_machines) (n := 63) (k := 26) (x := "_law_script") (CX := L2.CX0) rfl (by decide) (by kernel_rfl) ⟨rfl, by decide, by decide⟩ ?F (fun _ _ _ _ z => z)
    intro w mg fa h Y G hmg0
    obtain ⟨K, KX, c⟩ := Y
    have hmg : mg ("law" : PySem.Str) = some (.ref fa) := by
      have e : (HandSHeadRun.topDef (OpenLaw.row PySem.Challenge.rw_thirtybits_k04_machines).prog 50).name = ("law" : PySem.Str) := by kernel_rfl
      rw [← e]
      exact hmg0
    obtain ⟨T, fd, eT, hb, hF⟩ := P.facts (P := (PySem.Challenge.rw_thirtybits_k04_machines).prog) (w := w) KX G hmg c
    refine ⟨K, fd, VL.mkSp (P.Pre_law T), KX, hb, fun H a ns hl _ hS => ?_, fun base b1 b2 => hF base b1 b2⟩
    refine ⟨H, [], _, _, ⟨ns, true, rfl, P.law_right ns hl, rfl⟩, .cons ⟨a, ns.map L2.V.int, rfl, by rw [eT]; exact hS, VL.al_of_int⟩ .nil, VL.Holds.nil (L2.Same.refl H), fun F' v H' Ω' _ _ r => r.1⟩
