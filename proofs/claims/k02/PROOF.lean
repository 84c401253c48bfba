import PyProof.Rows.All
import Wide.All
import OpenK.AllK
import Wide.FinOn
import HandS.ForMost
import HandS.Style
import HandS.IsInst
import HandS.Exc
import HandS.ExcOwn
import HandS.TryOnly
import HandS.WordsExc
import HandS.TupAny
import HandS.Steps
import HandS.TupMul
import HandS.Small
import HandS.RaiseMore
import HandS.Zip
import KE.GoesEnum
import KE.GoesMore
import KE.GoesZip
import HandS.ExcInit
import HandS.ExcField
import PySem.Challenge.RW_codenests_k02_rows_judged
set_option Elab.async false
set_option linter.all false
set_option maxRecDepth 100000
set_option maxHeartbeats 4000000
namespace Lw
open PySem L2
/-! ### the drawn source -/
abbrev ks (x : Str) : Key := Sum.inr x
theorem zCL : ¬ Str.ofString "cells" = Str.ofString "left" := by decide +kernel
theorem zCM : ¬ Str.ofString "cells" = Str.ofString "mixed" := by decide +kernel
theorem zCT : ¬ Str.ofString "cells" = Str.ofString "turn" := by decide +kernel
theorem zLC : ¬ Str.ofString "left" = Str.ofString "cells" := by decide +kernel
theorem zLM : ¬ Str.ofString "left" = Str.ofString "mixed" := by decide +kernel
theorem zLT : ¬ Str.ofString "left" = Str.ofString "turn" := by decide +kernel
theorem zMC : ¬ Str.ofString "mixed" = Str.ofString "cells" := by decide +kernel
theorem zML : ¬ Str.ofString "mixed" = Str.ofString "left" := by decide +kernel
theorem zMT : ¬ Str.ofString "mixed" = Str.ofString "turn" := by decide +kernel
theorem zTC : ¬ Str.ofString "turn" = Str.ofString "cells" := by decide +kernel
theorem zTL : ¬ Str.ofString "turn" = Str.ofString "left" := by decide +kernel
theorem zTM : ¬ Str.ofString "turn" = Str.ofString "mixed" := by decide +kernel
theorem kCL : ¬ ks "cells" = ks "left" := fun h => absurd (Sum.inr.inj h) (by decide +kernel)
theorem kCM : ¬ ks "cells" = ks "mixed" := fun h => absurd (Sum.inr.inj h) (by decide +kernel)
theorem kCT : ¬ ks "cells" = ks "turn" := fun h => absurd (Sum.inr.inj h) (by decide +kernel)
theorem kLM : ¬ ks "left" = ks "mixed" := fun h => absurd (Sum.inr.inj h) (by decide +kernel)
theorem kLT : ¬ ks "left" = ks "turn" := fun h => absurd (Sum.inr.inj h) (by decide +kernel)
theorem kMT : ¬ ks "mixed" = ks "turn" := fun h => absurd (Sum.inr.inj h) (by decide +kernel)
theorem kLC : ¬ ks "left" = ks "cells" := fun h => kCL h.symm
theorem kMC : ¬ ks "mixed" = ks "cells" := fun h => kCM h.symm
theorem kTC : ¬ ks "turn" = ks "cells" := fun h => kCT h.symm
theorem kML : ¬ ks "mixed" = ks "left" := fun h => kLM h.symm
theorem kTL : ¬ ks "turn" = ks "left" := fun h => kLT h.symm
theorem kTM : ¬ ks "turn" = ks "mixed" := fun h => kMT h.symm
def srcK (c : Addr) (l m t : Int) : List (Key × V) := [(ks "cells", .ref c), (ks "left", .int l), (ks "mixed", .int m), (ks "turn", .int t)]
theorem src_cells (c : Addr) (l m t : Int) : valV (srcK c l m t) (ks "cells") = some (.ref c) := valV_pos rfl
theorem src_left (c : Addr) (l m t : Int) : valV (srcK c l m t) (ks "left") = some (.int l) := (valV_neg kCL).trans (valV_pos rfl)
theorem src_mixed (c : Addr) (l m t : Int) : valV (srcK c l m t) (ks "mixed") = some (.int m) := (valV_neg kCM).trans ((valV_neg kLM).trans (valV_pos rfl))
theorem src_turn (c : Addr) (l m t : Int) : valV (srcK c l m t) (ks "turn") = some (.int t) := (valV_neg kCT).trans ((valV_neg kLT).trans ((valV_neg kMT).trans (valV_pos rfl)))
theorem put_left (c : Addr) (l m t z : Int) : putK (srcK c l m t) (ks "left") (.int z) = srcK c z m t := by
  simp [putK, srcK, zCL, zCM, zCT, zLC, zLM, zLT, zMC, zML, zMT, zTC, zTL, zTM]
theorem put_mixed (c : Addr) (l m t z : Int) : putK (srcK c l m t) (ks "mixed") (.int z) = srcK c l z t := by
  simp [putK, srcK, zCL, zCM, zCT, zLC, zLM, zLT, zMC, zML, zMT, zTC, zTL, zTM]
theorem put_turn (c : Addr) (l m t z : Int) : putK (srcK c l m t) (ks "turn") (.int z) = srcK c l m z := by
  simp [putK, srcK, zCL, zCM, zCT, zLC, zLM, zLT, zMC, zML, zMT, zTC, zTL, zTM]
theorem merge_src (c : Addr) (l m t : Int) : mergeK [] (srcK c l m t) = srcK c l m t := by
  simp [mergeK, putK, srcK, zCL, zCM, zCT, zLC, zLM, zLT, zMC, zML, zMT, zTC, zTL, zTM]
theorem get_cells {H : Hp} {d c : Addr} {l m t : Int} (e : H d = some (.dK (srcK c l m t))) : DGet H d (.str "cells") (some (.ref c)) := by
  have h := DGet.k (k := ks "cells") e
  rw [src_cells] at h
  exact h
theorem get_left {H : Hp} {d c : Addr} {l m t : Int} (e : H d = some (.dK (srcK c l m t))) : DGet H d (.str "left") (some (.int l)) := by
  have h := DGet.k (k := ks "left") e
  rw [src_left] at h
  exact h
theorem get_mixed {H : Hp} {d c : Addr} {l m t : Int} (e : H d = some (.dK (srcK c l m t))) : DGet H d (.str "mixed") (some (.int m)) := by
  have h := DGet.k (k := ks "mixed") e
  rw [src_mixed] at h
  exact h
theorem get_turn {H : Hp} {d c : Addr} {l m t : Int} (e : H d = some (.dK (srcK c l m t))) : DGet H d (.str "turn") (some (.int t)) := by
  have h := DGet.k (k := ks "turn") e
  rw [src_turn] at h
  exact h
theorem dput_left {H : Hp} {d c : Addr} {l m t z : Int} (e : H d = some (.dK (srcK c l m t))) : DPut H d (.str "left") (.int z) (upd H d (.dK (srcK c z m t))) := by
  have h := DPut.k (k := ks "left") (v := .int z) e (small1000 (by show 4 ≤ 1000; decide))
  rw [put_left] at h
  exact h
theorem dput_mixed {H : Hp} {d c : Addr} {l m t z : Int} (e : H d = some (.dK (srcK c l m t))) : DPut H d (.str "mixed") (.int z) (upd H d (.dK (srcK c l z t))) := by
  have h := DPut.k (k := ks "mixed") (v := .int z) e (small1000 (by show 4 ≤ 1000; decide))
  rw [put_mixed] at h
  exact h
theorem dput_turn {H : Hp} {d c : Addr} {l m t z : Int} (e : H d = some (.dK (srcK c l m t))) : DPut H d (.str "turn") (.int z) (upd H d (.dK (srcK c l m z))) := by
  have h := DPut.k (k := ks "turn") (v := .int z) e (small1000 (by show 4 ≤ 1000; decide))
  rw [put_turn] at h
  exact h
/-- the drawn source stands at d, its cells at c -/
def Src (H : Hp) (d c : Addr) : Prop := ∃ (xs : List Int) (l m t : Int), H d = some (.dK (srcK c l m t)) ∧ H c = some (.lst (xs.map V.int)) ∧ xs.length ≤ 63 ∧ (∀ x ∈ xs, 0 ≤ x) ∧ 0 ≤ l ∧ 0 ≤ m ∧ m < 2147483647
/-- G is known: it stands in H whatever is drawn; the source itself is apart from it -/
structure Kn (G H : Hp) (d c : Addr) : Prop where
  le : Same G H
  gd : G d = none
  gc : G c = none
  src : Src H d c
section
variable {G H H' : Hp} {d c p : Addr} {o o' : HO}
theorem Src.ne (s : Src H d c) : c ≠ d := by
  obtain ⟨xs, l, m, t, h1, h2, _⟩ := s
  exact ne_of h2 h1 (by intro z; cases z)
theorem Src.some_d (s : Src H d c) (hp : H p = none) : p ≠ d := by
  obtain ⟨xs, l, m, t, h1, h2, _⟩ := s
  exact fun e => by rw [e, h1] at hp; cases hp
theorem Src.some_c (s : Src H d c) (hp : H p = none) : p ≠ c := by
  obtain ⟨xs, l, m, t, h1, h2, _⟩ := s
  exact fun e => by rw [e, h2] at hp; cases hp
theorem Src.same (s : Src H d c) (e : Same H H') : Src H' d c := by
  obtain ⟨xs, l, m, t, h1, h2, r⟩ := s
  exact ⟨xs, l, m, t, e _ _ h1, e _ _ h2, r⟩
theorem Src.off (s : Src H d c) (h1 : p ≠ d) (h2 : p ≠ c) : Src (upd H p o) d c := by
  obtain ⟨xs, l, m, t, e1, e2, r⟩ := s
  exact ⟨xs, l, m, t, by rw [upd_ne h1.symm]; exact e1, by rw [upd_ne h2.symm]; exact e2, r⟩
theorem same_new (h : H p = none) : Same H (upd H p o) := fun b x e => by
  rw [upd_ne (ne_of_none e h)]
  exact e
theorem Kn.mono (k : Kn G H d c) (e : Same H H') : Kn G H' d c := ⟨k.le.trans e, k.gd, k.gc, k.src.same e⟩
/-- a new object, remembered -/
theorem Kn.new (k : Kn G H d c) (hp : H p = none) : Kn (upd G p o) (upd H p o) d c := by
  refine ⟨fun b x e => ?_, ?_, ?_, k.src.same (same_new hp)⟩
  · by_cases hb : b = p
    · subst hb
      rw [upd_same] at e ⊢
      exact e
    · rw [upd_ne hb] at e ⊢
      exact k.le _ _ e
  · rw [upd_ne (k.src.some_d hp).symm]
    exact k.gd
  · rw [upd_ne (k.src.some_c hp).symm]
    exact k.gc
/-- an object made meanwhile, remembered -/
theorem Kn.add (k : Kn G H d c) (e : Same H H') (hp : H p = none) (h : H' p = some o) : Kn (upd G p o) H' d c := by
  refine ⟨fun b x q => ?_, ?_, ?_, k.src.same e⟩
  · by_cases hb : b = p
    · subst hb
      rw [upd_same] at q
      cases q
      exact h
    · rw [upd_ne hb] at q
      exact e _ _ (k.le _ _ q)
  · rw [upd_ne (k.src.some_d hp).symm]
    exact k.gd
  · rw [upd_ne (k.src.some_c hp).symm]
    exact k.gc
theorem Kn.nd (k : Kn G H d c) (h : G p = some o) : p ≠ d := fun e => by
  rw [e, k.gd] at h
  cases h
theorem Kn.nc (k : Kn G H d c) (h : G p = some o) : p ≠ c := fun e => by
  rw [e, k.gc] at h
  cases h
/-- a remembered object changes -/
theorem Kn.set (k : Kn (upd G p o) H d c) : Kn (upd G p o') (upd H p o') d c := by
  have n1 : p ≠ d := k.nd upd_same
  have n2 : p ≠ c := k.nc upd_same
  refine ⟨fun b x e => ?_, ?_, ?_, k.src.off n1 n2⟩
  · by_cases hb : b = p
    · subst hb
      rw [upd_same] at e ⊢
      exact e
    · rw [upd_ne hb] at e ⊢
      refine k.le _ _ ?_
      rw [upd_ne hb]
      exact e
  · have := k.gd
    rw [upd_ne n1.symm] at this ⊢
    exact this
  · have := k.gc
    rw [upd_ne n2.symm] at this ⊢
    exact this
/-- an object that nobody remembers changes -/
theorem Kn.mut (k : Kn G H d c) (g : G p = none) (n1 : p ≠ d) (n2 : p ≠ c) : Kn G (upd H p o) d c :=
  ⟨fun b x e => by rw [upd_ne (ne_of_none e g)]; exact k.le _ _ e, k.gd, k.gc, k.src.off n1 n2⟩
/-- a remembered object becomes another -/
theorem Kn.put (k : Kn G H d c) (g : G p = some o) : Kn (upd G p o') (upd H p o') d c := by
  have n1 : p ≠ d := k.nd g
  have n2 : p ≠ c := k.nc g
  refine ⟨fun b x e => ?_, by rw [upd_ne n1.symm]; exact k.gd, by rw [upd_ne n2.symm]; exact k.gc, k.src.off n1 n2⟩
  by_cases hb : b = p
  · subst hb
    rw [upd_same] at e ⊢
    exact e
  · rw [upd_ne hb] at e ⊢
    exact k.le _ _ e
/-- all that stands but the source is known -/
def hide (H : Hp) (d c : Addr) : Hp := fun b => if b = d ∨ b = c then none else H b
theorem know (k : Kn G H d c) : Kn (hide H d c) H d c :=
  ⟨fun b x e => by
    unfold hide at e
    split at e
    · cases e
    · exact e, by simp [hide], by simp [hide], k.src⟩
theorem know_le (k : Kn G H d c) : Same G (hide H d c) := fun b x e => by
  have h1 : b ≠ d := k.nd e
  have h2 : b ≠ c := k.nc e
  unfold hide
  rw [if_neg (by simp [h1, h2])]
  exact k.le _ _ e
theorem know_t {K : PySem.W.Frag} {t : Addr} {xs : List V} (k : Kn G H d c) (h : SqT K H t xs) : SqT K (hide H d c) t xs := by
  obtain ⟨ys, l, m, z, h1, h2, _⟩ := k.src
  have off : ∀ {o : HO}, H t = some o → (∀ q, o ≠ .dK q) → (∀ q, o ≠ .lst q) → (hide H d c) t = some o := fun {o} e n1 n2 => by
    have a1 : t ≠ d := fun q => by rw [q, h1] at e; exact n1 _ (Option.some.inj e).symm
    have a2 : t ≠ c := fun q => by rw [q, h2] at e; exact n2 _ (Option.some.inj e).symm
    unfold hide
    rw [if_neg (by simp [a1, a2])]
    exact e
  rcases h with (h | ⟨o, h⟩) | h
  · exact .inl (.inl (off h (fun _ q => nomatch q) (fun _ q => nomatch q)))
  · exact .inl (.inr ⟨o, off h (fun _ q => nomatch q) (fun _ q => nomatch q)⟩)
  · exact .inr h
/-- one forgets -/
theorem Kn.weak {G' : Hp} (k : Kn G H d c) (e : Same G' G) : Kn G' H d c := ⟨e.trans k.le, e.free k.gd, e.free k.gc, k.src⟩
theorem Kn.free (k : Kn G H d c) (hp : H p = none) : G p = none := k.le.free hp
end
theorem ints_at {ns : List Int} {i : Nat} {y : V} (h : (ns.map V.int)[i]? = some y) : ∃ z, y = V.int z ∧ ns[i]? = some z := by
  rw [List.getElem?_map] at h
  cases e : ns[i]? with
  | none =>
    rw [e] at h
    cases h
  | some z =>
    rw [e] at h
    exact ⟨z, (Option.some.inj h).symm, rfl⟩
theorem at_lt {α : Type} {l : List α} {i : Nat} {x : α} (h : l[i]? = some x) : i < l.length := (List.getElem?_eq_some_iff.mp h).1
/-! ### values and tests that leave the heap -/
section
variable {σ : L2.St} {H : Hp} {x y z v : V} {ta tb td ty : TE} {d : Addr} {b : Bool}
theorem val_dget (h : Val td σ H (.ref d)) (hy : Val ty σ H y) (g : DGet H d y (some v)) : Val (tDGet td ty) σ H v := fun Q q => by
  refine h _ ?_
  refine hy _ ?_
  exact ⟨d, v, rfl, g, q⟩
theorem val_cb1 {r : List V → Hp → VK → Prop} (h : Val ta σ H x) (hr : ∀ Q : VK, Q z H → r [x] H Q) : Val (tCB r (tCons ta tNil)) σ H z := fun Q q => by
  refine h _ ?_
  exact hr Q q
theorem val_cb2 {r : List V → Hp → VK → Prop} (h : Val ta σ H x) (h2 : Val tb σ H y) (hr : ∀ Q : VK, Q z H → r [x, y] H Q) : Val (tCB r (tCons ta (tCons tb tNil))) σ H z := fun Q q => by
  refine h _ ?_
  refine h2 _ ?_
  exact hr Q q
theorem tyes {A B : Hp → Prop} (h : A H) : tYes σ H (fun b H3 => if b = true then A H3 else B H3) := by
  show (if true = true then A H else B H)
  exact iteT h
theorem ans_or2 {t u : TT} {b1 b2 : Bool} (h1 : Ans t σ H b1) (h2 : Ans u σ H b2) : Ans (tOr t u) σ H (b1 || b2) := by
  cases b1 with
  | true => exact ans_or1 h1
  | false => exact ans_or h1 h2
/-- an expression by two ways, one behind -/
theorem ifx {c : Bool} {te tf : TE} {X : VK} (P : V → Hp → Prop) (h : ∀ v H', P v H' → X v H') (h1 : c = true → ∀ Y : VK, (∀ v H', P v H' → Y v H') → te σ H Y) (h2 : c = false → ∀ Y : VK, (∀ v H', P v H' → Y v H') → tf σ H Y) :
    if c = true then te σ H X else tf σ H X := by
  cases c with
  | true => exact iteT (h1 rfl X h)
  | false => exact iteF (h2 rfl X h)
/-- a statement by two ways, one behind -/
theorem ifs {c : Bool} {tA tB : TS} {D : Ends} (P : L2.St → Hp → Prop) (h : ∀ σ' H', P σ' H' → D.nx σ' H') (h1 : c = true → ∀ N : L2.St → Hp → Prop, (∀ σ' H', P σ' H' → N σ' H') → tA { D with nx := N } σ H) (h2 : c = false → ∀ N : L2.St → Hp → Prop, (∀ σ' H', P σ' H' → N σ' H') → tB { D with nx := N } σ H) :
    if c = true then tA D σ H else tB D σ H := by
  cases c with
  | true => exact iteT (h1 rfl D.nx h)
  | false => exact iteF (h2 rfl D.nx h)
/-- one test, then another, whatever they say -/
theorem ift {c : Bool} {u : TT} {X : Bool → Hp → Prop} (P : Bool → Hp → Prop) (p : P false H) (h : ∀ b H', P b H' → X b H') (h1 : ∀ Y : Bool → Hp → Prop, (∀ b H', P b H' → Y b H') → u σ H Y) :
    if c = true then u σ H X else X false H := by
  cases c with
  | true => exact iteT (h1 X h)
  | false => exact iteF (h _ _ p)
theorem Val.to (h : Val ta σ H x) (e : x = y) : Val ta σ H y := e ▸ h
theorem val_is (h : Val ta σ H x) {Q : VK} (q : Q x H) : ta σ H Q := h Q q
end
end Lw

namespace Lw
open PySem L2 PySem.Spec PyProof.Rows
/-- a tuple of one item, none times -/
theorem tm_none (l : Addr) (items : Array Value) (n : Nat) (dd : Option Addr) (sl : Array (Option Value)) (u : Tok) (he : items.isEmpty = false) :
    Meets (Builtin.«tuple.__mul__» ⟨[.ref l, .int 0 u], []⟩) (fun _ R s => s.heap.get? l = some { cls := .type "tuple", dict := dd, data := .seq items n, slots := sl } ∧
      R (.ok (.ret (Value.ref s.heap.objs.size))) { s with heap := s.heap.push { cls := Value.type "tuple", data := Data.seq #[] }, toks := s.toks }) :=
  .of_wp fun prog w A R s z => by
    obtain ⟨h1, h2, h3, h4, h5⟩ := s
    obtain ⟨hl, z⟩ := z
    have f1 := AutoSeq1.idx_int
    have c1 : (items.isEmpty || (0 : Int) == 1) = false := by rw [he]; rfl
    wp_walk using wpAny_loadPart' hl
    repeat (first
      | (refine wpAny_ite_false (decide_eq_false (by rw [c1]; exact Bool.false_ne_true)) ?_; wp_walk using wpAny_loadPart' hl)
      | (refine wpAny_ite_true (decide_eq_true (by decide)) ?_; wp_walk using wpAny_loadPart' hl)
      | (refine wpAny_ite_false (decide_eq_false (by decide)) ?_; wp_walk using wpAny_loadPart' hl))
    exact ⟨_, rfl, z⟩
/-- a tuple of one item, once: itself -/
theorem tm_once (l : Addr) (items : Array Value) (n : Nat) (dd : Option Addr) (sl : Array (Option Value)) (u : Tok) :
    Meets (Builtin.«tuple.__mul__» ⟨[.ref l, .int 1 u], []⟩) (fun _ R s => s.heap.get? l = some { cls := .type "tuple", dict := dd, data := .seq items n, slots := sl } ∧ ∀ k, R (.ok (.ret (Value.ref l))) { s with toks := k }) :=
  .of_wp fun prog w A R s z => by
    obtain ⟨h1, h2, h3, h4, h5⟩ := s
    obtain ⟨hl, z⟩ := z
    have f1 := AutoSeq1.idx_int
    have c1 : (items.isEmpty || (1 : Int) == 1) = true := by rw [show ((1 : Int) == 1) = true from rfl, Bool.or_true]
    wp_walk using wpAny_loadPart' hl
    repeat (first
      | (refine wpAny_ite_true (decide_eq_true (by rw [c1])) ?_; wp_walk using wpAny_loadPart' hl)
      | (refine wpAny_ite_false (decide_eq_false (by decide)) ?_; wp_walk using wpAny_loadPart' hl))
    exact ⟨_, rfl, z _⟩
/-- (v,) * k -/
def rRep1 (K : PySem.W.Frag) : R2 := fun x y H Q => ∃ l k v, x = .ref l ∧ y = .int k ∧ SqT K H l [v] ∧ 0 ≤ k ∧ k ≤ 1000 ∧ ∀ t H', Same H H' → SqT K H' t (List.replicate k.toNat v) → Q (.ref t) H'
section
variable {X : Cx}
theorem op_rep1 : OpR X (binaryOp .Mult) (rRep1 X.K) := by
  intro pins s σ H x y v u Q I rx ry h
  obtain ⟨l, k, z, rfl, rfl, hT, h0, h1, q⟩ := id h
  by_cases h2 : 2 ≤ k
  · refine op_repT pins s σ H _ _ v u Q I rx ry ⟨l, k, [z], rfl, rfl, hT, by simp, h2, h1, by simp, fun p hp => q p _ (same_new hp) (.inl (.inl ?_))⟩
    rw [upd_same]
    congr 2
    induction k.toNat with
    | zero => rfl
    | succ m ih => rw [List.replicate_succ, List.flatten_cons, ih, List.replicate_succ]; rfl
  · cases rx
    obtain ⟨t, rfl⟩ := ry
    obtain ⟨its, r, ⟨⟨cls, dd, data, sl⟩, ho, hc, n, hd⟩, hs⟩ := I.tuple hT
    simp only at hc hd
    subst hc hd
    have hn : its.toArray.isEmpty = false := by
      cases r with
      | cons _ _ => rfl
    rcases (by omega : k = 0 ∨ k = 1) with rfl | rfl
    · refine wpAny_binaryOp_repeat_ref (T := "tuple") (U := "int") (by decide) ⟨_, ho, rfl⟩ (fun s' => typeIs_int s' 0 t) noFill_tuple_mul F.fills_int_mul F.slot_int_rmul repeat_tuple F.slot_int_index.lookup
        (call_meets F.slot_int_rmul (typeIs_int s 0 t) F.entry_int_rmul (F.args_int_rmul_2 _ _) (int_rmul_tuple 0 t l its.toArray n dd sl)
          ⟨ho, rfl, ⟨_, ho, rfl⟩, call_meets F.slot_tuple_mul ⟨_, ho, rfl⟩ F.entry_tuple_mul (F.args_tuple_mul_2 _ _) (tm_none l its.toArray n dd sl t hn) ⟨ho, ?_⟩⟩)
      have hf := I.hok.fresh (Nat.le_refl s.heap.objs.size)
      refine ⟨.ref s.heap.objs.size, upd H s.heap.objs.size (.tup []), I.laid (t' := s.toks) (o := .tup []) (fun b ob q => Heap.get?_push_of_some _ q) (Nat.le_refl _) ?_, rfl, q _ _ (same_new hf) (.inl (.inl upd_same))⟩
      exact ⟨Nat.zero_le _, [], .nil, IsTup.new _ _⟩
    · refine wpAny_binaryOp_repeat_ref (T := "tuple") (U := "int") (by decide) ⟨_, ho, rfl⟩ (fun s' => typeIs_int s' 1 t) noFill_tuple_mul F.fills_int_mul F.slot_int_rmul repeat_tuple F.slot_int_index.lookup
        (call_meets F.slot_int_rmul (typeIs_int s 1 t) F.entry_int_rmul (F.args_int_rmul_2 _ _) (int_rmul_tuple 1 t l its.toArray n dd sl)
          ⟨ho, rfl, ⟨_, ho, rfl⟩, call_meets F.slot_tuple_mul ⟨_, ho, rfl⟩ F.entry_tuple_mul (F.args_tuple_mul_2 _ _) (tm_once l its.toArray n dd sl t) ⟨ho, fun k => ?_⟩⟩)
      exact ⟨.ref l, H, I.tok k, rfl, q _ _ (Same.refl _) hT⟩
end
end Lw

namespace Lw
open PySem L2
/-! ### rows as data -/
def dR (r : List Int) : PyData := .tuple (r.map .int)
def dRs (rs : List (List Int)) : PyData := .list (rs.map dR)
theorem dp_ints {K : PySem.W.Frag} {H : Hp} : ∀ ns : List Int, DpAll K H (ns.map V.int) (ns.map PyData.int)
  | [] => .nil
  | n :: ns => .cons (.int n) (dp_ints ns)
theorem dp_row {K : PySem.W.Frag} {H : Hp} {t : Addr} {r : List Int} (h : SqT K H t (r.map V.int)) : Dp K H (.ref t) (dR r) := .tup h (dp_ints r)
/-- at ts stand the rows -/
inductive Rows (K : PySem.W.Frag) (H : Hp) : List V → List (List Int) → Prop where
  | nil : Rows K H [] []
  | cons {t : Addr} {ts : List V} {r : List Int} {rs : List (List Int)} : SqT K H t (r.map V.int) → Rows K H ts rs → Rows K H (.ref t :: ts) (r :: rs)
theorem sameT {K : PySem.W.Frag} {H H' : Hp} {a : Addr} {xs : List V} (e : Same H H') (h : SqT K H a xs) : SqT K H' a xs := by
  rcases h with (h | ⟨o, h⟩) | h
  · exact .inl (.inl (e _ _ h))
  · exact .inl (.inr ⟨o, e _ _ h⟩)
  · exact .inr h
theorem Rows.mono {K : PySem.W.Frag} {H H' : Hp} (e : Same H H') : ∀ {ts : List V} {rs : List (List Int)}, Rows K H ts rs → Rows K H' ts rs
  | _, _, .nil => .nil
  | _, _, .cons h t => .cons (sameT e h) (Rows.mono e t)
theorem Rows.append {K : PySem.W.Frag} {H : Hp} : ∀ {ts us : List V} {rs qs : List (List Int)}, Rows K H ts rs → Rows K H us qs → Rows K H (ts ++ us) (rs ++ qs)
  | _, _, _, _, .nil, k => k
  | _, _, _, _, .cons h t, k => .cons h (Rows.append t k)
theorem Rows.one {K : PySem.W.Frag} {H : Hp} {t : Addr} {r : List Int} (h : SqT K H t (r.map V.int)) : Rows K H [.ref t] [r] := .cons h .nil
theorem Rows.len {K : PySem.W.Frag} {H : Hp} : ∀ {ts : List V} {rs : List (List Int)}, Rows K H ts rs → ts.length = rs.length
  | _, _, .nil => rfl
  | _, _, .cons _ t => by rw [List.length_cons, List.length_cons, Rows.len t]
theorem Rows.get {K : PySem.W.Frag} {H : Hp} : ∀ {ts : List V} {rs : List (List Int)} {i : Nat} {x : V}, Rows K H ts rs → ts[i]? = some x → ∃ t r, x = .ref t ∧ rs[i]? = some r ∧ SqT K H t (r.map V.int)
  | _, _, _, _, .nil, e => by simp at e
  | _, _, 0, _, .cons h _, e => by simp at e; exact ⟨_, _, e.symm, rfl, h⟩
  | _, _, i + 1, _, .cons _ t, e => by
    obtain ⟨a, r, h1, h2, h3⟩ := Rows.get (i := i) t (by simpa using e)
    exact ⟨a, r, h1, by simpa using h2, h3⟩
theorem dp_rows {K : PySem.W.Frag} {H : Hp} : ∀ {ts : List V} {rs : List (List Int)}, Rows K H ts rs → DpAll K H ts (rs.map dR)
  | _, _, .nil => .nil
  | _, _, .cons h t => .cons (dp_row h) (dp_rows t)
theorem sqt_off {K : PySem.W.Frag} {H : Hp} {D a : Addr} {xs ys zs : List V} (hD : H D = some (.lst xs)) (h : SqT K H a zs) : SqT K (upd H D (.lst ys)) a zs := by
  rcases h with (h | ⟨o, h⟩) | h
  · exact .inl (.inl (by rw [upd_ne (ne_of h hD (by intro z; cases z))]; exact h))
  · exact .inl (.inr ⟨o, by rw [upd_ne (ne_of h hD (by intro z; cases z))]; exact h⟩)
  · exact .inr h
/-- the rows stand, whatever a list becomes -/
theorem rows_off {K : PySem.W.Frag} {H : Hp} {D : Addr} {xs ys : List V} (hD : H D = some (.lst xs)) : ∀ {ts : List V} {rs : List (List Int)}, Rows K H ts rs → Rows K (upd H D (.lst ys)) ts rs
  | _, _, .nil => .nil
  | _, _, .cons h t => .cons (sqt_off hD h) (rows_off hD t)
theorem small1000' {n : Nat} (h : n ≤ 10000) : n < sizeLine := Nat.lt_of_le_of_lt h (by decide)
theorem can_ints : ∀ ns : List Int, PyData.canLayAll0 (ns.map PyData.int) = true
  | [] => rfl
  | n :: ns => by
    show (PyData.canLay0 (.int n) && PyData.canLayAll0 (ns.map PyData.int)) = true
    rw [can_ints ns]
    rfl
theorem dep_ints : ∀ ns : List Int, PyData.depthAll (ns.map PyData.int) ≤ 1
  | [] => by decide
  | n :: ns => by
    have ih := dep_ints ns
    have h1 : PyData.depth (.int n) ≤ 1 := by simp [PyData.depth]
    simp only [List.map_cons, PyData.depthAll]
    omega
theorem can_rows : ∀ rs : List (List Int), PyData.canLayAll0 (rs.map dR) = true
  | [] => rfl
  | r :: rs => by
    show (PyData.canLay0 (dR r) && PyData.canLayAll0 (rs.map dR)) = true
    rw [can_rows rs, Bool.and_true]
    show PyData.canLayAll0 (r.map PyData.int) = true
    exact can_ints r
theorem dep_row (r : List Int) : PyData.depth (dR r) ≤ 2 := by
  have h := dep_ints r
  unfold dR
  simp only [PyData.depth]
  omega
theorem dep_rows : ∀ rs : List (List Int), PyData.depthAll (rs.map dR) ≤ 2
  | [] => by decide
  | r :: rs => by
    have ih := dep_rows rs
    have h1 := dep_row r
    simp only [List.map_cons, PyData.depthAll]
    omega
theorem shp_row (r : List Int) : SeqAt.shaped (dR r) = true := by
  unfold SeqAt.shaped
  rw [Bool.and_eq_true]
  exact ⟨can_ints r, decide_eq_true (Nat.le_trans (dep_row r) (by decide))⟩
theorem shp_rows (rs : List (List Int)) : SeqAt.shaped (dRs rs) = true := by
  unfold SeqAt.shaped
  rw [Bool.and_eq_true]
  refine ⟨can_rows rs, decide_eq_true ?_⟩
  have h := dep_rows rs
  unfold dRs
  simp only [PyData.depth]
  omega
theorem eqv_same {d : PyData} (h : SeqAt.shaped d = true) : PyData.eqv d d = true := SeqAt.eqv_refl d (SeqAt.canLay_of_shaped h)
theorem neD_no {d : PyData} (h : SeqAt.shaped d = true) {A B : Prop} (b : B) : if (!PyData.eqv d d) = true then A else B := by
  rw [eqv_same h]
  exact iteF b
theorem ne_no {x : V} {A B : Prop} (b : B) : if (!decide (x = x)) = true then A else B := by
  rw [decide_eq_true rfl]
  exact iteF b
theorem know_rows {K : PySem.W.Frag} {G H : Hp} {d c : Addr} (k : Kn G H d c) : ∀ {ts : List V} {rs : List (List Int)}, Rows K H ts rs → Rows K (hide H d c) ts rs
  | _, _, .nil => .nil
  | _, _, .cons h t => .cons (know_t k h) (know_rows k t)
theorem rows_set {K : PySem.W.Frag} {H : Hp} {t : Addr} {r : List Int} : ∀ {ts : List V} {rs : List (List Int)} {i : Nat}, Rows K H ts rs → SqT K H t (r.map V.int) → Rows K H (ts.set i (.ref t)) (rs.set i r)
  | _, _, _, .nil, _ => by simpa using Rows.nil
  | _, _, 0, .cons _ tl, h => by simpa using Rows.cons h tl
  | _, _, i + 1, .cons h0 tl, h => by simpa using Rows.cons h0 (rows_set (i := i) tl h)
theorem s_off {H H' : Hp} {D : Addr} {o : HO} (s : Same H H') (h : H D = none) : Same H (upd H' D o) := fun b x e => by
  rw [upd_ne (ne_of_none e h)]
  exact s _ _ e
theorem at_nat {us : List V} {i : Nat} {x : V} (h : us[i]? = some x) : atI us (i : Int) = some x := atI_nat h
theorem ixN_nat {n i : Nat} (h : i < n) : ixN n (i : Int) = some i := by
  unfold ixN
  rw [if_pos (by omega), if_pos (by omega)]
  simp
theorem rows_take {K : PySem.W.Frag} {H : Hp} : ∀ {ts : List V} {rs : List (List Int)} {j : Nat}, Rows K H ts rs → Rows K H (ts.take j) (rs.take j)
  | _, _, _, .nil => by simpa using Rows.nil
  | _, _, 0, .cons _ _ => .nil
  | _, _, j + 1, .cons h t => .cons h (rows_take t)
theorem six_nat {n d m : Nat} (h : m ≤ n) : HT.sIx n d (some (m : Int)) = m := by
  rw [HT.sIx_nat]
  omega
theorem cut_from (us : List V) (n : Nat) (h : n ≤ us.length) : cutV us (some (n : Int)) none = us.drop n := by
  unfold cutV
  rw [show HT.sIx us.length 0 (some (n : Int)) = n from six_nat h, show HT.sIx us.length us.length none = us.length from rfl]
  exact List.take_of_length_le (by rw [List.length_drop]; exact Nat.le_refl _)
theorem cut_to (us : List V) (x : Int) : ∃ j, cutV us none (some x) = us.take j := by
  unfold cutV
  exact ⟨_, by rw [show HT.sIx us.length 0 none = 0 from rfl, List.drop_zero]⟩
theorem rows_drop {K : PySem.W.Frag} {H : Hp} : ∀ {ts : List V} {rs : List (List Int)} {j : Nat}, Rows K H ts rs → Rows K H (ts.drop j) (rs.drop j)
  | _, _, _, .nil => by simpa using Rows.nil
  | _, _, 0, .cons h t => .cons h t
  | _, _, j + 1, .cons _ t => by simpa using rows_drop (j := j) t
theorem cut_nat (us : List V) (m : Nat) : cutV us none (some (m : Int)) = us.take m := by
  unfold cutV
  rw [show HT.sIx us.length 0 none = 0 from rfl, List.drop_zero, HT.sIx_nat, Nat.sub_zero]
  by_cases h : m ≤ us.length
  · rw [Nat.min_eq_left h]
  · rw [Nat.min_eq_right (by omega), List.take_of_length_le (Nat.le_refl _), List.take_of_length_le (by omega)]
end Lw

namespace Lw
open PySem L2 PySem.Spec PyProof.Rows
/-- X(), X an own exception class without own __init__ -/
theorem pmk_none {X : Cx} {pos : Pos} {C : Addr} {bmB : List Value} {B newId initId : String} {x : Str} {p : Pos} (F : ExcBaseFacts B newId initId bmB) (e : PySem.W.excIn X.K C bmB newId = true) (gC : X.mg x = some (.ref C))
    (kC : PySem.W.keepIn X.K (.ref C) = true) (rs : Raises X (.ref C)) (hg : Gl X x) (hdb : (x == ("__debug__" : Str)) = false := by decide) :
    PMk X (.Call (.Name x p) [] [] pos) (fun _ H Q => Q (.ref C) none H) := by
  intro pins s σ H Q I h
  refine wpAny_Call_Name_kw (ld_glob I hg gC ?_ hdb)
  refine PySem.W.callWith_K0 I.kIn kC ?_
  show wpAny _ _ (call (.ref C) []) _ _ _
  obtain ⟨bm, N, nm, qn, bs, hdct, sn, sub, ab, col, dd, k0, k1, k2, k3, k5, mN, hC, hN, hni, T⟩ := exc_obj I.kIn e
  exact wpAny_call_exc_subT F T hC hN hni (fun h' a hm => mk_of I hm rs h (I.hok.gone hm.new)) (Nat.zero_le _)
/-- what the written part says of an own exception class over ValueError -/
structure OwnX (K : PySem.W.Frag) (mg : Str → Option Value) (x : Str) (C : Addr) : Prop where
  g : mg x = some (.ref C)
  ex : PySem.W.excIn K C [.type "ValueError", .type "Exception", .type "BaseException", .type "object"] "ValueError.__new__" = true
  kp : PySem.W.keepIn K (.ref C) = true
  bE : PySem.W.subIn K (.ref C) (.type "BaseException") = some true
  tE : PySem.W.typeIn K (.ref C) = some (.type "type")
  iE : PySem.W.isClsIn K C = true
  sE : PySem.W.subIn K (.ref C) (.ref C) = some true
theorem OwnX.me {K : PySem.W.Frag} {mg : Str → Option Value} {x : Str} {C : Addr} (o : OwnX K mg x C) : PySem.W.exmOne K (.ref C) (.ref C) = some true := by
  have e1 : (PySem.W.subIn K (.ref C) (.type "BaseException") == some true) = true := by rw [o.bE]; rfl
  have e3 : (PySem.W.clsIn K C).isSome = true := o.iE
  have e2 : ((PySem.W.clsIn K C).isSome && PySem.W.typeIn K (.ref C) == some (.type "type")) = true := by rw [e3, o.tE]; rfl
  show (if _ then (if _ then _ else _) else _) = some true
  rw [if_pos e1, if_pos e2]
  exact o.sE
end Lw

/-! ### defs that may show data: nothing is being shown around them -/
namespace Lw
open PySem L2 PySem.Spec PyProof.Rows
/-- a def's promise where nothing is being shown around it -/
structure FnG (P : Program) (w : World) (K : PySem.W.Frag) (mg : Str → Option Value) (base : Heap) (CX : CXT) (k : Nat) (f : Addr) (fd : FuncData) (ps : List Str) (sp : Sp) : Prop where
  len : ∀ vs H Q E, sp vs H Q E → vs.length = ps.length
  run : ∀ (A : Around) (outer : List Env) (s : Shared) (H : Hp) (args : Args) (us : List Value) (vs : List V) (Q : VK) (E : XK), A.guards = some [] → Room k A → Env0 P w K mg base A outer s H → BindsTo s fd args (ps.zip us) → Vals vs us →
    sp vs H Q E → codeAny (model P w) A (.call (.ref f) args) (CR CX outer P w H s Q E) s
section
variable {P : Program} {w : World} {K : PySem.W.Frag} {mg : Str → Option Value} {base : Heap} {CX : CXT}
theorem FnG.of {k : Nat} {f : Addr} {fd : FuncData} {ps : List Str} {sp : Sp} (F : FnOk P w K mg base CX k f fd ps sp) : FnG P w K mg base CX k f fd ps sp :=
  ⟨F.len, fun A outer s H args us vs Q E _ hr e0 hb r h => F.run A outer s H args us vs Q E hr e0 hb r h⟩
/-- a def by its body, the guards known -/
theorem okG_of {x qual : Str} {st : Stmt} {f : Addr} {fd : FuncData} {N ps : List Str} {k : Nat} {sp : Sp} (F : Fun K x qual st f fd) (S : FnScope N ps (defScope st)) (len : ∀ vs H Q E, sp vs H Q E → vs.length = ps.length)
    (hbody : ∀ (cdv : Value) (A : Around) (outer : List Env) (s : Shared) (H : Hp) (vs : List V) (Q : VK) (E : XK), A.guards = some [] → Room k (A.deeper (envOfC qual (defScope st) s.heap.objs.size f cdv)) → sp vs H Q E →
      ∃ t, PSs (cxOf CX P w K mg base N qual (defScope st) f cdv A outer s H E) (defBody st) t ∧ t { nx := fun _ H' => Q .non H', rt := Q } (start N vs) H) :
    FnG P w K mg base CX (k + 1) f fd ps sp := by
  obtain ⟨oc, od, kV, doc, pm, an, cdv, ct, osl, rfl, lk, hcd⟩ := F.ex
  refine ⟨len, fun A outer s H args us vs Q E hG hR e0 hb r hsp => ?_⟩
  have X1 : K.In s.heap := e0.mod.kin.keeps fun b o e => (e0.bs b o e).1
  have lim : s.heap.NoLimit := e0.mod.nolimit.keeps fun b o e => (e0.bs b o e).1
  have kinds : ∀ y ∈ ps.zip us, (defScope st).names.lookup y.1 = some .local ∨ ((defScope st).names.lookup y.1 = some .cell ∧ ((cellsFrom (s.heap.objs.size + 1) (defScope st).names []).lookup y.1).isSome = true) := by
    rintro ⟨n, v⟩ hy
    cases S.par n (List.of_mem_zip hy).1 with
    | inl q => exact .inl q
    | inr q => exact .inr ⟨q, PySem.W.cellsFrom_some _ _ _ (.inl q)⟩
  refine codeAny_call_function hR.depth (X1 _ _ lk) rfl S.co S.gen rfl (PySem.W.codeRec_of X1 hcd) (hb _ _ _ _ ?_)
  refine wpAny_newFunctionEnv_cells S.kind kinds fun env he s1 ic => ?_
  subst he
  refine ⟨lim.keeps ic.toInCall.keep, codeAny_func ?_⟩
  obtain ⟨t, ht, hq⟩ := hbody cdv A outer s H vs Q E hG (hR.deeper _) hsp
  have I := inv_start (CX := CX) (E := E) S hR.hd e0 (len _ _ _ _ hsp) r ic
  refine wpAny_mono (ht.run [] s1 (start N vs) H _ I hq) (fun fl s' hs => ?_) fun e s' hs => hs
  cases fl with
  | ret u =>
    obtain ⟨v, σ', H', J, rv, q⟩ := hs
    exact ⟨v, H', J.os, J.bare, J.base, J.hok, rv, q⟩
  | next =>
    obtain ⟨σ', H', J, q⟩ := hs
    exact ⟨V.non, H', J.os, J.bare, J.base, J.hok, (rfl : Value.none = Value.none), q⟩
  | brk =>
    obtain ⟨_, _, _, q⟩ := hs
    exact False.elim q
  | cont =>
    obtain ⟨_, _, _, q⟩ := hs
    exact False.elim q
end
section
variable {P : Program} {w : World} {K : PySem.W.Frag} {mg : Str → Option Value} {base : Heap}
/-- the same where nothing is raised -/
theorem okG_nox {x qual : Str} {st : Stmt} {f : Addr} {fd : FuncData} {N ps : List Str} {k : Nat} {sp : Sp} (F : Fun K x qual st f fd) (S : FnScope N ps (defScope st)) (len : ∀ vs H Q E, sp vs H Q E → vs.length = ps.length)
    (hbody : ∀ (cdv : Value) (A : Around) (outer : List Env) (s : Shared) (H : Hp) (vs : List V) (Q : VK) (E : XK), A.guards = some [] → Room k (A.deeper (envOfC qual (defScope st) s.heap.objs.size f cdv)) → sp vs H Q E →
      ∃ t, PSs (cxOf CX0 P w K mg base N qual (defScope st) f cdv A outer s H E).nox (defBody st) t ∧ t { nx := fun _ H' => Q .non H', rt := Q } (start N vs) H) : FnG P w K mg base CX0 (k + 1) f fd ps sp :=
  okG_of F S len fun cdv A outer s H vs Q E hG hr h => by
    obtain ⟨t, ht, q⟩ := hbody cdv A outer s H vs Q E hG hr h
    exact ⟨t, ht.nox, q⟩
end
section
variable {X : Cx} {CX : CXT} {k : Nat} {f : Addr} {fd : FuncData} {ps : List Str} {sp : Sp} {dvs : List V} {ds : List Value} {E : XK} {x : Str} {p pos : Pos} {e : Expr} {es : List Expr} {t : TA}
/-- a call of such a def from a body around which nothing is being shown -/
theorem pe_callG (F : FnG X.prog X.w X.K X.mg X.base CX k f fd ps sp) (hG : X.A.guards = some []) (hr : Room k X.A) (hg : Gl X x) (hm : X.mg x = some (.ref f)) (hk : PySem.W.keepIn X.K (.ref f) = true) (hb : Binds X.K fd ps ds) (hd : Vals dvs ds) (hx : Passes CX X E)
    (ha : PA X (e :: es) t) (hdb : (x == ("__debug__" : Str)) = false := by decide) (he : starEach (e :: es) X.env = (false, eval e X.env) :: starEach es X.env := by rfl) (hpl : (backTo pos (starEach es X.env)).any (·.1) = false := by rfl) :
    PE X (.Call (.Name x p) (e :: es) [] pos) (tCall sp dvs E t) := by
  constructor
  intro pins s σ H Q I h
  refine wpAny_Call_Name_kw (ld_glob I hg hm ?_ hdb)
  refine PySem.W.callWith_K (h₀ := X.base) I.ok.mod.kin hk (thn (ha.run pos pins s σ H _ I h) ?_) he hpl
  rintro us s1 ⟨vs, H1, I1, r, q⟩
  refine ⟨I1.kIn, ?_⟩
  have r2 := r.append hd
  have hl : (us ++ ds).length = ps.length := r2.length.symm.trans (F.len _ _ _ _ q)
  refine wpAny_call (codeAny_mono (F.run X.A X.stack s1 H1 ⟨us, []⟩ _ _ Q E hG hr I1.env0 (hb s1 us I1.kIn hl) r2 q) ?_)
  intro res s' hq
  cases res with
  | error e' => exact hx pins σ H1 s1 e' s' I1 hq
  | ok fl =>
    cases fl with
    | ret u => exact I1.after hq
    | next => cases hq
    | brk => cases hq
    | cont => cases hq
/-- repr of data -/
def rReprD (K : PySem.W.Frag) : List V → Hp → VK → Prop := fun xs H Q => ∃ (v : V) (d : PyData), xs = [v] ∧ Dp K H v d ∧ d.showable = true ∧ d.canLay0 = true ∧ d.depth ≤ 64 ∧ d.shown.length ≤ sizeLine ∧ Q (.str d.shown) H
theorem call_reprD (hG : X.A.guards = some []) (hu : X.A.units + 66 < cLine) : CallR X (.builtin "repr") (rReprD X.K) := by
  intro pins s σ H xs us Q I r h
  obtain ⟨v, d, rfl, hd, hs, hc, hp, hz, q⟩ := h
  obtain ⟨u, rfl, ru⟩ := vals1 r
  cases hd with
  | non =>
    cases (show u = Value.none from ru)
    exact PySem.P.repr_of_none ⟨.str _, H, I.tok _, ⟨_, rfl⟩, q⟩
  | bl b =>
    cases (show u = Value.bool b from ru)
    exact PySem.P.repr_of_bool ⟨.str _, H, I.tok _, ⟨_, rfl⟩, q⟩
  | int i =>
    obtain ⟨t, rfl⟩ := ru
    exact PySem.P.repr_of_int (of_decide_eq_true hs) ⟨.str _, H, I.tok _, ⟨_, rfl⟩, q⟩
  | str x =>
    obtain ⟨t, rfl⟩ := ru
    exact PySem.P.repr_of_str ⟨.str _, H, I.tok _, ⟨_, rfl⟩, q⟩ hz
  | @lst a xs ds h1 h2 =>
    obtain ⟨as, hr⟩ := Dp.reads I _ _ u (.lst h1 h2) ru
    cases (show u = Value.ref a from ru)
    exact repr_of_reads' hr hs (PyData.noDict_hsm (PyData.hasDict_of_canLay _ hc)) hG (by omega) (fun _ _ z => z) (fun h' k tk hk => ⟨.str _, H, I.kept (t' := tk) hk, ⟨_, rfl⟩, q⟩) hz
  | @tup a xs ds h1 h2 =>
    obtain ⟨as, hr⟩ := Dp.reads I _ _ u (.tup h1 h2) ru
    cases (show u = Value.ref a from ru)
    exact repr_of_reads' hr hs (PyData.noDict_hsm (PyData.hasDict_of_canLay _ hc)) hG (by omega) (fun _ _ z => z) (fun h' k tk hk => ⟨.str _, H, I.kept (t' := tk) hk, ⟨_, rfl⟩, q⟩) hz
end
end Lw

/-! ### the end of a law's row, the guards known -/
namespace Lw
open PySem L2 PySem.Spec PyProof.Rows
theorem end_call {P : Program} {w : World} {K : PySem.W.Frag} {mg mb : Str → Option Value} {CX : CXT} {k : Nat} {fa a : Addr} {fd : FuncData} {x : Str} {sp : Sp} {s₁ : Shared} {vs : List Value} {ns : List Int}
    (KX : K.In s₁.heap) (hns : s₁.heap.Ns mainGlobals mg) (hb : s₁.heap.Ns builtinsNs mb) (hbb : ∀ x : Str, x ≠ "__name__" → mb x = bootBuiltins x) (hlim : s₁.heap.NoLimit) (hg : s₁.gens = #[])
    (ha : s₁.heap.get? a = some { cls := .type "list", data := .seq vs.toArray }) (hi : IntsAre vs ns) (hl : ns.length ≤ sizeLine) (hr : Room k callerA)
    (F : ∀ base : Heap, K.In base → base.Ns mainGlobals mg → FnG P w K mg base CX k fa fd [x] sp) (hbind : ∀ (s : Shared) (u : Value), BindsTo s fd ⟨[u], []⟩ [(x, u)])
    (hsp : ∀ H : Hp, SqL K H a (ns.map V.int) → sp [.ref a] H (fun v _ => v = .bl true) fun _ _ _ => False)
    (hCX : ∀ H e s', CX [] H s₁ (fun _ _ _ => False) e s' → False) :
    codeAny (model P w) callerA (.call (.ref fa) ⟨[.ref a], []⟩) (fun r s' => r = .ok (.ret (.bool true)) ∧ OldK s₁.heap s'.heap ∧ s'.os = s₁.os ∧ AllBare s'.gens) s₁ := by
  have rv := vals_ints hi
  have lenV := hi.length
  have core : ∀ H : Hp, Only H → SqL K H a (ns.map V.int) → HOk P w H s₁.heap → (∀ b, H b ≠ none → b = a) → (H a ≠ none → K.lookup a = none) →
      codeAny (model P w) callerA (.call (.ref fa) ⟨[.ref a], []⟩) (fun r s' => r = .ok (.ret (.bool true)) ∧ OldK s₁.heap s'.heap ∧ s'.os = s₁.os ∧ AllBare s'.gens) s₁ := by
    intro H hO hS hok hA hK
    -- a tracked thing is the script
    have isA : ∀ {b : Addr} {u : HO}, H b = some u → b = a := fun {b u} q => hA b (by rw [q]; exact fun z => nomatch z)
    have dictOff : ∀ {b : Addr} {o : Obj} {es : Array DictEntry} {ep : Nat}, s₁.heap.get? b = some o → o.data = .dict es ep → H b = none := fun {b o es ep} e d => by
      cases q : H b with
      | none => rfl
      | some u =>
        have eb := isA q
        rw [eb, ha] at e
        cases e
        exact absurd (show Data.seq vs.toArray _ = Data.dict es ep from d) (fun z => nomatch z)
    have nsOff : ∀ {b : Addr} {m : Str → Option Value}, s₁.heap.Ns b m → (hidT s₁.heap H).Ns b m := fun {b m} z => by
      obtain ⟨o, es, ep, e, d, r⟩ := z
      exact ⟨o, es, ep, hidT_get e (dictOff e d), d, r⟩
    have inOff : K.In (hidT s₁.heap H) := fun b o e => by
      refine hidT_get (KX b o e) ?_
      cases q : H b with
      | none => rfl
      | some u =>
        have eb := isA q
        rw [eb] at e q
        rw [hK (by rw [q]; exact fun z => nomatch z)] at e
        cases e
    have hM : Mod K mg (hidT s₁.heap H) := by
      obtain ⟨mc, h1, h2⟩ := hlim
      exact ⟨inOff, nsOff hns, ⟨mb, nsOff hb, hbb⟩, ⟨mc, nsOff h1, h2⟩⟩
    have e0 : Env0 P w K mg (hidT s₁.heap H) callerA [] s₁ H := by
      refine ⟨rfl, hM, fun b o e => of_hidT e, Nat.le_of_eq (hidT_size _ _), trivial, fun b z => ?_, hok, .of_eq hg⟩
      cases (show b ∈ ([] : List Addr) from z)
    refine codeAny_mono ((F _ inOff (nsOff hns)).run callerA [] s₁ H ⟨[.ref a], []⟩ [.ref a] [.ref a] _ _ rfl hr e0 (hbind s₁ (.ref a)) (.cons rfl .nil) (hsp H hS)) ?_
    intro r s' h
    cases r with
    | error e => exact (hCX H e s' h).elim
    | ok fl =>
      cases fl with
      | next => cases h
      | brk => cases h
      | cont => cases h
      | ret u =>
        obtain ⟨v, H', os, bare, un, hok', r', rfl⟩ := h
        obtain rfl : u = Value.bool true := r'
        refine ⟨rfl, OldK.of_keep fun b o e => ?_, os, bare⟩
        cases q : H b with
        | none => exact un.keep b o e q (fun z => by cases (show b ∈ ([] : List Addr) from z)) (fun z => by cases z)
        | some u =>
          cases hO b with
          | inl z => rw [q] at z; cases z
          | inr z =>
            obtain ⟨ob, xs, z⟩ := z
            obtain ⟨e1, _⟩ := hok b _ z
            obtain ⟨e2, _⟩ := hok' b _ (un.frzs b ob _ z)
            rw [e] at e1
            cases e1
            exact e2
  cases hk : K.lookup a with
  | some o =>
    have e := KX a o hk
    rw [ha] at e
    cases e
    refine core (fun _ => none) (fun _ => .inl rfl) (.inr ⟨_, vs.toArray, _, hk, rfl, rfl, rfl, by rw [List.size_toArray, lenV]; exact hl, by simpa using rv⟩) (fun b u z => nomatch z) (fun b z => absurd rfl z) fun z => absurd rfl z
  | none =>
    refine core (upd (fun _ => none) a (.frz { cls := .type "list", data := .seq vs.toArray } (.lst (ns.map V.int)))) (fun b => ?_) (.inl (.inr ⟨{ cls := .type "list", data := .seq vs.toArray }, upd_same⟩)) (fun b u z => ?_) (fun b z => ?_) fun _ => hk
    · by_cases hba : b = a
      · subst hba
        exact .inr ⟨_, _, upd_same⟩
      · exact .inl (upd_ne hba)
    · by_cases hba : b = a
      · subst hba
        rw [upd_same] at z
        cases z
        exact ⟨ha, by rw [List.length_map]; exact hl, vs, _, rv, ha⟩
      · rw [upd_ne hba] at z
        cases z
    · by_cases hba : b = a
      · exact hba
      · exact absurd (upd_ne hba) z
theorem walk_G {l : PySem.W.OpenLaw} {n k : Nat} {q : Program} {loose : List Str} {XP : (Str → Option Value) → Heap → Prop} {YP : World → Heap → Prop} {d : DefRec} {K : Params → PySem.W.Frag} {CX : World → CXT} {sp : World → Sp} {x : Str}
    (hn : l.most = some n) (hn2 : n ≤ sizeLine) (hdf : d.params.defaults = []) (hr : Room k callerA)
    (hY : ∀ (w : World) (h : Heap), YP w h → (K w.params).In h)
    (F : ∀ (w : World) (mg : Str → Option Value) (fa : Addr) (h : Heap), (K w.params).In h → h.Ns mainGlobals mg → mg d.name = some (.ref fa) →
      ∃ fd : FuncData, (∀ (s : Shared) (u : Value), BindsTo s fd ⟨[u], []⟩ [(x, u)]) ∧
        ∀ base : Heap, (K w.params).In base → base.Ns mainGlobals mg → FnG l.prog w (K w.params) mg base (CX w) k fa fd [x] (sp w))
    (hsp : ∀ (w : World) (H : Hp) (a : Addr) (ns : List Int), ns.length ≤ n → SqL (K w.params) H a (ns.map V.int) → sp w [.ref a] H (fun v _ => v = .bl true) fun _ _ _ => False)
    (hCX : ∀ (w : World) (H : Hp) (s : Shared) (e : Value) (s' : Shared), CX w [] H s (fun _ _ _ => False) e s' → False) :
    PySem.W.WalkO q loose XP YP l.row.toRowW d [] (fun f vs => PySem.call f vs) := by
  refine Att.attach_call hn hdf ?_
  intro w s₀ s₁ mg mb fa o pm cd doc a vs ns G Y ho hd hcd hmg hobj hints hlen hg
  have KX := hY w _ Y
  obtain ⟨fd, hb, hF⟩ := F w mg fa _ KX G.T.g hmg
  exact end_call KX G.T.g G.T.b G.T.builtins G.T.nolimit hg hobj hints (Nat.le_trans hlen hn2) hr hF hb (fun H hS => hsp w H a ns hlen hS) fun H e s' => hCX w H s₁ e s'
end Lw

/-! ### zip of lists and tuples in any mix; enumerate of a tuple -/
namespace Lw
open PySem L2 PySem.Spec PyProof.Rows
/-- a list (true), a tuple (false) -/
def SqK (K : PySem.W.Frag) (k : Bool) (H : Hp) (a : Addr) (xs : List V) : Prop := match k with
  | true => SqL K H a xs
  | false => SqT K H a xs
def ItK (k : Bool) (h : Heap) (it l : Addr) (i : Nat) : Prop := match k with
  | true => h.IsListIter it l i
  | false => h.IsTupleIter it l i
def AtK (k : Bool) (h : Heap) (l : Addr) (its : Array Value) : Prop := match k with
  | true => h.IsList l its
  | false => h.IsTuple l its
theorem SqK.same {K : PySem.W.Frag} {k : Bool} {H H' : Hp} {a : Addr} {xs : List V} (e : Same H H') (h : SqK K k H a xs) : SqK K k H' a xs := by
  cases k with
  | true => exact e.seq h
  | false => exact sameT e h
section
variable {X : Cx} {pins : List (Addr × Obj)} {σ : L2.St} {H : Hp} {s : Shared} {a : Addr} {xs ys : List V} {k : Bool}
theorem sq_at (I : Inv X pins σ H s) (h : SqK X.K k H a xs) : ∃ its : List Value, Vals xs its ∧ AtK k s.heap a its.toArray ∧ a < s.heap.objs.size := by
  cases k with
  | true =>
    obtain ⟨its, rv, p, _⟩ := I.list h
    exact ⟨its, rv, p.isList, p.lt⟩
  | false =>
    obtain ⟨its, rv, p, _⟩ := I.tuple h
    obtain ⟨o, ho, q⟩ := id p
    exact ⟨its, rv, p, Heap.lt_size ho⟩
theorem sq_inj (I : Inv X pins σ H s) (h : SqK X.K k H a xs) (h' : SqK X.K k H a ys) : xs = ys := by
  cases k with
  | true => exact I.list_inj h h'
  | false => exact I.tuple_inj h h'
end
theorem drK {prog : Program} {w : World} {A : Around} (k : Bool) (hh : A.handled = none) (it l : Addr) (hne : l ≠ it) (items : Array Value) :
    Draws prog w A it [it, l] items.size (fun i v => items[i]? = some v) (fun i h => ItK k h it l i ∧ AtK k h l items) := by
  cases k with
  | true => exact Draws.list hh it l hne items
  | false => exact Draws.tuple hh it l hne items
theorem ItK.obj {k : Bool} {h : Heap} {it l : Addr} {i : Nat} (z : ItK k h it l i) : ∃ o, h.get? it = some o ∧ ∀ v, o.data ≠ .cell v := by
  cases k with
  | true =>
    obtain ⟨o, e, _, d⟩ := z
    exact ⟨o, e, fun v q => by rw [d] at q; cases q⟩
  | false =>
    obtain ⟨o, e, _, d⟩ := z
    exact ⟨o, e, fun v q => by rw [d] at q; cases q⟩
theorem ItK.at {k : Bool} {h h' : Heap} {it l : Addr} {i : Nat} (z : ItK k h it l i) (e : ∀ o, h.get? it = some o → h'.get? it = some o) : ItK k h' it l i := by
  cases k with
  | true => exact Heap.IsListIter.at z e
  | false => exact Heap.IsTupleIter.at z e
/-- what zip goes through -/
def ItzM (K : PySem.W.Frag) (k1 k2 : Bool) (a b : Addr) : It :=
  ⟨fun i H => ∃ (xs ys : List V) (x y : V), SqK K k1 H a xs ∧ SqK K k2 H b ys ∧ xs[i]? = some x ∧ ys[i]? = some y,
    fun i H v H' => ∃ T x y, v = .ref T ∧ H T = none ∧ H' = upd H T (.tup [x, y]) ∧ (∀ xs, SqK K k1 H a xs → xs[i]? = some x) ∧ ∀ ys, SqK K k2 H b ys → ys[i]? = some y,
    fun i H => ∃ xs ys : List V, SqK K k1 H a xs ∧ SqK K k2 H b ys ∧ (xs.length = i ∨ ys.length = i) ∧ i ≤ xs.length ∧ i ≤ ys.length⟩
theorem turn_zipM {P : Program} {w : World} {K : PySem.W.Frag} {elts : List Expr} {kk : Nat} {tpos : Pos} {k1 k2 : Bool} {a b z TI TO i1 i2 : Addr} (D : ZipSep2 z TI TO i1 i2 [i1, a] [i2, b]) (n1 : a ≠ i1) (n2 : b ≠ i2) :
    Turn P w K (.Tuple elts kk tpos) (ItzM K k1 k2 a b) [z, TI, TO, i1, i2] z (fun i h => IsZip h z TI TO .none ∧ IsTupOf2 h TI (.ref i1) (.ref i2) ∧ (∃ x y, IsTupOf2 h TO x y) ∧ ItK k1 h i1 a i ∧ ItK k2 h i2 b i) where
  mem := by simp
  obj := fun i h st c hc => by
    obtain ⟨hz, hTI, ⟨x, y, hTO⟩, g1, g2⟩ := st
    simp only [List.mem_cons, List.not_mem_nil, or_false] at hc
    rcases hc with rfl | rfl | rfl | rfl | rfl
    · exact ⟨_, hz, fun v q => nomatch q⟩
    · exact ⟨_, hTI, fun v q => nomatch q⟩
    · exact ⟨_, hTO, fun v q => nomatch q⟩
    · exact g1.obj
    · exact g2.obj
  keep := fun i h h' st k => by
    obtain ⟨hz, hTI, ⟨x, y, hTO⟩, g1, g2⟩ := st
    exact ⟨k z (by simp) _ hz, k TI (by simp) _ hTI, ⟨x, y, k TO (by simp) _ hTO⟩, g1.at (k i1 (by simp)), g2.at (k i2 (by simp))⟩
  item := by
    rintro X rfl rfl rfl hc i pins s σ H E I hf ⟨hz, hTI, ⟨x0, y0, hTO⟩, g1, g2⟩ ⟨xs, ys, x, y, hqx, hqy, hx, hy⟩
    obtain ⟨its, rv, p, _⟩ := sq_at I hqx
    obtain ⟨its2, rv2, p2, _⟩ := sq_at I hqy
    obtain ⟨u, hu, ru⟩ := rv.get hx
    obtain ⟨u2, hu2, ru2⟩ := rv2.get hy
    have hzl : z < s.heap.objs.size := Heap.lt_size hz
    have hh : X.A.in1.handled = none := I.ok.hd hc
    refine wpAny_pyNext_zipD2_item D (drK k1 hh i1 a n1 its.toArray) (drK k2 hh i2 b n2 its2.toArray) hz hTI hTO ⟨g1, p⟩ ⟨g2, p2⟩ (by simpa using (List.getElem?_eq_some_iff.mp hu).1) (by simpa using (List.getElem?_eq_some_iff.mp hu2).1) ?_
    intro v1 v2 h' tk e1 e2 z' TO' st1 st2 hT hsz hk
    have q1 : v1 = u := by rw [show its.toArray[i]? = some u by simpa using hu] at e1; exact (Option.some.inj e1).symm
    have q2 : v2 = u2 := by rw [show its2.toArray[i]? = some u2 by simpa using hu2] at e2; exact (Option.some.inj e2).symm
    subst q1 q2
    refine ⟨_, rfl, wpAny_letOwnedTupleGo_zip (s := { s with heap := h', toks := tk }) z' fun h'' z'' sb => ?_⟩
    have hT2 : h''.get? s.heap.objs.size = some { cls := .type "tuple", data := .seq #[v1, v2] } := (sb.2 _ (Nat.ne_of_gt hzl)).trans hT
    have new : ObjOk X.prog X.w (upd H s.heap.objs.size (.tup [x, y])) h'' s.heap.objs.size (.tup [x, y]) :=
      ⟨by show 2 ≤ sizeLine; decide, [v1, v2], .cons ru (.cons ru2 .nil), ⟨_, hT2, rfl, _, rfl⟩⟩
    have off : ∀ c o, c ∉ [z, TI, TO, i1, i2] → s.heap.get? c = some o → h''.get? c = some o := fun c o hb q => by
      simp only [List.mem_cons, List.not_mem_nil, or_false, not_or] at hb
      exact (sb.2 c hb.1).trans (hk c o hb.1 hb.2.2.1 hb.2.2.2.1 hb.2.2.2.2 q)
    have I1 : Inv X pins σ (upd H s.heap.objs.size (.tup [x, y])) { s with heap := h'', toks := tk } := I.turnedNew (t' := tk) (ch := [z, TI, TO, i1, i2]) off hf (Nat.le_refl _) new
    refine ⟨.ref s.heap.objs.size, _, I1, rfl, ⟨_, x, y, rfl, I.hok.fresh (Nat.le_refl _), rfl, fun l hl => by rw [sq_inj I hl hqx]; exact hx, fun l hl => by rw [sq_inj I hl hqy]; exact hy⟩, ⟨z'', ?_, ⟨v1, v2, ?_⟩, ?_, ?_⟩, fun c hcm => ?_⟩
    · exact (sb.2 _ D.TIz).trans (hk _ _ D.TIz D.TITO D.TIi1 D.TIi2 hTI)
    · exact (sb.2 _ D.TOz).trans TO'
    · exact st1.1.at fun o q => (sb.2 _ (D.zi1).symm).trans q
    · exact st2.1.at fun o q => (sb.2 _ (D.zi2).symm).trans q
    · have hlt : c < s.heap.objs.size := by
        simp only [List.mem_cons, List.not_mem_nil, or_false] at hcm
        rcases hcm with rfl | rfl | rfl | rfl | rfl
        · exact hzl
        · exact Heap.lt_size hTI
        · exact Heap.lt_size hTO
        · obtain ⟨o, e, _⟩ := g1.obj; exact Heap.lt_size e
        · obtain ⟨o, e, _⟩ := g2.obj; exact Heap.lt_size e
      rw [upd_ne (Nat.ne_of_lt hlt)]
      exact (hf c hcm).1
  done := by
    rintro X rfl rfl rfl hc i pins s σ H E I hf ⟨hz, hTI, ⟨x0, y0, hTO⟩, g1, g2⟩ ⟨xs, ys, hqx, hqy, hend, b1, b2⟩
    obtain ⟨its, rv, p, _⟩ := sq_at I hqx
    obtain ⟨its2, rv2, p2, _⟩ := sq_at I hqy
    have l1 := rv.length
    have l2 := rv2.length
    have hh : X.A.in1.handled = none := I.ok.hd hc
    refine wpAny_pyNext_zipD2_end D (drK k1 hh i1 a n1 its.toArray) (drK k2 hh i2 b n2 its2.toArray) hz hTI hTO ⟨g1, p⟩ ⟨g2, p2⟩ (by simp; omega) (by simp; omega) (by simp; omega) ?_
    intro h' tk hk
    refine ⟨rfl, I.turnedL (t' := tk) (ch := [z, TI, TO, i1, i2]) (fun c o hb q => ?_) hf⟩
    simp only [List.mem_cons, List.not_mem_nil, or_false, not_or] at hb
    exact hk c o hb.1 hb.2.2.1 hb.2.2.2.1 hb.2.2.2.2 q
  self := fun A i s Q E st h => wpAny_pyIter_zip st.1 h
def iZipM (K : PySem.W.Frag) (ta : TA) : TI := fun σ H R => ta σ H fun vs H1 => ∃ k1 k2 a b xs ys, vs = [.ref a, .ref b] ∧ SqK K k1 H1 a xs ∧ SqK K k2 H1 b ys ∧ R (ItzM K k1 k2 a b) H1
theorem bgK (k : Bool) (l : Addr) (items : Array Value) : ∃ o, Begins (.ref l) o (fun h => AtK k h l items) ∧ ∀ (h : Heap) (it : Addr), h.get? it = some o → ItK k h it l 0 := by
  cases k with
  | true => exact ⟨_, begins_list l items, fun h it e => ⟨_, e, rfl, rfl⟩⟩
  | false => exact ⟨_, begins_tuple l items, fun h it e => ⟨_, e, rfl, rfl⟩⟩
theorem neA {x y : Nat} (h : ¬ x = y) : @Ne Addr x y := h
theorem niA {x y z : Nat} (h : ¬ x = y) (g : ¬ x = z) : ¬ @List.Mem Addr x [y, z] := fun q => by
  cases q with
  | head => exact h rfl
  | tail _ q =>
    cases q with
    | head => exact g rfl
    | tail _ q => cases q
theorem sepN (N a b : Nat) (la : a < N) (lb : b < N) : ZipSep2 (N + 4) (N + 2) (N + 3) N (N + 1) [N, a] [N + 1, b] where
  TIz := neA (by omega)
  TOz := neA (by omega)
  TITO := neA (by omega)
  TIi1 := neA (by omega)
  mem1 := List.mem_cons_self
  zf1 := niA (by omega) (by omega)
  Tf1 := niA (by omega) (by omega)
  TIi2 := neA (by omega)
  mem2 := List.mem_cons_self
  zf2 := niA (by omega) (by omega)
  Tf2 := niA (by omega) (by omega)
  sep1_2 := niA (by omega) (by omega)
  sep2_1 := niA (by omega) (by omega)
theorem pi_zipM {X : Cx} {e e2 : Expr} {ta : TA} {p pos tpos : Pos} {elts : List Expr} {kk : Nat} (hg : Gl X "zip") (hm : X.mg "zip" = none) (ha : PA X [e, e2] ta)
    (hs : starEach [e, e2] X.env = (false, eval e X.env) :: starEach [e2] X.env := by rfl) (hpl : (backTo pos (starEach [e2] X.env)).any (·.1) = false := by rfl) :
    PI X (.Tuple elts kk tpos) (.Call (.Name "zip" p) [e, e2] [] pos) (iZipM X.K ta) := by
  constructor
  intro pins s σ H R I h
  refine Call_ (ld_blt I hg hm PyProof.Rows.boot_zip (PyProof.Rows.callWith_type1 (thn (ha.run pos pins s σ H _ I h) ?_) hs hpl))
  rintro us s1 ⟨vs, H1, I1, r1, k1, k2, a, b, xs, ys, rfl, hqx, hqy, q⟩
  obtain ⟨u1, u2, rfl, ra, rb⟩ := vals2 r1
  cases (show u1 = Value.ref a from ra)
  cases (show u2 = Value.ref b from rb)
  obtain ⟨its, rv, p1, la⟩ := sq_at I1 hqx
  obtain ⟨its2, rv2, p2, lb⟩ := sq_at I1 hqy
  obtain ⟨o1, B1, j1⟩ := bgK k1 a its.toArray
  obtain ⟨o2, B2, j2⟩ := bgK k2 b its2.toArray
  refine zip_begins2 B1 B2 p1 p2 ?_
  intro h' hz hTI hTO e1 e2 hsz hk
  refine wpAny_pyIter_zip hz ?_
  have I2 : Inv X pins σ H1 { s1 with heap := h' } := I1.kept (t' := s1.toks) hk
  have sep := sepN s1.heap.objs.size a b la lb
  refine ⟨s1.heap.objs.size + 4, [s1.heap.objs.size + 4, s1.heap.objs.size + 2, s1.heap.objs.size + 3, s1.heap.objs.size, s1.heap.objs.size + 1], _, _, H1, rfl, I2, turn_zipM sep (Nat.ne_of_lt la) (Nat.ne_of_lt (Nat.lt_succ_of_lt lb)), ⟨hz, hTI, ⟨_, _, hTO⟩, j1 _ _ e1, j2 _ _ e2⟩, fun c hcm => ?_, q⟩
  have hle : s1.heap.objs.size ≤ c := by
    simp only [List.mem_cons, List.not_mem_nil, or_false] at hcm
    rcases hcm with rfl | rfl | rfl | rfl | rfl <;> first | exact Nat.le_refl _ | exact Nat.le_add_right _ _
  exact I1.fpOk hle (I1.hok.fresh hle)
/-! ### enumerate of a tuple, of a list -/
theorem meets_enumK {v : Value} {o : Obj} {H : Heap → Prop} (B : Begins v o H) :
    Meets (Builtin.«enumerate.__new__» ⟨[.type "enumerate", v], []⟩) (fun _ R s => H s.heap ∧
      R (.ok (.ret (.ref (s.heap.push o).objs.size))) { s with heap := (s.heap.push o).push { cls := .type "enumerate", data := .fields #[.none, .bool false, .ref s.heap.objs.size, rawInt 0, .none, .none] } }) :=
  .of_wp fun prog w A R s z => by
    obtain ⟨g1, g2, g3, g4, g5⟩ := s
    obtain ⟨h1, z⟩ := z
    have hsub := sub_enumerate
    have q1 : ∀ {A' : Around} {E : Value → Shared → Prop} {Q : Value → Shared → Prop}, Q (.ref g1.objs.size) ⟨g1.push o, g2, g3, g4, g5⟩ → wpAny (model prog w) A' (pyIter v) Q E ⟨g1, g2, g3, g4, g5⟩ :=
      fun q => B.iter prog w _ _ ⟨g1, g2, g3, g4, g5⟩ _ h1 q
    wp_walk using q1
    refine wpAny_stack_any fun st => wpAny_pure ?_
    split
    · rename_i c _ _ _ _ _
      cases (c == Value.type "enumerate")
      · wp_walk using q1
        exact ⟨_, rfl, z⟩
      · wp_walk using q1
        exact ⟨_, rfl, z⟩
    · wp_walk using q1
      exact ⟨_, rfl, z⟩
section
variable {prog : Program} {w : World} {A : Around} {E : Value → Shared → Prop} {s : Shared}
theorem enumK_begins {v : Value} {o : Obj} {H : Heap → Prop} {Q : Value → Shared → Prop} (B : Begins v o H) (h1 : H s.heap)
    (h : ∀ h', IsEnum h' (s.heap.objs.size + 1) s.heap.objs.size 0 .none → h'.get? s.heap.objs.size = some o → (∀ b o, s.heap.get? b = some o → h'.get? b = some o) → Q (.ref (s.heap.objs.size + 1)) { s with heap := h' }) :
    wpAny (model prog w) A (call (.type "enumerate") [v]) Q E s := by
  refine callType_new F.called_enumerate (by decide) (F.typeCall_enumerate_1 _) (F.newCall_enumerate_1 _) (fun obj => F.args_object_init_2 obj _) F.entry_enumerate_new (meets_enumK B) ⟨h1, ?_⟩
  have sz : (s.heap.push o).objs.size = s.heap.objs.size + 1 := Heap.size_push ..
  show _ ∧ _
  rw [sz]
  have en : IsEnum ((s.heap.push o).push { cls := .type "enumerate", data := .fields #[.none, .bool false, .ref s.heap.objs.size, rawInt 0, .none, .none] }) (s.heap.objs.size + 1) s.heap.objs.size 0 .none := by
    have q := Heap.get?_push_size (s.heap.push o) (o := { cls := .type "enumerate", data := .fields #[.none, .bool false, .ref s.heap.objs.size, rawInt 0, .none, .none] }) rfl
    rw [sz] at q
    exact q
  exact ⟨⟨_, en, rfl⟩, h _ en (Heap.get?_push_of_some _ (Heap.get?_push_size _ B.free)) fun b o x => Heap.get?_push_of_some _ (Heap.get?_push_of_some _ x)⟩
end
def IteM (K : PySem.W.Frag) (k : Bool) (a : Addr) : It :=
  ⟨fun i H => ∃ (xs : List V) (x : V), SqK K k H a xs ∧ xs[i]? = some x, fun i H v H' => ∃ T x, v = .ref T ∧ H T = none ∧ H' = upd H T (.tup [.int (i : Nat), x]) ∧ ∀ xs, SqK K k H a xs → xs[i]? = some x, fun i H => ∃ xs : List V, SqK K k H a xs ∧ xs.length = i⟩
theorem turn_enumM {P : Program} {w : World} {K : PySem.W.Frag} {elts : List Expr} {kk : Nat} {tpos : Pos} {k : Bool} (a e it : Addr) (n1 : a ≠ it) (hne : e ≠ it) (hea : e ≠ a) :
    Turn P w K (.Tuple elts kk tpos) (IteM K k a) [e, it] e (fun i h => (∃ old, IsEnum h e it ((i : Nat) : Int) old) ∧ ItK k h it a i) where
  mem := by simp
  obj := fun i h st b hb => by
    obtain ⟨⟨old, he⟩, g⟩ := st
    simp only [List.mem_cons, List.not_mem_nil, or_false] at hb
    rcases hb with rfl | rfl
    · exact ⟨_, he, fun v q => nomatch q⟩
    · exact g.obj
  keep := fun i h h' st k => by
    obtain ⟨⟨old, he⟩, g⟩ := st
    exact ⟨⟨old, k e (by simp) _ he⟩, g.at (k it (by simp))⟩
  item := by
    rintro X rfl rfl rfl hc i pins s σ H E I hf ⟨⟨old, he⟩, g⟩ ⟨xs, x, hq, hx⟩
    obtain ⟨its, rv, p, _⟩ := sq_at I hq
    obtain ⟨u, hu, ru⟩ := rv.get hx
    have hel : e < s.heap.objs.size := Heap.lt_size he
    have hh : X.A.in1.handled = none := I.ok.hd hc
    have hef : e ∉ [it, a] := fun q => by
      cases q with
      | head => exact hne rfl
      | tail _ q =>
        cases q with
        | head => exact hea rfl
        | tail _ q => cases q
    refine wpAny_pyNext_enum_itemD (drK k hh it a n1 its.toArray) he ⟨g, p⟩ (by simpa using (List.getElem?_eq_some_iff.mp hu).1) hne hef ?_
    intro v h' tk e1 ho st hT hsz hk
    have q1 : v = u := by rw [show its.toArray[i]? = some u by simpa using hu] at e1; exact (Option.some.inj e1).symm
    subst q1
    refine ⟨_, rfl, wpAny_letOwnedTupleGo_enum (s := { s with heap := h', toks := tk + 1 }) ho fun h'' he' sb => ?_⟩
    have hT2 : h''.get? s.heap.objs.size = some { cls := .type "tuple", data := .seq #[.int i tk, v] } := (sb.2 _ (Nat.ne_of_gt hel)).trans hT
    have new : ObjOk X.prog X.w (upd H s.heap.objs.size (.tup [.int (i : Nat), x])) h'' s.heap.objs.size (.tup [.int (i : Nat), x]) :=
      ⟨by show 2 ≤ sizeLine; decide, [.int i tk, v], .cons ⟨_, rfl⟩ (.cons ru .nil), ⟨_, hT2, rfl, _, rfl⟩⟩
    have I1 : Inv X pins σ (upd H s.heap.objs.size (.tup [.int (i : Nat), x])) { s with heap := h'', toks := tk + 1 } :=
      I.turnedNew (t' := tk + 1) (ch := [e, it]) (fun b ob hb q => by
        simp only [List.mem_cons, List.not_mem_nil, or_false, not_or] at hb
        exact (sb.2 b hb.1).trans (hk b ob hb.1 hb.2 q)) hf (Nat.le_refl _) new
    refine ⟨.ref s.heap.objs.size, _, I1, rfl, ⟨_, x, rfl, I.hok.fresh (Nat.le_refl _), rfl, fun ys hy => by rw [sq_inj I hy hq]; exact hx⟩, ⟨⟨v, ?_⟩, st.1.at fun o q => (sb.2 it (Ne.symm hne)).trans q⟩, fun b hb => ?_⟩
    · have e2 : ((i + 1 : Nat) : Int) = (i : Int) + 1 := by omega
      rw [e2]
      exact he'
    · have hlt : b < s.heap.objs.size := by
        simp only [List.mem_cons, List.not_mem_nil, or_false] at hb
        rcases hb with rfl | rfl
        · exact hel
        · obtain ⟨o, z, _⟩ := g.obj; exact Heap.lt_size z
      rw [upd_ne (Nat.ne_of_lt hlt)]
      exact (hf b hb).1
  done := by
    rintro X rfl rfl rfl hc i pins s σ H E I hf ⟨⟨old, he⟩, g⟩ ⟨xs, hq, hx⟩
    obtain ⟨its, rv, p, _⟩ := sq_at I hq
    have hl := rv.length
    have hh : X.A.in1.handled = none := I.ok.hd hc
    have ei : i = its.toArray.size := by simp; omega
    refine wpAny_pyNext_enum_endD (drK k hh it a n1 its.toArray) he (by rw [← ei]; exact ⟨g, p⟩) ?_
    intro h' eb
    exact ⟨rfl, I.turnedL (t' := s.toks) (ch := [e, it]) (fun b o hb q => by
      simp only [List.mem_cons, List.not_mem_nil, or_false, not_or] at hb
      exact eb b o hb.2 q) hf⟩
  self := fun A i s Q E st h => by
    obtain ⟨⟨_, he⟩, _⟩ := st
    exact wpAny_pyIter_enum he h
def iEnumM (K : PySem.W.Frag) (ta : TA) : TI := fun σ H R => ta σ H fun vs H1 => ∃ k a xs, vs = [.ref a] ∧ SqK K k H1 a xs ∧ R (IteM K k a) H1
theorem pi_enumM {X : Cx} {e : Expr} {ta : TA} {p pos tpos : Pos} {elts : List Expr} {kk : Nat} (hg : Gl X "enumerate") (hm : X.mg "enumerate" = none) (ha : PA X [e] ta) (hs : starEach [e] X.env = [(false, eval e X.env)] := by rfl) :
    PI X (.Tuple elts kk tpos) (.Call (.Name "enumerate" p) [e] [] pos) (iEnumM X.K ta) := by
  constructor
  intro pins s σ H R I h
  refine Call_ (ld_blt I hg hm boot_enumerate (PyProof.Rows.callWith_type1 (thn (ha.run pos pins s σ H _ I h) ?_) hs rfl))
  rintro us s1 ⟨vs, H1, I1, r1, k, a, xs, rfl, hq, q⟩
  obtain ⟨u1, rfl, ra⟩ := vals1 r1
  cases (show u1 = Value.ref a from ra)
  obtain ⟨its, rv, p1, la⟩ := sq_at I1 hq
  obtain ⟨o1, B1, j1⟩ := bgK k a its.toArray
  refine enumK_begins B1 p1 ?_
  intro h' he e1 hk
  refine wpAny_pyIter_enum he ?_
  have I2 : Inv X pins σ H1 { s1 with heap := h' } := I1.kept (t' := s1.toks) hk
  refine ⟨s1.heap.objs.size + 1, [s1.heap.objs.size + 1, s1.heap.objs.size], _, _, H1, rfl, I2, turn_enumM a (s1.heap.objs.size + 1) s1.heap.objs.size (Nat.ne_of_lt la) (Nat.succ_ne_self _) (Nat.ne_of_gt (Nat.lt_succ_of_lt la)), ⟨⟨.none, he⟩, j1 _ _ e1⟩, fun c hcm => ?_, q⟩
  have hle : s1.heap.objs.size ≤ c := by
    simp only [List.mem_cons, List.not_mem_nil, or_false] at hcm
    rcases hcm with rfl | rfl <;> first | exact Nat.le_refl _ | exact Nat.le_add_right _ _
  exact I1.fpOk hle (I1.hok.fresh hle)
/-! ### loops and comprehensions over them -/
theorem for_zipM {K : PySem.W.Frag} {k1 k2 : Bool} {a b : Addr} {xs ys : List V} {g : TG} {tb : TS} {D : Ends} {σ : L2.St} {H : Hp} (hl : xs.length = ys.length) (Pv : Nat → L2.St → Hp → Prop) (h0 : Pv 0 σ H) (hq : ∀ i σ H, Pv i σ H → SqK K k1 H a xs ∧ SqK K k2 H b ys)
    (hs : ∀ (i : Nat) (x y : V) (T : Addr) (σ : L2.St) (H : Hp), xs[i]? = some x → ys[i]? = some y → Pv i σ H → H T = none → g (.ref T) σ (upd H T (.tup [x, y])) fun σ2 H2 => tb { D with nx := Pv (i + 1), ct := Pv (i + 1), bk := D.nx } σ2 H2) (hd : ∀ σ H, Pv xs.length σ H → D.nx σ H) :
    ∃ W : Nat → Nat → L2.St → Hp → Prop, (∃ m, W 0 m σ H) ∧ ∀ i m σ H, W i m σ H →
      ((ItzM K k1 k2 a b).stop i H ∧ D.nx σ H) ∨ ((ItzM K k1 k2 a b).go i H ∧ ∃ N : L2.St → Hp → Prop, (∀ σ' H', N σ' H' → ∃ m', m' < m ∧ W (i + 1) m' σ' H') ∧ ∀ v H', (ItzM K k1 k2 a b).yld i H v H' → g v σ H' fun σ2 H2 => tb { D with nx := N, ct := N, bk := D.nx } σ2 H2) := by
  refine ⟨fun i m σ H => m = xs.length - i ∧ i ≤ xs.length ∧ Pv i σ H, ⟨_, rfl, Nat.zero_le _, h0⟩, ?_⟩
  rintro i m σ H ⟨rfl, hi, p⟩
  obtain ⟨qx, qy⟩ := hq i σ H p
  by_cases hlt : i < xs.length
  · refine .inr ⟨⟨xs, ys, _, _, qx, qy, List.getElem?_eq_getElem hlt, List.getElem?_eq_getElem (hl ▸ hlt)⟩, Pv (i + 1), fun σ' H' p' => ⟨xs.length - (i + 1), by omega, rfl, hlt, p'⟩, ?_⟩
    rintro v H' ⟨T, x', y', rfl, hT, rfl, f1, f2⟩
    exact hs i x' y' T σ H (f1 xs qx) (f2 ys qy) p hT
  · have e : i = xs.length := by omega
    subst e
    exact .inl ⟨⟨xs, ys, qx, qy, .inl rfl, Nat.le_refl _, Nat.le_of_eq hl⟩, hd σ H p⟩
theorem for_enumM {K : PySem.W.Frag} {k : Bool} {a : Addr} {xs : List V} {g : TG} {tb : TS} {D : Ends} {σ : L2.St} {H : Hp} (Pv : Nat → L2.St → Hp → Prop) (h0 : Pv 0 σ H) (hq : ∀ i σ H, Pv i σ H → SqK K k H a xs)
    (hs : ∀ (i : Nat) (x : V) (T : Addr) (σ : L2.St) (H : Hp), xs[i]? = some x → Pv i σ H → H T = none → g (.ref T) σ (upd H T (.tup [.int (i : Nat), x])) fun σ2 H2 => tb { D with nx := Pv (i + 1), ct := Pv (i + 1), bk := D.nx } σ2 H2) (hd : ∀ σ H, Pv xs.length σ H → D.nx σ H) :
    ∃ W : Nat → Nat → L2.St → Hp → Prop, (∃ m, W 0 m σ H) ∧ ∀ i m σ H, W i m σ H →
      ((IteM K k a).stop i H ∧ D.nx σ H) ∨ ((IteM K k a).go i H ∧ ∃ N : L2.St → Hp → Prop, (∀ σ' H', N σ' H' → ∃ m', m' < m ∧ W (i + 1) m' σ' H') ∧ ∀ v H', (IteM K k a).yld i H v H' → g v σ H' fun σ2 H2 => tb { D with nx := N, ct := N, bk := D.nx } σ2 H2) := by
  refine ⟨fun i m σ H => m = xs.length - i ∧ i ≤ xs.length ∧ Pv i σ H, ⟨_, rfl, Nat.zero_le _, h0⟩, ?_⟩
  rintro i m σ H ⟨rfl, hi, p⟩
  have qx := hq i σ H p
  by_cases hlt : i < xs.length
  · refine .inr ⟨⟨xs, _, qx, List.getElem?_eq_getElem hlt⟩, Pv (i + 1), fun σ' H' p' => ⟨xs.length - (i + 1), by omega, rfl, hlt, p'⟩, ?_⟩
    rintro v H' ⟨T, x', rfl, hT, rfl, f1⟩
    exact hs i x' T σ H (f1 xs qx) p hT
  · have e : i = xs.length := by omega
    subst e
    exact .inl ⟨⟨xs, qx, rfl⟩, hd σ H p⟩
theorem lc_zipM {K : PySem.W.Frag} {k1 k2 : Bool} {a b : Addr} {xs ys : List V} {g : TG} {tt : TT} {te : TE} {vs : List Nat} {σ : L2.St} {H1 : Hp} {D : Addr} {Qd : Hp → Prop} (hl : xs.length = ys.length) (Pv : Nat → Hp → Prop) (h0 : Pv 0 (upd H1 D (.lst []))) (hq : ∀ i H, Pv i H → SqK K k1 H a xs ∧ SqK K k2 H b ys)
    (hs : ∀ (i : Nat) (x y : V) (T : Addr) (H : Hp), xs[i]? = some x → ys[i]? = some y → Pv i H → H T = none → g (.ref T) (wipe σ vs) (upd H T (.tup [x, y])) fun σ2 H2 => wipe σ2 vs = wipe σ vs ∧ tt σ2 H2 fun b H3 =>
      if b = true then te σ2 H3 fun y H4 => ∃ acc, H4 D = some (.lst acc) ∧ acc.length < sizeLine ∧ Pv (i + 1) (upd H4 D (.lst (acc ++ [y]))) else Pv (i + 1) H3) (hd : ∀ H, Pv xs.length H → Qd H) :
    ∃ W : Nat → Nat → Hp → Prop, (∃ m, W 0 m (upd H1 D (.lst []))) ∧ ∀ i m H, W i m H →
      ((ItzM K k1 k2 a b).stop i H ∧ Qd H) ∨ ((ItzM K k1 k2 a b).go i H ∧ ∃ Nx : Hp → Prop, (∀ H', Nx H' → ∃ m', m' < m ∧ W (i + 1) m' H') ∧ ∀ x H', (ItzM K k1 k2 a b).yld i H x H' → g x (wipe σ vs) H' fun σ2 H2 => wipe σ2 vs = wipe σ vs ∧ tt σ2 H2 fun b H3 =>
        if b = true then te σ2 H3 fun y H4 => ∃ acc, H4 D = some (.lst acc) ∧ acc.length < sizeLine ∧ Nx (upd H4 D (.lst (acc ++ [y]))) else Nx H3) := by
  refine ⟨fun i m H => m = xs.length - i ∧ i ≤ xs.length ∧ Pv i H, ⟨_, rfl, Nat.zero_le _, h0⟩, ?_⟩
  rintro i m H ⟨rfl, hi, p⟩
  obtain ⟨qx, qy⟩ := hq i H p
  by_cases hlt : i < xs.length
  · refine .inr ⟨⟨xs, ys, _, _, qx, qy, List.getElem?_eq_getElem hlt, List.getElem?_eq_getElem (hl ▸ hlt)⟩, Pv (i + 1), fun H' p' => ⟨xs.length - (i + 1), by omega, rfl, hlt, p'⟩, ?_⟩
    rintro v H' ⟨T, x', y', rfl, hT, rfl, f1, f2⟩
    exact hs i x' y' T H (f1 xs qx) (f2 ys qy) p hT
  · have e : i = xs.length := by omega
    subst e
    exact .inl ⟨⟨xs, ys, qx, qy, .inl rfl, Nat.le_refl _, Nat.le_of_eq hl⟩, hd H p⟩
end Lw

namespace Lw
/-! ### rows of a ground, reckoned -/
def addR (p : Int) (r s : List Int) : List Int := List.zipWith (fun a b => (a + b) % p) r s
def subR (p : Int) (r s : List Int) : List Int := List.zipWith (fun a b => (a - b) % p) r s
def sclR (p : Int) (k : Int) (r : List Int) : List Int := r.map fun a => k * a % p
def mulR (r s : List Int) : List Int := List.zipWith (fun a b => a * b) r s
def plusR (p : Int) (r : List Int) (t : Int) (s : List Int) : List Int := List.zipWith (fun a b => (a + t * b) % p) r s
def zeroR (n : Nat) : List Int := List.replicate n 0
def combR (p : Int) (n : Nat) : List Int → List (List Int) → List Int := fun ks rs => (ks.zip rs).foldl (fun t kr => addR p t (sclR p kr.1 kr.2)) (zeroR n)
def pivR (r : List Int) : Option Nat := r.findIdx? fun a => a != 0
/-- a row of the ground with p and n -/
def IsRow (p : Int) (n : Nat) (r : List Int) : Prop := r.length = n ∧ ∀ x ∈ r, 0 ≤ x ∧ x < p
theorem IsRow.at {p : Int} {n i : Nat} {r : List Int} {x : Int} (h : IsRow p n r) (e : r[i]? = some x) : 0 ≤ x ∧ x < p := h.2 x (List.mem_of_getElem? e)
theorem get_zw {f : Int → Int → Int} {r s : List Int} {i : Nat} {x y : Int} (hx : r[i]? = some x) (hy : s[i]? = some y) : (List.zipWith f r s)[i]? = some (f x y) := by
  rw [List.getElem?_zipWith, hx, hy]
theorem len_zw {f : Int → Int → Int} {r s : List Int} {n : Nat} (h1 : r.length = n) (h2 : s.length = n) : (List.zipWith f r s).length = n := by
  rw [List.length_zipWith, h1, h2, Nat.min_self]
theorem row_zw {p : Int} (hp : 0 < p) {f : Int → Int → Int} {r s : List Int} {n : Nat} (h1 : r.length = n) (h2 : s.length = n) : IsRow p n (List.zipWith (fun a b => f a b % p) r s) := by
  refine ⟨len_zw h1 h2, fun x hx => ?_⟩
  obtain ⟨i, hi, rfl⟩ := List.getElem_of_mem hx
  rw [List.getElem_zipWith]
  exact ⟨Int.emod_nonneg _ (Int.ne_of_gt hp), Int.emod_lt_of_pos _ hp⟩
theorem row_add {p : Int} (hp : 0 < p) {r s : List Int} {n : Nat} (h1 : r.length = n) (h2 : s.length = n) : IsRow p n (addR p r s) := row_zw hp h1 h2
theorem row_sub {p : Int} (hp : 0 < p) {r s : List Int} {n : Nat} (h1 : r.length = n) (h2 : s.length = n) : IsRow p n (subR p r s) := row_zw hp h1 h2
theorem row_plus {p : Int} (hp : 0 < p) {r s : List Int} {t : Int} {n : Nat} (h1 : r.length = n) (h2 : s.length = n) : IsRow p n (plusR p r t s) := row_zw hp h1 h2
theorem row_scl {p : Int} (hp : 0 < p) {k : Int} {r : List Int} {n : Nat} (h1 : r.length = n) : IsRow p n (sclR p k r) := by
  refine ⟨by simp [sclR, h1], fun x hx => ?_⟩
  obtain ⟨a, _, rfl⟩ := List.mem_map.mp hx
  exact ⟨Int.emod_nonneg _ (Int.ne_of_gt hp), Int.emod_lt_of_pos _ hp⟩
theorem row_zero {p : Int} (hp : 0 < p) (n : Nat) : IsRow p n (zeroR n) := by
  refine ⟨by simp [zeroR], fun x hx => ?_⟩
  have := List.eq_of_mem_replicate hx
  omega
theorem zw_congr {f g : Int → Int → Int} : ∀ {r s : List Int}, (∀ (i : Nat) (x y : Int), r[i]? = some x → s[i]? = some y → f x y = g x y) → List.zipWith f r s = List.zipWith g r s
  | [], _, _ => by simp
  | _ :: _, [], _ => by simp
  | a :: r, b :: s, h => by
    rw [List.zipWith_cons_cons, List.zipWith_cons_cons, h 0 a b rfl rfl, zw_congr fun i x y h1 h2 => h (i + 1) x y h1 h2]
theorem add_plus (p : Int) (r s : List Int) : addR p r s = plusR p r 1 s := by
  unfold addR plusR
  exact zw_congr fun i x y _ _ => by rw [Int.one_mul]
theorem sub_plus (p : Int) (r s : List Int) : subR p r s = plusR p r (p - 1) s := by
  unfold subR plusR
  refine zw_congr fun i x y _ _ => ?_
  rw [Int.sub_mul, Int.one_mul, show x + (p * y - y) = (x - y) + p * y by omega, Int.add_mul_emod_self_left]
theorem scl_plus (p k : Int) : ∀ (n : Nat) (r : List Int), r.length = n → sclR p k r = plusR p (zeroR n) k r
  | 0, r, h => by
    have : r = [] := List.eq_nil_of_length_eq_zero h
    subst this
    rfl
  | n + 1, [], h => by cases h
  | n + 1, a :: r, h => by
    have ih := scl_plus p k n r (by simpa using h)
    unfold sclR plusR zeroR at ih ⊢
    rw [List.map_cons, List.replicate_succ, List.zipWith_cons_cons, ih, Int.zero_add]
theorem add_sub {p : Int} {n : Nat} {r s : List Int} (hp : 0 < p) (h1 : IsRow p n r) (h2 : s.length = n) : addR p (subR p r s) s = r := by
  apply List.ext_getElem?
  intro i
  by_cases hi : i < n
  · have hr : i < r.length := by rw [h1.1]; exact hi
    have hs : i < s.length := by rw [h2]; exact hi
    have e1 : (subR p r s)[i]? = some ((r[i] - s[i]) % p) := get_zw (List.getElem?_eq_getElem hr) (List.getElem?_eq_getElem hs)
    have e2 : (addR p (subR p r s) s)[i]? = some (((r[i] - s[i]) % p + s[i]) % p) := get_zw e1 (List.getElem?_eq_getElem hs)
    have b := h1.2 r[i] (List.getElem_mem hr)
    rw [e2, List.getElem?_eq_getElem hr, Int.emod_add_emod, Int.sub_add_cancel, Int.emod_eq_of_lt b.1 b.2]
  · rw [List.getElem?_eq_none_iff.mpr (by rw [(row_add hp (row_sub hp h1.1 h2).1 h2).1]; omega), List.getElem?_eq_none_iff.mpr (by rw [h1.1]; omega)]
theorem comb_snoc (p : Int) (n : Nat) (ks : List Int) (rs : List (List Int)) (k : Int) (r : List Int) (h : ks.length = rs.length) : combR p n (ks ++ [k]) (rs ++ [r]) = addR p (combR p n ks rs) (sclR p k r) := by
  unfold combR
  rw [List.zip_append h, List.foldl_append]
  rfl
theorem add_scl (p : Int) (t : List Int) (k : Int) (r : List Int) : addR p t (sclR p k r) = plusR p t k r := by
  unfold addR sclR plusR
  rw [List.zipWith_map_right]
  exact zw_congr fun i x y _ _ => by rw [Int.add_emod_emod]
theorem row_comb {p : Int} (hp : 0 < p) {n : Nat} {ks : List Int} {rs : List (List Int)} (h : ∀ r ∈ rs, IsRow p n r) : IsRow p n (combR p n ks rs) := by
  unfold combR
  have : ∀ (l : List (Int × List Int)) (t : List Int), IsRow p n t → (∀ kr ∈ l, IsRow p n kr.2) → IsRow p n (l.foldl (fun t kr => addR p t (sclR p kr.1 kr.2)) t) := by
    intro l
    induction l with
    | nil => intro t ht _; exact ht
    | cons a l ih =>
      intro t ht hl
      exact ih _ (row_add hp ht.1 (row_scl hp (hl a (by simp)).1).1) fun kr hk => hl kr (by simp [hk])
  exact this _ _ (row_zero hp n) fun kr hk => h _ (List.of_mem_zip hk).2
/-- the places with an entry -/
def ents (r : List Int) (m : Nat) : List Int := ((List.range m).filter fun k => (r.getD k 0) != 0).map fun k : Nat => (k : Int)
theorem piv_none {r : List Int} (h : pivR r = none) : ents r r.length = [] := by
  unfold ents
  rw [List.map_eq_nil_iff, List.filter_eq_nil_iff]
  intro k hk
  have hk' : k < r.length := List.mem_range.mp hk
  have := (List.findIdx?_eq_none_iff.mp h) r[k] (List.getElem_mem hk')
  simpa [List.getD_eq_getElem?_getD, hk'] using this
theorem piv_some {r : List Int} {k : Nat} (h : pivR r = some k) : ∃ l, ents r r.length = (k : Int) :: l := by
  obtain ⟨hk, hx, hl⟩ := List.findIdx?_eq_some_iff_getElem.mp h
  have e : List.range r.length = List.range k ++ k :: (List.range (r.length - (k + 1))).map (fun x => (k + 1) + x) := by
    rw [show r.length = (k + 1) + (r.length - (k + 1)) by omega, List.range_add, List.range_succ]
    simp
  unfold ents
  rw [e, List.filter_append, List.filter_cons]
  have h1 : (List.range k).filter (fun k => (r.getD k 0) != 0) = [] := by
    rw [List.filter_eq_nil_iff]
    intro j hj
    have hj' : j < k := List.mem_range.mp hj
    have := hl j hj'
    simpa [List.getD_eq_getElem?_getD, show j < r.length by omega] using this
  have h2 : ((r.getD k 0) != 0) = true := by simpa [List.getD_eq_getElem?_getD, hk] using hx
  rw [h1, if_pos h2]
  exact ⟨_, rfl⟩
end Lw

/-! ### data that may be shown -/
namespace Lw
open PySem L2
structure Shw (d : PyData) (k b : Nat) : Prop where
  sh : d.showable = true
  can : d.canLay0 = true
  dp : d.depth ≤ k
  ls : d.leavesShort 13 = true
  bk : d.bulk ≤ b
structure ShwA (ds : List PyData) (k b : Nat) : Prop where
  sh : PyData.showableAll ds = true
  can : PyData.canLayAll0 ds = true
  dp : PyData.depthAll ds ≤ k
  ls : PyData.leavesShortAll 13 ds = true
  bk : PyData.bulkAll ds ≤ b
theorem Shw.fits {d : PyData} {k b : Nat} (h : Shw d k b) (hb : b ≤ 2 ^ 20) : d.shown.length ≤ sizeLine := PyData.shown_fits_bulk (B := 13) (by decide) (by decide) h.ls (Nat.le_trans h.bk hb)
theorem ShwA.nil : ShwA [] 0 0 := ⟨rfl, rfl, by simp [PyData.depthAll], rfl, by simp [PyData.bulkAll]⟩
theorem ShwA.cons {d : PyData} {ds : List PyData} {k k' b b' : Nat} (h : Shw d k b) (t : ShwA ds k' b') : ShwA (d :: ds) (max k k') (b + 1 + b') := by
  refine ⟨?_, ?_, ?_, ?_, ?_⟩
  · simp only [PyData.showableAll, h.sh, t.sh, Bool.and_self]
  · simp only [PyData.canLayAll0, h.can, t.can, Bool.and_self]
  · have h1 := h.dp; have h2 := t.dp
    simp only [PyData.depthAll]
    omega
  · simp only [PyData.leavesShortAll, h.ls, t.ls, Bool.and_self]
  · have h1 := h.bk; have h2 := t.bk
    simp only [PyData.bulkAll]
    omega
theorem ShwA.mono {ds : List PyData} {k k' b b' : Nat} (t : ShwA ds k b) (h1 : k ≤ k') (h2 : b ≤ b') : ShwA ds k' b' := ⟨t.sh, t.can, Nat.le_trans t.dp h1, t.ls, Nat.le_trans t.bk h2⟩
theorem Shw.mono {d : PyData} {k k' b b' : Nat} (t : Shw d k b) (h1 : k ≤ k') (h2 : b ≤ b') : Shw d k' b' := ⟨t.sh, t.can, Nat.le_trans t.dp h1, t.ls, Nat.le_trans t.bk h2⟩
theorem ShwA.lst {ds : List PyData} {k b : Nat} (t : ShwA ds k b) : Shw (.list ds) (k + 1) b := by
  refine ⟨?_, ?_, ?_, ?_, ?_⟩
  · simpa only [PyData.showable] using t.sh
  · simpa only [PyData.canLay0] using t.can
  · have := t.dp
    simp only [PyData.depth]
    omega
  · simpa only [PyData.leavesShort] using t.ls
  · simpa only [PyData.bulk] using t.bk
theorem ShwA.tup {ds : List PyData} {k b : Nat} (t : ShwA ds k b) : Shw (.tuple ds) (k + 1) b := by
  refine ⟨?_, ?_, ?_, ?_, ?_⟩
  · simpa only [PyData.showable] using t.sh
  · simpa only [PyData.canLay0] using t.can
  · have := t.dp
    simp only [PyData.depth]
    omega
  · simpa only [PyData.leavesShort] using t.ls
  · simpa only [PyData.bulk] using t.bk
theorem shw_int {i : Int} (h0 : 0 ≤ i) (h : i < 1000000) : Shw (.int i) 1 0 := by
  refine ⟨?_, rfl, by simp [PyData.depth], ?_, by simp [PyData.bulk]⟩
  · simp only [PyData.showable, decide_eq_true_eq]
    have h1 : i.natAbs < 2 ^ 20 := by omega
    by_cases hz : i.natAbs = 0
    · rw [hz]; decide
    · have := (Nat.log2_lt hz).mpr h1
      omega
  · simp only [PyData.leavesShort, decide_eq_true_eq]
    rw [PyData.shown_int]
    exact Nat.le_trans (PyProof.Rows.toString_length_le h0 (by decide : 0 < 6) h) (by decide)
theorem shw_ints : ∀ {ns : List Int}, (∀ x ∈ ns, 0 ≤ x ∧ x < 1000000) → ShwA (ns.map PyData.int) 1 ns.length
  | [], _ => ShwA.nil.mono (by decide) (Nat.le_refl _)
  | n :: ns, h => by
    have hn := h n (by simp)
    have t := shw_ints (ns := ns) fun x hx => h x (by simp [hx])
    exact ((ShwA.cons (shw_int hn.1 hn.2) t)).mono (by decide) (by rw [List.length_cons]; omega)
theorem shw_row {r : List Int} (h : ∀ x ∈ r, 0 ≤ x ∧ x < 1000000) : Shw (dR r) 2 r.length := (shw_ints h).tup
theorem shw_rows {n : Nat} : ∀ {rs : List (List Int)}, (∀ r ∈ rs, r.length ≤ n ∧ ∀ x ∈ r, 0 ≤ x ∧ x < 1000000) → ShwA (rs.map dR) 2 (rs.length * (n + 1))
  | [], _ => ShwA.nil.mono (by decide) (Nat.zero_le _)
  | r :: rs, h => by
    have hr := h r (by simp)
    have t := shw_rows (rs := rs) fun x hx => h x (by simp [hx])
    refine (ShwA.cons (shw_row hr.2) t).mono (by decide) ?_
    rw [List.length_cons, Nat.succ_mul]
    omega
/-- the text of data, where it may be shown -/
theorem repr_ok {K : PySem.W.Frag} {H : Hp} {v : V} {d : PyData} {k b : Nat} {Q : VK} (h : Dp K H v d) (s : Shw d k b) (hk : k ≤ 64) (hb : b ≤ 2 ^ 20) (q : Q (.str d.shown) H) : rReprD K [v] H Q :=
  ⟨v, d, rfl, h, s.sh, s.can, Nat.le_trans s.dp hk, s.fits hb, q⟩
theorem nil_i {σ : L2.St} {H : Hp} {Q : List V → Hp → Prop} (h : Q [] H) : tNil σ H Q := h
theorem np_i {σ : L2.St} {H : Hp} {Q : Option Int → Hp → Prop} (h : Q none H) : tNoPart σ H Q := h
end Lw

/-! ### data with a dict as a leaf; tuples in any mix; own exceptions that keep a path -/
namespace Lw
open PySem L2 PySem.Spec PyProof.Rows
/-- the dicts that occur: {} and {0: 1} -/
inductive DctD : List (Key × V) → PyData → Prop
  | emp : DctD [] (.dict [])
  | one : DctD [(Sum.inl 0, .int 1)] (.dict [(.int 0, .int 1)])
/-- a value without a dict in it, or a dict -/
inductive Lf (K : PySem.W.Frag) (H : Hp) : V → PyData → Prop
  | dp {v : V} {d : PyData} : Dp K H v d → d.hasDict = false → Lf K H v d
  | dct {a : Addr} {kvs : List (Key × V)} {d : PyData} : H a = some (.dK kvs) → DctD kvs d → Lf K H (.ref a) d
/-- such a value, or a tuple of whole numbers with one such value amid -/
inductive Vl (K : PySem.W.Frag) (H : Hp) : V → PyData → Prop
  | lf {v : V} {d : PyData} : Lf K H v d → Vl K H v d
  | mix {a : Addr} {pre post : List Int} {x : V} {d : PyData} : SqT K H a (pre.map V.int ++ x :: post.map V.int) → Lf K H x d → Vl K H (.ref a) (.tuple (pre.map PyData.int ++ d :: post.map PyData.int))
mutual
theorem dp_same {K : PySem.W.Frag} {H H' : Hp} (e : Same H H') : ∀ (d : PyData) (v : V), Dp K H v d → Dp K H' v d
  | .none, _, h => by cases h; exact .non
  | .bool b, _, h => by cases h; exact .bl b
  | .int i, _, h => by cases h; exact .int i
  | .str x, _, h => by cases h; exact .str x
  | .list ds, _, h => by
    cases h with
    | lst hs ha => exact .lst (e.seq hs) (dp_sameA e ds _ ha)
  | .tuple ds, _, h => by
    cases h with
    | tup hs ha => exact .tup (sameT e hs) (dp_sameA e ds _ ha)
  | .dict _, _, h => by cases h
theorem dp_sameA {K : PySem.W.Frag} {H H' : Hp} (e : Same H H') : ∀ (ds : List PyData) (vs : List V), DpAll K H vs ds → DpAll K H' vs ds
  | [], _, h => by cases h; exact .nil
  | d :: ds, _, h => by
    cases h with
    | cons h1 h2 => exact .cons (dp_same e d _ h1) (dp_sameA e ds _ h2)
end
theorem Lf.mono {K : PySem.W.Frag} {H H' : Hp} {v : V} {d : PyData} (h : Lf K H v d) (e : Same H H') : Lf K H' v d := by
  cases h with
  | dp h n => exact .dp (dp_same e _ _ h) n
  | dct h k => exact .dct (e _ _ h) k
theorem Vl.mono {K : PySem.W.Frag} {H H' : Hp} {v : V} {d : PyData} (h : Vl K H v d) (e : Same H H') : Vl K H' v d := by
  cases h with
  | lf h => exact .lf (h.mono e)
  | mix h k => exact .mix (sameT e h) (k.mono e)
theorem hd_ints : ∀ ns : List Int, PyData.hasDictAll (ns.map PyData.int) = false
  | [] => by simp [PyData.hasDictAll]
  | n :: ns => by
    have := hd_ints ns
    simp [PyData.hasDictAll, PyData.hasDict, this]
theorem hd_mix (d : PyData) (post : List Int) : ∀ pre : List Int, PyData.hasDict (.tuple (pre.map PyData.int ++ d :: post.map PyData.int)) = d.hasDict
  | [] => by simp [PyData.hasDict, PyData.hasDictAll, hd_ints]
  | a :: t => by
    have := hd_mix d post t
    simpa [PyData.hasDict, PyData.hasDictAll] using this
theorem dp_mix {K : PySem.W.Frag} {H : Hp} {x : V} {d : PyData} (h : Dp K H x d) (post : List Int) : ∀ pre : List Int, DpAll K H (pre.map V.int ++ x :: post.map V.int) (pre.map PyData.int ++ d :: post.map PyData.int)
  | [] => .cons h (dp_ints post)
  | a :: t => .cons (.int a) (dp_mix h post t)
section
variable {X : Cx} {pins : List (Addr × Obj)} {σ : L2.St} {H : Hp} {s : Shared}
theorem dct_reads (I : Inv X pins σ H s) {a : Addr} {kvs : List (Key × V)} {d : PyData} (h : H a = some (.dK kvs)) (k : DctD kvs d) : ∃ as, Reads s.heap (.ref a) d as ∧ sysModules ∉ as := by
  obtain ⟨_, hn, vs, hk, o, es, ep, e, ex, hd, ko, hp, _⟩ := (show ObjOk X.prog X.w H s.heap a (.dK kvs) from I.hok a _ h)
  have hne : ¬ sysModules = a := fun z => by
    rw [← z] at hn
    exact absurd hn (by decide)
  cases k with
  | emp =>
    cases hk
    generalize hl : es.toList = l at hp
    cases hp
    refine ⟨_, .dict (kvs := []) e ex.1 hd (by rw [hl]; exact .nil) (by rw [hl]; exact .nil), by simpa using hne⟩
  | one =>
    cases hk with
    | @cons p q l1 l2 hh ht =>
      cases ht
      obtain ⟨q1, q2⟩ := q
      obtain ⟨e1, rv⟩ := hh
      simp only at e1 rv
      subst e1
      obtain ⟨t2, rfl⟩ := rv
      generalize hl : es.toList = l at hp
      cases hp with
      | @cons x kv l3 l4 hk2 hv ht =>
        cases ht
        obtain ⟨i, t, ei, ev⟩ | ⟨_, _, ei, _⟩ := keyIs_shape (k := Sum.inl 0) (v := x.key) hk2
        · obtain rfl := Sum.inl.inj ei
          refine ⟨_, .dict (kvs := [(.int 0, .int 1)]) e ex.1 hd (as := []) (bs := []) (by rw [hl]; exact ReadsAll.cons (as := []) (bs := []) (by show Reads s.heap x.key (.int 0) []; rw [ev]; exact .int 0 t) .nil) (by rw [hl]; exact ReadsAll.cons (as := []) (bs := []) (by show Reads s.heap x.val (.int 1) []; rw [hv]; exact .int 1 t2) .nil), by simpa using hne⟩
        · exact absurd ei (fun z => nomatch z)
theorem lf_reads (I : Inv X pins σ H s) {v : V} {u : Value} {d : PyData} (h : Lf X.K H v d) (r : RelV v u) : ∃ as, Reads s.heap u d as ∧ (d.hasDict = true → sysModules ∉ as) := by
  cases h with
  | dp h n =>
    obtain ⟨as, q⟩ := Dp.reads I d v u h r
    exact ⟨as, q, fun z => by rw [n] at z; cases z⟩
  | dct h k =>
    cases (show u = Value.ref _ from r)
    obtain ⟨as, q, n⟩ := dct_reads I h k
    exact ⟨as, q, fun _ => n⟩
theorem ints_reads {h : Heap} : ∀ {ns : List Int} {us : List Value}, Vals (ns.map V.int) us → ReadsAll h us (ns.map PyData.int) []
  | [], _, r => by cases r; exact .nil
  | n :: ns, _, r => by
    cases r with
    | cons r1 r2 =>
      obtain ⟨t, rfl⟩ := r1
      exact ReadsAll.cons (as := []) (bs := []) (.int n t) (ints_reads r2)
theorem mix_reads {h : Heap} {x : V} {d : PyData} {as : List Addr} {post : List Int} (hx : ∀ u, RelV x u → Reads h u d as) : ∀ {pre : List Int} {us : List Value}, Vals (pre.map V.int ++ x :: post.map V.int) us → ReadsAll h us (pre.map PyData.int ++ d :: post.map PyData.int) as
  | [], _, r => by
    cases r with
    | cons r1 r2 =>
      have := ReadsAll.cons (hx _ r1) (ints_reads (h := h) r2)
      rw [List.append_nil] at this
      exact this
  | n :: ns, _, r => by
    cases r with
    | cons r1 r2 =>
      obtain ⟨t, rfl⟩ := r1
      exact ReadsAll.cons (as := []) (.int n t) (mix_reads hx r2)
theorem vl_reads (I : Inv X pins σ H s) {v : V} {u : Value} {d : PyData} (h : Vl X.K H v d) (r : RelV v u) : ∃ as, Reads s.heap u d as ∧ (d.hasDict = true → sysModules ∉ as) := by
  cases h with
  | lf h => exact lf_reads I h r
  | @mix a pre post x d ht hx =>
    cases (show u = Value.ref a from r)
    obtain ⟨its, rv, ⟨o, ho, hc, n, hd⟩, _⟩ := I.tuple ht
    have hdi : PyData.hasDict (.tuple (pre.map PyData.int ++ d :: post.map PyData.int)) = d.hasDict := hd_mix d post pre
    have key : ∃ as, ReadsAll s.heap its (pre.map PyData.int ++ d :: post.map PyData.int) as ∧ (d.hasDict = true → sysModules ∉ as) := by
      cases hx with
      | dp h n =>
        obtain ⟨as, q⟩ := Dp.readsAll I (pre.map PyData.int ++ d :: post.map PyData.int) _ its (dp_mix h post pre) rv
        exact ⟨as, q, fun z => by rw [n] at z; cases z⟩
      | @dct b kvs _ h k =>
        obtain ⟨as, q, n⟩ := dct_reads I h k
        exact ⟨as, mix_reads (fun u ru => by cases (show u = Value.ref b from ru); exact q) rv, fun _ => n⟩
    obtain ⟨as, q, n⟩ := key
    exact ⟨_, .tuple ho hc hd q, fun z => n (hdi ▸ z)⟩
end
section
variable {X : Cx}
/-- repr of such values -/
def rReprV (K : PySem.W.Frag) : List V → Hp → VK → Prop := fun xs H Q => ∃ (v : V) (d : PyData), xs = [v] ∧ Vl K H v d ∧ d.showable = true ∧ d.depth ≤ 64 ∧ d.shown.length ≤ sizeLine ∧ Q (.str d.shown) H
theorem call_reprV (hG : X.A.guards = some []) (hu : X.A.units + 66 < cLine) : CallR X (.builtin "repr") (rReprV X.K) := by
  intro pins s σ H xs us Q I r h
  obtain ⟨v, d, rfl, hd, hs, hp, hz, q⟩ := h
  obtain ⟨u, rfl, ru⟩ := vals1 r
  obtain ⟨as, hr, hsm⟩ := vl_reads I hd ru
  cases hr with
  | none => exact PySem.P.repr_of_none ⟨.str _, H, I.tok _, ⟨_, rfl⟩, q⟩
  | bool b => exact PySem.P.repr_of_bool ⟨.str _, H, I.tok _, ⟨_, rfl⟩, q⟩
  | int i t => exact PySem.P.repr_of_int (of_decide_eq_true hs) ⟨.str _, H, I.tok _, ⟨_, rfl⟩, q⟩
  | str x t => exact PySem.P.repr_of_str ⟨.str _, H, I.tok _, ⟨_, rfl⟩, q⟩ hz
  | list h1 h2 h3 h4 => exact repr_of_reads' (.list h1 h2 h3 h4) hs hsm hG (by omega) (fun _ _ z => z) (fun h' k tk hk => ⟨.str _, H, I.kept (t' := tk) hk, ⟨_, rfl⟩, q⟩) hz
  | tuple h1 h2 h3 h4 => exact repr_of_reads' (.tuple h1 h2 h3 h4) hs hsm hG (by omega) (fun _ _ z => z) (fun h' k tk hk => ⟨.str _, H, I.kept (t' := tk) hk, ⟨_, rfl⟩, q⟩) hz
  | dict h1 h2 h3 h4 h5 => exact repr_of_reads' (.dict h1 h2 h3 h4 h5) hs hsm hG (by omega) (fun _ _ z => z) (fun h' k tk hk => ⟨.str _, H, I.kept (t' := tk) hk, ⟨_, rfl⟩, q⟩) hz
end
/-- what sort of thing a leaf is -/
inductive Kd (K : PySem.W.Frag) (H : Hp) : V → PyData → Prop
  | int (i : Int) : Kd K H (.int i) (.int i)
  | bl (b : Bool) : Kd K H (.bl b) (.bool b)
  | tup {a : Addr} {xs : List V} {ds : List PyData} : SqT K H a xs → xs.length = ds.length → (∀ (j : Nat) (x : V), xs[j]? = some x → ∃ d, ds[j]? = some d ∧ Lf K H x d) → Kd K H (.ref a) (.tuple ds)
  | oth {v : V} {d : PyData} (t : String) : (t = "NoneType" ∨ t = "str" ∨ t = "list" ∨ t = "dict") → TyX K H v (.type t) → (∀ i, d ≠ .int i) → (∀ b, d ≠ .bool b) → (∀ ds, d ≠ .tuple ds) → Kd K H v d
theorem ty_lst {K : PySem.W.Frag} {H : Hp} {a : Addr} {xs : List V} (h : SqL K H a xs) : TyX K H (.ref a) (.type "list") := by
  rcases h with (h | ⟨o, h⟩) | ⟨o, its, n, e, c, _⟩
  · exact .base (.lst h)
  · exact .base (.frz h)
  · exact .kList e c
theorem ty_tup {K : PySem.W.Frag} {H : Hp} {a : Addr} {xs : List V} (h : SqT K H a xs) : TyX K H (.ref a) (.type "tuple") := by
  rcases h with (h | ⟨o, h⟩) | ⟨o, its, n, e, c, _⟩
  · exact .base (.tup h)
  · exact .fTuple h
  · exact .kTuple e c
theorem dpa_at {K : PySem.W.Frag} {H : Hp} : ∀ {xs : List V} {ds : List PyData}, DpAll K H xs ds → PyData.hasDictAll ds = false → xs.length = ds.length ∧ ∀ (j : Nat) (x : V), xs[j]? = some x → ∃ d, ds[j]? = some d ∧ Lf K H x d
  | _, _, .nil, _ => ⟨rfl, fun j x e => by simp at e⟩
  | _, _, .cons (v := v) (vs := vs) (d := d) (ds := ds) h t, n => by
    have n' : d.hasDict = false ∧ PyData.hasDictAll ds = false := by simpa [PyData.hasDictAll] using n
    obtain ⟨h1, h2⟩ := dpa_at t n'.2
    refine ⟨by rw [List.length_cons, List.length_cons, h1], fun j x e => ?_⟩
    cases j with
    | zero =>
      simp at e
      subst e
      exact ⟨d, by simp, .dp h n'.1⟩
    | succ j => exact h2 j x (by simpa using e)
theorem lf_kd {K : PySem.W.Frag} {H : Hp} {v : V} {d : PyData} (h : Lf K H v d) : Kd K H v d := by
  cases h with
  | dp h n =>
    cases h with
    | non => exact .oth "NoneType" (.inl rfl) (.base .non) (fun _ z => nomatch z) (fun _ z => nomatch z) (fun _ z => nomatch z)
    | bl b => exact .bl b
    | int i => exact .int i
    | str x => exact .oth "str" (.inr (.inl rfl)) (.base (.str x)) (fun _ z => nomatch z) (fun _ z => nomatch z) (fun _ z => nomatch z)
    | lst hs ha => exact .oth "list" (.inr (.inr (.inl rfl))) (ty_lst hs) (fun _ z => nomatch z) (fun _ z => nomatch z) (fun _ z => nomatch z)
    | tup hs ha =>
      obtain ⟨h1, h2⟩ := dpa_at ha (by simpa [PyData.hasDict] using n)
      exact .tup hs h1 h2
  | dct h k =>
    refine .oth "dict" (.inr (.inr (.inr rfl))) (.base (.dK h)) ?_ ?_ ?_ <;> cases k <;> exact fun _ z => nomatch z
theorem vl_kd {K : PySem.W.Frag} {H : Hp} {v : V} {d : PyData} (h : Vl K H v d) : Kd K H v d := by
  cases h with
  | lf h => exact lf_kd h
  | @mix a pre post x d ht hx =>
    refine .tup ht (by simp) fun j y e => ?_
    rcases Nat.lt_trichotomy j pre.length with hj | hj | hj
    · rw [List.getElem?_append_left (by simpa using hj)] at e ⊢
      obtain ⟨z, rfl, hz⟩ := ints_at e
      exact ⟨.int z, by rw [List.getElem?_map, hz]; rfl, .dp (.int z) rfl⟩
    · subst hj
      rw [List.getElem?_append_right (by simp)] at e ⊢
      simp at e ⊢
      subst e
      exact hx
    · rw [List.getElem?_append_right (by simpa using Nat.le_of_lt hj)] at e ⊢
      obtain ⟨m, hm⟩ : ∃ m, j - (pre.map V.int).length = m + 1 := ⟨j - pre.length - 1, by rw [List.length_map]; omega⟩
      have hm' : j - (pre.map PyData.int).length = m + 1 := by rw [List.length_map] at hm ⊢; exact hm
      rw [hm] at e
      rw [hm']
      simp only [List.getElem?_cons_succ] at e ⊢
      obtain ⟨z, rfl, hz⟩ := ints_at e
      exact ⟨.int z, by rw [List.getElem?_map, hz]; rfl, .dp (.int z) rfl⟩
/-- what the written part says of an own exception class over ValueError that keeps a path -/
structure OexX (K : PySem.W.Frag) (mg : Str → Option Value) (x : Str) (C fI : Addr) : Prop where
  g : mg x = some (.ref C)
  ox : OexC K C
  iC : PySem.W.findIn K (.ref C) "__init__" = some (some (.ref fI))
  tI : PySem.W.typeIn K (.ref fI) = some (.type "function")
  me : PySem.W.exmOne K (.ref C) (.ref C) = some true
  xf : XfC K C
  np : PySem.W.findIn K (.ref C) "path" = some none
theorem exm_me {K : PySem.W.Frag} {C : Addr} (bE : PySem.W.subIn K (.ref C) (.type "BaseException") = some true) (tE : PySem.W.typeIn K (.ref C) = some (.type "type")) (iE : PySem.W.isClsIn K C = true) (sE : PySem.W.subIn K (.ref C) (.ref C) = some true) : PySem.W.exmOne K (.ref C) (.ref C) = some true := by
  have e1 : (PySem.W.subIn K (.ref C) (.type "BaseException") == some true) = true := by rw [bE]; rfl
  have e3 : (PySem.W.clsIn K C).isSome = true := iE
  have e2 : ((PySem.W.clsIn K C).isSome && PySem.W.typeIn K (.ref C) == some (.type "type")) = true := by rw [e3, tE]; rfl
  show (if _ then (if _ then _ else _) else _) = some true
  rw [if_pos e1, if_pos e2]
  exact sE
theorem oexX_mk {K : PySem.W.Frag} {mg : Str → Option Value} {x : Str} {C fI : Addr} (g : mg x = some (.ref C))
    (cls : ∃ nm q N bs bm sn sub ab col dd k0 k1 k2 k3 k5, K.lookup C = some (PySem.excClassObj nm q C N bs bm true sn sub ab col dd k0 k1 k2 k3 k5 "ValueError.__new__") ∧ PySem.HandSPX.refsVE bm = true)
    (sa : PySem.W.findIn K (.ref C) "__setattr__" = some (some (.builtin "object.__setattr__"))) (ga : PySem.W.findIn K (.ref C) "__getattribute__" = some (some (.builtin "BaseException.__getattribute__"))) (gg : PySem.W.findIn K (.ref C) "__getattr__" = some none)
    (np : PySem.W.findIn K (.ref C) "path" = some none) (iC : PySem.W.findIn K (.ref C) "__init__" = some (some (.ref fI))) (tI : PySem.W.typeIn K (.ref fI) = some (.type "function")) (kC : PySem.W.keepIn K (.ref C) = true)
    (eC : PySem.W.subIn K (.ref C) (.type "BaseException") = some true) (tC : PySem.W.typeIn K (.ref C) = some (.type "type")) (hC : PySem.W.hasDictIn K C = true) (iK : PySem.W.isClsIn K C = true) (sE : PySem.W.subIn K (.ref C) (.ref C) = some true) : OexX K mg x C fI :=
  ⟨g, ⟨cls, sa, eC, tC, kC⟩, iC, tI, exm_me eC tC iK sE, ⟨ga, gg, eC, hC⟩, np⟩
/-- the path that an own exception is made of -/
def spPath (K : PySem.W.Frag) (C : Addr) : Sp := fun vs H Q _ => ∃ (a t : Addr) (ys : List V), vs = [.ref a, .ref t] ∧ OexC K C ∧ PySem.W.findIn K (.ref C) "path" = some none ∧ H a = some (exo a C none) ∧ SqT K H t ys ∧
  ∀ dx, H dx = none → dx ≠ a → Q .non (upd (upd H dx (exd dx [("path", .ref t)])) a (exo a C (some dx)))
/-- what stands behind a raised exception with a path -/
structure Thr (K : PySem.W.Frag) (C : Addr) (H : Hp) (path : List Int) (cls : Value) (d : Option Addr) (H' : Hp) : Prop where
  c : cls = .ref C
  s : Same H H'
  f : ∃ (dd t : Addr), d = some dd ∧ H' dd = some (.xd [("path", .ref t)]) ∧ SqT K H' t (path.map V.int)
/-- C(path) runs -/
theorem thrown {K : PySem.W.Frag} {C : Addr} {H H1 : Hp} {a t : Addr} {path : List Int} {E : XK} (o : OexC K C) (np : PySem.W.findIn K (.ref C) "path" = some none) (s : Same H H1) (ht : SqT K H1 t (path.map V.int)) (ha : H1 a = none)
    (q : ∀ cls d H', Thr K C H path cls d H' → E cls d H') :
    spPath K C [.ref a, .ref t] (upd H1 a (exo a C none)) (fun v H2 => v = .non ∧ ∃ (d : Addr) (fs : List (Str × V)), H2 a = some (exo a C (some d)) ∧ H2 d = some (exd d fs) ∧ H1 d = none ∧ E (.ref C) (some d) (upd (del H2 a) d (.xd fs))) fun _ _ _ => False := by
  refine ⟨a, t, _, rfl, o, np, upd_same, sameT (same_new ha) ht, fun dx hdx ne => ⟨rfl, dx, _, upd_same, by rw [upd_ne ne, upd_same], by rw [upd_ne ne] at hdx; exact hdx, ?_⟩⟩
  have hd1 : H1 dx = none := by rw [upd_ne ne] at hdx; exact hdx
  have sm : Same H1 (upd (del (upd (upd (upd H1 a (exo a C none)) dx (exd dx [("path", .ref t)])) a (exo a C (some dx))) a) dx (.xd [("path", .ref t)])) := fun b x e => by
    have n1 : b ≠ a := ne_of_none e ha
    have n2 : b ≠ dx := ne_of_none e hd1
    rw [upd_ne n2, del_ne n1, upd_ne n1, upd_ne n2, upd_ne n1]
    exact e
  exact q _ _ _ ⟨rfl, s.trans sm, dx, t, rfl, upd_same, sameT sm ht⟩
/-- two tuples put together, wherever they stand -/
theorem cat_any {K : PySem.W.Frag} {H : Hp} {a b : Addr} {xs ys : List V} {Q : VK} (ha : SqT K H a xs) (hb : SqT K H b ys) (hl : xs.length + ys.length ≤ sizeLine) (q : ∀ t H', Same H H' → SqT K H' t (xs ++ ys) → Q (.ref t) H') : rCatA K (.ref a) (.ref b) H Q := by
  refine ⟨a, b, xs, ys, rfl, rfl, ha, hb, hl, fun e => ?_, fun _ e => ?_, fun _ _ p hp => q p _ (same_new hp) (.inl (.inl upd_same))⟩
  · exact q b H (Same.refl _) (by rw [e]; exact hb)
  · exact q a H (Same.refl _) (by rw [e, List.append_nil]; exact ha)
theorem sl_any {K : PySem.W.Frag} {H : Hp} {a : Addr} {xs : List V} {lo hi : Option Int} {Q : VK} (ha : SqT K H a xs) (q : ∀ t H', Same H H' → SqT K H' t (cutV xs lo hi) → Q (.ref t) H') : rSlA K (.ref a) lo hi H Q := by
  refine ⟨a, xs, rfl, ha, fun e => ?_, fun _ p hp => q p _ (same_new hp) (.inl (.inl upd_same))⟩
  refine q a H (Same.refl _) ?_
  have : cutV xs lo hi = xs := by
    unfold cutV
    rw [e.1, e.2, List.drop_zero, Nat.sub_zero, List.take_length]
  rw [this]
  exact ha
/-- all that stands but the source and the list D is known -/
def hide3 (H : Hp) (d c D : Addr) : Hp := fun b => if b = d ∨ b = c ∨ b = D then none else H b
theorem know3 {G H : Hp} {d c D : Addr} {xs : List V} (k : Kn (upd G D (.lst xs)) H d c) (gD : G D = none) :
    Kn (upd (hide3 H d c D) D (.lst xs)) H d c ∧ hide3 H d c D D = none ∧ Same G (hide3 H d c D) := by
  have nd : D ≠ d := k.nd upd_same
  have nc : D ≠ c := k.nc upd_same
  refine ⟨⟨fun b x e => ?_, ?_, ?_, k.src⟩, by simp [hide3], fun b x e => ?_⟩
  · by_cases hb : b = D
    · subst hb
      rw [upd_same] at e
      exact k.le _ _ (by rw [upd_same]; exact e)
    · rw [upd_ne hb] at e
      unfold hide3 at e
      split at e
      · cases e
      · exact e
  · rw [upd_ne nd.symm]
    simp [hide3]
  · rw [upd_ne nc.symm]
    simp [hide3]
  · have hb : b ≠ D := ne_of_none e gD
    have e' : (upd G D (.lst xs)) b = some x := by rw [upd_ne hb]; exact e
    have h1 : b ≠ d := k.nd e'
    have h2 : b ≠ c := k.nc e'
    unfold hide3
    rw [if_neg (by simp [h1, h2, hb])]
    exact k.le _ _ e'
theorem know3_t {K : PySem.W.Frag} {G H : Hp} {d c D t : Addr} {xs ys : List V} (k : Kn (upd G D (.lst xs)) H d c) (h : SqT K H t ys) : SqT K (hide3 H d c D) t ys := by
  obtain ⟨zs, l, m, z, h1, h2, _⟩ := k.src
  have h3 := k.le D _ upd_same
  have off : ∀ {o : HO}, H t = some o → (∀ q, o ≠ .dK q) → (∀ q, o ≠ .lst q) → (hide3 H d c D) t = some o := fun {o} e n1 n2 => by
    have a1 : t ≠ d := fun q => by rw [q, h1] at e; exact n1 _ (Option.some.inj e).symm
    have a2 : t ≠ c := fun q => by rw [q, h2] at e; exact n2 _ (Option.some.inj e).symm
    have a3 : t ≠ D := fun q => by rw [q, h3] at e; exact n2 _ (Option.some.inj e).symm
    unfold hide3
    rw [if_neg (by simp [a1, a2, a3])]
    exact e
  rcases h with (h | ⟨o, h⟩) | h
  · exact .inl (.inl (off h (fun _ q => nomatch q) (fun _ q => nomatch q)))
  · exact .inl (.inr ⟨o, off h (fun _ q => nomatch q) (fun _ q => nomatch q)⟩)
  · exact .inr h
theorem know3_o {G H : Hp} {d c D t : Addr} {xs : List V} {o : HO} (k : Kn (upd G D (.lst xs)) H d c) (h : H t = some o) (nd : t ≠ d) (nc : t ≠ c) (nD : t ≠ D) : hide3 H d c D t = some o := by
  unfold hide3
  rw [if_neg (by simp [nd, nc, nD])]
  exact h
end Lw

namespace Lw
open PySem L2
def topS (i : Nat) : Stmt := PySem.Challenge.pw_codenests_k02_rows_judged.main.body.getD i (.Pass ⟨0, 0, 0, 0⟩)
abbrev s_wall : Stmt := topS 0
abbrev s_BadGround_init : Stmt := inClass (topS 3) 0
abbrev s_BadRow_init : Stmt := inClass (topS 4) 0
abbrev s_is_number : Stmt := topS 6
abbrev s_is_number_of : Stmt := topS 8
abbrev s_row_fault : Stmt := topS 9
abbrev s_check_row : Stmt := topS 10
abbrev s_is_prime : Stmt := topS 12
abbrev s_Ground_init : Stmt := inClass (topS 13) 0
abbrev s_Ground_p : Stmt := inClass (topS 13) 1
abbrev s_Ground_n : Stmt := inClass (topS 13) 2
abbrev s_Ground_zero : Stmt := inClass (topS 13) 3
abbrev s_Ground_units : Stmt := inClass (topS 13) 4
abbrev s_Ground_inverse_of : Stmt := inClass (topS 13) 5
abbrev s_Ground_eq : Stmt := inClass (topS 13) 6
abbrev s_l_source : Stmt := topS 15
abbrev s_l_pick : Stmt := topS 16
abbrev s_l_of : Stmt := topS 17
abbrev s_l_odd : Stmt := topS 18
abbrev s_l_wide : Stmt := topS 19
abbrev s_l_row : Stmt := topS 20
abbrev s_l_due : Stmt := topS 21
abbrev s_l_told : Stmt := topS 22
abbrev s_law : Stmt := topS 23
theorem sc_wall : FnScope ["k"] ["k"] (defScope s_wall) := ⟨rfl, rfl, rfl, by decide +kernel, rfl, by decide +kernel, by decide +kernel⟩
theorem sc_BadGround_init : FnScope ["self", "path"] ["self", "path"] (defScope s_BadGround_init) := ⟨rfl, rfl, rfl, by decide +kernel, rfl, by decide +kernel, by decide +kernel⟩
theorem sc_BadRow_init : FnScope ["self", "path"] ["self", "path"] (defScope s_BadRow_init) := ⟨rfl, rfl, rfl, by decide +kernel, rfl, by decide +kernel, by decide +kernel⟩
theorem sc_is_number : FnScope ["value"] ["value"] (defScope s_is_number) := ⟨rfl, rfl, rfl, by decide +kernel, rfl, by decide +kernel, by decide +kernel⟩
theorem sc_is_number_of : FnScope ["ground", "value"] ["ground", "value"] (defScope s_is_number_of) := ⟨rfl, rfl, rfl, by decide +kernel, rfl, by decide +kernel, by decide +kernel⟩
theorem sc_row_fault : FnScope ["ground", "value", "column", "entry"] ["ground", "value"] (defScope s_row_fault) := ⟨rfl, rfl, rfl, by decide +kernel, rfl, by decide +kernel, by decide +kernel⟩
theorem sc_check_row : FnScope ["ground", "value", "path"] ["ground", "value"] (defScope s_check_row) := ⟨rfl, rfl, rfl, by decide +kernel, rfl, by decide +kernel, by decide +kernel⟩
theorem sc_is_prime : FnScope ["value", "divisor"] ["value"] (defScope s_is_prime) := ⟨rfl, rfl, rfl, by decide +kernel, rfl, by decide +kernel, by decide +kernel⟩
theorem sc_Ground_init : FnScope ["self", "p", "n"] ["self", "p", "n"] (defScope s_Ground_init) := ⟨rfl, rfl, rfl, by decide +kernel, rfl, by decide +kernel, by decide +kernel⟩
theorem sc_Ground_p : FnScope ["self"] ["self"] (defScope s_Ground_p) := ⟨rfl, rfl, rfl, by decide +kernel, rfl, by decide +kernel, by decide +kernel⟩
theorem sc_Ground_n : FnScope ["self"] ["self"] (defScope s_Ground_n) := ⟨rfl, rfl, rfl, by decide +kernel, rfl, by decide +kernel, by decide +kernel⟩
theorem sc_Ground_zero : FnScope ["self"] ["self"] (defScope s_Ground_zero) := ⟨rfl, rfl, rfl, by decide +kernel, rfl, by decide +kernel, by decide +kernel⟩
theorem sc_Ground_units : FnScope ["self"] ["self"] (defScope s_Ground_units) := ⟨rfl, rfl, rfl, by decide +kernel, rfl, by decide +kernel, by decide +kernel⟩
theorem sc_Ground_inverse_of : FnScope ["self", "number"] ["self", "number"] (defScope s_Ground_inverse_of) := ⟨rfl, rfl, rfl, by decide +kernel, rfl, by decide +kernel, by decide +kernel⟩
theorem sc_Ground_eq : FnScope ["self", "other"] ["self", "other"] (defScope s_Ground_eq) := ⟨rfl, rfl, rfl, by decide +kernel, rfl, by decide +kernel, by decide +kernel⟩
theorem sc_l_source : FnScope ["_law_script", "_law_mixed", "_law_cell"] ["_law_script"] (defScope s_l_source) := ⟨rfl, rfl, rfl, by decide +kernel, rfl, by decide +kernel, by decide +kernel⟩
theorem sc_l_pick : FnScope ["_law_source_here", "_law_many", "_law_left", "_law_mixed"] ["_law_source_here", "_law_many"] (defScope s_l_pick) := ⟨rfl, rfl, rfl, by decide +kernel, rfl, by decide +kernel, by decide +kernel⟩
theorem sc_l_of : FnScope ["_law_source_here", "_law_some"] ["_law_source_here", "_law_some"] (defScope s_l_of) := ⟨rfl, rfl, rfl, by decide +kernel, rfl, by decide +kernel, by decide +kernel⟩
theorem sc_l_odd : FnScope ["_law_source_here", "_law_some"] ["_law_source_here"] (defScope s_l_odd) := ⟨rfl, rfl, rfl, by decide +kernel, rfl, by decide +kernel, by decide +kernel⟩
theorem sc_l_wide : FnScope ["_law_source_here", "_law_least", "_law_most", "_law_p", "_law_n"] ["_law_source_here", "_law_least", "_law_most"] (defScope s_l_wide) := ⟨rfl, rfl, rfl, by decide +kernel, rfl, by decide +kernel, by decide +kernel⟩
theorem sc_l_row : FnScope ["_law_source_here", "_law_ground", "_law_k"] ["_law_source_here", "_law_ground"] (defScope s_l_row) := ⟨rfl, rfl, rfl, by decide +kernel, rfl, by decide +kernel, by decide +kernel⟩
theorem sc_l_due : FnScope ["_law_ground", "_law_value", "_law_k"] ["_law_ground", "_law_value"] (defScope s_l_due) := ⟨rfl, rfl, rfl, by decide +kernel, rfl, by decide +kernel, by decide +kernel⟩
theorem sc_l_told : FnScope ["_law_ground", "_law_value", "_law_found", "e"] ["_law_ground", "_law_value"] (defScope s_l_told) := ⟨rfl, rfl, rfl, by decide +kernel, rfl, by decide +kernel, by decide +kernel⟩
theorem sc_law : FnScope ["_law_script", "_law_source_here", "_law_lap", "_law_ground", "_law_row_here", "_law_some", "_law_turn", "_law_k", "_law_entry", "_law_value", "_law_kept"] ["_law_script"] (defScope s_law) := ⟨rfl, rfl, rfl, by decide +kernel, rfl, by decide +kernel, by decide +kernel⟩
structure Tx (K : PySem.W.Frag) (mg : Str → Option Value) : Type where
  C_Ground : Addr
  cl_Ground : Cls K C_Ground
  g_Ground : mg "Ground" = some (.ref C_Ground)
  n_Ground_p : NoAttr K C_Ground "_p"
  n_Ground_n : NoAttr K C_Ground "_n"
  f_BadRow_init : Addr
  d_BadRow_init : FuncData
  F_BadRow_init : Fun K "__init__" "BadRow.__init__" s_BadRow_init f_BadRow_init d_BadRow_init
  b_BadRow_init : Binds K d_BadRow_init ["self", "path"] []
  f_is_number : Addr
  d_is_number : FuncData
  F_is_number : Fun K "is_number" "is_number" s_is_number f_is_number d_is_number
  b_is_number : Binds K d_is_number ["value"] []
  g_is_number : mg "is_number" = some (.ref f_is_number)
  f_is_number_of : Addr
  d_is_number_of : FuncData
  F_is_number_of : Fun K "is_number_of" "is_number_of" s_is_number_of f_is_number_of d_is_number_of
  b_is_number_of : Binds K d_is_number_of ["ground", "value"] []
  g_is_number_of : mg "is_number_of" = some (.ref f_is_number_of)
  f_row_fault : Addr
  d_row_fault : FuncData
  F_row_fault : Fun K "row_fault" "row_fault" s_row_fault f_row_fault d_row_fault
  b_row_fault : Binds K d_row_fault ["ground", "value"] []
  g_row_fault : mg "row_fault" = some (.ref f_row_fault)
  f_check_row : Addr
  d_check_row : FuncData
  F_check_row : Fun K "check_row" "check_row" s_check_row f_check_row d_check_row
  b_check_row : Binds K d_check_row ["ground", "value"] []
  g_check_row : mg "check_row" = some (.ref f_check_row)
  f_is_prime : Addr
  d_is_prime : FuncData
  F_is_prime : Fun K "is_prime" "is_prime" s_is_prime f_is_prime d_is_prime
  b_is_prime : Binds K d_is_prime ["value"] []
  g_is_prime : mg "is_prime" = some (.ref f_is_prime)
  f_Ground_init : Addr
  d_Ground_init : FuncData
  F_Ground_init : Fun K "__init__" "Ground.__init__" s_Ground_init f_Ground_init d_Ground_init
  b_Ground_init : Binds K d_Ground_init ["self", "p", "n"] []
  M_Ground : Mk K C_Ground f_Ground_init
  f_Ground_p : Addr
  d_Ground_p : FuncData
  F_Ground_p : Fun K "p" "Ground.p" s_Ground_p f_Ground_p d_Ground_p
  b_Ground_p : Binds K d_Ground_p ["self"] []
  m_Ground_p : Meth K C_Ground "p" f_Ground_p
  f_Ground_n : Addr
  d_Ground_n : FuncData
  F_Ground_n : Fun K "n" "Ground.n" s_Ground_n f_Ground_n d_Ground_n
  b_Ground_n : Binds K d_Ground_n ["self"] []
  m_Ground_n : Meth K C_Ground "n" f_Ground_n
  f_l_source : Addr
  d_l_source : FuncData
  F_l_source : Fun K "_law_source" "_law_source" s_l_source f_l_source d_l_source
  b_l_source : Binds K d_l_source ["_law_script"] []
  g_l_source : mg "_law_source" = some (.ref f_l_source)
  f_l_pick : Addr
  d_l_pick : FuncData
  F_l_pick : Fun K "_law_pick" "_law_pick" s_l_pick f_l_pick d_l_pick
  b_l_pick : Binds K d_l_pick ["_law_source_here", "_law_many"] []
  g_l_pick : mg "_law_pick" = some (.ref f_l_pick)
  f_l_of : Addr
  d_l_of : FuncData
  F_l_of : Fun K "_law_of" "_law_of" s_l_of f_l_of d_l_of
  b_l_of : Binds K d_l_of ["_law_source_here", "_law_some"] []
  g_l_of : mg "_law_of" = some (.ref f_l_of)
  f_l_odd : Addr
  d_l_odd : FuncData
  F_l_odd : Fun K "_law_odd" "_law_odd" s_l_odd f_l_odd d_l_odd
  b_l_odd : Binds K d_l_odd ["_law_source_here"] []
  g_l_odd : mg "_law_odd" = some (.ref f_l_odd)
  f_l_wide : Addr
  d_l_wide : FuncData
  F_l_wide : Fun K "_law_wide" "_law_wide" s_l_wide f_l_wide d_l_wide
  b_l_wide : Binds K d_l_wide ["_law_source_here", "_law_least", "_law_most"] []
  g_l_wide : mg "_law_wide" = some (.ref f_l_wide)
  f_l_row : Addr
  d_l_row : FuncData
  F_l_row : Fun K "_law_row" "_law_row" s_l_row f_l_row d_l_row
  b_l_row : Binds K d_l_row ["_law_source_here", "_law_ground"] []
  g_l_row : mg "_law_row" = some (.ref f_l_row)
  f_l_due : Addr
  d_l_due : FuncData
  F_l_due : Fun K "_law_due" "_law_due" s_l_due f_l_due d_l_due
  b_l_due : Binds K d_l_due ["_law_ground", "_law_value"] []
  g_l_due : mg "_law_due" = some (.ref f_l_due)
  f_l_told : Addr
  d_l_told : FuncData
  F_l_told : Fun K "_law_told" "_law_told" s_l_told f_l_told d_l_told
  b_l_told : Binds K d_l_told ["_law_ground", "_law_value"] []
  g_l_told : mg "_law_told" = some (.ref f_l_told)
  f_law : Addr
  d_law : FuncData
  F_law : Fun K "law" "law" s_law f_law d_law
  b_law : Binds K d_law ["_law_script"] []
  g_law : mg "law" = some (.ref f_law)
  C_BadRow : Addr
  y_BadRow : OexX K mg "BadRow" C_BadRow f_BadRow_init
  z_len : mg "len" = none
  z_range : mg "range" = none
  z_int : mg "int" = none
  z_bool : mg "bool" = none
  z_tuple : mg "tuple" = none
  z_list : mg "list" = none
  z_isinstance : mg "isinstance" = none
  z_abs : mg "abs" = none
  z_max : mg "max" = none
  z_enumerate : mg "enumerate" = none
  z_repr : mg "repr" = none
def tx_mk {K : PySem.W.Frag} {h : Heap} {mg : Str → Option Value} (X : K.In h) (G : h.Ns mainGlobals mg)
    {C_Ground C_BadRow f_BadRow_init f_is_number f_is_number_of f_row_fault f_check_row f_is_prime f_Ground_init f_Ground_p f_Ground_n f_l_source f_l_pick f_l_of f_l_odd f_l_wide f_l_row f_l_due f_l_told f_law : Addr} {oc1 kV1 dc1 pm1 cd1 ct1 oc2 kV2 dc2 pm2 cd2 ct2 oc3 kV3 dc3 pm3 cd3 ct3 oc4 kV4 dc4 pm4 cd4 ct4 oc5 kV5 dc5 pm5 cd5 ct5 oc6 kV6 dc6 pm6 cd6 ct6 oc7 kV7 dc7 pm7 cd7 ct7 oc8 kV8 dc8 pm8 cd8 ct8 oc9 kV9 dc9 pm9 cd9 ct9 oc10 kV10 dc10 pm10 cd10 ct10 oc11 kV11 dc11 pm11 cd11 ct11 oc12 kV12 dc12 pm12 cd12 ct12 oc13 kV13 dc13 pm13 cd13 ct13 oc14 kV14 dc14 pm14 cd14 ct14 oc15 kV15 dc15 pm15 cd15 ct15 oc16 kV16 dc16 pm16 cd16 ct16 oc17 kV17 dc17 pm17 cd17 ct17 oc18 kV18 dc18 pm18 cd18 ct18 : Value} {od1 an1 : Option Addr} {sl1 : Array (Option Value)} {od2 an2 : Option Addr} {sl2 : Array (Option Value)} {od3 an3 : Option Addr} {sl3 : Array (Option Value)} {od4 an4 : Option Addr} {sl4 : Array (Option Value)} {od5 an5 : Option Addr} {sl5 : Array (Option Value)} {od6 an6 : Option Addr} {sl6 : Array (Option Value)} {od7 an7 : Option Addr} {sl7 : Array (Option Value)} {od8 an8 : Option Addr} {sl8 : Array (Option Value)} {od9 an9 : Option Addr} {sl9 : Array (Option Value)} {od10 an10 : Option Addr} {sl10 : Array (Option Value)} {od11 an11 : Option Addr} {sl11 : Array (Option Value)} {od12 an12 : Option Addr} {sl12 : Array (Option Value)} {od13 an13 : Option Addr} {sl13 : Array (Option Value)} {od14 an14 : Option Addr} {sl14 : Array (Option Value)} {od15 an15 : Option Addr} {sl15 : Array (Option Value)} {od16 an16 : Option Addr} {sl16 : Array (Option Value)} {od17 an17 : Option Addr} {sl17 : Array (Option Value)} {od18 an18 : Option Addr} {sl18 : Array (Option Value)} {nm_BadRow q_BadRow : Str} {N_BadRow : Addr} {bs_BadRow bm_BadRow : List Value} {sn_BadRow : List Str} {sub_BadRow : List Value} {ab_BadRow : Bool} {col_BadRow : Option Bool} {dd_BadRow : Option Addr} {m0_BadRow m1_BadRow m2_BadRow m3_BadRow m5_BadRow : Option Value}
    (a_Ground : PySem.W.nsIn K mainGlobals "Ground" = some (some (.ref C_Ground)))
    (pg_Ground : PySem.W.plainGet K C_Ground Str.empty = true)
    (hd_Ground : PySem.W.hasDictIn K C_Ground = true)
    (po_Ground : PySem.W.plainOver K C_Ground = true)
    (sa_Ground : PySem.W.findIn K (.ref C_Ground) "__setattr__" = some (some (.builtin "object.__setattr__")))
    (mk_Ground : PySem.W.makesIn K C_Ground = true)
    (kc_Ground : PySem.W.keepIn K (.ref C_Ground) = true)
    (n_Ground_p : PySem.W.findIn K (.ref C_Ground) "_p" = some none)
    (n_Ground_n : PySem.W.findIn K (.ref C_Ground) "_n" = some none)
    (a_BadRow : PySem.W.nsIn K mainGlobals "BadRow" = some (some (.ref C_BadRow)))
    (yl_BadRow : K.lookup C_BadRow = some (PySem.excClassObj nm_BadRow q_BadRow C_BadRow N_BadRow bs_BadRow bm_BadRow true sn_BadRow sub_BadRow ab_BadRow col_BadRow dd_BadRow m0_BadRow m1_BadRow m2_BadRow m3_BadRow m5_BadRow "ValueError.__new__"))
    (yr_BadRow : PySem.HandSPX.refsVE bm_BadRow = true)
    (ysa_BadRow : PySem.W.findIn K (.ref C_BadRow) "__setattr__" = some (some (.builtin "object.__setattr__")))
    (yga_BadRow : PySem.W.findIn K (.ref C_BadRow) "__getattribute__" = some (some (.builtin "BaseException.__getattribute__")))
    (ygg_BadRow : PySem.W.findIn K (.ref C_BadRow) "__getattr__" = some none)
    (ynp_BadRow : PySem.W.findIn K (.ref C_BadRow) "path" = some none)
    (yin_BadRow : PySem.W.findIn K (.ref C_BadRow) "__init__" = some (some (.ref f_BadRow_init)))
    (yti_BadRow : PySem.W.typeIn K (.ref f_BadRow_init) = some (.type "function"))
    (ykC_BadRow : PySem.W.keepIn K (.ref C_BadRow) = true)
    (yeC_BadRow : PySem.W.subIn K (.ref C_BadRow) (.type "BaseException") = some true)
    (ytC_BadRow : PySem.W.typeIn K (.ref C_BadRow) = some (.type "type"))
    (yhC_BadRow : PySem.W.hasDictIn K C_BadRow = true)
    (yiC_BadRow : PySem.W.isClsIn K C_BadRow = true)
    (xs_BadRow : PySem.W.subIn K (.ref C_BadRow) (.ref C_BadRow) = some true)
    (l_BadRow_init : K.lookup f_BadRow_init = some ⟨oc1, od1, .func (PySem.W.fnOf "__init__" "BadRow.__init__" (defArgs s_BadRow_init) (defBody s_BadRow_init) (defScope s_BadRow_init) .none kV1 dc1 pm1 an1 cd1 ct1), sl1⟩)
    (c_BadRow_init : PySem.W.codeIn K cd1 "BadRow.__init__" = true)
    (k_BadRow_init : PySem.W.keepIn K (.ref f_BadRow_init) = true)
    (a_is_number : PySem.W.nsIn K mainGlobals "is_number" = some (some (.ref f_is_number)))
    (l_is_number : K.lookup f_is_number = some ⟨oc2, od2, .func (PySem.W.fnOf "is_number" "is_number" (defArgs s_is_number) (defBody s_is_number) (defScope s_is_number) .none kV2 dc2 pm2 an2 cd2 ct2), sl2⟩)
    (c_is_number : PySem.W.codeIn K cd2 "is_number" = true)
    (k_is_number : PySem.W.keepIn K (.ref f_is_number) = true)
    (a_is_number_of : PySem.W.nsIn K mainGlobals "is_number_of" = some (some (.ref f_is_number_of)))
    (l_is_number_of : K.lookup f_is_number_of = some ⟨oc3, od3, .func (PySem.W.fnOf "is_number_of" "is_number_of" (defArgs s_is_number_of) (defBody s_is_number_of) (defScope s_is_number_of) .none kV3 dc3 pm3 an3 cd3 ct3), sl3⟩)
    (c_is_number_of : PySem.W.codeIn K cd3 "is_number_of" = true)
    (k_is_number_of : PySem.W.keepIn K (.ref f_is_number_of) = true)
    (a_row_fault : PySem.W.nsIn K mainGlobals "row_fault" = some (some (.ref f_row_fault)))
    (l_row_fault : K.lookup f_row_fault = some ⟨oc4, od4, .func (PySem.W.fnOf "row_fault" "row_fault" (defArgs s_row_fault) (defBody s_row_fault) (defScope s_row_fault) .none kV4 dc4 pm4 an4 cd4 ct4), sl4⟩)
    (c_row_fault : PySem.W.codeIn K cd4 "row_fault" = true)
    (k_row_fault : PySem.W.keepIn K (.ref f_row_fault) = true)
    (a_check_row : PySem.W.nsIn K mainGlobals "check_row" = some (some (.ref f_check_row)))
    (l_check_row : K.lookup f_check_row = some ⟨oc5, od5, .func (PySem.W.fnOf "check_row" "check_row" (defArgs s_check_row) (defBody s_check_row) (defScope s_check_row) .none kV5 dc5 pm5 an5 cd5 ct5), sl5⟩)
    (c_check_row : PySem.W.codeIn K cd5 "check_row" = true)
    (k_check_row : PySem.W.keepIn K (.ref f_check_row) = true)
    (a_is_prime : PySem.W.nsIn K mainGlobals "is_prime" = some (some (.ref f_is_prime)))
    (l_is_prime : K.lookup f_is_prime = some ⟨oc6, od6, .func (PySem.W.fnOf "is_prime" "is_prime" (defArgs s_is_prime) (defBody s_is_prime) (defScope s_is_prime) .none kV6 dc6 pm6 an6 cd6 ct6), sl6⟩)
    (c_is_prime : PySem.W.codeIn K cd6 "is_prime" = true)
    (k_is_prime : PySem.W.keepIn K (.ref f_is_prime) = true)
    (a_Ground_init : PySem.W.findIn K (.ref C_Ground) "__init__" = some (some (.ref f_Ground_init)))
    (i_Ground_init : PySem.W.isFn K (.ref f_Ground_init) = true)
    (l_Ground_init : K.lookup f_Ground_init = some ⟨oc7, od7, .func (PySem.W.fnOf "__init__" "Ground.__init__" (defArgs s_Ground_init) (defBody s_Ground_init) (defScope s_Ground_init) .none kV7 dc7 pm7 an7 cd7 ct7), sl7⟩)
    (c_Ground_init : PySem.W.codeIn K cd7 "Ground.__init__" = true)
    (k_Ground_init : PySem.W.keepIn K (.ref f_Ground_init) = true)
    (a_Ground_p : PySem.W.findIn K (.ref C_Ground) "p" = some (some (.ref f_Ground_p)))
    (i_Ground_p : PySem.W.isFn K (.ref f_Ground_p) = true)
    (l_Ground_p : K.lookup f_Ground_p = some ⟨oc8, od8, .func (PySem.W.fnOf "p" "Ground.p" (defArgs s_Ground_p) (defBody s_Ground_p) (defScope s_Ground_p) .none kV8 dc8 pm8 an8 cd8 ct8), sl8⟩)
    (c_Ground_p : PySem.W.codeIn K cd8 "Ground.p" = true)
    (k_Ground_p : PySem.W.keepIn K (.ref f_Ground_p) = true)
    (a_Ground_n : PySem.W.findIn K (.ref C_Ground) "n" = some (some (.ref f_Ground_n)))
    (i_Ground_n : PySem.W.isFn K (.ref f_Ground_n) = true)
    (l_Ground_n : K.lookup f_Ground_n = some ⟨oc9, od9, .func (PySem.W.fnOf "n" "Ground.n" (defArgs s_Ground_n) (defBody s_Ground_n) (defScope s_Ground_n) .none kV9 dc9 pm9 an9 cd9 ct9), sl9⟩)
    (c_Ground_n : PySem.W.codeIn K cd9 "Ground.n" = true)
    (k_Ground_n : PySem.W.keepIn K (.ref f_Ground_n) = true)
    (a_l_source : PySem.W.nsIn K mainGlobals "_law_source" = some (some (.ref f_l_source)))
    (l_l_source : K.lookup f_l_source = some ⟨oc10, od10, .func (PySem.W.fnOf "_law_source" "_law_source" (defArgs s_l_source) (defBody s_l_source) (defScope s_l_source) .none kV10 dc10 pm10 an10 cd10 ct10), sl10⟩)
    (c_l_source : PySem.W.codeIn K cd10 "_law_source" = true)
    (k_l_source : PySem.W.keepIn K (.ref f_l_source) = true)
    (a_l_pick : PySem.W.nsIn K mainGlobals "_law_pick" = some (some (.ref f_l_pick)))
    (l_l_pick : K.lookup f_l_pick = some ⟨oc11, od11, .func (PySem.W.fnOf "_law_pick" "_law_pick" (defArgs s_l_pick) (defBody s_l_pick) (defScope s_l_pick) .none kV11 dc11 pm11 an11 cd11 ct11), sl11⟩)
    (c_l_pick : PySem.W.codeIn K cd11 "_law_pick" = true)
    (k_l_pick : PySem.W.keepIn K (.ref f_l_pick) = true)
    (a_l_of : PySem.W.nsIn K mainGlobals "_law_of" = some (some (.ref f_l_of)))
    (l_l_of : K.lookup f_l_of = some ⟨oc12, od12, .func (PySem.W.fnOf "_law_of" "_law_of" (defArgs s_l_of) (defBody s_l_of) (defScope s_l_of) .none kV12 dc12 pm12 an12 cd12 ct12), sl12⟩)
    (c_l_of : PySem.W.codeIn K cd12 "_law_of" = true)
    (k_l_of : PySem.W.keepIn K (.ref f_l_of) = true)
    (a_l_odd : PySem.W.nsIn K mainGlobals "_law_odd" = some (some (.ref f_l_odd)))
    (l_l_odd : K.lookup f_l_odd = some ⟨oc13, od13, .func (PySem.W.fnOf "_law_odd" "_law_odd" (defArgs s_l_odd) (defBody s_l_odd) (defScope s_l_odd) .none kV13 dc13 pm13 an13 cd13 ct13), sl13⟩)
    (c_l_odd : PySem.W.codeIn K cd13 "_law_odd" = true)
    (k_l_odd : PySem.W.keepIn K (.ref f_l_odd) = true)
    (a_l_wide : PySem.W.nsIn K mainGlobals "_law_wide" = some (some (.ref f_l_wide)))
    (l_l_wide : K.lookup f_l_wide = some ⟨oc14, od14, .func (PySem.W.fnOf "_law_wide" "_law_wide" (defArgs s_l_wide) (defBody s_l_wide) (defScope s_l_wide) .none kV14 dc14 pm14 an14 cd14 ct14), sl14⟩)
    (c_l_wide : PySem.W.codeIn K cd14 "_law_wide" = true)
    (k_l_wide : PySem.W.keepIn K (.ref f_l_wide) = true)
    (a_l_row : PySem.W.nsIn K mainGlobals "_law_row" = some (some (.ref f_l_row)))
    (l_l_row : K.lookup f_l_row = some ⟨oc15, od15, .func (PySem.W.fnOf "_law_row" "_law_row" (defArgs s_l_row) (defBody s_l_row) (defScope s_l_row) .none kV15 dc15 pm15 an15 cd15 ct15), sl15⟩)
    (c_l_row : PySem.W.codeIn K cd15 "_law_row" = true)
    (k_l_row : PySem.W.keepIn K (.ref f_l_row) = true)
    (a_l_due : PySem.W.nsIn K mainGlobals "_law_due" = some (some (.ref f_l_due)))
    (l_l_due : K.lookup f_l_due = some ⟨oc16, od16, .func (PySem.W.fnOf "_law_due" "_law_due" (defArgs s_l_due) (defBody s_l_due) (defScope s_l_due) .none kV16 dc16 pm16 an16 cd16 ct16), sl16⟩)
    (c_l_due : PySem.W.codeIn K cd16 "_law_due" = true)
    (k_l_due : PySem.W.keepIn K (.ref f_l_due) = true)
    (a_l_told : PySem.W.nsIn K mainGlobals "_law_told" = some (some (.ref f_l_told)))
    (l_l_told : K.lookup f_l_told = some ⟨oc17, od17, .func (PySem.W.fnOf "_law_told" "_law_told" (defArgs s_l_told) (defBody s_l_told) (defScope s_l_told) .none kV17 dc17 pm17 an17 cd17 ct17), sl17⟩)
    (c_l_told : PySem.W.codeIn K cd17 "_law_told" = true)
    (k_l_told : PySem.W.keepIn K (.ref f_l_told) = true)
    (a_law : PySem.W.nsIn K mainGlobals "law" = some (some (.ref f_law)))
    (l_law : K.lookup f_law = some ⟨oc18, od18, .func (PySem.W.fnOf "law" "law" (defArgs s_law) (defBody s_law) (defScope s_law) .none kV18 dc18 pm18 an18 cd18 ct18), sl18⟩)
    (c_law : PySem.W.codeIn K cd18 "law" = true)
    (k_law : PySem.W.keepIn K (.ref f_law) = true)
    (z_len : PySem.W.nsIn K mainGlobals "len" = some none)
    (z_range : PySem.W.nsIn K mainGlobals "range" = some none)
    (z_int : PySem.W.nsIn K mainGlobals "int" = some none)
    (z_bool : PySem.W.nsIn K mainGlobals "bool" = some none)
    (z_tuple : PySem.W.nsIn K mainGlobals "tuple" = some none)
    (z_list : PySem.W.nsIn K mainGlobals "list" = some none)
    (z_isinstance : PySem.W.nsIn K mainGlobals "isinstance" = some none)
    (z_abs : PySem.W.nsIn K mainGlobals "abs" = some none)
    (z_max : PySem.W.nsIn K mainGlobals "max" = some none)
    (z_enumerate : PySem.W.nsIn K mainGlobals "enumerate" = some none)
    (z_repr : PySem.W.nsIn K mainGlobals "repr" = some none) : Tx K mg where
  C_Ground := C_Ground
  cl_Ground := ⟨pg_Ground, hd_Ground, po_Ground, sa_Ground⟩
  g_Ground := PySem.W.mg_of X G a_Ground
  n_Ground_p := n_Ground_p
  n_Ground_n := n_Ground_n
  f_BadRow_init := f_BadRow_init
  d_BadRow_init := PySem.W.fnOf "__init__" "BadRow.__init__" (defArgs s_BadRow_init) (defBody s_BadRow_init) (defScope s_BadRow_init) .none kV1 dc1 pm1 an1 cd1 ct1
  F_BadRow_init := fun_mk (st := s_BadRow_init) l_BadRow_init c_BadRow_init k_BadRow_init
  b_BadRow_init := (fun_mk (st := s_BadRow_init) l_BadRow_init c_BadRow_init k_BadRow_init).binds (ps := ["self", "path"]) fun _ _ _ _ _ _ us hl => match us, hl with | [_, _], _ => rfl
  f_is_number := f_is_number
  d_is_number := PySem.W.fnOf "is_number" "is_number" (defArgs s_is_number) (defBody s_is_number) (defScope s_is_number) .none kV2 dc2 pm2 an2 cd2 ct2
  F_is_number := fun_mk (st := s_is_number) l_is_number c_is_number k_is_number
  b_is_number := (fun_mk (st := s_is_number) l_is_number c_is_number k_is_number).binds (ps := ["value"]) fun _ _ _ _ _ _ us hl => match us, hl with | [_], _ => rfl
  g_is_number := PySem.W.mg_of X G a_is_number
  f_is_number_of := f_is_number_of
  d_is_number_of := PySem.W.fnOf "is_number_of" "is_number_of" (defArgs s_is_number_of) (defBody s_is_number_of) (defScope s_is_number_of) .none kV3 dc3 pm3 an3 cd3 ct3
  F_is_number_of := fun_mk (st := s_is_number_of) l_is_number_of c_is_number_of k_is_number_of
  b_is_number_of := (fun_mk (st := s_is_number_of) l_is_number_of c_is_number_of k_is_number_of).binds (ps := ["ground", "value"]) fun _ _ _ _ _ _ us hl => match us, hl with | [_, _], _ => rfl
  g_is_number_of := PySem.W.mg_of X G a_is_number_of
  f_row_fault := f_row_fault
  d_row_fault := PySem.W.fnOf "row_fault" "row_fault" (defArgs s_row_fault) (defBody s_row_fault) (defScope s_row_fault) .none kV4 dc4 pm4 an4 cd4 ct4
  F_row_fault := fun_mk (st := s_row_fault) l_row_fault c_row_fault k_row_fault
  b_row_fault := (fun_mk (st := s_row_fault) l_row_fault c_row_fault k_row_fault).binds (ps := ["ground", "value"]) fun _ _ _ _ _ _ us hl => match us, hl with | [_, _], _ => rfl
  g_row_fault := PySem.W.mg_of X G a_row_fault
  f_check_row := f_check_row
  d_check_row := PySem.W.fnOf "check_row" "check_row" (defArgs s_check_row) (defBody s_check_row) (defScope s_check_row) .none kV5 dc5 pm5 an5 cd5 ct5
  F_check_row := fun_mk (st := s_check_row) l_check_row c_check_row k_check_row
  b_check_row := (fun_mk (st := s_check_row) l_check_row c_check_row k_check_row).binds (ps := ["ground", "value"]) fun _ _ _ _ _ _ us hl => match us, hl with | [_, _], _ => rfl
  g_check_row := PySem.W.mg_of X G a_check_row
  f_is_prime := f_is_prime
  d_is_prime := PySem.W.fnOf "is_prime" "is_prime" (defArgs s_is_prime) (defBody s_is_prime) (defScope s_is_prime) .none kV6 dc6 pm6 an6 cd6 ct6
  F_is_prime := fun_mk (st := s_is_prime) l_is_prime c_is_prime k_is_prime
  b_is_prime := (fun_mk (st := s_is_prime) l_is_prime c_is_prime k_is_prime).binds (ps := ["value"]) fun _ _ _ _ _ _ us hl => match us, hl with | [_], _ => rfl
  g_is_prime := PySem.W.mg_of X G a_is_prime
  f_Ground_init := f_Ground_init
  d_Ground_init := PySem.W.fnOf "__init__" "Ground.__init__" (defArgs s_Ground_init) (defBody s_Ground_init) (defScope s_Ground_init) .none kV7 dc7 pm7 an7 cd7 ct7
  F_Ground_init := fun_mk (st := s_Ground_init) l_Ground_init c_Ground_init k_Ground_init
  b_Ground_init := (fun_mk (st := s_Ground_init) l_Ground_init c_Ground_init k_Ground_init).binds (ps := ["self", "p", "n"]) fun _ _ _ _ _ _ us hl => match us, hl with | [_, _, _], _ => rfl
  M_Ground := ⟨mk_Ground, a_Ground_init, i_Ground_init, kc_Ground⟩
  f_Ground_p := f_Ground_p
  d_Ground_p := PySem.W.fnOf "p" "Ground.p" (defArgs s_Ground_p) (defBody s_Ground_p) (defScope s_Ground_p) .none kV8 dc8 pm8 an8 cd8 ct8
  F_Ground_p := fun_mk (st := s_Ground_p) l_Ground_p c_Ground_p k_Ground_p
  b_Ground_p := (fun_mk (st := s_Ground_p) l_Ground_p c_Ground_p k_Ground_p).binds (ps := ["self"]) fun _ _ _ _ _ _ us hl => match us, hl with | [_], _ => rfl
  m_Ground_p := ⟨a_Ground_p, i_Ground_p, k_Ground_p⟩
  f_Ground_n := f_Ground_n
  d_Ground_n := PySem.W.fnOf "n" "Ground.n" (defArgs s_Ground_n) (defBody s_Ground_n) (defScope s_Ground_n) .none kV9 dc9 pm9 an9 cd9 ct9
  F_Ground_n := fun_mk (st := s_Ground_n) l_Ground_n c_Ground_n k_Ground_n
  b_Ground_n := (fun_mk (st := s_Ground_n) l_Ground_n c_Ground_n k_Ground_n).binds (ps := ["self"]) fun _ _ _ _ _ _ us hl => match us, hl with | [_], _ => rfl
  m_Ground_n := ⟨a_Ground_n, i_Ground_n, k_Ground_n⟩
  f_l_source := f_l_source
  d_l_source := PySem.W.fnOf "_law_source" "_law_source" (defArgs s_l_source) (defBody s_l_source) (defScope s_l_source) .none kV10 dc10 pm10 an10 cd10 ct10
  F_l_source := fun_mk (st := s_l_source) l_l_source c_l_source k_l_source
  b_l_source := (fun_mk (st := s_l_source) l_l_source c_l_source k_l_source).binds (ps := ["_law_script"]) fun _ _ _ _ _ _ us hl => match us, hl with | [_], _ => rfl
  g_l_source := PySem.W.mg_of X G a_l_source
  f_l_pick := f_l_pick
  d_l_pick := PySem.W.fnOf "_law_pick" "_law_pick" (defArgs s_l_pick) (defBody s_l_pick) (defScope s_l_pick) .none kV11 dc11 pm11 an11 cd11 ct11
  F_l_pick := fun_mk (st := s_l_pick) l_l_pick c_l_pick k_l_pick
  b_l_pick := (fun_mk (st := s_l_pick) l_l_pick c_l_pick k_l_pick).binds (ps := ["_law_source_here", "_law_many"]) fun _ _ _ _ _ _ us hl => match us, hl with | [_, _], _ => rfl
  g_l_pick := PySem.W.mg_of X G a_l_pick
  f_l_of := f_l_of
  d_l_of := PySem.W.fnOf "_law_of" "_law_of" (defArgs s_l_of) (defBody s_l_of) (defScope s_l_of) .none kV12 dc12 pm12 an12 cd12 ct12
  F_l_of := fun_mk (st := s_l_of) l_l_of c_l_of k_l_of
  b_l_of := (fun_mk (st := s_l_of) l_l_of c_l_of k_l_of).binds (ps := ["_law_source_here", "_law_some"]) fun _ _ _ _ _ _ us hl => match us, hl with | [_, _], _ => rfl
  g_l_of := PySem.W.mg_of X G a_l_of
  f_l_odd := f_l_odd
  d_l_odd := PySem.W.fnOf "_law_odd" "_law_odd" (defArgs s_l_odd) (defBody s_l_odd) (defScope s_l_odd) .none kV13 dc13 pm13 an13 cd13 ct13
  F_l_odd := fun_mk (st := s_l_odd) l_l_odd c_l_odd k_l_odd
  b_l_odd := (fun_mk (st := s_l_odd) l_l_odd c_l_odd k_l_odd).binds (ps := ["_law_source_here"]) fun _ _ _ _ _ _ us hl => match us, hl with | [_], _ => rfl
  g_l_odd := PySem.W.mg_of X G a_l_odd
  f_l_wide := f_l_wide
  d_l_wide := PySem.W.fnOf "_law_wide" "_law_wide" (defArgs s_l_wide) (defBody s_l_wide) (defScope s_l_wide) .none kV14 dc14 pm14 an14 cd14 ct14
  F_l_wide := fun_mk (st := s_l_wide) l_l_wide c_l_wide k_l_wide
  b_l_wide := (fun_mk (st := s_l_wide) l_l_wide c_l_wide k_l_wide).binds (ps := ["_law_source_here", "_law_least", "_law_most"]) fun _ _ _ _ _ _ us hl => match us, hl with | [_, _, _], _ => rfl
  g_l_wide := PySem.W.mg_of X G a_l_wide
  f_l_row := f_l_row
  d_l_row := PySem.W.fnOf "_law_row" "_law_row" (defArgs s_l_row) (defBody s_l_row) (defScope s_l_row) .none kV15 dc15 pm15 an15 cd15 ct15
  F_l_row := fun_mk (st := s_l_row) l_l_row c_l_row k_l_row
  b_l_row := (fun_mk (st := s_l_row) l_l_row c_l_row k_l_row).binds (ps := ["_law_source_here", "_law_ground"]) fun _ _ _ _ _ _ us hl => match us, hl with | [_, _], _ => rfl
  g_l_row := PySem.W.mg_of X G a_l_row
  f_l_due := f_l_due
  d_l_due := PySem.W.fnOf "_law_due" "_law_due" (defArgs s_l_due) (defBody s_l_due) (defScope s_l_due) .none kV16 dc16 pm16 an16 cd16 ct16
  F_l_due := fun_mk (st := s_l_due) l_l_due c_l_due k_l_due
  b_l_due := (fun_mk (st := s_l_due) l_l_due c_l_due k_l_due).binds (ps := ["_law_ground", "_law_value"]) fun _ _ _ _ _ _ us hl => match us, hl with | [_, _], _ => rfl
  g_l_due := PySem.W.mg_of X G a_l_due
  f_l_told := f_l_told
  d_l_told := PySem.W.fnOf "_law_told" "_law_told" (defArgs s_l_told) (defBody s_l_told) (defScope s_l_told) .none kV17 dc17 pm17 an17 cd17 ct17
  F_l_told := fun_mk (st := s_l_told) l_l_told c_l_told k_l_told
  b_l_told := (fun_mk (st := s_l_told) l_l_told c_l_told k_l_told).binds (ps := ["_law_ground", "_law_value"]) fun _ _ _ _ _ _ us hl => match us, hl with | [_, _], _ => rfl
  g_l_told := PySem.W.mg_of X G a_l_told
  f_law := f_law
  d_law := PySem.W.fnOf "law" "law" (defArgs s_law) (defBody s_law) (defScope s_law) .none kV18 dc18 pm18 an18 cd18 ct18
  F_law := fun_mk (st := s_law) l_law c_law k_law
  b_law := (fun_mk (st := s_law) l_law c_law k_law).binds (ps := ["_law_script"]) fun _ _ _ _ _ _ us hl => match us, hl with | [_], _ => rfl
  g_law := PySem.W.mg_of X G a_law
  C_BadRow := C_BadRow
  y_BadRow := oexX_mk (PySem.W.mg_of X G a_BadRow) ⟨_, _, _, _, _, _, _, _, _, _, _, _, _, _, _, yl_BadRow, yr_BadRow⟩ ysa_BadRow yga_BadRow ygg_BadRow ynp_BadRow yin_BadRow yti_BadRow ykC_BadRow yeC_BadRow ytC_BadRow yhC_BadRow yiC_BadRow xs_BadRow
  z_len := PySem.W.mg_none_of X G z_len
  z_range := PySem.W.mg_none_of X G z_range
  z_int := PySem.W.mg_none_of X G z_int
  z_bool := PySem.W.mg_none_of X G z_bool
  z_tuple := PySem.W.mg_none_of X G z_tuple
  z_list := PySem.W.mg_none_of X G z_list
  z_isinstance := PySem.W.mg_none_of X G z_isinstance
  z_abs := PySem.W.mg_none_of X G z_abs
  z_max := PySem.W.mg_none_of X G z_max
  z_enumerate := PySem.W.mg_none_of X G z_enumerate
  z_repr := PySem.W.mg_none_of X G z_repr

section
variable {P : Program} {w : World} {K : PySem.W.Frag} {mg : Str → Option Value} {base : Heap}
/-- a drawn number below many -/
def spPick : Sp := fun vs H Q _ => ∃ (G : Hp) (d c : Addr) (many : Int), vs = [.ref d, .int many] ∧ Kn G H d c ∧ many < 1073741824 ∧
  ∀ (r : Int) (H' : Hp), Kn G H' d c → 0 ≤ r → (r < many ∨ (r = 0 ∧ many ≤ 1)) → Q (.int r) H'
theorem ok_pick (T : Tx K mg) : FnOk P w K mg base CX0 1 T.f_l_pick T.d_l_pick ["_law_source_here", "_law_many"] spPick := by
  refine T.F_l_pick.ok sc_l_pick (fun vs H Q E h => ?_) (fun cdv A outer s H vs Q E hr h => ?_)
  · obtain ⟨G, d, c, many, rfl, _⟩ := h
    rfl
  · obtain ⟨G, d, c, many, rfl, k, hm, q⟩ := h
    have hu := hu_of hr
    refine ⟨_, (pss_cons (ps_while PassesOwn.never (PW.pt (pw_and (pt_cmpR op_gt (pv 1) pe_int (nomark _)) (pw_and (pt_cmpR op_lt (pe_dget hu (pv 0) pe_str (fun _ _ => rfl)) pe_int (nomark _)) (pw_and1 (pt_cmpR op_gt (pe_callB call_len_seq (by rfl) T.z_len PySem.boot_len (pa_cons (pe_dget hu (pv 0) pe_str (fun _ _ => rfl)) pa_nil)) pe_int (nomark _)))))) (pss_one (ps_dput hu (pv 0) pe_str (pe_bm0 PySem.F.plainAttrs_list PySem.F.slot_list_pop PySem.F.type_list_pop mt_pop (pe_dget hu (pv 0) pe_str (fun _ _ => rfl))) rfl)))
    (pss_cons (ps_set (i := 2) sc_l_pick.nd rfl (Or.inl rfl) (pe_dget hu (pv 0) pe_str (fun _ _ => rfl)))
    (pss_cons (ps_if (PW.pt (pw_or (pt_cmpR op_lt (pv 1) pe_int (nomark _)) (pw_or1 (pt_cmpR op_gt (pv 2) pe_int (nomark _))))) (pss_cons (ps_dput hu (pv 0) pe_str (pe_op op_fdiv (pv 2) (pe_callB (call_max2 rfl) (by rfl) T.z_max (by decide +kernel) (pa_cons pe_int (pa_cons (pv 1) pa_nil)))) rfl)
    (pss_one (ps_ret (pe_op op_mod (pe_callTy call_int1 (by rfl) T.z_int (by decide +kernel) (pa_cons (pv 2) pa_nil)) (pe_callB (call_max2 rfl) (by rfl) T.z_max (by decide +kernel) (pa_cons pe_int (pa_cons (pv 1) pa_nil))))))) pss_nil)
    (pss_cons (ps_dput hu (pv 0) pe_str (pe_op op_add (pe_dget hu (pv 0) pe_str (fun _ _ => rfl)) pe_int) rfl)
    (pss_cons (ps_set (i := 3) sc_l_pick.nd rfl (Or.inl rfl) (pe_op op_mod (pe_callTy call_int1 (by rfl) T.z_int (by decide +kernel) (pa_cons (pe_op op_add (pe_dget hu (pv 0) pe_str (fun _ _ => rfl)) (pe_op op_mul (pe_dget hu (pv 0) pe_str (fun _ _ => rfl)) pe_int)) pa_nil)) pe_int))
    (pss_cons (ps_set (i := 3) sc_l_pick.nd rfl (Or.inl rfl) (pe_op op_mod (pe_callTy call_int1 (by rfl) T.z_int (by decide +kernel) (pa_cons (pe_op op_add (pe_op op_mul (pv 3) (pv 3)) (pe_op op_mul (pe_dget hu (pv 0) pe_str (fun _ _ => rfl)) pe_int)) pa_nil)) pe_int))
    (pss_cons (ps_dput hu (pv 0) pe_str (pv 3) rfl)
    (pss_one (ps_ret (pe_op op_mod (pe_callTy call_int1 (by rfl) T.z_int (by decide +kernel) (pa_cons (pe_op op_fdiv (pv 3) pe_int) pa_nil)) (pv 1))))))))))), ?_⟩
    obtain ⟨xs, l, m, t, e1, e2, e3, e4, e5, e6, e7⟩ := id k.src
    refine ⟨fun n σ H' => ∃ (xs : List Int) (l m t : Int), σ = [some (.ref d), some (.int many), none, none] ∧ n = xs.length ∧ Kn G H' d c ∧ H' d = some (.dK (srcK c l m t)) ∧ H' c = some (.lst (xs.map V.int)) ∧ xs.length ≤ 63 ∧ (∀ x ∈ xs, 0 ≤ x) ∧ 0 ≤ l ∧ 0 ≤ m ∧ m < 2147483647,
      ⟨xs.length, xs, l, m, t, rfl, rfl, k, e1, e2, e3, e4, e5, e6, e7⟩, fun n σ H' hW => ?_⟩
    obtain ⟨xs, l, m, t, rfl, rfl, k, e1, e2, e3, e4, e5, e6, e7⟩ := hW
    have ncd : c ≠ d := k.src.ne
    have vd : ∀ (a b : Option V), Val (tVar 0) [some (.ref d), some (.int many), a, b] H' (.ref d) := fun a b => val_var rfl
    -- while many > 1 and left < 2 and len(cells) > 0
    refine ans_and2 (b1 := decide (1 < many)) (b2 := decide (l < 2) && decide (0 < (xs.length : Int))) (ans_cmp (val_var rfl) val_c fun Q q => ⟨_, _, rfl, rfl, q⟩)
      (ans_and2 (ans_cmp (x := .int l) (val_dget (vd _ _) val_c (get_left e1)) val_c fun Q q => ⟨_, _, rfl, rfl, q⟩)
        (ans_cmp (x := .int (xs.length : Int)) (val_cb1 (val_dget (vd _ _) val_c (get_cells e1)) fun Q q => ⟨c, _, rfl, .inl (SqL.of e2), by rw [List.length_map]; exact q⟩) val_c fun Q q => ⟨_, _, rfl, rfl, q⟩)) _ ?_
    refine ite2 (fun hb => ?_) (fun hb => ?_)
    · -- a cell is taken
      have hlen : 0 < xs.length := by
        simp only [Bool.and_eq_true, decide_eq_true_eq] at hb
        omega
      obtain ⟨ys, y, rfl⟩ : ∃ ys y, xs = ys ++ [y] := ⟨xs.dropLast, xs.getLast (List.ne_nil_of_length_pos hlen), (List.dropLast_concat_getLast _).symm⟩
      have hy : 0 ≤ y := e4 y (by simp)
      refine ⟨fun σ H2 => ∃ (xs : List Int) (l m t : Int), σ = [some (.ref d), some (.int many), none, none] ∧ xs.length < (ys ++ [y]).length ∧ Kn G H2 d c ∧ H2 d = some (.dK (srcK c l m t)) ∧ H2 c = some (.lst (xs.map V.int)) ∧ xs.length ≤ 63 ∧ (∀ x ∈ xs, 0 ≤ x) ∧ 0 ≤ l ∧ 0 ≤ m ∧ m < 2147483647, fun σ2 H2 hN => ?_, ?_⟩
      · obtain ⟨zs, l', m', t', rfl, h1, h2⟩ := hN
        exact ⟨zs.length, h1, zs, l', m', t', rfl, rfl, h2⟩
      · refine ⟨.ref d, rfl, d, .ref c, rfl, get_cells e1, .inl ⟨rfl, _, SqL.of e2⟩, c, (ys ++ [y]).map V.int, .int y, rfl, rfl, e2, ?_, ?_⟩
        · rw [List.length_map, List.length_append, List.map_append]
          simp
        · have e2' : ((ys ++ [y]).map V.int).dropLast = ys.map V.int := by simp
          rw [e2']
          have f1 : (upd H' c (.lst (ys.map V.int))) d = some (.dK (srcK c l m t)) := by rw [upd_ne ncd.symm]; exact e1
          refine ⟨.ref d, rfl, d, _, rfl, dput_left f1, ?_⟩
          have g1 : (upd (upd H' c (.lst (ys.map V.int))) d (.dK (srcK c y m t))) d = some (.dK (srcK c y m t)) := upd_same
          have g2 : (upd (upd H' c (.lst (ys.map V.int))) d (.dK (srcK c y m t))) c = some (.lst (ys.map V.int)) := by rw [upd_ne ncd, upd_same]
          have hl : ys.length ≤ 63 := by simp at e3; omega
          have hn : ∀ x ∈ ys, 0 ≤ x := fun x hx => e4 x (by simp [hx])
          refine ⟨ys, y, m, t, rfl, by simp, ⟨fun b o e => ?_, k.gd, k.gc, ⟨ys, y, m, t, g1, g2, hl, hn, hy, e6, e7⟩⟩, g1, g2, hl, hn, hy, e6, e7⟩
          have nb1 : b ≠ d := fun z => by rw [z, k.gd] at e; cases e
          have nb2 : b ≠ c := fun z => by rw [z, k.gc] at e; cases e
          rw [upd_ne nb1, upd_ne nb2]
          exact k.le _ _ e
    · -- behind the loop
      have setk : ∀ (l' m' t' : Int), 0 ≤ l' → 0 ≤ m' → m' < 2147483647 → ∀ H2, (∀ b, b ≠ d → H2 b = H' b) → H2 d = some (.dK (srcK c l' m' t')) → Kn G H2 d c := fun l' m' t' h1 h2 h3 H2 hH hd =>
        ⟨fun b o e => by rw [hH b (fun z => by rw [z, k.gd] at e; cases e)]; exact k.le _ _ e, k.gd, k.gc, ⟨xs, l', m', t', hd, by rw [hH c ncd]; exact e2, e3, e4, h1, h2, h3⟩⟩
      have hmx : 0 < (if many > 1 then many else 1) := by split <;> omega
      have hmx2 : (if many > 1 then many else 1) < 1073741824 := by split <;> omega
      -- left = source["left"]; if many < 2 or left > 1
      refine ⟨.ref d, rfl, d, _, rfl, get_left e1, ?_⟩
      refine ans_or2 (b1 := decide (many < 2)) (b2 := decide (1 < l)) (ans_cmp (val_var rfl) val_c fun Q q => ⟨_, _, rfl, rfl, q⟩) (ans_cmp (val_var rfl) val_c fun Q q => ⟨_, _, rfl, rfl, q⟩) _ ?_
      refine ite2 (fun hb => ?_) (fun hb => ?_)
      · -- a digit of what is left
        refine ⟨.int l, rfl, .int many, rfl, 1, many, rfl, l, _, rfl, rfl, ⟨hmx, hmx2⟩, .ref d, rfl, d, _, rfl, dput_left e1, ?_⟩
        refine ⟨.int l, rfl, .inl ⟨_, rfl, .int many, rfl, 1, many, rfl, l, _, rfl, rfl, hmx, ?_⟩⟩
        refine q _ _ (setk _ _ _ (Int.ediv_nonneg e5 (Int.le_of_lt hmx)) e6 e7 _ (fun b hb => upd_ne hb) upd_same) (Int.emod_nonneg _ (Int.ne_of_gt hmx)) ?_
        have hlt := Int.emod_lt_of_pos l hmx
        by_cases h : many > 1
        · rw [if_pos h] at hlt ⊢
          exact .inl hlt
        · rw [if_neg h] at hlt ⊢
          exact .inr ⟨by omega, by omega⟩
      · -- mixed anew
        have hb1 : ¬ many < 2 := fun h => hb (by simp [h])
        refine ⟨.ref d, rfl, d, _, rfl, get_turn e1, t, 1, rfl, rfl, .ref d, rfl, d, _, rfl, dput_turn e1, ?_⟩
        have f1 : (upd H' d (.dK (srcK c l m (t + 1)))) d = some (.dK (srcK c l m (t + 1))) := upd_same
        refine ⟨.ref d, rfl, d, _, rfl, get_mixed f1, .ref d, rfl, d, _, rfl, get_turn f1, t + 1, 104729, rfl, rfl, .inr ⟨by decide, by decide⟩, m, _, rfl, rfl, .inl ⟨_, rfl, _, _, rfl, rfl, (by show (0 : Int) < 998244353; decide), ?_⟩⟩
        have b0 : 0 ≤ (m + (t + 1) * 104729) % 998244353 := Int.emod_nonneg _ (by decide)
        have b1 : (m + (t + 1) * 104729) % 998244353 < 998244353 := Int.emod_lt_of_pos _ (by decide)
        refine ⟨_, rfl, _, rfl, (m + (t + 1) * 104729) % 998244353, (m + (t + 1) * 104729) % 998244353, rfl, rfl, .inl ⟨by omega, by omega⟩, .ref d, rfl, d, _, rfl, get_turn f1, t + 1, 17, rfl, rfl, .inr ⟨by decide, by decide⟩, _, _, rfl, rfl, .inl ⟨_, rfl, _, _, rfl, rfl, (by show (0 : Int) < 2147483647; decide), ?_⟩⟩
        have b2 : 0 ≤ ((m + (t + 1) * 104729) % 998244353 * ((m + (t + 1) * 104729) % 998244353) + (t + 1) * 17) % 2147483647 := Int.emod_nonneg _ (by decide)
        have b3 : ((m + (t + 1) * 104729) % 998244353 * ((m + (t + 1) * 104729) % 998244353) + (t + 1) * 17) % 2147483647 < 2147483647 := Int.emod_lt_of_pos _ (by decide)
        refine ⟨_, rfl, .ref d, rfl, d, _, rfl, dput_mixed f1, ?_⟩
        refine ⟨_, rfl, _, 16, rfl, rfl, ⟨by decide, by decide⟩, .inl ⟨_, rfl, .int many, rfl, _, _, rfl, rfl, (by show (0 : Int) < many; omega), ?_⟩⟩
        exact q _ _ (setk l _ (t + 1) e5 b2 b3 _ (fun b hb => by rw [upd_ne hb, upd_ne hb]) upd_same) (Int.emod_nonneg _ (by omega)) (.inl (Int.emod_lt_of_pos _ (by omega)))
end

section
variable {P : Program} {w : World} {K : PySem.W.Frag} {mg : Str → Option Value} {base : Heap}
def absI (z : Int) : Int := if z < 0 then -z else z
def spSource (K : PySem.W.Frag) : Sp := fun vs H Q _ => ∃ (a : Addr) (ns : List Int), vs = [.ref a] ∧ SqL K H a (ns.map V.int) ∧ ns.length ≤ 63 ∧ ∀ (d c : Addr) (H' : Hp), Kn H H' d c → Q (.ref d) H'
theorem ok_source (T : Tx K mg) : FnOk P w K mg base CX0 1 T.f_l_source T.d_l_source ["_law_script"] (spSource K) := by
  refine T.F_l_source.ok sc_l_source (fun vs H Q E h => ?_) (fun cdv A outer s H vs Q E hr h => ?_)
  · obtain ⟨a, ns, rfl, _⟩ := h
    rfl
  · obtain ⟨a, ns, rfl, hS, hlen, q⟩ := h
    have hu := hu_of hr
    refine ⟨_, (pss_cons (ps_set (i := 1) sc_l_source.nd rfl (Or.inl rfl) pe_int)
    (pss_cons (ps_for PassesOwn.never rfl (pi_list (pv 0)) (pg_name (i := 2) sc_l_source.nd rfl (Or.inl rfl))
    (pss_one (ps_set (i := 1) sc_l_source.nd rfl (Or.inl rfl) (pe_op op_mod (pe_callTy call_int1 (by rfl) T.z_int (by decide +kernel) (pa_cons (pe_op op_add (pe_op op_add (pe_op op_mul (pv 1) pe_int) (pe_op op_mul (pv 2) pe_int)) pe_int) pa_nil)) pe_int))))
    (pss_one (ps_ret (pe_disp (pps_cons pe_str (pe_revL (pe_lc (own := [("_law_cell", 2)]) (g := gName 2) rfl sc_l_source.nd (pi_list (pv 0)) (blkOk_by (own := [("_law_cell", 2)]) (N := ["_law_script", "_law_mixed", "_law_cell"]) (sc := defScope s_l_source) (by decide +kernel)) (fun _ _ _ _ _ => (pg_name (i := 2) sc_l_source.nd rfl (Or.inl rfl))) (fun _ _ _ _ _ => pts_nil) (fun _ _ _ _ _ => (pe_callB call_abs (by rfl) T.z_abs (by decide +kernel) (pa_cons (pv 2) pa_nil))))) (pps_cons pe_str pe_int (pps_cons pe_str (pv 1) (pps_cons pe_str pe_int pps_nil)))) (by rfl) (by rfl) (fun z => by cases z) (by decide)))))), ?_⟩
    refine ⟨.ref a, rfl, a, rfl, ⟨_, hS⟩, for_list (K := K) (a := a) (xs := ns.map V.int) (fun i σ H' => ∃ (m : Int) (v : Option V), σ = [some (.ref a), some (.int m), v] ∧ H' = H ∧ 0 ≤ m ∧ m < 2147483647)
      ⟨11, none, rfl, rfl, by decide, by decide⟩ (fun i σ H' _ ⟨_, _, _, e, _⟩ => e ▸ hS) ?_ ?_⟩
    · rintro i y σ H' hi ⟨m, v, rfl, rfl, m0, m1⟩
      obtain ⟨z, rfl, hz⟩ := ints_at hi
      refine ⟨.int m, rfl, m, 69069, rfl, rfl, .inl ⟨by omega, by omega⟩, .int z, rfl, z, 31, rfl, rfl, .inr ⟨by decide, by decide⟩, _, _, rfl, rfl, _, _, rfl, rfl, .inl ⟨_, rfl, _, _, rfl, rfl, (by show (0 : Int) < 2147483629; decide), ?_⟩⟩
      exact ⟨_, _, rfl, rfl, Int.emod_nonneg _ (by decide), Int.lt_trans (Int.emod_lt_of_pos _ (by decide)) (by decide : (2147483629 : Int) < 2147483647)⟩
    · rintro σ H' ⟨m, v, rfl, rfl, m0, m1⟩
      intro d hd
      have sd : Same H' (upd H' d (.dK [])) := same_new hd
      refine ⟨.ref a, rfl, a, rfl, ⟨_, sd.seq hS⟩, fun D hD => ?_⟩
      have hDd : d ≠ D := fun e => by rw [← e, upd_same] at hD; cases hD
      have hD0 : H' D = none := sd.free hD
      have sD : Same (upd H' d (.dK [])) (upd (upd H' d (.dK [])) D (.lst [])) := same_new hD
      refine lc_list (K := K) (a := a) (xs := ns.map V.int) (fun i H2 => H2 = upd (upd H' d (.dK [])) D (.lst (((ns.take i).map absI).map V.int))) rfl (fun i H2 _ e => ?_) ?_ ?_
      · subst e
        exact (sd.trans (same_new hD)).seq hS
      · rintro i y H2 hi rfl
        obtain ⟨z, rfl, hz⟩ := ints_at hi
        refine ⟨rfl, tyes ?_⟩
        refine ⟨.int z, rfl, z, rfl, _, upd_same, ?_, ?_⟩
        · rw [List.length_map, List.length_map, List.length_take]
          exact Nat.lt_of_le_of_lt (Nat.min_le_right _ _) (small1000 (by omega))
        · show upd (upd (upd H' d (.dK [])) D _) D _ = _
          rw [upd_upd, List.take_add_one, hz, List.map_append, List.map_append]
          rfl
      · rintro H2 rfl
        rw [List.length_map, List.take_length]
        refine ⟨D, _, rfl, .inl (.inl upd_same), fun c hc => ?_⟩
        have hcd : c ≠ d := fun e => by rw [e, upd_ne hDd, upd_same] at hc; cases hc
        have hcD : c ≠ D := fun e => by rw [e, upd_same] at hc; cases hc
        have hc0 : H' c = none := by rw [upd_ne hcD, upd_ne hcd] at hc; exact hc
        refine ⟨_, rfl, ?_⟩
        refine ⟨by rw [upd_ne hcd.symm, upd_ne hDd]; exact upd_same, srcK c 1 m 0, rfl, by show 4 ≤ 15; decide, ?_⟩
        rw [merge_src]
        refine q d c _ ⟨fun b o e => ?_, hd, hc0, ⟨((ns.map absI).reverse), 1, m, 0, upd_same, ?_, ?_, ?_, by decide, m0, m1⟩⟩
        · rw [upd_ne (ne_of_none e hd), upd_ne (ne_of_none e hc0), upd_ne (ne_of_none e hD0), upd_ne (ne_of_none e hd)]
          exact e
        · rw [upd_ne hcd, upd_same, List.map_reverse]
        · rw [List.length_reverse, List.length_map]
          exact hlen
        · intro x hx
          rw [List.mem_reverse, List.mem_map] at hx
          obtain ⟨z, _, rfl⟩ := hx
          unfold absI
          split <;> omega
end

section
variable {P : Program} {w : World} {K : PySem.W.Frag} {mg : Str → Option Value} {base : Heap}
/-- a drawn member of a list -/
def spOf (K : PySem.W.Frag) : Sp := fun vs H Q _ => ∃ (G : Hp) (d c a : Addr) (xs : List V), vs = [.ref d, .ref a] ∧ Kn G H d c ∧ SqL K G a xs ∧ 0 < xs.length ∧ xs.length ≤ 100000 ∧
  ∀ (x : V) (H' : Hp), Kn G H' d c → x ∈ xs → Q x H'
theorem ok_of (T : Tx K mg) : FnOk P w K mg base CX0 2 T.f_l_of T.d_l_of ["_law_source_here", "_law_some"] (spOf K) := by
  have G_l_pick := ok_pick (P := P) (w := w) (base := base) T
  refine T.F_l_of.ok sc_l_of (fun vs H Q E h => ?_) (fun cdv A outer s H vs Q E hr h => ?_)
  · obtain ⟨G, d, c, a, xs, rfl, _⟩ := h
    rfl
  · obtain ⟨G, d, c, a, xs, rfl, k, hS, h0, h1, q⟩ := h
    refine ⟨_, (pss_one (ps_ret (pe_ix ix_list (pv 1) (pe_call G_l_pick (hr.mono (by decide)) (by rfl) T.g_l_pick T.F_l_pick.kp T.b_l_pick .nil pass0 (pa_cons (pv 0) (pa_cons (pe_callB call_len_seq (by rfl) T.z_len PySem.boot_len (pa_cons (pv 1) pa_nil)) pa_nil))) (fun _ _ => rfl)))), ?_⟩
    refine ⟨.ref a, rfl, .ref d, rfl, .ref a, rfl, a, xs, rfl, .inl (k.le.seq hS), G, d, c, xs.length, rfl, k, by omega, fun r H' k' r0 r1 => ?_⟩
    obtain ⟨j, rfl⟩ : ∃ j : Nat, r = j := ⟨r.toNat, by omega⟩
    have hj : j < xs.length := by omega
    refine ⟨a, xs, (j : Int), xs[j], rfl, rfl, k'.le.seq hS, atI_nat (List.getElem?_eq_getElem hj), ?_⟩
    exact q _ _ k' (List.getElem_mem hj)
end

section
variable {P : Program} {w : World} {K : PySem.W.Frag} {mg : Str → Option Value} {base : Heap}
theorem pn_ : ¬ (("_p" : Str) = "_n") := by decide +kernel
/-- the attributes of a Ground -/
def gf (p n : Int) : List (Str × V) := putF "_n" (.int n) (putF "_p" (.int p) [])
theorem gf_p (p n : Int) : (gf p n).lookup ("_p" : Str) = some (.int p) := by
  unfold gf
  rw [lookup_putF, if_neg pn_, lookup_putF, if_pos rfl]
theorem gf_n (p n : Int) : (gf p n).lookup ("_n" : Str) = some (.int n) := by
  unfold gf
  rw [lookup_putF, if_pos rfl]
theorem gf_no (p n : Int) {m : Str} (h1 : ¬ m = "_n") (h2 : ¬ m = "_p") : (gf p n).lookup m = none := by
  unfold gf
  rw [lookup_putF, if_neg h1, lookup_putF, if_neg h2]
  all_goals rfl
theorem no_p (p n : Int) : (gf p n).lookup ("p" : Str) = none := gf_no p n (by decide +kernel) (by decide +kernel)
theorem no_n (p n : Int) : (gf p n).lookup ("n" : Str) = none := gf_no p n (by decide +kernel) (by decide +kernel)
/-- a Ground of p and n stands at g -/
def Gd (C : Addr) (H : Hp) (g : Addr) (p n : Int) : Prop := ∃ dx, H g = some (.ins C dx (gf p n))
theorem Gd.mono {C : Addr} {H H' : Hp} {g : Addr} {p n : Int} (h : Gd C H g p n) (e : Same H H') : Gd C H' g p n := let ⟨dx, q⟩ := h; ⟨dx, e _ _ q⟩
/-- a number's own sentence -/
def Prm (p : Int) : Prop := 2 ≤ p ∧ p < 1073741824 ∧ ∀ d : Int, 2 ≤ d → d * d ≤ p → p % d ≠ 0
def spIsNum : Sp := fun vs H Q _ => ∃ n : Int, vs = [.int n] ∧ Q (.bl (decide (0 ≤ n))) H
theorem ok_is_number (T : Tx K mg) : FnOk P w K mg base CX0 1 T.f_is_number T.d_is_number ["value"] spIsNum := by
  refine T.F_is_number.ok sc_is_number (fun vs H Q E h => ?_) (fun cdv A outer s H vs Q E hr h => ?_)
  · obtain ⟨n, rfl, _⟩ := h
    rfl
  · obtain ⟨n, rfl, q⟩ := h
    refine ⟨_, (pss_one (ps_ret (pe_and (pe_callB call_isi (by rfl) T.z_isinstance (by decide +kernel) (pa_cons (pv 0) (pa_cons (pe_bltn (v := .ty "int") (by rfl) T.z_int (by decide +kernel) rfl) pa_nil))) (pe_and (pe_not (pe_callB call_isi (by rfl) T.z_isinstance (by decide +kernel) (pa_cons (pv 0) (pa_cons (pe_bltn (v := .ty "bool") (by rfl) T.z_bool (by decide +kernel) rfl) pa_nil)))) (pe_one (pe_cmpR op_ge (pv 0) pe_int (nomark _))))))), ?_⟩
    refine ⟨.int n, rfl, .int n, .ty "int", _, _, true, rfl, .ty _, .base (.int n), kit_ty (by decide +kernel), true, rfl, iteT ?_⟩
    refine ⟨.int n, rfl, .int n, .ty "bool", _, _, false, rfl, .ty _, .base (.int n), kit_ty (by decide +kernel), false, rfl, true, rfl, iteT ?_⟩
    exact ⟨.int n, rfl, _, _, rfl, rfl, q⟩
def spIsPrime : Sp := fun vs H Q _ => ∃ p : Int, vs = [.int p] ∧ Prm p ∧ Q (.bl true) H
theorem ok_is_prime (T : Tx K mg) : FnOk P w K mg base CX0 2 T.f_is_prime T.d_is_prime ["value"] spIsPrime := by
  have G_is_number := ok_is_number (P := P) (w := w) (base := base) T
  refine T.F_is_prime.ok sc_is_prime (fun vs H Q E h => ?_) (fun cdv A outer s H vs Q E hr h => ?_)
  · obtain ⟨p, rfl, _⟩ := h
    rfl
  · obtain ⟨p, rfl, ⟨p2, p3, hp⟩, q⟩ := h
    refine ⟨_, (pss_cons (ps_if (PW.pt (pw_or (pt_not (pt_val (pe_call G_is_number (hr.mono (by decide)) (by rfl) T.g_is_number T.F_is_number.kp T.b_is_number .nil pass0 (pa_cons (pv 0) pa_nil)))) (pw_or1 (pt_cmpR op_lt (pv 0) pe_int (nomark _))))) (pss_one (ps_ret pe_bl)) pss_nil)
    (pss_cons (ps_set (i := 1) sc_is_prime.nd rfl (Or.inl rfl) pe_int)
    (pss_cons (ps_while PassesOwn.never (pt_cmpR op_le (pe_op op_mul (pv 1) (pv 1)) (pv 0) (nomark _)) (pss_cons (ps_if (pt_cmpR op_eq (pe_op op_mod (pv 0) (pv 1)) pe_int (nomark _)) (pss_one (ps_ret pe_bl)) pss_nil)
    (pss_one (ps_aug (i := 1) sc_is_prime.nd rfl (Or.inl rfl) pe_int ip_add))))
    (pss_one (ps_ret pe_bl))))), ?_⟩
    refine ⟨.int p, rfl, p, rfl, true, by rw [decide_eq_true (by omega)], iteF ?_⟩
    refine ⟨.int p, rfl, p, 2, rfl, rfl, _, rfl, ?_⟩
    rw [decide_eq_false (by omega : ¬ p < 2)]
    refine iteF ?_
    refine ⟨fun m σ H' => ∃ d : Int, σ = [some (.int p), some (.int d)] ∧ m = (p + 1 - d).toNat ∧ H' = H ∧ 2 ≤ d ∧ d ≤ p, ⟨_, 2, rfl, rfl, rfl, by decide, p2⟩, fun m σ H' hW => ?_⟩
    obtain ⟨d, rfl, rfl, rfl, d2, d3⟩ := hW
    refine ⟨.int d, rfl, .int d, rfl, d, d, rfl, rfl, .inl ⟨by omega, by omega⟩, .int p, rfl, _, _, rfl, rfl, _, rfl, ?_⟩
    refine ite2 (fun hb => ?_) (fun hb => ?_)
    · have hb' : d * d ≤ p := of_decide_eq_true hb
      have hlt : d < p := by
        have h2 : 2 * d ≤ d * d := Int.mul_le_mul_of_nonneg_right d2 (by omega)
        omega
      refine ⟨fun σ H2 => ∃ e : Int, σ = [some (.int p), some (.int e)] ∧ (p + 1 - e).toNat < (p + 1 - d).toNat ∧ H2 = H' ∧ 2 ≤ e ∧ e ≤ p, fun σ2 H2 hN => ?_, ?_⟩
      · obtain ⟨e, rfl, h1, rfl, h2, h3⟩ := hN
        exact ⟨_, h1, e, rfl, rfl, rfl, h2, h3⟩
      · refine ⟨.int p, rfl, .int d, rfl, p, d, rfl, rfl, (by show (0 : Int) < d; omega), rfl, _, rfl, ?_⟩
        have hne : ¬ (V.int (p % d) = V.int 0) := fun z => hp d d2 hb' (V.int.inj z)
        show (if decide (V.int (p % d) = V.int 0) = true then _ else _)
        rw [decide_eq_false hne]
        refine iteF ?_
        exact ⟨_, rfl, d, 1, rfl, rfl, d + 1, rfl, by omega, rfl, by omega, by omega⟩
    · exact q
/-- Ground.__init__ of a prime and a number -/
def spInit (C : Addr) : Sp := fun vs H Q _ => ∃ (x dx : Addr) (p n : Int), vs = [.ref x, .int p, .int n] ∧ H x = some (.ins C dx []) ∧ Prm p ∧ 0 ≤ n ∧ ∀ H' : Hp, H' x = some (.ins C dx (gf p n)) → (∀ b, b ≠ x → H' b = H b) → Q .non H'
theorem ok_init (T : Tx K mg) : FnOk P w K mg base CX0 3 T.f_Ground_init T.d_Ground_init ["self", "p", "n"] (spInit T.C_Ground) := by
  have G_is_number := ok_is_number (P := P) (w := w) (base := base) T
  have G_is_prime := ok_is_prime (P := P) (w := w) (base := base) T
  refine T.F_Ground_init.ok sc_Ground_init (fun vs H Q E h => ?_) (fun cdv A outer s H vs Q E hr h => ?_)
  · obtain ⟨x, dx, p, n, rfl, _⟩ := h
    rfl
  · obtain ⟨x, dx, p, n, rfl, hx, hp, hn, q⟩ := h
    refine ⟨_, (pss_cons (ps_if (pt_not (pt_val (pe_call G_is_prime (hr.mono (by decide)) (by rfl) T.g_is_prime T.F_is_prime.kp T.b_is_prime .nil pass0 (pa_cons (pv 1) pa_nil)))) (pss_one ps_never) pss_nil)
    (pss_cons (ps_if (pt_not (pt_val (pe_call G_is_number (hr.mono (by decide)) (by rfl) T.g_is_number T.F_is_number.kp T.b_is_number .nil pass0 (pa_cons (pv 2) pa_nil)))) (pss_one ps_never) pss_nil)
    (pss_cons (ps_fld (pv 0) (pv 1) rfl)
    (pss_one (ps_fld (pv 0) (pv 2) rfl))))), ?_⟩
    refine ⟨.int p, rfl, p, rfl, hp, true, rfl, iteF ?_⟩
    refine ⟨.int n, rfl, n, rfl, true, by rw [decide_eq_true hn], iteF ?_⟩
    refine ⟨.int p, rfl, .ref x, rfl, x, T.C_Ground, dx, [], rfl, hx, T.cl_Ground, T.n_Ground_p, (by show 0 < 1000; decide), ?_⟩
    refine ⟨.int n, rfl, .ref x, rfl, x, T.C_Ground, dx, _, rfl, upd_same, T.cl_Ground, T.n_Ground_n, (by show 1 < 1000; decide), ?_⟩
    exact q _ upd_same fun b hb => by rw [upd_ne hb, upd_ne hb]
def spP (C : Addr) : Sp := fun vs H Q _ => ∃ (g : Addr) (p n : Int), vs = [.ref g] ∧ Gd C H g p n ∧ Q (.int p) H
theorem ok_p (T : Tx K mg) : FnOk P w K mg base CX0 1 T.f_Ground_p T.d_Ground_p ["self"] (spP T.C_Ground) := by
  refine T.F_Ground_p.ok sc_Ground_p (fun vs H Q E h => ?_) (fun cdv A outer s H vs Q E hr h => ?_)
  · obtain ⟨g, p, n, rfl, _⟩ := h
    rfl
  · obtain ⟨g, p, n, rfl, ⟨dx, hg⟩, q⟩ := h
    refine ⟨_, (pss_one (ps_ret (pe_fld (pv 0) rfl))), ?_⟩
    exact ⟨.ref g, rfl, g, T.C_Ground, dx, _, _, rfl, hg, T.cl_Ground, T.n_Ground_p, gf_p p n, q⟩
def spN (C : Addr) : Sp := fun vs H Q _ => ∃ (g : Addr) (p n : Int), vs = [.ref g] ∧ Gd C H g p n ∧ Q (.int n) H
theorem ok_n (T : Tx K mg) : FnOk P w K mg base CX0 1 T.f_Ground_n T.d_Ground_n ["self"] (spN T.C_Ground) := by
  refine T.F_Ground_n.ok sc_Ground_n (fun vs H Q E h => ?_) (fun cdv A outer s H vs Q E hr h => ?_)
  · obtain ⟨g, p, n, rfl, _⟩ := h
    rfl
  · obtain ⟨g, p, n, rfl, ⟨dx, hg⟩, q⟩ := h
    refine ⟨_, (pss_one (ps_ret (pe_fld (pv 0) rfl))), ?_⟩
    exact ⟨.ref g, rfl, g, T.C_Ground, dx, _, _, rfl, hg, T.cl_Ground, T.n_Ground_n, gf_n p n, q⟩
/-- a new Ground, all else as it was -/
theorem made_same {C x dx : Addr} {H H1 : Hp} {p n : Int} (nx : H x = none) (nd : H dx = none) (ne : dx ≠ x) (hx : H1 x = some (.ins C dx (gf p n))) (k : ∀ b, b ≠ x → H1 b = (upd (upd H dx (.own x)) x (.ins C dx [])) b) : Same H H1 := fun b o e => by
  have h1 : b ≠ x := ne_of_none e nx
  rw [k b h1, upd_ne h1, upd_ne (ne_of_none e nd)]
  exact e
end

section
variable {P : Program} {w : World} {K : PySem.W.Frag} {mg : Str → Option Value} {base : Heap}
def primes8 : List Int := [2, 2, 3, 3, 5, 7, 11, 13]
def IsP (p : Int) : Prop := p = 2 ∨ p = 3 ∨ p = 5 ∨ p = 7 ∨ p = 11 ∨ p = 13
theorem IsP.prm {p : Int} (h : IsP p) : Prm p := by
  refine ⟨?_, ?_, fun d d2 hd => ?_⟩
  · rcases h with rfl | rfl | rfl | rfl | rfl | rfl <;> decide
  · rcases h with rfl | rfl | rfl | rfl | rfl | rfl <;> decide
  · have d4 : d < 4 := by
      by_cases h4 : d < 4
      · exact h4
      · have h1 : 4 * d ≤ d * d := Int.mul_le_mul_of_nonneg_right (by omega) (by omega)
        have h2 : p ≤ 13 := by rcases h with rfl | rfl | rfl | rfl | rfl | rfl <;> decide
        omega
    rcases (by omega : d = 2 ∨ d = 3) with rfl | rfl
    · rcases h with rfl | rfl | rfl | rfl | rfl | rfl <;> first | decide | (exfalso; revert hd; decide)
    · rcases h with rfl | rfl | rfl | rfl | rfl | rfl <;> first | decide | (exfalso; revert hd; decide)
theorem IsP.lo {p : Int} (h : IsP p) : 2 ≤ p := h.prm.1
theorem IsP.hi {p : Int} (h : IsP p) : p ≤ 13 := by rcases h with rfl | rfl | rfl | rfl | rfl | rfl <;> decide
theorem IsP.of {x : V} (h : x ∈ primes8.map V.int) : ∃ p, x = .int p ∧ IsP p := by
  obtain ⟨p, hp, rfl⟩ := List.mem_map.mp h
  refine ⟨p, rfl, ?_⟩
  simp [primes8] at hp
  unfold IsP
  omega
/-- what _law_wide tells of a ground -/
def grK (g : Addr) (p n : Int) : List (Key × V) := [(ks "p", .int p), (ks "n", .int n), (ks "made", .ref g)]
theorem zpn : ¬ Str.ofString "p" = Str.ofString "n" := by decide +kernel
theorem zpm : ¬ Str.ofString "p" = Str.ofString "made" := by decide +kernel
theorem znm : ¬ Str.ofString "n" = Str.ofString "made" := by decide +kernel
theorem znp : ¬ Str.ofString "n" = Str.ofString "p" := by decide +kernel
theorem zmp : ¬ Str.ofString "made" = Str.ofString "p" := by decide +kernel
theorem zmn : ¬ Str.ofString "made" = Str.ofString "n" := by decide +kernel
theorem merge_gr (g : Addr) (p n : Int) : mergeK [] (grK g p n) = grK g p n := by
  simp [mergeK, putK, grK, zpn, zpm, znm, znp, zmp, zmn]
theorem gr_p {H : Hp} {d g : Addr} {p n : Int} (e : H d = some (.dK (grK g p n))) : DGet H d (.str "p") (some (.int p)) := by
  have h := DGet.k (k := ks "p") e
  rwa [show valV (grK g p n) (ks "p") = some (.int p) by simp [valV, grK, zpn, zpm, znm, znp, zmp, zmn]] at h
theorem gr_n {H : Hp} {d g : Addr} {p n : Int} (e : H d = some (.dK (grK g p n))) : DGet H d (.str "n") (some (.int n)) := by
  have h := DGet.k (k := ks "n") e
  rwa [show valV (grK g p n) (ks "n") = some (.int n) by simp [valV, grK, zpn, zpm, znm, znp, zmp, zmn]] at h
theorem gr_made {H : Hp} {d g : Addr} {p n : Int} (e : H d = some (.dK (grK g p n))) : DGet H d (.str "made") (some (.ref g)) := by
  have h := DGet.k (k := ks "made") e
  rwa [show valV (grK g p n) (ks "made") = some (.ref g) by simp [valV, grK, zpn, zpm, znm, znp, zmp, zmn]] at h
/-- a drawn ground is told at a: p, n and the Ground at g -/
structure Gr (C : Addr) (H : Hp) (a g : Addr) (p n : Int) : Prop where
  dk : H a = some (.dK (grK g p n))
  gd : Gd C H g p n
  ip : IsP p
theorem Gr.mono {C : Addr} {H H' : Hp} {a g : Addr} {p n : Int} (h : Gr C H a g p n) (e : Same H H') : Gr C H' a g p n := ⟨e _ _ h.dk, h.gd.mono e, h.ip⟩
def spWide (C : Addr) : Sp := fun vs H Q _ => ∃ (G : Hp) (d c : Addr) (lo hi : Int), vs = [.ref d, .int lo, .int hi] ∧ Kn G H d c ∧ 0 ≤ lo ∧ lo ≤ hi ∧ hi ≤ 1000 ∧
  ∀ (a g : Addr) (p n : Int) (G' H' : Hp), Same G G' → Kn G' H' d c → Gr C G' a g p n → lo ≤ n → n ≤ hi → Q (.ref a) H'
theorem ok_wide (T : Tx K mg) : FnOk P w K mg base CX0 5 T.f_l_wide T.d_l_wide ["_law_source_here", "_law_least", "_law_most"] (spWide T.C_Ground) := by
  have G_l_pick := ok_pick (P := P) (w := w) (base := base) T
  have G_l_of := ok_of (P := P) (w := w) (base := base) T
  have G_Ground_init := ok_init (P := P) (w := w) (base := base) T
  refine T.F_l_wide.ok sc_l_wide (fun vs H Q E h => ?_) (fun cdv A outer s H vs Q E hr h => ?_)
  · obtain ⟨G, d, c, lo, hi, rfl, _⟩ := h
    rfl
  · obtain ⟨G, d, c, lo, hi, rfl, k, h0, h1, h2, q⟩ := h
    have hu := hu_of hr
    refine ⟨_, (pss_cons (ps_par (i := 3) (j := 4) (by rfl) sc_l_wide.nd rfl rfl (by decide) rfl rfl (pa_cons (pe_call G_l_of (hr.mono (by decide)) (by rfl) T.g_l_of T.F_l_of.kp T.b_l_of .nil pass0 (pa_cons (pv 0) (pa_cons (pe_lst (pa_cons pe_int (pa_cons pe_int (pa_cons pe_int (pa_cons pe_int (pa_cons pe_int (pa_cons pe_int (pa_cons pe_int (pa_cons pe_int pa_nil))))))))) pa_nil))) (pa_cons (pe_op op_add (pv 1) (pe_call G_l_pick (hr.mono (by decide)) (by rfl) T.g_l_pick T.F_l_pick.kp T.b_l_pick .nil pass0 (pa_cons (pv 0) (pa_cons (pe_op op_sub (pe_op op_add (pv 2) pe_int) (pv 1)) pa_nil)))) pa_nil)) (by rfl))
    (pss_one (ps_ret (pe_disp (pps_cons pe_str (pv 3) (pps_cons pe_str (pv 4) (pps_cons pe_str (pe_make T.M_Ground G_Ground_init (hr.mono (by decide)) rfl T.g_Ground T.b_Ground_init .nil pass0 (pa_cons (pv 3) (pa_cons (pv 4) pa_nil))) pps_nil))) (by rfl) (by rfl) (fun z => by cases z) (by decide))))), ?_⟩
    -- _law_of(source, [2, 2, ..])
    refine ⟨.ref d, rfl, (by show 8 ≤ sizeLine; decide), fun t ht => ?_⟩
    refine ⟨upd G t (.lst (primes8.map V.int)), d, c, t, primes8.map V.int, rfl, k.new ht, .inl (.inl upd_same), by decide, by decide, fun x H1 k1 hx => ?_⟩
    obtain ⟨p, rfl, ip⟩ := IsP.of hx
    have k1 : Kn G H1 d c := k1.weak (same_new (k.free ht))
    -- least + _law_pick(..)
    refine ⟨.int lo, rfl, .ref d, rfl, .int hi, rfl, hi, 1, rfl, rfl, .int lo, rfl, hi + 1, lo, rfl, rfl, G, d, c, hi + 1 - lo, rfl, k1, by omega, fun r H2 k2 r0 r1 => ?_⟩
    refine ⟨lo, r, rfl, rfl, .int p, .int (lo + r), rfl, ?_⟩
    -- {"p": .., "n": .., "made": Ground(p, n)}
    intro a ha
    refine ⟨.int p, rfl, .int (lo + r), rfl, .int p, rfl, .int (lo + r), rfl, fun x dx nx ndx hne => ?_⟩
    have ax : a ≠ x := fun e => by rw [← e, upd_same] at nx; cases nx
    have adx : a ≠ dx := fun e => by rw [← e, upd_same] at ndx; cases ndx
    refine ⟨x, dx, p, lo + r, rfl, upd_same, ip.prm, by omega, fun H3 hx3 hk3 => ⟨rfl, ?_⟩⟩
    have sm : Same (upd H2 a (.dK [])) H3 := made_same nx ndx hne hx3 hk3
    refine ⟨sm _ _ upd_same, grK x p (lo + r), rfl, (by show 3 ≤ 15; decide), ?_⟩
    rw [merge_gr]
    have x0 : H2 x = none := by rw [upd_ne ax.symm] at nx; exact nx
    have s23 : Same H2 H3 := (same_new ha).trans sm
    have k3 : Kn (upd G x (.ins T.C_Ground dx (gf p (lo + r)))) H3 d c := k2.add s23 x0 hx3
    have ga : G a = none := k2.free ha
    have k4 : Kn (upd (upd G x (.ins T.C_Ground dx (gf p (lo + r)))) a (.dK (grK x p (lo + r)))) (upd H3 a (.dK (grK x p (lo + r)))) d c := by
      have n1 : a ≠ d := k2.src.some_d ha
      have n2 : a ≠ c := k2.src.some_c ha
      refine ⟨fun b o e => ?_, by rw [upd_ne n1.symm]; exact k3.gd, by rw [upd_ne n2.symm]; exact k3.gc, k3.src.off n1 n2⟩
      by_cases hb : b = a
      · subst hb
        rw [upd_same] at e ⊢
        exact e
      · rw [upd_ne hb] at e ⊢
        exact k3.le _ _ e
    refine q a x p (lo + r) _ _ ?_ k4 ⟨upd_same, ⟨dx, by rw [upd_ne ax.symm, upd_same]⟩, ip⟩ (by omega) (by omega)
    exact (same_new (k2.free x0)).trans (same_new (by rw [upd_ne ax]; exact ga))
/-- a drawn row -/
def Row (p : Int) (r : List Int) : Prop := ∀ x ∈ r, 0 ≤ x ∧ x < p
def spRow (C : Addr) : Sp := fun vs H Q _ => ∃ (G : Hp) (d c a g : Addr) (p n : Int), vs = [.ref d, .ref a] ∧ Kn G H d c ∧ Gr C G a g p n ∧ 0 ≤ n ∧ n ≤ 1000 ∧
  ∀ (t : Addr) (r : List Int) (G' H' : Hp), Same G G' → Kn G' H' d c → G' t = some (.tup (r.map V.int)) → (r.length : Int) = n → Row p r → Q (.ref t) H'
theorem ok_row (T : Tx K mg) : FnOk P w K mg base CX0 2 T.f_l_row T.d_l_row ["_law_source_here", "_law_ground"] (spRow T.C_Ground) := by
  have G_l_pick := ok_pick (P := P) (w := w) (base := base) T
  refine T.F_l_row.ok sc_l_row (fun vs H Q E h => ?_) (fun cdv A outer s H vs Q E hr h => ?_)
  · obtain ⟨G, d, c, a, g, p, n, rfl, _⟩ := h
    rfl
  · obtain ⟨G, d, c, a, g, p, n, rfl, k, gr, n0, n1, q⟩ := h
    have hu := hu_of hr
    refine ⟨_, (pss_one (ps_ret (pe_callTy call_tuple_of (by rfl) T.z_tuple (by decide +kernel) (pa_cons (pe_lc (own := [("_law_k", 2)]) (g := gName 2) rfl sc_l_row.nd (pi_range1 rfl T.z_range (pa_cons (pe_dget hu (pv 1) pe_str (fun _ _ => rfl)) pa_nil)) (blkOk_by (own := [("_law_k", 2)]) (N := ["_law_source_here", "_law_ground", "_law_k"]) (sc := defScope s_l_row) (by decide +kernel)) (fun _ _ _ _ _ => (pg_name (i := 2) sc_l_row.nd rfl (Or.inl rfl))) (fun _ _ _ _ _ => pts_nil) (fun _ _ _ _ _ => (pe_call G_l_pick (hr.mono (by decide)) (by rfl) T.g_l_pick T.F_l_pick.kp T.b_l_pick .nil pass0 (pa_cons (pv 0) (pa_cons (pe_dget hu (pv 1) pe_str (fun _ _ => rfl)) pa_nil))))) pa_nil)))), ?_⟩
    refine ⟨.ref a, rfl, a, _, rfl, gr_n (k.le _ _ gr.dk), n, rfl, by omega, by omega, fun D hD => ?_⟩
    refine lc_range (lo := 0) (n := n.toNat) (fun i H' => ∃ r : List Int, Kn (upd G D (.lst (r.map V.int))) H' d c ∧ r.length = i ∧ Row p r) ⟨[], k.new hD, rfl, fun x hx => by cases hx⟩ ?_ ?_
    · rintro i H1 hi ⟨r, k1, hl, hrow⟩
      have gr1 : Gr T.C_Ground (upd G D (.lst (r.map V.int))) a g p n := gr.mono (same_new (k.free hD))
      refine ⟨rfl, tyes ?_⟩
      refine ⟨.ref d, rfl, .ref a, rfl, a, _, rfl, gr_p (k1.le _ _ gr1.dk), _, d, c, p, rfl, k1, by have := gr.ip.hi; omega, fun z H2 k2 z0 z1 => ?_⟩
      have zp : z < p := by have := gr.ip.lo; omega
      refine ⟨_, k2.le _ _ upd_same, ?_, r ++ [z], ?_, by rw [List.length_append, hl]; rfl, fun x hx => ?_⟩
      · rw [List.length_map, hl]
        exact small1000 (by omega)
      · rw [List.map_append]
        exact k2.set
      · rcases List.mem_append.mp hx with hx | hx
        · exact hrow x hx
        · rw [List.mem_singleton] at hx
          subst hx
          exact ⟨z0, zp⟩
    · rintro H1 ⟨r, k1, hl, hrow⟩
      refine ⟨D, _, rfl, .inl ⟨SqL.of (k1.le _ _ upd_same), fun t ht => ?_⟩⟩
      have sG : Same G (upd G D (.lst (r.map V.int))) := same_new (k.free hD)
      refine q t r (upd (upd G D (.lst (r.map V.int))) t (.tup (r.map V.int))) _ (sG.trans (same_new (k1.free ht))) (k1.new ht) upd_same ?_ hrow
      rw [hl]
      omega
end

section
variable {P : Program} {w : World} {K : PySem.W.Frag} {mg : Str → Option Value} {base : Heap}
/-- a number, as data -/
def numD : PyData → Bool
  | .int i => decide (0 ≤ i)
  | _ => false
/-- a number of the ground of p -/
def okE (p : Int) : PyData → Bool
  | .int i => decide (0 ≤ i) && decide (i < p)
  | _ => false
theorem numD_oth {d : PyData} (h : ∀ i, d ≠ .int i) : numD d = false := by
  cases d with
  | int i => exact absurd rfl (h i)
  | _ => rfl
theorem okE_oth {p : Int} {d : PyData} (h : numD d = false) : okE p d = false := by
  cases d with
  | int i =>
    have : ¬ 0 ≤ i := of_decide_eq_false h
    show (decide (0 ≤ i) && decide (i < p)) = false
    rw [decide_eq_false this, Bool.false_and]
  | _ => rfl
/-- where value is no row: its path -/
def fault (p : Int) (n : Nat) : PyData → Option (List Int)
  | .tuple ds => if ds.length = n then (ds.findIdx? fun e => !okE p e).map fun k => [(k : Int)] else some []
  | _ => some []
def spIsNumD (K : PySem.W.Frag) : Sp := fun vs H Q _ => ∃ (v : V) (d : PyData), vs = [v] ∧ Lf K H v d ∧ Q (.bl (numD d)) H
theorem ok_is_numD (T : Tx K mg) : FnOk P w K mg base CX0 1 T.f_is_number T.d_is_number ["value"] (spIsNumD K) := by
  refine T.F_is_number.ok sc_is_number (fun vs H Q E h => ?_) (fun cdv A outer s H vs Q E hr h => ?_)
  · obtain ⟨v, d, rfl, _⟩ := h
    rfl
  · obtain ⟨v, d, rfl, hl, q⟩ := h
    refine ⟨_, (pss_one (ps_ret (pe_and (pe_callB call_isi (by rfl) T.z_isinstance (by decide +kernel) (pa_cons (pv 0) (pa_cons (pe_bltn (v := .ty "int") (by rfl) T.z_int (by decide +kernel) rfl) pa_nil))) (pe_and (pe_not (pe_callB call_isi (by rfl) T.z_isinstance (by decide +kernel) (pa_cons (pv 0) (pa_cons (pe_bltn (v := .ty "bool") (by rfl) T.z_bool (by decide +kernel) rfl) pa_nil)))) (pe_one (pe_cmpR op_ge (pv 0) pe_int (nomark _))))))), ?_⟩
    cases lf_kd hl with
    | int i =>
      refine ⟨_, rfl, _, .ty "int", _, _, true, rfl, .ty _, .base (.int i), kit_ty (by decide +kernel), true, rfl, iteT ?_⟩
      refine ⟨_, rfl, _, .ty "bool", _, _, false, rfl, .ty _, .base (.int i), kit_ty (by decide +kernel), false, rfl, true, rfl, iteT ?_⟩
      exact ⟨_, rfl, _, _, rfl, rfl, q⟩
    | bl b =>
      refine ⟨_, rfl, _, .ty "int", _, _, true, rfl, .ty _, .base (.bl b), kit_ty (by decide +kernel), true, rfl, iteT ?_⟩
      refine ⟨_, rfl, _, .ty "bool", _, _, true, rfl, .ty _, .base (.bl b), kit_ty (by decide +kernel), true, rfl, false, rfl, iteF ?_⟩
      exact q
    | tup ht hl hx =>
      refine ⟨_, rfl, _, .ty "int", _, _, false, rfl, .ty _, ty_tup ht, kit_ty (by decide +kernel), false, rfl, iteF ?_⟩
      exact q
    | oth t ht ty n1 n2 n3 =>
      have q' : Q (.bl false) H := by rw [numD_oth n1] at q; exact q
      rcases ht with rfl | rfl | rfl | rfl
      · exact ⟨_, rfl, _, .ty "int", _, _, false, rfl, .ty _, ty, kit_ty (by decide +kernel), false, rfl, iteF q'⟩
      · exact ⟨_, rfl, _, .ty "int", _, _, false, rfl, .ty _, ty, kit_ty (by decide +kernel), false, rfl, iteF q'⟩
      · exact ⟨_, rfl, _, .ty "int", _, _, false, rfl, .ty _, ty, kit_ty (by decide +kernel), false, rfl, iteF q'⟩
      · exact ⟨_, rfl, _, .ty "int", _, _, false, rfl, .ty _, ty, kit_ty (by decide +kernel), false, rfl, iteF q'⟩
/-- is_number_of of a leaf -/
def spIsNumOf (K : PySem.W.Frag) (C : Addr) : Sp := fun vs H Q _ => ∃ (g : Addr) (p n : Int) (v : V) (d : PyData), vs = [.ref g, v] ∧ Gd C H g p n ∧ Lf K H v d ∧ Q (.bl (okE p d)) H
theorem ok_is_number_of (T : Tx K mg) : FnOk P w K mg base CX0 2 T.f_is_number_of T.d_is_number_of ["ground", "value"] (spIsNumOf K T.C_Ground) := by
  have G_is_number := ok_is_numD (P := P) (w := w) (base := base) T
  have G_Ground_p := ok_p (P := P) (w := w) (base := base) T
  refine T.F_is_number_of.ok sc_is_number_of (fun vs H Q E h => ?_) (fun cdv A outer s H vs Q E hr h => ?_)
  · obtain ⟨g, p, n, v, d, rfl, _⟩ := h
    rfl
  · obtain ⟨g, p, n, v, d, rfl, hg, hl, q⟩ := h
    refine ⟨_, (pss_one (ps_ret (pe_and (pe_call G_is_number (hr.mono (by decide)) (by rfl) T.g_is_number T.F_is_number.kp T.b_is_number .nil pass0 (pa_cons (pv 1) pa_nil)) (pe_one (pe_cmpR op_lt (pv 1) (pe_meth0 (pv 0) T.cl_Ground T.m_Ground_p G_Ground_p (hr.mono (by decide)) T.b_Ground_p .nil pass0) (nomark _)))))), ?_⟩
    refine ⟨v, rfl, v, d, rfl, hl, numD d, rfl, ?_⟩
    cases hn : numD d with
    | true =>
      refine iteT ?_
      cases lf_kd hl with
      | int i =>
        obtain ⟨dx, hi⟩ := id hg
        refine ⟨.int i, rfl, .ref g, rfl, g, dx, _, rfl, hi, no_p _ _, g, p, n, rfl, hg, _, _, rfl, rfl, ?_⟩
        have e : okE p (.int i) = decide (i < p) := by
          show (decide (0 ≤ i) && decide (i < p)) = _
          rw [show decide (0 ≤ i) = true from hn, Bool.true_and]
        rw [e] at q
        exact q
      | bl b => cases hn
      | tup _ _ _ => cases hn
      | oth t ht ty n1 n2 n3 => rw [numD_oth n1] at hn; cases hn
    | false =>
      refine iteF ?_
      rw [okE_oth hn] at q
      exact q
/-- what row_fault answers: nothing, or a tuple -/
inductive PathAt (K : PySem.W.Frag) (H : Hp) : Option (List Int) → V → Prop
  | non : PathAt K H none .non
  | path {t : Addr} {r : List Int} : SqT K H t (r.map V.int) → PathAt K H (some r) (.ref t)
def spFault (K : PySem.W.Frag) (C : Addr) : Sp := fun vs H Q _ => ∃ (g : Addr) (p : Int) (n : Nat) (v : V) (d : PyData), vs = [.ref g, v] ∧ Gd C H g p n ∧ Vl K H v d ∧
  ∀ x H', Same H H' → PathAt K H' (fault p n d) x → Q x H'
theorem ok_row_fault (T : Tx K mg) : FnOk P w K mg base CX0 3 T.f_row_fault T.d_row_fault ["ground", "value"] (spFault K T.C_Ground) := by
  have G_is_number_of := ok_is_number_of (P := P) (w := w) (base := base) T
  have G_Ground_n := ok_n (P := P) (w := w) (base := base) T
  refine T.F_row_fault.ok sc_row_fault (fun vs H Q E h => ?_) (fun cdv A outer s H vs Q E hr h => ?_)
  · obtain ⟨g, p, n, v, d, rfl, _⟩ := h
    rfl
  · obtain ⟨g, p, n, v, d, rfl, hg, hl, q⟩ := h
    refine ⟨_, (pss_cons (ps_if (PW.pt (pw_or (pt_not (pt_val (pe_callB call_isi (by rfl) T.z_isinstance (by decide +kernel) (pa_cons (pv 1) (pa_cons (pe_bltn (v := .ty "tuple") (by rfl) T.z_tuple (by decide +kernel) rfl) pa_nil))))) (pw_or1 (pt_cmpR op_ne (pe_callB call_len_seq (by rfl) T.z_len PySem.boot_len (pa_cons (pv 1) pa_nil)) (pe_meth0 (pv 0) T.cl_Ground T.m_Ground_n G_Ground_n (hr.mono (by decide)) T.b_Ground_n .nil pass0) (nomark _))))) (pss_one (ps_ret (pe_tup pa_nil))) pss_nil)
    (pss_cons (ps_for PassesOwn.never rfl (pi_enumM (by rfl) T.z_enumerate (pa_cons (pv 1) pa_nil)) (pg_tup rfl (pgs_cons (pg_name (i := 2) sc_row_fault.nd rfl (Or.inl rfl)) (pgs_cons (pg_name (i := 3) sc_row_fault.nd rfl (Or.inl rfl)) pgs_nil)))
    (pss_one (ps_if (pt_not (pt_val (pe_call G_is_number_of (hr.mono (by decide)) (by rfl) T.g_is_number_of T.F_is_number_of.kp T.b_is_number_of .nil pass0 (pa_cons (pv 0) (pa_cons (pv 3) pa_nil))))) (pss_one (ps_ret (pe_tup (pa_cons (pv 2) pa_nil)))) pss_nil)))
    (pss_one (ps_ret pe_non)))), ?_⟩
    obtain ⟨dx, hi⟩ := id hg
    have bad : fault p n d = some [] → ∀ t, H t = none → Q (.ref t) (upd H t (.tup [])) := fun e t ht => q _ _ (same_new ht) (by rw [e]; exact .path (r := []) (.inl (.inl upd_same)))
    cases vl_kd hl with
    | int i => exact ⟨_, rfl, _, .ty "tuple", _, _, false, rfl, .ty _, .base (.int i), kit_ty (by decide +kernel), false, rfl, iteT (iteT ⟨Nat.zero_le _, fun t ht => bad rfl t ht⟩)⟩
    | bl b => exact ⟨_, rfl, _, .ty "tuple", _, _, false, rfl, .ty _, .base (.bl b), kit_ty (by decide +kernel), false, rfl, iteT (iteT ⟨Nat.zero_le _, fun t ht => bad rfl t ht⟩)⟩
    | oth t ht ty n1 n2 n3 =>
      have hf : fault p n d = some [] := by
        cases d with
        | tuple ds => exact absurd rfl (n3 ds)
        | _ => rfl
      rcases ht with rfl | rfl | rfl | rfl
      all_goals exact ⟨_, rfl, _, .ty "tuple", _, _, false, rfl, .ty _, ty, kit_ty (by decide +kernel), false, rfl, iteT (iteT ⟨Nat.zero_le _, fun t ht => bad hf t ht⟩)⟩
    | @tup a xs ds ht hlen hx =>
      refine ⟨_, rfl, _, .ty "tuple", _, _, true, rfl, .ty _, ty_tup ht, kit_ty (by decide +kernel), true, rfl, iteF ?_⟩
      refine ⟨.ref a, rfl, a, xs, rfl, .inr ht, .ref g, rfl, g, dx, _, rfl, hi, no_n _ _, g, p, n, rfl, hg, rfl, _, rfl, ?_⟩
      show (if (!decide (V.int (xs.length : Int) = V.int (n : Int))) = true then _ else _)
      by_cases hn : xs.length = n
      · have e1 : decide (V.int (xs.length : Int) = V.int (n : Int)) = true := decide_eq_true (by rw [hn])
        rw [e1]
        refine iteF ?_
        have hd : ds.length = n := by rw [← hlen]; exact hn
        have hfe : fault p n (.tuple ds) = (ds.findIdx? fun e => !okE p e).map fun k => [(k : Int)] := by
          show (if ds.length = n then _ else _) = _
          rw [if_pos hd]
        refine ⟨.ref a, rfl, false, a, xs, rfl, ht, for_enumM (K := K) (k := false) (a := a) (xs := xs) (fun i σ H' => ∃ v1 v2 : Option V, σ = [some (.ref g), some (.ref a), v1, v2] ∧ Same H H' ∧ ∀ (j : Nat) (e : PyData), j < i → ds[j]? = some e → okE p e = true) ⟨none, none, rfl, Same.refl H, fun j _ hj => absurd hj (Nat.not_lt_zero j)⟩ (fun i σ H' ⟨_, _, _, sm, _⟩ => sameT sm ht) ?_ ?_⟩
        · rintro i x Z σ H1 hxi ⟨v1, v2, rfl, sm, hj⟩ hZ
          have sZ : Same H1 (upd H1 Z (.tup [.int (i : Nat), x])) := same_new hZ
          obtain ⟨e, he, hle⟩ := hx i x hxi
          have hle1 := hle.mono (sm.trans sZ)
          have hg1 := hg.mono (sm.trans sZ)
          refine ⟨Z, [.int (i : Nat), x], rfl, .inl (.inl upd_same), rfl, .int (i : Nat), [x], rfl, x, [], rfl, rfl, ?_⟩
          refine ⟨.ref g, rfl, x, rfl, g, p, n, x, e, rfl, hg1, hle1, _, rfl, ?_⟩
          cases ho : okE p e with
          | true =>
            refine iteF ?_
            refine ⟨_, _, rfl, sm.trans sZ, fun j e' hj' hd' => ?_⟩
            rcases Nat.lt_succ_iff_lt_or_eq.mp hj' with h1 | h1
            · exact hj j e' h1 hd'
            · subst h1
              rw [he] at hd'
              cases hd'
              exact ho
          | false =>
            refine iteT ?_
            refine ⟨.int (i : Nat), rfl, (by show 1 ≤ sizeLine; decide), fun t ht' => ?_⟩
            refine q _ _ ((sm.trans sZ).trans (same_new ht')) ?_
            have hk : ds.findIdx? (fun e => !okE p e) = some i := by
              rw [List.findIdx?_eq_some_iff_getElem]
              obtain ⟨hi', hie⟩ := List.getElem?_eq_some_iff.mp he
              refine ⟨hi', by rw [hie, ho]; rfl, fun j hj1 => ?_⟩
              rw [hj j _ hj1 (List.getElem?_eq_getElem (Nat.lt_trans hj1 hi'))]
              decide
            rw [hfe, hk]
            exact .path (r := [(i : Int)]) (.inl (.inl upd_same))
        · rintro σ H1 ⟨v1, v2, rfl, sm, hj⟩
          refine q _ _ sm ?_
          have hk : ds.findIdx? (fun e => !okE p e) = none := by
            rw [List.findIdx?_eq_none_iff]
            intro e he
            obtain ⟨j, hj', rfl⟩ := List.getElem_of_mem he
            rw [hj j _ (by rw [hlen]; exact hj') (List.getElem?_eq_getElem hj')]
            rfl
          rw [hfe, hk]
          exact .non
      · have e1 : decide (V.int (xs.length : Int) = V.int (n : Int)) = false := decide_eq_false fun z => hn (by have := V.int.inj z; omega)
        rw [e1]
        refine iteT ?_
        refine ⟨Nat.zero_le _, fun t ht => bad ?_ t ht⟩
        show (if ds.length = n then _ else _) = _
        rw [if_neg (by rw [← hlen]; exact hn)]
theorem ok_BadRow_init (T : Tx K mg) : FnOk P w K mg base CX0 1 T.f_BadRow_init T.d_BadRow_init ["self", "path"] (spPath K T.C_BadRow) := by
  refine T.F_BadRow_init.ok sc_BadRow_init (fun vs H Q E h => ?_) (fun cdv A outer s H vs Q E hr h => ?_)
  · obtain ⟨a, t, ys, rfl, _⟩ := h
    rfl
  · obtain ⟨a, t, ys, rfl, o, np, ha, ht, q⟩ := h
    refine ⟨_, (pss_one (ps_ost (pv 0) (pe_callTy call_tuple_of (by rfl) T.z_tuple (by decide +kernel) (pa_cons (pv 1) pa_nil)))), ?_⟩
    exact ⟨.ref t, rfl, t, ys, rfl, .inr ⟨ht, .ref a, rfl, a, _, rfl, o, np, .inl ⟨ha, q⟩⟩⟩
/-- check_row: nothing for a row; else BadRow with the path -/
def spCheck (K : PySem.W.Frag) (C B : Addr) : Sp := fun vs H Q E => ∃ (g : Addr) (p : Int) (n : Nat) (v : V) (d : PyData), vs = [.ref g, v] ∧ Gd C H g p n ∧ Vl K H v d ∧
  (fault p n d = none → ∀ H', Same H H' → Q .non H') ∧ ∀ r, fault p n d = some r → ∀ cls dd H', Thr K B H r cls dd H' → E cls dd H'
theorem ok_check_row (T : Tx K mg) : FnOk P w K mg base (L2.CX P w) 5 T.f_check_row T.d_check_row ["ground", "value"] (spCheck K T.C_Ground T.C_BadRow) := by
  have G_row_fault := ok_row_fault (P := P) (w := w) (base := base) T
  have G_BadRow_init := ok_BadRow_init (P := P) (w := w) (base := base) T
  refine T.F_check_row.okX sc_check_row (fun vs H Q E h => ?_) (fun cdv A outer s H vs Q E hr h => ?_)
  · obtain ⟨g, p, n, v, d, rfl, _⟩ := h
    rfl
  · obtain ⟨g, p, n, v, d, rfl, hg, hl, q, qe⟩ := h
    refine ⟨_, (pss_cons (ps_set (i := 2) sc_check_row.nd rfl (Or.inl rfl) (pe_call G_row_fault (hr.mono (by decide)) (by rfl) T.g_row_fault T.F_row_fault.kp T.b_row_fault .nil pass0 (pa_cons (pv 0) (pa_cons (pv 1) pa_nil))))
    (pss_one (ps_if (pt_cmpR op_notN (pv 2) pe_non (nomark _)) (pss_one (ps_raise rfl (takes_of (E := E) rfl rfl rfl rfl) (pmk_oex T.y_BadRow.ox T.y_BadRow.iC T.y_BadRow.tI G_BadRow_init (hr.mono (by decide)) T.b_BadRow_init .nil pass0 rfl T.y_BadRow.g (pa_cons (pv 2) pa_nil)))) pss_nil))), ?_⟩
    refine ⟨.ref g, rfl, v, rfl, g, p, n, v, d, rfl, hg, hl, fun x H1 sm hx => ?_⟩
    generalize hf : fault p n d = f at hx q qe
    cases hx with
    | non => exact ⟨.non, rfl, rfl, _, rfl, iteF (q rfl _ sm)⟩
    | @path t r ht =>
      refine ⟨.ref t, rfl, rfl, _, rfl, iteT ?_⟩
      refine ⟨.ref t, rfl, (by show 1 ≤ 1000; decide), fun a ha => ?_⟩
      exact thrown T.y_BadRow.ox T.y_BadRow.np sm ht ha fun cls dd H' th => qe r rfl cls dd H' th
end

/-! ### data that is short enough to be shown -/
structure Fit (d : PyData) : Prop where
  sh : d.showable = true
  dp : d.depth ≤ 10
  ls : d.leavesShort 40 = true
  bk : d.bulk ≤ 100
theorem Fit.len {d : PyData} (h : Fit d) : d.shown.length ≤ sizeLine := by
  have h1 := PyData.shown_le_bulk 40 (by decide) d h.ls
  have h2 := h.bk
  rw [sizeLine_eq]
  omega
theorem fit_int {i : Int} (h0 : 0 ≤ i) (h : i < 1000000) : Fit (.int i) := by
  have s := shw_int h0 h
  refine ⟨s.sh, Nat.le_trans s.dp (by decide), ?_, Nat.le_trans s.bk (by decide)⟩
  have := s.ls
  simp only [PyData.leavesShort, decide_eq_true_eq] at this ⊢
  omega
theorem shw_fits : ∀ {ns : List Int}, (∀ x ∈ ns, 0 ≤ x ∧ x < 1000000) → PyData.showableAll (ns.map PyData.int) = true ∧ PyData.depthAll (ns.map PyData.int) ≤ 1 ∧ PyData.leavesShortAll 40 (ns.map PyData.int) = true ∧ PyData.bulkAll (ns.map PyData.int) = ns.length
  | [], _ => ⟨rfl, by simp [PyData.depthAll], rfl, by simp [PyData.bulkAll]⟩
  | n :: ns, h => by
    have hn := h n (by simp)
    have f := fit_int hn.1 hn.2
    obtain ⟨a1, a2, a3, a4⟩ := shw_fits (ns := ns) fun x hx => h x (by simp [hx])
    refine ⟨?_, ?_, ?_, ?_⟩
    · simp only [List.map_cons, PyData.showableAll, f.sh, a1, Bool.and_self]
    · simp only [List.map_cons, PyData.depthAll, PyData.depth]; omega
    · simp only [List.map_cons, PyData.leavesShortAll, f.ls, a3, Bool.and_self]
    · simp only [List.map_cons, PyData.bulkAll, PyData.bulk, a4, List.length_cons]; omega
theorem fit_row {ns : List Int} (h : ∀ x ∈ ns, 0 ≤ x ∧ x < 1000000) (hl : ns.length ≤ 100) : Fit (.tuple (ns.map PyData.int)) := by
  obtain ⟨a1, a2, a3, a4⟩ := shw_fits h
  refine ⟨by simpa only [PyData.showable] using a1, ?_, by simpa only [PyData.leavesShort] using a3, ?_⟩
  · simp only [PyData.depth]; omega
  · simp only [PyData.bulk, a4]; exact hl
theorem fit_list {ns : List Int} (h : ∀ x ∈ ns, 0 ≤ x ∧ x < 1000000) (hl : ns.length ≤ 100) : Fit (.list (ns.map PyData.int)) := by
  obtain ⟨a1, a2, a3, a4⟩ := shw_fits h
  refine ⟨by simpa only [PyData.showable] using a1, ?_, by simpa only [PyData.leavesShort] using a3, ?_⟩
  · simp only [PyData.depth]; omega
  · simp only [PyData.bulk, a4]; exact hl
theorem fit_in {ns : List Int} (h : ∀ x ∈ ns, 0 ≤ x ∧ x < 1000000) (hl : ns.length ≤ 90) : Fit (.tuple [.tuple (ns.map PyData.int)]) ∧ Fit (.list [.tuple (ns.map PyData.int)]) := by
  obtain ⟨a1, a2, a3, a4⟩ := shw_fits h
  refine ⟨⟨?_, ?_, ?_, ?_⟩, ⟨?_, ?_, ?_, ?_⟩⟩
  all_goals first
    | (simp only [PyData.showable, PyData.showableAll, a1, Bool.and_self]; done)
    | (simp only [PyData.leavesShort, PyData.leavesShortAll, a3, Bool.and_self]; done)
    | (simp only [PyData.depth, PyData.depthAll]; omega)
    | (simp only [PyData.bulk, PyData.bulkAll, a4]; omega)
/-- as an entry among whole numbers -/
structure FitE (d : PyData) : Prop where
  sh : d.showable = true
  dp : d.depth ≤ 8
  ls : d.leavesShort 40 = true
  bk : d.bulk ≤ 20
theorem FitE.fit {d : PyData} (h : FitE d) : Fit d := ⟨h.sh, Nat.le_trans h.dp (by decide), h.ls, Nat.le_trans h.bk (by decide)⟩
theorem fitE_int {i : Int} (h0 : 0 ≤ i) (h : i < 1000000) : FitE (.int i) := by
  have f := fit_int h0 h
  exact ⟨f.sh, by simp only [PyData.depth]; omega, f.ls, by simp only [PyData.bulk]; omega⟩
theorem fit_mix {d : PyData} (hd : FitE d) {post : List Int} (hp : ∀ x ∈ post, 0 ≤ x ∧ x < 1000000) : ∀ {pre : List Int}, (∀ x ∈ pre, 0 ≤ x ∧ x < 1000000) →
    PyData.showableAll (pre.map PyData.int ++ d :: post.map PyData.int) = true ∧ PyData.depthAll (pre.map PyData.int ++ d :: post.map PyData.int) ≤ 8 ∧ PyData.leavesShortAll 40 (pre.map PyData.int ++ d :: post.map PyData.int) = true ∧ PyData.bulkAll (pre.map PyData.int ++ d :: post.map PyData.int) ≤ pre.length + post.length + 21
  | [], _ => by
    obtain ⟨a1, a2, a3, a4⟩ := shw_fits hp
    have b1 := hd.dp
    have b2 := hd.bk
    refine ⟨?_, ?_, ?_, ?_⟩
    · simp only [List.map_nil, List.nil_append, PyData.showableAll, hd.sh, a1, Bool.and_self]
    · simp only [List.map_nil, List.nil_append, PyData.depthAll]; omega
    · simp only [List.map_nil, List.nil_append, PyData.leavesShortAll, hd.ls, a3, Bool.and_self]
    · simp only [List.map_nil, List.nil_append, PyData.bulkAll, a4, List.length_nil]; omega
  | n :: ns, h => by
    have hn := h n (by simp)
    have f := fit_int hn.1 hn.2
    obtain ⟨a1, a2, a3, a4⟩ := fit_mix hd hp (pre := ns) fun x hx => h x (by simp [hx])
    refine ⟨?_, ?_, ?_, ?_⟩
    · simp only [List.map_cons, List.cons_append, PyData.showableAll, f.sh, a1, Bool.and_self]
    · simp only [List.map_cons, List.cons_append, PyData.depthAll, PyData.depth]; omega
    · simp only [List.map_cons, List.cons_append, PyData.leavesShortAll, f.ls, a3, Bool.and_self]
    · simp only [List.map_cons, List.cons_append, PyData.bulkAll, PyData.bulk, List.length_cons]; omega
theorem fit_mixT {d : PyData} (hd : FitE d) {pre post : List Int} (h1 : ∀ x ∈ pre, 0 ≤ x ∧ x < 1000000) (h2 : ∀ x ∈ post, 0 ≤ x ∧ x < 1000000) (hl : pre.length + post.length ≤ 79) : Fit (.tuple (pre.map PyData.int ++ d :: post.map PyData.int)) := by
  obtain ⟨a1, a2, a3, a4⟩ := fit_mix hd h2 h1
  refine ⟨by simpa only [PyData.showable] using a1, ?_, by simpa only [PyData.leavesShort] using a3, ?_⟩
  · simp only [PyData.depth]; omega
  · simp only [PyData.bulk]; omega
section
variable {P : Program} {w : World} {K : PySem.W.Frag} {mg : Str → Option Value} {base : Heap}
/-- something odd -/
def spOdd (K : PySem.W.Frag) : Sp := fun vs H Q _ => ∃ (G : Hp) (d c : Addr), vs = [.ref d] ∧ Kn G H d c ∧ ∀ (v : V) (e : PyData) (F G' H' : Hp), Same G G' → Kn G' H' d c → Lf K F v e → Same F G' → (∀ b, H b ≠ none → F b = none) → FitE e → Q v H'
theorem ok_odd (T : Tx K mg) : FnOk P w K mg base CX0 3 T.f_l_odd T.d_l_odd ["_law_source_here"] (spOdd K) := by
  have G_l_of := ok_of (P := P) (w := w) (base := base) T
  refine T.F_l_odd.ok sc_l_odd (fun vs H Q E h => ?_) (fun cdv A outer s H vs Q E hr h => ?_)
  · obtain ⟨G, d, c, rfl, _⟩ := h
    rfl
  · obtain ⟨G, d, c, rfl, k, q⟩ := h
    have hu := hu_of hr
    refine ⟨_, (pss_cons (ps_set (i := 1) sc_l_odd.nd rfl (Or.inl rfl) (pe_lst (pa_cons pe_non (pa_cons pe_bl (pa_cons pe_bl (pa_cons (pe_un un_neg pe_int) (pa_cons pe_int (pa_cons (pe_op op_pow pe_int pe_int) (pa_cons pe_str (pa_cons pe_str (pa_cons pe_str (pa_cons (pe_tup pa_nil) (pa_cons (pe_lst pa_nil) (pa_cons pe_dnewK (pa_cons (pe_tup (pa_cons pe_non pa_nil)) (pa_cons (pe_lst (pa_cons (pe_tup pa_nil) pa_nil)) (pa_cons (pe_tup (pa_cons pe_int pa_nil)) (pa_cons (pe_tup (pa_cons (pe_tup (pa_cons pe_int pa_nil)) pa_nil)) (pa_cons (pe_tup (pa_cons (pe_tup (pa_cons pe_int (pa_cons pe_int pa_nil))) pa_nil)) pa_nil)))))))))))))))))))
    (pss_one (ps_ret (pe_call G_l_of (hr.mono (by decide)) (by rfl) T.g_l_of T.F_l_of.kp T.b_l_of .nil pass0 (pa_cons (pv 0) (pa_cons (pe_op op_cat (pv 1) (pe_lst (pa_cons (pe_disp (pps_cons pe_int pe_int pps_nil) (by rfl) (by rfl) (fun z => by cases z) (by decide)) pa_nil))) pa_nil)))))), ?_⟩
    refine ⟨1, rfl, 10, 30, rfl, rfl, (by unfold CPow; decide), ?_⟩
    refine ⟨Nat.zero_le _, fun t1 h1 => ?_⟩
    have k1 := k.new (o := .tup []) h1
    have w1 := (Same.refl H).trans (same_new (o := .tup []) h1)
    have hh1 : H t1 = none := (Same.refl H).free h1
    have s1 : Same G (upd G t1 (.tup [])) := same_new (k.free h1)
    have f1 : (upd G t1 (.tup [])) t1 = some (.tup []) := upd_same
    generalize upd G t1 (.tup []) = G1 at k1 s1 f1
    refine ⟨Nat.zero_le _, fun t2 h2 => ?_⟩
    have k2 := k1.new (o := .lst []) h2
    have w2 := w1.trans (same_new (o := .lst []) h2)
    have hh2 : H t2 = none := w1.free h2
    have s2 : Same G1 (upd G1 t2 (.lst [])) := same_new (k1.free h2)
    have f2 : (upd G1 t2 (.lst [])) t2 = some (.lst []) := upd_same
    generalize upd G1 t2 (.lst []) = G2 at k2 s2 f2
    intro t3 h3
    have k3 := k2.new (o := .dK []) h3
    have w3 := w2.trans (same_new (o := .dK []) h3)
    have hh3 : H t3 = none := w2.free h3
    have s3 : Same G2 (upd G2 t3 (.dK [])) := same_new (k2.free h3)
    have f3 : (upd G2 t3 (.dK [])) t3 = some (.dK []) := upd_same
    generalize upd G2 t3 (.dK []) = G3 at k3 s3 f3
    refine ⟨(by show 1 ≤ sizeLine; decide), fun t4 h4 => ?_⟩
    have k4 := k3.new (o := .tup [.non]) h4
    have w4 := w3.trans (same_new (o := .tup [.non]) h4)
    have hh4 : H t4 = none := w3.free h4
    have s4 : Same G3 (upd G3 t4 (.tup [.non])) := same_new (k3.free h4)
    have f4 : (upd G3 t4 (.tup [.non])) t4 = some (.tup [.non]) := upd_same
    generalize upd G3 t4 (.tup [.non]) = G4 at k4 s4 f4
    refine ⟨Nat.zero_le _, fun t5 h5 => ?_⟩
    have k5 := k4.new (o := .tup []) h5
    have w5 := w4.trans (same_new (o := .tup []) h5)
    have hh5 : H t5 = none := w4.free h5
    have s5 : Same G4 (upd G4 t5 (.tup [])) := same_new (k4.free h5)
    have f5 : (upd G4 t5 (.tup [])) t5 = some (.tup []) := upd_same
    generalize upd G4 t5 (.tup []) = G5 at k5 s5 f5
    refine ⟨(by show 1 ≤ sizeLine; decide), fun t6 h6 => ?_⟩
    have k6 := k5.new (o := .lst [.ref t5]) h6
    have w6 := w5.trans (same_new (o := .lst [.ref t5]) h6)
    have hh6 : H t6 = none := w5.free h6
    have s6 : Same G5 (upd G5 t6 (.lst [.ref t5])) := same_new (k5.free h6)
    have f6 : (upd G5 t6 (.lst [.ref t5])) t6 = some (.lst [.ref t5]) := upd_same
    generalize upd G5 t6 (.lst [.ref t5]) = G6 at k6 s6 f6
    refine ⟨(by show 1 ≤ sizeLine; decide), fun t7 h7 => ?_⟩
    have k7 := k6.new (o := .tup [.int 0]) h7
    have w7 := w6.trans (same_new (o := .tup [.int 0]) h7)
    have hh7 : H t7 = none := w6.free h7
    have s7 : Same G6 (upd G6 t7 (.tup [.int 0])) := same_new (k6.free h7)
    have f7 : (upd G6 t7 (.tup [.int 0])) t7 = some (.tup [.int 0]) := upd_same
    generalize upd G6 t7 (.tup [.int 0]) = G7 at k7 s7 f7
    refine ⟨(by show 1 ≤ sizeLine; decide), fun t8 h8 => ?_⟩
    have k8 := k7.new (o := .tup [.int 0]) h8
    have w8 := w7.trans (same_new (o := .tup [.int 0]) h8)
    have hh8 : H t8 = none := w7.free h8
    have s8 : Same G7 (upd G7 t8 (.tup [.int 0])) := same_new (k7.free h8)
    have f8 : (upd G7 t8 (.tup [.int 0])) t8 = some (.tup [.int 0]) := upd_same
    generalize upd G7 t8 (.tup [.int 0]) = G8 at k8 s8 f8
    refine ⟨(by show 1 ≤ sizeLine; decide), fun t9 h9 => ?_⟩
    have k9 := k8.new (o := .tup [.ref t8]) h9
    have w9 := w8.trans (same_new (o := .tup [.ref t8]) h9)
    have hh9 : H t9 = none := w8.free h9
    have s9 : Same G8 (upd G8 t9 (.tup [.ref t8])) := same_new (k8.free h9)
    have f9 : (upd G8 t9 (.tup [.ref t8])) t9 = some (.tup [.ref t8]) := upd_same
    generalize upd G8 t9 (.tup [.ref t8]) = G9 at k9 s9 f9
    refine ⟨(by show 2 ≤ sizeLine; decide), fun t10 h10 => ?_⟩
    have k10 := k9.new (o := .tup [.int 1, .int 0]) h10
    have w10 := w9.trans (same_new (o := .tup [.int 1, .int 0]) h10)
    have hh10 : H t10 = none := w9.free h10
    have s10 : Same G9 (upd G9 t10 (.tup [.int 1, .int 0])) := same_new (k9.free h10)
    have f10 : (upd G9 t10 (.tup [.int 1, .int 0])) t10 = some (.tup [.int 1, .int 0]) := upd_same
    generalize upd G9 t10 (.tup [.int 1, .int 0]) = G10 at k10 s10 f10
    refine ⟨(by show 1 ≤ sizeLine; decide), fun t11 h11 => ?_⟩
    have k11 := k10.new (o := .tup [.ref t10]) h11
    have w11 := w10.trans (same_new (o := .tup [.ref t10]) h11)
    have hh11 : H t11 = none := w10.free h11
    have s11 : Same G10 (upd G10 t11 (.tup [.ref t10])) := same_new (k10.free h11)
    have f11 : (upd G10 t11 (.tup [.ref t10])) t11 = some (.tup [.ref t10]) := upd_same
    generalize upd G10 t11 (.tup [.ref t10]) = G11 at k11 s11 f11
    refine ⟨(by show 17 ≤ sizeLine; decide), fun t12 h12 => ?_⟩
    have k12 := k11.mono (same_new (o := .lst [.non, .bl true, .bl false, .int (-1), .int 7, .int (10 ^ (30 : Int).toNat), .str "", .str "A", .str "x", .ref t1, .ref t2, .ref t3, .ref t4, .ref t6, .ref t7, .ref t9, .ref t11]) h12)
    have w12 := w11.trans (same_new (o := .lst [.non, .bl true, .bl false, .int (-1), .int 7, .int (10 ^ (30 : Int).toNat), .str "", .str "A", .str "x", .ref t1, .ref t2, .ref t3, .ref t4, .ref t6, .ref t7, .ref t9, .ref t11]) h12)
    refine ⟨.ref d, rfl, .ref t12, rfl, fun t13 h13 => ?_⟩
    refine ⟨upd_same, [(Sum.inl 0, .int 1)], rfl, (by show 1 ≤ 15; decide), ?_⟩
    rw [show mergeK [] [((Sum.inl 0 : Key), V.int 1)] = [(Sum.inl 0, V.int 1)] from rfl, upd_upd]
    have k13 := k12.new (o := .dK [(Sum.inl 0, .int 1)]) h13
    have hh13 : H t13 = none := w12.free h13
    have s13 : Same G11 (upd G11 t13 (.dK [(Sum.inl 0, .int 1)])) := same_new (k12.free h13)
    have f13 : (upd G11 t13 (.dK [(Sum.inl 0, .int 1)])) t13 = some (.dK [(Sum.inl 0, .int 1)]) := upd_same
    have e13 := same_new (o := .dK [(Sum.inl 0, .int 1)]) h13 t12 _ upd_same
    generalize upd G11 t13 (.dK [(Sum.inl 0, .int 1)]) = G13 at k13 s13 f13
    refine ⟨(by show 1 ≤ sizeLine; decide), fun t14 h14 => ?_⟩
    have e14 := same_new (o := .lst [.ref t13]) h14 _ _ e13
    have k14 := k13.mono (same_new (o := .lst [.ref t13]) h14)
    refine ⟨t12, t14, _, [.ref t13], rfl, rfl, e14, upd_same, (by show 17 + 1 ≤ sizeLine; decide), fun t15 h15 => ?_⟩
    have k15 := k14.new (o := .lst ([.non, .bl true, .bl false, .int (-1), .int 7, .int (10 ^ (30 : Int).toNat), .str "", .str "A", .str "x", .ref t1, .ref t2, .ref t3, .ref t4, .ref t6, .ref t7, .ref t9, .ref t11] ++ [.ref t13])) h15
    have s15 : Same G13 (upd G13 t15 (.lst ([.non, .bl true, .bl false, .int (-1), .int 7, .int (10 ^ (30 : Int).toNat), .str "", .str "A", .str "x", .ref t1, .ref t2, .ref t3, .ref t4, .ref t6, .ref t7, .ref t9, .ref t11] ++ [.ref t13]))) := same_new (k14.free h15)
    refine ⟨_, d, c, t15, [.non, .bl true, .bl false, .int (-1), .int 7, .int (10 ^ (30 : Int).toNat), .str "", .str "A", .str "x", .ref t1, .ref t2, .ref t3, .ref t4, .ref t6, .ref t7, .ref t9, .ref t11] ++ [.ref t13], rfl, k15, .inl (.inl upd_same), (by show 0 < 18; decide), (by show 18 ≤ 100000; decide), fun x H' k' hx => ?_⟩
    have k' : Kn G13 H' d c := k'.weak s15
    have z11 := s13
    have z10 := s11.trans z11
    have z9 := s10.trans z10
    have z8 := s9.trans z9
    have z7 := s8.trans z8
    have z6 := s7.trans z7
    have z5 := s6.trans z6
    have z4 := s5.trans z5
    have z3 := s4.trans z4
    have z2 := s3.trans z3
    have z1 := s2.trans z2
    have sG := s1.trans z1
    obtain ⟨F, hF⟩ : ∃ F : Hp, F = fun b => if H b = none then G13 b else none := ⟨_, rfl⟩
    have sF : Same F G13 := fun b o e => by
      subst hF
      dsimp only at e
      split at e
      · exact e
      · cases e
    have oF : ∀ b, H b ≠ none → F b = none := fun b hb => by subst hF; exact if_neg hb
    have iF : ∀ {t : Addr} {o : HO}, H t = none → G13 t = some o → F t = some o := fun {t o} a b => by
      subst hF
      dsimp only
      rw [if_pos a]
      exact b
    have tu : ∀ {t : Addr} {xs : List V}, F t = some (.tup xs) → SqT K F t xs := fun e => .inl (.inl e)
    have li : ∀ {t : Addr} {xs : List V}, F t = some (.lst xs) → SqL K F t xs := fun e => .inl (.inl e)
    have fin : ∀ (y : V) (e : PyData), Lf K F y e → FitE e → Q y H' := fun y e hl hf => q y e _ _ _ sG k' hl sF oF hf
    have pl : ∀ (y : V) (e : PyData), Dp K F y e → e.hasDict = false → FitE e → Q y H' := fun y e hl hn hf => fin y e (.dp hl hn) hf
    simp only [List.cons_append, List.nil_append, List.mem_cons, List.not_mem_nil, or_false] at hx
    rcases hx with rfl | rfl | rfl | rfl | rfl | rfl | rfl | rfl | rfl | rfl | rfl | rfl | rfl | rfl | rfl | rfl | rfl | rfl
    · exact pl _ (.none) (.non) (by decide +kernel) ⟨by decide +kernel, by decide +kernel, by decide +kernel, by decide +kernel⟩
    · exact pl _ (.bool true) (.bl true) (by decide +kernel) ⟨by decide +kernel, by decide +kernel, by decide +kernel, by decide +kernel⟩
    · exact pl _ (.bool false) (.bl false) (by decide +kernel) ⟨by decide +kernel, by decide +kernel, by decide +kernel, by decide +kernel⟩
    · exact pl _ (.int (-1)) (.int _) (by decide +kernel) ⟨by decide +kernel, by decide +kernel, by decide +kernel, by decide +kernel⟩
    · exact pl _ (.int 7) (.int _) (by decide +kernel) ⟨by decide +kernel, by decide +kernel, by decide +kernel, by decide +kernel⟩
    · exact pl _ (.int (10 ^ (30 : Int).toNat)) (.int _) (by decide +kernel) ⟨by decide +kernel, by decide +kernel, by decide +kernel, by decide +kernel⟩
    · exact pl _ (.str "") (.str _) (by decide +kernel) ⟨by decide +kernel, by decide +kernel, by decide +kernel, by decide +kernel⟩
    · exact pl _ (.str "A") (.str _) (by decide +kernel) ⟨by decide +kernel, by decide +kernel, by decide +kernel, by decide +kernel⟩
    · exact pl _ (.str "x") (.str _) (by decide +kernel) ⟨by decide +kernel, by decide +kernel, by decide +kernel, by decide +kernel⟩
    · exact pl _ (.tuple []) (.tup (tu (iF hh1 (z1 _ _ f1))) .nil) (by decide +kernel) ⟨by decide +kernel, by decide +kernel, by decide +kernel, by decide +kernel⟩
    · exact pl _ (.list []) (.lst (li (iF hh2 (z2 _ _ f2))) .nil) (by decide +kernel) ⟨by decide +kernel, by decide +kernel, by decide +kernel, by decide +kernel⟩
    · exact fin _ (.dict []) (.dct (iF hh3 (z3 _ _ f3)) .emp) ⟨by decide +kernel, by decide +kernel, by decide +kernel, by decide +kernel⟩
    · exact pl _ (.tuple [.none]) (.tup (tu (iF hh4 (z4 _ _ f4))) (.cons .non .nil)) (by decide +kernel) ⟨by decide +kernel, by decide +kernel, by decide +kernel, by decide +kernel⟩
    · exact pl _ (.list [.tuple []]) (.lst (li (iF hh6 (z6 _ _ f6))) (.cons (.tup (tu (iF hh5 (z5 _ _ f5))) .nil) .nil)) (by decide +kernel) ⟨by decide +kernel, by decide +kernel, by decide +kernel, by decide +kernel⟩
    · exact pl _ (.tuple [.int 0]) (.tup (tu (iF hh7 (z7 _ _ f7))) (.cons (.int 0) .nil)) (by decide +kernel) ⟨by decide +kernel, by decide +kernel, by decide +kernel, by decide +kernel⟩
    · exact pl _ (.tuple [.tuple [.int 0]]) (.tup (tu (iF hh9 (z9 _ _ f9))) (.cons (.tup (tu (iF hh8 (z8 _ _ f8))) (.cons (.int 0) .nil)) .nil)) (by decide +kernel) ⟨by decide +kernel, by decide +kernel, by decide +kernel, by decide +kernel⟩
    · exact pl _ (.tuple [.tuple [.int 1, .int 0]]) (.tup (tu (iF hh11 (z11 _ _ f11))) (.cons (.tup (tu (iF hh10 (z10 _ _ f10))) (.cons (.int 1) (.cons (.int 0) .nil))) .nil)) (by decide +kernel) ⟨by decide +kernel, by decide +kernel, by decide +kernel, by decide +kernel⟩
    · exact fin _ (.dict [(.int 0, .int 1)]) (.dct (iF hh13 f13) .one) ⟨by decide +kernel, by decide +kernel, by decide +kernel, by decide +kernel⟩
end

section
variable {P : Program} {w : World} {K : PySem.W.Frag} {mg : Str → Option Value} {base : Heap}
/-- what is told: nothing, or the path -/
def dDue : Option (List Int) → PyData
  | none => .list []
  | some r => dRs [r]
theorem shp_due (f : Option (List Int)) : SeqAt.shaped (dDue f) = true := by
  cases f with
  | none => exact shp_rows []
  | some r => exact shp_rows [r]
def spDue (K : PySem.W.Frag) (C : Addr) : Sp := fun vs H Q _ => ∃ (a g : Addr) (p : Int) (n : Nat) (v : V) (d : PyData), vs = [.ref a, v] ∧ Gr C H a g p n ∧ n ≤ 1000 ∧ Vl K H v d ∧
  ∀ x H', Same H H' → Dp K H' x (dDue (fault p n d)) → Q x H'
theorem ok_due (T : Tx K mg) : FnOk P w K mg base CX0 2 T.f_l_due T.d_l_due ["_law_ground", "_law_value"] (spDue K T.C_Ground) := by
  refine T.F_l_due.ok sc_l_due (fun vs H Q E h => ?_) (fun cdv A outer s H vs Q E hr h => ?_)
  · obtain ⟨a, g, p, n, v, d, rfl, _⟩ := h
    rfl
  · obtain ⟨aG, g, p, n, v, d, rfl, gr, n1, hl, q⟩ := h
    have hu := hu_of hr
    refine ⟨_, (pss_cons (ps_if (PW.pt (pw_or (pt_not (pt_val (pe_callB call_isi (by rfl) T.z_isinstance (by decide +kernel) (pa_cons (pv 1) (pa_cons (pe_bltn (v := .ty "tuple") (by rfl) T.z_tuple (by decide +kernel) rfl) pa_nil))))) (pw_or1 (pt_cmpR op_ne (pe_callB call_len_seq (by rfl) T.z_len PySem.boot_len (pa_cons (pv 1) pa_nil)) (pe_dget hu (pv 0) pe_str (fun _ _ => rfl)) (nomark _))))) (pss_one (ps_ret (pe_lst (pa_cons (pe_tup pa_nil) pa_nil)))) pss_nil)
    (pss_cons (ps_for PassesOwn.never rfl (pi_range1 rfl T.z_range (pa_cons (pe_callB call_len_seq (by rfl) T.z_len PySem.boot_len (pa_cons (pv 1) pa_nil)) pa_nil)) (pg_name (i := 2) sc_l_due.nd rfl (Or.inl rfl))
    (pss_one (ps_if (PW.pt (pw_or (pt_val (pe_callB call_isi (by rfl) T.z_isinstance (by decide +kernel) (pa_cons (pe_ix ix_tup (pv 1) (pv 2) (fun _ _ => rfl)) (pa_cons (pe_bltn (v := .ty "bool") (by rfl) T.z_bool (by decide +kernel) rfl) pa_nil)))) (pw_or (pt_not (pt_val (pe_callB call_isi (by rfl) T.z_isinstance (by decide +kernel) (pa_cons (pe_ix ix_tup (pv 1) (pv 2) (fun _ _ => rfl)) (pa_cons (pe_bltn (v := .ty "int") (by rfl) T.z_int (by decide +kernel) rfl) pa_nil))))) (pw_or (pt_cmpR op_lt (pe_ix ix_tup (pv 1) (pv 2) (fun _ _ => rfl)) pe_int (nomark _)) (pw_or1 (pt_cmpR op_ge (pe_ix ix_tup (pv 1) (pv 2) (fun _ _ => rfl)) (pe_dget hu (pv 0) pe_str (fun _ _ => rfl)) (nomark _))))))) (pss_one (ps_ret (pe_lst (pa_cons (pe_tup (pa_cons (pv 2) pa_nil)) pa_nil)))) pss_nil)))
    (pss_one (ps_ret (pe_lst pa_nil))))), ?_⟩
    have lone : ∀ {H1 : Hp} {t l : Addr} {r : List Int}, Same H H1 → H1 t = none → (upd H1 t (.tup (r.map V.int))) l = none → fault p n d = some r → Q (.ref l) (upd (upd H1 t (.tup (r.map V.int))) l (.lst [.ref t])) := fun {H1 t l r} sm ht hl' hf => by
      refine q _ _ ((sm.trans (same_new ht)).trans (same_new hl')) ?_
      rw [hf]
      refine .lst (.inl (.inl upd_same)) (.cons (dp_row (.inl (.inl ?_))) .nil)
      exact same_new hl' _ _ upd_same
    have bad : fault p n d = some [] → ∀ t, H t = none → ∀ l, (upd H t (.tup [])) l = none → Q (.ref l) (upd (upd H t (.tup [])) l (.lst [.ref t])) := fun hf t ht l hl' => lone (r := []) (Same.refl H) ht hl' hf
    cases vl_kd hl with
    | int i => exact ⟨_, rfl, _, .ty "tuple", _, _, false, rfl, .ty _, .base (.int i), kit_ty (by decide +kernel), false, rfl, iteT (iteT ⟨Nat.zero_le _, fun t ht => ⟨(by show 1 ≤ sizeLine; decide), fun l hl' => bad rfl t ht l hl'⟩⟩)⟩
    | bl b => exact ⟨_, rfl, _, .ty "tuple", _, _, false, rfl, .ty _, .base (.bl b), kit_ty (by decide +kernel), false, rfl, iteT (iteT ⟨Nat.zero_le _, fun t ht => ⟨(by show 1 ≤ sizeLine; decide), fun l hl' => bad rfl t ht l hl'⟩⟩)⟩
    | oth t ht ty n1 n2 n3 =>
      have hf : fault p n d = some [] := by
        cases d with
        | tuple ds => exact absurd rfl (n3 ds)
        | _ => rfl
      rcases ht with rfl | rfl | rfl | rfl
      all_goals exact ⟨_, rfl, _, .ty "tuple", _, _, false, rfl, .ty _, ty, kit_ty (by decide +kernel), false, rfl, iteT (iteT ⟨Nat.zero_le _, fun t ht => ⟨(by show 1 ≤ sizeLine; decide), fun l hl' => bad hf t ht l hl'⟩⟩)⟩
    | @tup a xs ds ht hlen hx =>
      refine ⟨_, rfl, _, .ty "tuple", _, _, true, rfl, .ty _, ty_tup ht, kit_ty (by decide +kernel), true, rfl, iteF ?_⟩
      refine ⟨.ref a, rfl, a, xs, rfl, .inr ht, .ref aG, rfl, aG, _, rfl, gr_n gr.dk, rfl, _, rfl, ?_⟩
      show (if (!decide (V.int (xs.length : Int) = V.int (n : Int))) = true then _ else _)
      by_cases hn : xs.length = n
      · have e1 : decide (V.int (xs.length : Int) = V.int (n : Int)) = true := decide_eq_true (by rw [hn])
        rw [e1]
        refine iteF ?_
        have hd : ds.length = n := by rw [← hlen]; exact hn
        have hfe : fault p n (.tuple ds) = (ds.findIdx? fun e => !okE p e).map fun k => [(k : Int)] := by
          show (if ds.length = n then _ else _) = _
          rw [if_pos hd]
        refine ⟨.ref a, rfl, a, xs, rfl, .inr ht, xs.length, rfl, by omega, by omega, for_range (lo := 0) (n := (xs.length : Int).toNat) (fun i σ H' => ∃ v1 : Option V, σ = [some (.ref aG), some (.ref a), v1] ∧ H' = H ∧ ∀ (j : Nat) (e : PyData), j < i → ds[j]? = some e → okE p e = true) ⟨none, rfl, rfl, fun j _ hj => absurd hj (Nat.not_lt_zero j)⟩ ?_ ?_⟩
        · rintro i σ H1 hi ⟨v1, rfl, rfl, hj⟩
          have hi' : i < xs.length := by omega
          have hxi := List.getElem?_eq_getElem hi'
          obtain ⟨e, he, hle⟩ := hx i _ hxi
          generalize xs[i] = x at hxi hle
          have ax : atI xs (0 + (i : Int)) = some x := by
            rw [Int.zero_add]
            exact atI_nat hxi
          have next : okE p e = true → ∃ v1 : Option V, [some (.ref aG), some (.ref a), some (V.int (0 + (i : Int)))] = [some (.ref aG), some (.ref a), v1] ∧ H1 = H1 ∧ ∀ (j : Nat) (e : PyData), j < i + 1 → ds[j]? = some e → okE p e = true := fun ho => by
            refine ⟨_, rfl, rfl, fun j e' hj' hd' => ?_⟩
            rcases Nat.lt_succ_iff_lt_or_eq.mp hj' with h1 | h1
            · exact hj j e' h1 hd'
            · subst h1
              rw [he] at hd'
              cases hd'
              exact ho
          have stop : okE p e = false → tRet (tLst (tCons (tTup (tCons (tVar 2) tNil)) tNil)) { nx := fun _ H' => Q .non H', rt := Q } [some (.ref aG), some (.ref a), some (V.int (0 + (i : Int)))] H1 := fun ho => by
            refine ⟨.int (0 + (i : Int)), rfl, (by show 1 ≤ sizeLine; decide), fun t ht' => ⟨(by show 1 ≤ sizeLine; decide), fun l hl' => ?_⟩⟩
            have hk : ds.findIdx? (fun e => !okE p e) = some i := by
              rw [List.findIdx?_eq_some_iff_getElem]
              obtain ⟨hi', hie⟩ := List.getElem?_eq_some_iff.mp he
              refine ⟨hi', by rw [hie, ho]; rfl, fun j hj1 => ?_⟩
              rw [hj j _ hj1 (List.getElem?_eq_getElem (Nat.lt_trans hj1 hi'))]
              decide
            have hf : fault p n (.tuple ds) = some [0 + (i : Int)] := by
              rw [hfe, hk, Int.zero_add]
              rfl
            exact lone (r := [0 + (i : Int)]) (Same.refl H1) ht' hl' hf
          cases lf_kd hle with
          | int z =>
            refine ⟨.ref a, rfl, .int (0 + (i : Int)), rfl, a, xs, _, _, rfl, rfl, ht, ax, _, .ty "bool", _, _, false, rfl, .ty _, .base (.int z), kit_ty (by decide +kernel), false, rfl, iteF ?_⟩
            refine ⟨.ref a, rfl, .int (0 + (i : Int)), rfl, a, xs, _, _, rfl, rfl, ht, ax, _, .ty "int", _, _, true, rfl, .ty _, .base (.int z), kit_ty (by decide +kernel), true, rfl, iteF ?_⟩
            refine ⟨.ref a, rfl, .int (0 + (i : Int)), rfl, a, xs, _, _, rfl, rfl, ht, ax, _, 0, rfl, rfl, _, rfl, ?_⟩
            by_cases h0 : z < 0
            · rw [decide_eq_true h0]
              refine iteT (iteT (stop ?_))
              show (decide (0 ≤ z) && decide (z < p)) = false
              rw [decide_eq_false (by omega : ¬ 0 ≤ z), Bool.false_and]
            · rw [decide_eq_false h0]
              refine iteF ?_
              refine ⟨.ref a, rfl, .int (0 + (i : Int)), rfl, a, xs, _, _, rfl, rfl, ht, ax, .ref aG, rfl, aG, _, rfl, gr_p gr.dk, _, p, rfl, rfl, _, rfl, ?_⟩
              by_cases h1 : z ≥ p
              · rw [decide_eq_true h1]
                refine iteT (stop ?_)
                show (decide (0 ≤ z) && decide (z < p)) = false
                rw [decide_eq_false (by omega : ¬ z < p), Bool.and_false]
              · rw [decide_eq_false h1]
                refine iteF (next ?_)
                show (decide (0 ≤ z) && decide (z < p)) = true
                rw [decide_eq_true (by omega : 0 ≤ z), decide_eq_true (by omega : z < p)]
                rfl
          | bl b =>
            exact ⟨.ref a, rfl, .int (0 + (i : Int)), rfl, a, xs, _, _, rfl, rfl, ht, ax, _, .ty "bool", _, _, true, rfl, .ty _, .base (.bl b), kit_ty (by decide +kernel), true, rfl, iteT (iteT (stop rfl))⟩
          | tup ht2 _ _ =>
            refine ⟨.ref a, rfl, .int (0 + (i : Int)), rfl, a, xs, _, _, rfl, rfl, ht, ax, _, .ty "bool", _, _, false, rfl, .ty _, ty_tup ht2, kit_ty (by decide +kernel), false, rfl, iteF ?_⟩
            exact ⟨.ref a, rfl, .int (0 + (i : Int)), rfl, a, xs, _, _, rfl, rfl, ht, ax, _, .ty "int", _, _, false, rfl, .ty _, ty_tup ht2, kit_ty (by decide +kernel), false, rfl, iteT (iteT (stop rfl))⟩
          | oth t ht2 ty m1 m2 m3 =>
            have st := stop (okE_oth (numD_oth m1))
            rcases ht2 with rfl | rfl | rfl | rfl
            all_goals
              refine ⟨.ref a, rfl, .int (0 + (i : Int)), rfl, a, xs, _, _, rfl, rfl, ht, ax, _, .ty "bool", _, _, false, rfl, .ty _, ty, kit_ty (by decide +kernel), false, rfl, iteF ?_⟩
              exact ⟨.ref a, rfl, .int (0 + (i : Int)), rfl, a, xs, _, _, rfl, rfl, ht, ax, _, .ty "int", _, _, false, rfl, .ty _, ty, kit_ty (by decide +kernel), false, rfl, iteT (iteT st)⟩
        · rintro σ H1 ⟨v1, rfl, rfl, hj⟩
          refine ⟨Nat.zero_le _, fun l hl' => ?_⟩
          refine q _ _ (same_new hl') ?_
          have hk : ds.findIdx? (fun e => !okE p e) = none := by
            rw [List.findIdx?_eq_none_iff]
            intro e he
            obtain ⟨j, hj', rfl⟩ := List.getElem_of_mem he
            rw [hj j _ (by omega) (List.getElem?_eq_getElem hj')]
            rfl
          rw [hfe, hk]
          exact .lst (.inl (.inl upd_same)) .nil
      · have e1 : decide (V.int (xs.length : Int) = V.int (n : Int)) = false := decide_eq_false fun z => hn (by have := V.int.inj z; omega)
        rw [e1]
        refine iteT ⟨Nat.zero_le _, fun t ht => ⟨(by show 1 ≤ sizeLine; decide), fun l hl' => bad ?_ t ht l hl'⟩⟩
        show (if ds.length = n then _ else _) = _
        rw [if_neg (by rw [← hlen]; exact hn)]
def spTold (K : PySem.W.Frag) (C : Addr) : Sp := fun vs H Q _ => ∃ (a g : Addr) (p : Int) (n : Nat) (v : V) (d : PyData), vs = [.ref a, v] ∧ Gr C H a g p n ∧ Vl K H v d ∧
  ∀ x H', Same H H' → Dp K H' x (dDue (fault p n d)) → Q x H'
theorem ok_told (T : Tx K mg) : FnOk P w K mg base CX0 6 T.f_l_told T.d_l_told ["_law_ground", "_law_value"] (spTold K T.C_Ground) := by
  have G_check_row := ok_check_row (P := P) (w := w) (base := base) T
  refine T.F_l_told.ok sc_l_told (fun vs H Q E h => ?_) (fun cdv A outer s H vs Q E hr h => ?_)
  · obtain ⟨a, g, p, n, v, d, rfl, _⟩ := h
    rfl
  · obtain ⟨aG, g, p, n, v, d, rfl, gr, hl, q⟩ := h
    have hu := hu_of hr
    refine ⟨_, (pss_cons (ps_set (i := 2) sc_l_told.nd rfl (Or.inl rfl) (pe_lst pa_nil))
    (pss_cons (ps_try_as (i := 3) (Wout := fun _ _ _ _ => False) rfl rfl sc_l_told.nd rfl rfl ⟨rfl, by decide, Or.inl T.y_BadRow.g⟩ takes0 (fun W pn xe tk _ => pss_one (ps_set (i := 2) sc_l_told.nd rfl (Or.inl rfl) (pe_ifExp (pt_cmpR op_isN (pe_callS G_check_row (hr.mono (by decide)) rfl T.g_check_row T.F_check_row.kp T.b_check_row (fun σ => passAt tk σ) (pa_cons (pe_dget hu (pv 0) pe_str (fun _ _ => rfl)) (pa_cons (pv 1) pa_nil))) pe_non (nomark _)) (pe_lst pa_nil) (pe_lst (pa_cons pe_str pa_nil))))) (fun a oe cls d pn hz hf => pss_one (ps_set (i := 2) sc_l_told.nd rfl (Or.inl rfl) (pe_lst (pa_cons (pe_xf T.y_BadRow.xf T.y_BadRow.np hz hf (pv 3)) pa_nil)))))
    (pss_one (ps_ret (pv 2))))), ?_⟩
    refine ⟨Nat.zero_le _, fun l0 h0 => ?_⟩
    have s0 : Same H (upd H l0 (.lst [])) := same_new h0
    have gr0 := gr.mono s0
    have hl0 := hl.mono s0
    refine ⟨.ref aG, rfl, aG, _, rfl, gr_made gr0.dk, v, rfl, g, p, n, v, d, rfl, gr0.gd, hl0, fun hf H1 s1 => ?_, fun r hf cls dd H1 th => ?_⟩
    · refine ⟨rfl, _, rfl, iteT ?_⟩
      refine ⟨Nat.zero_le _, fun l hl' => ?_⟩
      refine ⟨_, rfl, q _ _ ((s0.trans s1).trans (same_new hl')) ?_⟩
      rw [hf]
      exact .lst (.inl (.inl upd_same)) .nil
    · refine ⟨true, ?_, fun _ a ha => ?_, fun z => nomatch z⟩
      · rw [th.c]
        exact T.y_BadRow.me
      · obtain ⟨dd', t, rfl, hx, ht⟩ := th.f
        refine ⟨.ref a, rfl, rfl, th.c, dd', _, .ref t, rfl, hx, rfl, (by show 1 ≤ sizeLine; decide), fun l hl' => ?_⟩
        refine ⟨_, rfl, q _ _ ((s0.trans th.s).trans (same_new hl')) ?_⟩
        rw [hf]
        exact .lst (.inl (.inl upd_same)) (.cons (dp_row (sameT (same_new hl') ht)) .nil)
end

section
variable {P : Program} {w : World} {K : PySem.W.Frag} {mg : Str → Option Value} {base : Heap}
def spLaw (K : PySem.W.Frag) : Sp := fun vs H Q _ => ∃ (a : Addr) (ns : List Int), vs = [.ref a] ∧ SqL K H a (ns.map V.int) ∧ ns.length ≤ 63 ∧ ∀ H', Q (.bl true) H'
/-- values that may be shown -/
def Vls (K : PySem.W.Frag) (G : Hp) (vs : List V) : Prop := ∀ v ∈ vs, ∃ e, Vl K G v e ∧ Fit e
theorem Vls.mono {K : PySem.W.Frag} {G G' : Hp} {vs : List V} (h : Vls K G vs) (e : Same G G') : Vls K G' vs := fun v hv => let ⟨d, a, b⟩ := h v hv; ⟨d, a.mono e, b⟩
def cutI (r : List Int) (lo hi : Option Int) : List Int := (r.drop (HT.sIx r.length 0 lo)).take (HT.sIx r.length r.length hi - HT.sIx r.length 0 lo)
theorem cut_ints (r : List Int) (lo hi : Option Int) : cutV (r.map V.int) lo hi = (cutI r lo hi).map V.int := by
  unfold cutV cutI
  rw [List.length_map, List.map_take, List.map_drop]
theorem cutI_mem {r : List Int} {lo hi : Option Int} {x : Int} (h : x ∈ cutI r lo hi) : x ∈ r := List.mem_of_mem_drop (List.mem_of_mem_take h)
theorem cutI_len (r : List Int) (lo hi : Option Int) : (cutI r lo hi).length ≤ r.length := by
  unfold cutI
  rw [List.length_take, List.length_drop]
  omega
theorem hd_row (r : List Int) : PyData.hasDict (dR r) = false := by
  unfold dR
  simp only [PyData.hasDict]
  exact hd_ints r
theorem hd_list (r : List Int) : PyData.hasDict (.list (r.map PyData.int)) = false := by
  simp only [PyData.hasDict]
  exact hd_ints r
theorem hd_one (r : List Int) : PyData.hasDict (.tuple [.tuple (r.map PyData.int)]) = false ∧ PyData.hasDict (.list [.tuple (r.map PyData.int)]) = false := by
  simp [PyData.hasDict, PyData.hasDictAll, hd_ints]
theorem know3_f {G F H : Hp} {d c D : Addr} (k : Kn G H d c) (s : Same F G) (hD : F D = none) : Same F (hide3 H d c D) := fun b o e => by
  have h1 : b ≠ d := k.nd (s _ _ e)
  have h2 : b ≠ c := k.nc (s _ _ e)
  have h3 : b ≠ D := ne_of_none e hD
  unfold hide3
  rw [if_neg (by simp [h1, h2, h3])]
  exact k.le _ _ (s _ _ e)
theorem no_at {G H : Hp} {d c D : Addr} {xs : List V} (k : Kn (upd G D (.lst xs)) H d c) : H D ≠ none := fun z => by
  have := k.le D _ upd_same
  rw [z] at this
  cases this

def turns (r : List Int) : Int := 2 * (if (!PyData.eqv (dR r) (.tuple [])) = true then 1 else 0)
theorem turns_in (r : List Int) : 0 ≤ turns r ∧ turns r ≤ 2 := by
  unfold turns
  constructor <;> split <;> decide
theorem ok_law (T : Tx K mg) : FnG P w K mg base CX0 7 T.f_law T.d_law ["_law_script"] (spLaw K) := by
  have G_l_source := ok_source (P := P) (w := w) (base := base) T
  have G_l_wide := ok_wide (P := P) (w := w) (base := base) T
  have G_l_row := ok_row (P := P) (w := w) (base := base) T
  have G_l_pick := ok_pick (P := P) (w := w) (base := base) T
  have G_l_odd := ok_odd (P := P) (w := w) (base := base) T
  have G_l_due := ok_due (P := P) (w := w) (base := base) T
  have G_l_told := ok_told (P := P) (w := w) (base := base) T
  refine okG_nox T.F_law sc_law (fun vs H Q E h => ?_) (fun cdv A outer s H vs Q E hgd hr h => ?_)
  · obtain ⟨a, ns, rfl, _⟩ := h
    rfl
  · obtain ⟨a, ns, rfl, hS, hlen, q⟩ := h
    have hu := hu_of hr
    have hu66 : (A.deeper (PyProof.Rows.envOfC "law" (defScope s_law) s.heap.objs.size T.f_law cdv)).units + 66 < cLine := by have := hr.un; omega
    refine ⟨_, (pss_cons (ps_set (i := 1) sc_law.nd rfl (Or.inl rfl) (pe_call G_l_source (hr.mono (by decide)) (by rfl) T.g_l_source T.F_l_source.kp T.b_l_source .nil pass0 (pa_cons (pv 0) pa_nil)))
    (pss_cons (ps_for PassesOwn.never rfl (pi_range1 rfl T.z_range (pa_cons pe_int pa_nil)) (pg_name (i := 2) sc_law.nd rfl (Or.inl rfl))
    (pss_cons (ps_set (i := 3) sc_law.nd rfl (Or.inl rfl) (pe_call G_l_wide (hr.mono (by decide)) (by rfl) T.g_l_wide T.F_l_wide.kp T.b_l_wide .nil pass0 (pa_cons (pv 1) (pa_cons pe_int (pa_cons pe_int pa_nil)))))
    (pss_cons (ps_set (i := 4) sc_law.nd rfl (Or.inl rfl) (pe_call G_l_row (hr.mono (by decide)) (by rfl) T.g_l_row T.F_l_row.kp T.b_l_row .nil pass0 (pa_cons (pv 1) (pa_cons (pv 3) pa_nil))))
    (pss_cons (ps_set (i := 5) sc_law.nd rfl (Or.inl rfl) (pe_lst (pa_cons (pv 4) (pa_cons (pe_op op_catA (pv 4) (pe_tup (pa_cons pe_int pa_nil))) (pa_cons (pe_slice sl_tupA (pv 4) (po_some pe_int) po_none) (pa_cons (pe_callTy call_list_of (by rfl) T.z_list (by decide +kernel) (pa_cons (pv 4) pa_nil)) (pa_cons (pe_call G_l_odd (hr.mono (by decide)) (by rfl) T.g_l_odd T.F_l_odd.kp T.b_l_odd .nil pass0 (pa_cons (pv 1) pa_nil)) (pa_cons (pe_tup (pa_cons (pv 4) pa_nil)) (pa_cons (pe_lst (pa_cons (pv 4) pa_nil)) pa_nil)))))))))
    (pss_cons (ps_for PassesOwn.never rfl (pi_range1 rfl T.z_range (pa_cons (pe_op op_mul pe_int (pe_callTy call_int1 (by rfl) T.z_int (by decide +kernel) (pa_cons (pe_cmpR (op_neD hr.units) (pv 4) (pe_tup pa_nil) (nomark _)) pa_nil))) pa_nil)) (pg_name (i := 6) sc_law.nd rfl (Or.inl rfl))
    (pss_cons (ps_set (i := 7) sc_law.nd rfl (Or.inl rfl) (pe_call G_l_pick (hr.mono (by decide)) (by rfl) T.g_l_pick T.F_l_pick.kp T.b_l_pick .nil pass0 (pa_cons (pv 1) (pa_cons (pe_callB call_len_seq (by rfl) T.z_len PySem.boot_len (pa_cons (pv 4) pa_nil)) pa_nil))))
    (pss_cons (ps_for PassesOwn.never rfl (pi_list (pe_lst (pa_cons (pe_dget hu (pv 3) pe_str (fun _ _ => rfl)) (pa_cons (pe_un un_neg pe_int) (pa_cons pe_bl (pa_cons pe_bl (pa_cons pe_non (pa_cons pe_str (pa_cons (pe_tup (pa_cons pe_int pa_nil)) (pa_cons (pe_lst pa_nil) (pa_cons (pe_op op_pow pe_int pe_int) (pa_cons (pe_call G_l_odd (hr.mono (by decide)) (by rfl) T.g_l_odd T.F_l_odd.kp T.b_l_odd .nil pass0 (pa_cons (pv 1) pa_nil)) pa_nil)))))))))))) (pg_name (i := 8) sc_law.nd rfl (Or.inl rfl))
    (pss_one (ps_expr (pe_bm PySem.F.plainAttrs_list PySem.F.slot_list_append PySem.F.type_list_append mt_append (pv 5) (pa_cons (pe_op op_catA (pe_op op_catA (pe_slice sl_tupA (pv 4) po_none (po_some (pv 7))) (pe_tup (pa_cons (pv 8) pa_nil))) (pe_slice sl_tupA (pv 4) (po_some (pe_op op_add (pv 7) pe_int)) po_none)) pa_nil)))))
    (pss_one (ps_expr (pe_bm PySem.F.plainAttrs_list PySem.F.slot_list_append PySem.F.type_list_append mt_append (pv 5) (pa_cons (pe_op op_catA (pe_op op_catA (pe_op op_catA (pe_slice sl_tupA (pv 4) po_none (po_some (pv 7))) (pe_tup (pa_cons (pe_dget hu (pv 3) pe_str (fun _ _ => rfl)) pa_nil))) (pe_slice sl_tupA (pv 4) (po_some (pe_op op_add (pv 7) pe_int)) (po_some (pe_un un_neg pe_int)))) (pe_op op_rep1 (pe_tup (pa_cons pe_non pa_nil)) (pe_callTy call_int1 (by rfl) T.z_int (by decide +kernel) (pa_cons (pe_cmpR op_lt (pv 7) (pe_op op_sub (pe_callB call_len_seq (by rfl) T.z_len PySem.boot_len (pa_cons (pv 4) pa_nil)) pe_int) (nomark _)) pa_nil)))) pa_nil)))))))
    (pss_one (ps_for PassesOwn.never rfl (pi_list (pv 5)) (pg_name (i := 9) sc_law.nd rfl (Or.inl rfl))
    (pss_cons (ps_set (i := 10) sc_law.nd rfl (Or.inl rfl) (pe_callB (call_reprV hgd hu66) (by rfl) T.z_repr (by decide +kernel) (pa_cons (pv 9) pa_nil)))
    (pss_one (ps_if (PW.pt (pw_or (pt_cmpR (op_neD hr.units) (pe_call G_l_told (hr.mono (by decide)) (by rfl) T.g_l_told T.F_l_told.kp T.b_l_told .nil pass0 (pa_cons (pv 3) (pa_cons (pv 9) pa_nil))) (pe_call G_l_due (hr.mono (by decide)) (by rfl) T.g_l_due T.F_l_due.kp T.b_l_due .nil pass0 (pa_cons (pv 3) (pa_cons (pv 9) pa_nil))) (nomark _)) (pw_or1 (pt_cmpR op_ne (pe_callB (call_reprV hgd hu66) (by rfl) T.z_repr (by decide +kernel) (pa_cons (pv 9) pa_nil)) (pv 10) (nomark _))))) (pss_one (ps_ret pe_bl)) pss_nil))))))))))
    (pss_one (ps_ret pe_bl)))), ?_⟩
    refine ⟨.ref a, rfl, a, ns, rfl, hS, hlen, fun d c H1 k1 => ?_⟩
    refine ⟨4, rfl, by decide, by decide, for_range (lo := 0) (n := 4) (fun i σ H' => ∃ v2 v3 v4 v5 v6 v7 v8 v9 v10 : Option V, σ = [some (.ref a), some (.ref d), v2, v3, v4, v5, v6, v7, v8, v9, v10] ∧ Kn H H' d c) ⟨_, _, _, _, _, _, _, _, _, rfl, k1⟩ ?_ ?_⟩
    · rintro i σ H2 hi ⟨v2, v3, v4, v5, v6, v7, v8, v9, v10, rfl, k2⟩
      refine ⟨.ref d, rfl, H, d, c, 0, 6, rfl, k2, by decide, by decide, by decide, fun aG g p n G1 H3 s1 k3 gr n0 n6 => ?_⟩
      obtain ⟨nn, rfl⟩ : ∃ nn : Nat, n = (nn : Int) := ⟨n.toNat, by omega⟩
      have plo := gr.ip.lo
      have phi := gr.ip.hi
      refine ⟨.ref d, rfl, .ref aG, rfl, G1, d, c, aG, g, p, nn, rfl, k3, gr, n0, by omega, fun t r G2 H4 s2 k4 ht hl hrow => ?_⟩
      have gr2 := gr.mono s2
      have hb : ∀ x ∈ r, 0 ≤ x ∧ x < 1000000 := fun x hx => ⟨(hrow x hx).1, by have := (hrow x hx).2; omega⟩
      have rl : r.length ≤ 6 := by omega
      have htT : SqT K G2 t (r.map V.int) := .inl (.inl ht)
      -- row, row + (0,)
      refine ⟨.ref t, rfl, .ref t, rfl, (by show 1 ≤ sizeLine; decide), fun u1 hu1 => ?_⟩
      have a1 : Same H4 (upd H4 u1 (.tup [.int 0])) := same_new hu1
      refine cat_any (sameT (k4.le.trans a1) htT) (ys := [.int 0]) (.inl (.inl upd_same)) (by rw [List.length_map]; exact Nat.le_of_lt (small1000 (by show r.length + 1 ≤ 1000; omega))) fun t2 H5 b2 ht2 => ?_
      -- row[1:]
      refine ⟨.ref t, rfl, 1, rfl, ?_⟩
      have k5 := (k4.mono a1).mono b2
      refine np_i (sl_any (sameT k5.le htT) fun t3 H6 b3 ht3 => ?_)
      rw [cut_ints] at ht3
      -- list(row)
      have k6 := k5.mono b3
      refine ⟨.ref t, rfl, t, _, rfl, .inr (sameT k6.le htT), fun l4 hl4 => ?_⟩
      have kk6 := know k6
      have s6 := know_le k6
      have hT6 := know_t k6 (sameT b3 ht2)
      have hT6' := know_t k6 ht3
      generalize hide H6 d c = G6 at kk6 s6 hT6 hT6'
      have k7 := kk6.new (o := .lst (r.map V.int)) hl4
      have s7 : Same G6 (upd G6 l4 (.lst (r.map V.int))) := same_new (kk6.free hl4)
      have f7 : (upd G6 l4 (.lst (r.map V.int))) l4 = some (.lst (r.map V.int)) := upd_same
      generalize upd G6 l4 (.lst (r.map V.int)) = G7 at k7 s7 f7
      -- _law_odd(source)
      refine ⟨.ref d, rfl, G7, d, c, rfl, k7, fun v5 e5 F5 G8 H8 s8 k8 hv5 sF5 _ hf5 => ?_⟩
      have hv5' := hv5.mono sF5
      -- (row,), [row]
      refine ⟨.ref t, rfl, (by show 1 ≤ sizeLine; decide), fun t6 ht6 => ?_⟩
      have k9 := k8.new (o := .tup [.ref t]) ht6
      have s9 : Same G8 (upd G8 t6 (.tup [.ref t])) := same_new (k8.free ht6)
      have f9 : (upd G8 t6 (.tup [.ref t])) t6 = some (.tup [.ref t]) := upd_same
      generalize upd G8 t6 (.tup [.ref t]) = G9 at k9 s9 f9
      refine ⟨.ref t, rfl, (by show 1 ≤ sizeLine; decide), fun l7 hl7 => ?_⟩
      have k10 := k9.new (o := .lst [.ref t]) hl7
      have s10 : Same G9 (upd G9 l7 (.lst [.ref t])) := same_new (k9.free hl7)
      have f10 : (upd G9 l7 (.lst [.ref t])) l7 = some (.lst [.ref t]) := upd_same
      generalize upd G9 l7 (.lst [.ref t]) = G10 at k10 s10 f10
      refine ⟨(by show 7 ≤ sizeLine; decide), fun D hD => ?_⟩
      have k11 := k10.new (o := .lst [.ref t, .ref t2, .ref t3, .ref l4, v5, .ref t6, .ref l7]) hD
      have gD : G10 D = none := k10.free hD
      have z9 := s10
      have z8 := s9.trans z9
      have z7 := s8.trans z8
      have z6 := s7.trans z7
      have z2 := s6.trans z6
      have grA := gr2.mono z2
      have htA : SqT K G10 t (r.map V.int) := sameT z2 htT
      have vls : Vls K G10 [.ref t, .ref t2, .ref t3, .ref l4, v5, .ref t6, .ref l7] := by
        intro v hv
        simp only [List.mem_cons, List.not_mem_nil, or_false] at hv
        have fi := fit_in hb (by omega)
        rcases hv with rfl | rfl | rfl | rfl | rfl | rfl | rfl
        · exact ⟨_, .lf (.dp (dp_row htA) (hd_row r)), fit_row hb (by omega)⟩
        · refine ⟨dR (r ++ [0]), .lf (.dp (dp_row ?_) (hd_row _)), fit_row (fun x hx => ?_) (by rw [List.length_append, List.length_singleton]; omega)⟩
          · rw [List.map_append]
            exact sameT z6 hT6
          · rcases List.mem_append.mp hx with hx | hx
            · exact hb x hx
            · rw [List.mem_singleton] at hx
              subst hx
              decide
        · exact ⟨_, .lf (.dp (dp_row (sameT z6 hT6')) (hd_row _)), fit_row (fun x hx => hb x (cutI_mem hx)) (by have := cutI_len r (some 1) none; omega)⟩
        · exact ⟨.list (r.map PyData.int), .lf (.dp (.lst (.inl (.inl (z7 _ _ f7))) (dp_ints r)) (hd_list r)), fit_list hb (by omega)⟩
        · exact ⟨_, .lf (hv5'.mono z8), hf5.fit⟩
        · exact ⟨.tuple [.tuple (r.map PyData.int)], .lf (.dp (.tup (.inl (.inl (z9 _ _ f9))) (.cons (dp_row htA) .nil)) (hd_one r).1), fi.1⟩
        · exact ⟨.list [.tuple (r.map PyData.int)], .lf (.dp (.lst (.inl (.inl f10)) (.cons (dp_row htA) .nil)) (hd_one r).2), fi.2⟩
      have sH : Same H G10 := (s1.trans s2).trans z2
      -- how many turns
      refine ⟨.ref t, rfl, Nat.zero_le _, fun u8 hu8 => ?_⟩
      have k12 := k11.mono (same_new (o := .tup []) hu8)
      refine ⟨dR r, .tuple [], dp_row (sameT ((same_new hD).trans (same_new hu8)) (sameT k10.le htA)), .tup (.inl (.inl upd_same)) .nil, shp_row r, shp_row [], .inr ⟨_, rfl, 2, _, rfl, rfl, .inl ⟨by decide, by decide⟩, ?_⟩⟩
      obtain ⟨N0, N2⟩ := turns_in r
      generalize upd (upd _ D _) u8 _ = H9 at k12
      refine nil_i ⟨turns r, rfl, by omega, by omega, for_range (lo := 0) (n := (turns r).toNat) (fun i σ H' => ∃ (v6 v7 v8 v9 v10 : Option V) (G : Hp) (vs : List V), σ = [some (.ref a), some (.ref d), _, some (.ref aG), some (.ref t), some (.ref D), v6, v7, v8, v9, v10] ∧ Kn (upd G D (.lst vs)) H' d c ∧ G D = none ∧ Same G10 G ∧ Vls K G vs ∧ vs.length ≤ 7 + 11 * i) ⟨_, _, _, _, _, G10, _, rfl, k12, gD, Same.refl _, vls, by simp⟩ ?_ ?_⟩
      · rintro j σ H10 hj ⟨v6, v7, v8, v9, v10, G11, vs, rfl, k13, gD1, s11, vls1, vl1⟩
        have htB : ∀ {H' : Hp}, Kn (upd G11 D (.lst vs)) H' d c → SqT K H' t (r.map V.int) := fun k => sameT ((s11.trans (same_new gD1)).trans k.le) htA
        have grB : ∀ {H' : Hp}, Kn (upd G11 D (.lst vs)) H' d c → Gr T.C_Ground H' aG g p nn := fun k => grA.mono ((s11.trans (same_new gD1)).trans k.le)
        -- k
        refine ⟨.ref d, rfl, .ref t, rfl, t, _, rfl, .inr (htB k13), _, d, c, _, rfl, k13, (by rw [List.length_map]; omega), fun z H11 k14 z0 _ => ?_⟩
        -- the entries
        refine ⟨.ref aG, rfl, aG, _, rfl, gr_p (grB k14).dk, 1, rfl, (by show 1 ≤ sizeLine; decide), fun u9 hu9 => ?_⟩
        have k15 := k14.mono (same_new (o := .tup [.int 1]) hu9)
        refine ⟨Nat.zero_le _, fun l10 hl10 => ?_⟩
        have k16 := k15.mono (same_new (o := .lst []) hl10)
        have nl1 : l10 ≠ d := k15.src.some_d hl10
        have nl2 : l10 ≠ c := k15.src.some_c hl10
        have nl3 : l10 ≠ D := fun e => no_at k15 (e ▸ hl10)
        have f10' : (upd (upd H11 u9 (.tup [.int 1])) l10 (.lst [])) l10 = some (.lst []) := upd_same
        have f9' : (upd (upd H11 u9 (.tup [.int 1])) l10 (.lst [])) u9 = some (.tup [.int 1]) := same_new hl10 _ _ upd_same
        generalize upd (upd H11 u9 (.tup [.int 1])) l10 (.lst []) = H12 at k16 f10' f9'
        obtain ⟨kA, gDA, sA⟩ := know3 k16 gD1
        have fu := know3_t (K := K) k16 (.inl (.inl f9'))
        have fl := know3_o k16 f10' nl1 nl2 nl3
        generalize hide3 H12 d c D = GA at kA gDA sA fu fl
        refine ⟨10, 30, rfl, rfl, (by unfold CPow; decide), .ref d, rfl, upd GA D (.lst vs), d, c, rfl, kA, fun v11 e11 F11 G12 H13 s12 k17 hv11 sF11 oF11 hf11 => ?_⟩
        have F11D : F11 D = none := oF11 D (no_at kA)
        have kB := k17.weak s12
        refine ⟨(by show 10 ≤ sizeLine; decide), fun L hL => ?_⟩
        obtain ⟨es, hes⟩ : ∃ es : List V, es = [.int p, .int (-1), .bl true, .bl false, .non, .str "1", .ref u9, .ref l10, .int (10 ^ (30 : Int).toNat), v11] := ⟨_, rfl⟩
        have sL : Same H13 (upd H13 L (.lst es)) := same_new hL
        have kC := kB.mono sL
        obtain ⟨kD, gDD, sD⟩ := know3 kC gDA
        have sF := know3_f (k17.mono sL) sF11 F11D
        have fL := know3_o kC (t := L) (o := .lst es) upd_same (kB.src.some_d hL) (kB.src.some_c hL) (fun e => no_at kB (e ▸ hL))
        rw [← hes]
        generalize hide3 (upd H13 L (.lst es)) d c D = G13 at kD gDD sD sF fL
        generalize upd H13 L (.lst es) = H14 at kD kC
        have ents : ∀ x ∈ es, ∃ e, Lf K G13 x e ∧ FitE e := by
          subst hes
          intro x hx
          simp only [List.mem_cons, List.not_mem_nil, or_false] at hx
          rcases hx with rfl | rfl | rfl | rfl | rfl | rfl | rfl | rfl | rfl | rfl
          · exact ⟨_, .dp (.int p) rfl, fitE_int (by omega) (by omega)⟩
          · exact ⟨.int (-1), .dp (.int _) (by decide +kernel), ⟨by decide +kernel, by decide +kernel, by decide +kernel, by decide +kernel⟩⟩
          · exact ⟨.bool true, .dp (.bl _) (by decide +kernel), ⟨by decide +kernel, by decide +kernel, by decide +kernel, by decide +kernel⟩⟩
          · exact ⟨.bool false, .dp (.bl _) (by decide +kernel), ⟨by decide +kernel, by decide +kernel, by decide +kernel, by decide +kernel⟩⟩
          · exact ⟨.none, .dp .non (by decide +kernel), ⟨by decide +kernel, by decide +kernel, by decide +kernel, by decide +kernel⟩⟩
          · exact ⟨.str "1", .dp (.str _) (by decide +kernel), ⟨by decide +kernel, by decide +kernel, by decide +kernel, by decide +kernel⟩⟩
          · exact ⟨.tuple [.int 1], .dp (.tup (sameT sD fu) (.cons (.int 1) .nil)) (by decide +kernel), ⟨by decide +kernel, by decide +kernel, by decide +kernel, by decide +kernel⟩⟩
          · exact ⟨.list [], .dp (.lst (.inl (.inl (sD _ _ fl))) .nil) (by decide +kernel), ⟨by decide +kernel, by decide +kernel, by decide +kernel, by decide +kernel⟩⟩
          · exact ⟨.int (10 ^ (30 : Int).toNat), .dp (.int _) (by decide +kernel), ⟨by decide +kernel, by decide +kernel, by decide +kernel, by decide +kernel⟩⟩
          · exact ⟨e11, hv11.mono sF, hf11⟩
        have esl : es.length = 10 := by rw [hes]; rfl
        have s13 : Same G10 G13 := (s11.trans sA).trans sD
        refine ⟨L, rfl, ⟨es, .inl (.inl (kD.le _ _ (same_new gDD _ _ fL)))⟩, for_list (K := K) (a := L) (xs := es) (fun i σ H' => ∃ (v8 : Option V) (G : Hp) (vs : List V), σ = [some (.ref a), some (.ref d), _, some (.ref aG), some (.ref t), some (.ref D), _, some (.int z), v8, v9, v10] ∧ Kn (upd G D (.lst vs)) H' d c ∧ G D = none ∧ Same G13 G ∧ Vls K G vs ∧ vs.length ≤ 7 + 11 * j + i) ⟨_, G13, vs, rfl, kD, gDD, Same.refl _, vls1.mono (sA.trans sD), vl1⟩ (fun i σ H' _ ⟨_, _, _, _, k, g, s, _⟩ => .inl (.inl (k.le _ _ (same_new g _ _ (s _ _ fL))))) ?_ ?_⟩
        · rintro m x σ H15 hx ⟨v8', G14, vs2, rfl, k18, gD2, s14, vls2, vl2⟩
          have htC : ∀ {H' : Hp}, Same H15 H' → SqT K H' t (r.map V.int) := fun b => sameT ((s13.trans (s14.trans (same_new gD2))).trans (k18.le.trans b)) htA
          obtain ⟨e, hxe, hfe⟩ := ents x (List.mem_of_getElem? hx)
          have hm10 : m < 10 := by have := at_lt hx; omega
          have hj2 : j < 2 := by omega
          refine ⟨.ref D, rfl, .inl ⟨rfl, _, .inl (.inl (k18.le _ _ upd_same))⟩, .ref t, rfl, ?_⟩
          refine np_i ⟨.int z, rfl, z, rfl, ?_⟩
          refine sl_any (htC (Same.refl _)) fun t1 H16 b1 ht1 => ?_
          rw [cut_ints] at ht1
          refine ⟨x, rfl, (by show 1 ≤ sizeLine; decide), fun u16 hu16 => ?_⟩
          have b2 : Same H16 (upd H16 u16 (.tup [x])) := same_new hu16
          have c1 := cutI_len r none (some z)
          refine cat_any (sameT b2 ht1) (ys := [x]) (.inl (.inl upd_same)) (by rw [List.length_map]; exact Nat.le_of_lt (small1000 (by show _ + 1 ≤ 1000; omega))) fun t2' H17 b3 ht2' => ?_
          refine ⟨.ref t, rfl, .int z, rfl, z, 1, rfl, rfl, z + 1, rfl, ?_⟩
          refine np_i (sl_any (htC ((b1.trans b2).trans b3)) fun t3' H18 b4 ht3' => ?_)
          rw [cut_ints] at ht3'
          have c2 := cutI_len r (some (z + 1)) none
          refine cat_any (sameT b4 ht2') ht3' (by rw [List.length_append, List.length_map, List.length_map]; exact Nat.le_of_lt (small1000 (by show _ + 1 + _ ≤ 1000; omega))) fun ft H19 b5 hft => ?_
          have bAll : Same H15 H19 := (((b1.trans b2).trans b3).trans b4).trans b5
          have k19 := k18.mono bAll
          refine nil_i ⟨D, vs2, .ref ft, rfl, rfl, k19.le _ _ upd_same, small1000 (by omega), ?_⟩
          obtain ⟨kE, gDE, sE⟩ := know3 k19 gD2
          have hfE := know3_t (K := K) k19 hft
          refine ⟨_, hide3 H19 d c D, vs2 ++ [.ref ft], rfl, kE.set, gDE, s14.trans sE, fun v hv => ?_, by rw [List.length_append, List.length_singleton]; omega⟩
          rcases List.mem_append.mp hv with hv | hv
          · exact (vls2.mono sE) v hv
          · rw [List.mem_singleton] at hv
            subst hv
            refine ⟨_, .mix (pre := cutI r none (some z)) (post := cutI r (some (z + 1)) none) (by rw [List.append_assoc] at hfE; exact hfE) (hxe.mono (s14.trans sE)), fit_mixT hfe (fun y hy => hb y (cutI_mem hy)) (fun y hy => hb y (cutI_mem hy)) (by omega)⟩
        · rintro σ H15 ⟨v8', G14, vs2, rfl, k18, gD2, s14, vls2, vl2⟩
          have hj2 : j < 2 := by omega
          rw [esl] at vl2
          have sX := (s13.trans (s14.trans (same_new gD2))).trans k18.le
          have htC : ∀ {H' : Hp}, Same H15 H' → SqT K H' t (r.map V.int) := fun b => sameT (sX.trans b) htA
          have grC : ∀ {H' : Hp}, Same H15 H' → Gr T.C_Ground H' aG g p nn := fun b => grA.mono (sX.trans b)
          refine ⟨.ref D, rfl, .inl ⟨rfl, _, .inl (.inl (k18.le _ _ upd_same))⟩, .ref t, rfl, ?_⟩
          refine np_i ⟨.int z, rfl, z, rfl, ?_⟩
          refine sl_any (htC (Same.refl _)) fun t1 H16 b1 ht1 => ?_
          rw [cut_ints] at ht1
          refine ⟨.ref aG, rfl, aG, _, rfl, gr_p (grC b1).dk, (by show 1 ≤ sizeLine; decide), fun u16 hu16 => ?_⟩
          have b2 : Same H16 (upd H16 u16 (.tup [.int p])) := same_new hu16
          have c1 := cutI_len r none (some z)
          refine cat_any (sameT b2 ht1) (ys := [.int p]) (.inl (.inl upd_same)) (by rw [List.length_map]; exact Nat.le_of_lt (small1000 (by show _ + 1 ≤ 1000; omega))) fun t2' H17 b3 ht2' => ?_
          refine ⟨.ref t, rfl, .int z, rfl, z, 1, rfl, rfl, z + 1, rfl, 1, rfl, -1, rfl, ?_⟩
          refine sl_any (htC ((b1.trans b2).trans b3)) fun t3' H18 b4 ht3' => ?_
          rw [cut_ints] at ht3'
          have c2 := cutI_len r (some (z + 1)) (some (-1))
          refine cat_any (sameT b4 ht2') ht3' (by rw [List.length_append, List.length_map, List.length_map]; exact Nat.le_of_lt (small1000 (by show _ + 1 + _ ≤ 1000; omega))) fun t4' H19 b5 ht4' => ?_
          refine ⟨(by show 1 ≤ sizeLine; decide), fun u19 hu19 => ?_⟩
          have b6 : Same H19 (upd H19 u19 (.tup [.non])) := same_new hu19
          have bX := ((((b1.trans b2).trans b3).trans b4).trans b5).trans b6
          refine ⟨.int z, rfl, .ref t, rfl, t, _, rfl, .inr (htC bX), _, 1, rfl, rfl, z, _, rfl, rfl, .inr ⟨_, rfl, u19, _, .non, rfl, rfl, .inl (.inl upd_same), ?_, ?_, fun t5' H20 b7 ht5' => ?_⟩⟩
          · split <;> decide
          · split <;> decide
          generalize hkk : (if decide (z < ((r.map V.int).length : Int) - 1) = true then (1 : Int) else 0) = kk at ht5'
          have hk01 : kk.toNat = 0 ∨ kk.toNat = 1 := by
            rw [← hkk]
            split
            · exact .inr rfl
            · exact .inl rfl
          refine cat_any (sameT (b6.trans b7) ht4') ht5' (by rw [List.length_append, List.length_append, List.length_map, List.length_map, List.length_replicate]; exact Nat.le_of_lt (small1000 (by show _ + 1 + _ + _ ≤ 1000; omega))) fun ft H21 b8 hft => ?_
          have bAll : Same H15 H21 := (bX.trans b7).trans b8
          have k19 := k18.mono bAll
          refine nil_i ⟨D, vs2, .ref ft, rfl, rfl, k19.le _ _ upd_same, small1000 (by omega), ?_⟩
          obtain ⟨kE, gDE, sE⟩ := know3 k19 gD2
          have hfE := know3_t (K := K) k19 hft
          refine ⟨_, _, _, _, _, hide3 H21 d c D, vs2 ++ [.ref ft], rfl, kE.set, gDE, s13.trans (s14.trans sE), fun v hv => ?_, by rw [List.length_append, List.length_singleton]; omega⟩
          rcases List.mem_append.mp hv with hv | hv
          · exact (vls2.mono sE) v hv
          · rw [List.mem_singleton] at hv
            subst hv
            have hp1 : FitE (.int p) := fitE_int (by omega) (by omega)
            have ib : ∀ (lo hi : Option Int), ∀ y ∈ cutI r lo hi, 0 ≤ y ∧ y < 1000000 := fun lo hi y hy => hb y (cutI_mem hy)
            rcases hk01 with e0 | e1
            · rw [e0] at hfE
              refine ⟨_, .mix (pre := cutI r none (some z)) (post := cutI r (some (z + 1)) (some (-1))) (x := .int p) (by simpa using hfE) (.dp (.int p) rfl), fit_mixT hp1 (ib _ _) (ib _ _) (by omega)⟩
            · rw [e1] at hfE
              refine ⟨_, .mix (pre := cutI r none (some z) ++ p :: cutI r (some (z + 1)) (some (-1))) (post := []) (x := .non) (by simpa using hfE) (.dp .non rfl), fit_mixT ⟨by decide +kernel, by decide +kernel, by decide +kernel, by decide +kernel⟩ (fun y hy => ?_) (fun y hy => nomatch hy) (by rw [List.length_append, List.length_cons, List.length_nil]; omega)⟩
              rcases List.mem_append.mp hy with hy | hy
              · exact ib _ _ y hy
              · rcases List.mem_cons.mp hy with rfl | hy
                · exact ⟨by omega, by omega⟩
                · exact ib _ _ y hy
      · rintro σ H10 ⟨v6, v7, v8, v9, v10, G11, vs, rfl, k13, gD1, s11, vls1, vl1⟩
        refine ⟨.ref D, rfl, D, rfl, ⟨vs, .inl (.inl (k13.le _ _ upd_same))⟩, for_list (K := K) (a := D) (xs := vs) (fun i σ H' => ∃ (v6 v7 v8 v9 v10 : Option V), σ = [some (.ref a), some (.ref d), _, some (.ref aG), some (.ref t), some (.ref D), v6, v7, v8, v9, v10] ∧ Kn (upd G11 D (.lst vs)) H' d c) ⟨_, _, _, _, _, rfl, k13⟩ (fun i σ H' _ ⟨_, _, _, _, _, _, k⟩ => .inl (.inl (k.le _ _ upd_same))) ?_ ?_⟩
        · rintro m x σ H11 hx ⟨v6, v7, v8, v9, v10, rfl, k14⟩
          obtain ⟨e, hv, hf⟩ := vls1 x (List.mem_of_getElem? hx)
          have sX := (same_new (o := .lst vs) gD1).trans k14.le
          have hvC : ∀ {H' : Hp}, Same H11 H' → Vl K H' x e := fun b => hv.mono (sX.trans b)
          have grC : ∀ {H' : Hp}, Same H11 H' → Gr T.C_Ground H' aG g p nn := fun b => grA.mono (s11.trans (sX.trans b))
          refine ⟨x, rfl, ?_⟩
          refine nil_i ⟨x, e, rfl, hvC (Same.refl _), hf.sh, Nat.le_trans hf.dp (by decide), hf.len, ?_⟩
          refine ⟨.ref aG, rfl, x, rfl, aG, g, p, nn, x, e, rfl, grC (Same.refl _), hvC (Same.refl _), fun y1 H12 b1 hy1 => ?_⟩
          refine ⟨.ref aG, rfl, x, rfl, aG, g, p, nn, x, e, rfl, grC b1, by omega, hvC b1, fun y2 H13 b2 hy2 => ?_⟩
          refine ⟨dDue _, dDue _, dp_same b2 _ _ hy1, hy2, shp_due _, shp_due _, _, rfl, neD_no (shp_due _) ?_⟩
          refine ⟨x, rfl, ?_⟩
          refine nil_i ⟨x, e, rfl, hvC (b1.trans b2), hf.sh, Nat.le_trans hf.dp (by decide), hf.len, ?_⟩
          refine ⟨_, rfl, rfl, _, rfl, ne_no ?_⟩
          exact ⟨_, _, _, _, _, rfl, k14.mono (b1.trans b2)⟩
        · rintro σ H11 ⟨v6, v7, v8, v9, v10, rfl, k14⟩
          exact ⟨_, _, _, _, _, _, _, _, _, rfl, k14.weak ((sH.trans s11).trans (same_new gD1))⟩
    · rintro σ H2 ⟨v2, v3, v4, v5, v6, v7, v8, v9, v10, rfl, k2⟩
      exact q _
end

theorem fin_ok {l : PySem.W.OpenLaw} {w : World} {K : PySem.W.Frag} {mg : Str → Option Value} {fa : Addr} (T : Tx K mg) (hfa : mg "law" = some (.ref fa)) :
    ∃ fd : FuncData, (∀ (s : Shared) (v : Value), BindsTo s fd ⟨[v], []⟩ [("_law_script", v)]) ∧ ∀ base : Heap, K.In base → base.Ns mainGlobals mg → FnG l.prog w K mg base CX0 7 fa fd ["_law_script"] (spLaw K) := by
  have e := hfa.symm.trans T.g_law
  cases e
  refine ⟨T.d_law, fun s v => ?_, fun base _ _ => ok_law T⟩
  obtain ⟨oc, od, kV, doc, pm, an, cdv, ct, osl, ed, lk, hcd⟩ := T.F_law.ex
  rw [ed]
  exact .of_eq rfl
end Lw
open PySem PySem.W PyProof.Rows
set_option maxHeartbeats 0 in
theorem PySem.Challenge.cw_codenests_k02_rows_judged_holds : PySem.Challenge.rw_codenests_k02_rows_judged.Holds := by
  w_on; o_law; k_head; (case hw => w_witness2)
  k_fill
  refine Lw.walk_G (l := PySem.Challenge.rw_codenests_k02_rows_judged) (n := 63) (k := 7) (x := "_law_script") (CX := fun _ => L2.CX0) (sp := fun w => Lw.spLaw _) rfl (by decide) rfl ⟨rfl, by decide, by decide⟩ (fun w h Y => PySem.W.kIn_of Y) ?F (fun _ _ a ns hl hS => ⟨a, ns, rfl, hS, hl, fun _ => rfl⟩) (fun _ _ _ _ _ h => h)
  case F =>
    intro w mg fa h KX G hmg
    refine' Lw.fin_ok (Lw.tx_mk KX G ?a_Ground ?pg_Ground ?hd_Ground ?po_Ground ?sa_Ground ?mk_Ground ?kc_Ground ?n_Ground_p ?n_Ground_n ?a_BadRow ?yl_BadRow ?yr_BadRow ?ysa_BadRow ?yga_BadRow ?ygg_BadRow ?ynp_BadRow ?yin_BadRow ?yti_BadRow ?ykC_BadRow ?yeC_BadRow ?ytC_BadRow ?yhC_BadRow ?yiC_BadRow ?xs_BadRow ?l_BadRow_init ?c_BadRow_init ?k_BadRow_init ?a_is_number ?l_is_number ?c_is_number ?k_is_number ?a_is_number_of ?l_is_number_of ?c_is_number_of ?k_is_number_of ?a_row_fault ?l_row_fault ?c_row_fault ?k_row_fault ?a_check_row ?l_check_row ?c_check_row ?k_check_row ?a_is_prime ?l_is_prime ?c_is_prime ?k_is_prime ?a_Ground_init ?i_Ground_init ?l_Ground_init ?c_Ground_init ?k_Ground_init ?a_Ground_p ?i_Ground_p ?l_Ground_p ?c_Ground_p ?k_Ground_p ?a_Ground_n ?i_Ground_n ?l_Ground_n ?c_Ground_n ?k_Ground_n ?a_l_source ?l_l_source ?c_l_source ?k_l_source ?a_l_pick ?l_l_pick ?c_l_pick ?k_l_pick ?a_l_of ?l_l_of ?c_l_of ?k_l_of ?a_l_odd ?l_l_odd ?c_l_odd ?k_l_odd ?a_l_wide ?l_l_wide ?c_l_wide ?k_l_wide ?a_l_row ?l_l_row ?c_l_row ?k_l_row ?a_l_due ?l_l_due ?c_l_due ?k_l_due ?a_l_told ?l_l_told ?c_l_told ?k_l_told ?a_law ?l_law ?c_law ?k_law ?z_len ?z_range ?z_int ?z_bool ?z_tuple ?z_list ?z_isinstance ?z_abs ?z_max ?z_enumerate ?z_repr) hmg
    (case a_Ground => k_is)
    (case pg_Ground => k_is)
    (case hd_Ground => k_is)
    (case po_Ground => k_is)
    (case sa_Ground => k_is)
    (case mk_Ground => k_is)
    (case kc_Ground => k_is)
    (case n_Ground_p => k_is)
    (case n_Ground_n => k_is)
    (case a_BadRow => k_is)
    (case yl_BadRow => k_is)
    (case yr_BadRow => first | decide +kernel | k_is)
    (case ysa_BadRow => k_is)
    (case yga_BadRow => k_is)
    (case ygg_BadRow => k_is)
    (case ynp_BadRow => k_is)
    (case yin_BadRow => k_is)
    (case yti_BadRow => k_is)
    (case ykC_BadRow => k_is)
    (case yeC_BadRow => k_is)
    (case ytC_BadRow => k_is)
    (case yhC_BadRow => k_is)
    (case yiC_BadRow => k_is)
    (case xs_BadRow => first | rfl | k_is)
    (case l_BadRow_init => k_is)
    (case c_BadRow_init => k_is)
    (case k_BadRow_init => k_is)
    (case a_is_number => k_is)
    (case l_is_number => k_is)
    (case c_is_number => k_is)
    (case k_is_number => k_is)
    (case a_is_number_of => k_is)
    (case l_is_number_of => k_is)
    (case c_is_number_of => k_is)
    (case k_is_number_of => k_is)
    (case a_row_fault => k_is)
    (case l_row_fault => k_is)
    (case c_row_fault => k_is)
    (case k_row_fault => k_is)
    (case a_check_row => k_is)
    (case l_check_row => k_is)
    (case c_check_row => k_is)
    (case k_check_row => k_is)
    (case a_is_prime => k_is)
    (case l_is_prime => k_is)
    (case c_is_prime => k_is)
    (case k_is_prime => k_is)
    (case a_Ground_init => k_is)
    (case i_Ground_init => k_is)
    (case l_Ground_init => k_is)
    (case c_Ground_init => k_is)
    (case k_Ground_init => k_is)
    (case a_Ground_p => k_is)
    (case i_Ground_p => k_is)
    (case l_Ground_p => k_is)
    (case c_Ground_p => k_is)
    (case k_Ground_p => k_is)
    (case a_Ground_n => k_is)
    (case i_Ground_n => k_is)
    (case l_Ground_n => k_is)
    (case c_Ground_n => k_is)
    (case k_Ground_n => k_is)
    (case a_l_source => k_is)
    (case l_l_source => k_is)
    (case c_l_source => k_is)
    (case k_l_source => k_is)
    (case a_l_pick => k_is)
    (case l_l_pick => k_is)
    (case c_l_pick => k_is)
    (case k_l_pick => k_is)
    (case a_l_of => k_is)
    (case l_l_of => k_is)
    (case c_l_of => k_is)
    (case k_l_of => k_is)
    (case a_l_odd => k_is)
    (case l_l_odd => k_is)
    (case c_l_odd => k_is)
    (case k_l_odd => k_is)
    (case a_l_wide => k_is)
    (case l_l_wide => k_is)
    (case c_l_wide => k_is)
    (case k_l_wide => k_is)
    (case a_l_row => k_is)
    (case l_l_row => k_is)
    (case c_l_row => k_is)
    (case k_l_row => k_is)
    (case a_l_due => k_is)
    (case l_l_due => k_is)
    (case c_l_due => k_is)
    (case k_l_due => k_is)
    (case a_l_told => k_is)
    (case l_l_told => k_is)
    (case c_l_told => k_is)
    (case k_l_told => k_is)
    (case a_law => k_is)
    (case l_law => k_is)
    (case c_law => k_is)
    (case k_law => k_is)
    (case z_len => k_is)
    (case z_range => k_is)
    (case z_int => k_is)
    (case z_bool => k_is)
    (case z_tuple => k_is)
    (case z_list => k_is)
    (case z_isinstance => k_is)
    (case z_abs => k_is)
    (case z_max => k_is)
    (case z_enumerate => k_is)
    (case z_repr => k_is)
