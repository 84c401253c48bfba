import PyProof.Rows.All
import Wide.All
import OpenK.AllK
import Wide.FinOn
import HandS.ForMost
import HandS.Style
import HandS.IsInst
import HandS.Exc
import HandS.ExcOwn
import HandS.TryOnly
import HandS.WordsExc
import HandS.TupAny
import HandS.Steps
import HandS.TupMul
import HandS.Small
import HandS.RaiseMore
import HandS.Zip
import KE.GoesEnum
import KE.GoesMore
import KE.GoesZip
import HandS.ExcInit
import HandS.ExcField
import HandS.Sort
import HandS.TupSets
import HandS.SortOrd
import HandS.SortRule
import HandS.Conv
import HandS.Deep
import PySem.Challenge.RW_codenests_k45_level_rows_judged
set_option Elab.async false
set_option linter.all false
set_option maxRecDepth 100000
set_option maxHeartbeats 4000000
namespace Lw
open PySem L2
/-! ### the drawn source -/
abbrev ks (x : Str) : Key := Sum.inr x
theorem zCL : ¬ Str.ofString "cells" = Str.ofString "left" := by decide +kernel
theorem zCM : ¬ Str.ofString "cells" = Str.ofString "mixed" := by decide +kernel
theorem zCT : ¬ Str.ofString "cells" = Str.ofString "turn" := by decide +kernel
theorem zLC : ¬ Str.ofString "left" = Str.ofString "cells" := by decide +kernel
theorem zLM : ¬ Str.ofString "left" = Str.ofString "mixed" := by decide +kernel
theorem zLT : ¬ Str.ofString "left" = Str.ofString "turn" := by decide +kernel
theorem zMC : ¬ Str.ofString "mixed" = Str.ofString "cells" := by decide +kernel
theorem zML : ¬ Str.ofString "mixed" = Str.ofString "left" := by decide +kernel
theorem zMT : ¬ Str.ofString "mixed" = Str.ofString "turn" := by decide +kernel
theorem zTC : ¬ Str.ofString "turn" = Str.ofString "cells" := by decide +kernel
theorem zTL : ¬ Str.ofString "turn" = Str.ofString "left" := by decide +kernel
theorem zTM : ¬ Str.ofString "turn" = Str.ofString "mixed" := by decide +kernel
theorem kCL : ¬ ks "cells" = ks "left" := fun h => absurd (Sum.inr.inj h) (by decide +kernel)
theorem kCM : ¬ ks "cells" = ks "mixed" := fun h => absurd (Sum.inr.inj h) (by decide +kernel)
theorem kCT : ¬ ks "cells" = ks "turn" := fun h => absurd (Sum.inr.inj h) (by decide +kernel)
theorem kLM : ¬ ks "left" = ks "mixed" := fun h => absurd (Sum.inr.inj h) (by decide +kernel)
theorem kLT : ¬ ks "left" = ks "turn" := fun h => absurd (Sum.inr.inj h) (by decide +kernel)
theorem kMT : ¬ ks "mixed" = ks "turn" := fun h => absurd (Sum.inr.inj h) (by decide +kernel)
theorem kLC : ¬ ks "left" = ks "cells" := fun h => kCL h.symm
theorem kMC : ¬ ks "mixed" = ks "cells" := fun h => kCM h.symm
theorem kTC : ¬ ks "turn" = ks "cells" := fun h => kCT h.symm
theorem kML : ¬ ks "mixed" = ks "left" := fun h => kLM h.symm
theorem kTL : ¬ ks "turn" = ks "left" := fun h => kLT h.symm
theorem kTM : ¬ ks "turn" = ks "mixed" := fun h => kMT h.symm
def srcK (c : Addr) (l m t : Int) : List (Key × V) := [(ks "cells", .ref c), (ks "left", .int l), (ks "mixed", .int m), (ks "turn", .int t)]
theorem src_cells (c : Addr) (l m t : Int) : valV (srcK c l m t) (ks "cells") = some (.ref c) := valV_pos rfl
theorem src_left (c : Addr) (l m t : Int) : valV (srcK c l m t) (ks "left") = some (.int l) := (valV_neg kCL).trans (valV_pos rfl)
theorem src_mixed (c : Addr) (l m t : Int) : valV (srcK c l m t) (ks "mixed") = some (.int m) := (valV_neg kCM).trans ((valV_neg kLM).trans (valV_pos rfl))
theorem src_turn (c : Addr) (l m t : Int) : valV (srcK c l m t) (ks "turn") = some (.int t) := (valV_neg kCT).trans ((valV_neg kLT).trans ((valV_neg kMT).trans (valV_pos rfl)))
theorem put_left (c : Addr) (l m t z : Int) : putK (srcK c l m t) (ks "left") (.int z) = srcK c z m t := by
  simp [putK, srcK, zCL, zCM, zCT, zLC, zLM, zLT, zMC, zML, zMT, zTC, zTL, zTM]
theorem put_mixed (c : Addr) (l m t z : Int) : putK (srcK c l m t) (ks "mixed") (.int z) = srcK c l z t := by
  simp [putK, srcK, zCL, zCM, zCT, zLC, zLM, zLT, zMC, zML, zMT, zTC, zTL, zTM]
theorem put_turn (c : Addr) (l m t z : Int) : putK (srcK c l m t) (ks "turn") (.int z) = srcK c l m z := by
  simp [putK, srcK, zCL, zCM, zCT, zLC, zLM, zLT, zMC, zML, zMT, zTC, zTL, zTM]
theorem merge_src (c : Addr) (l m t : Int) : mergeK [] (srcK c l m t) = srcK c l m t := by
  simp [mergeK, putK, srcK, zCL, zCM, zCT, zLC, zLM, zLT, zMC, zML, zMT, zTC, zTL, zTM]
theorem get_cells {H : Hp} {d c : Addr} {l m t : Int} (e : H d = some (.dK (srcK c l m t))) : DGet H d (.str "cells") (some (.ref c)) := by
  have h := DGet.k (k := ks "cells") e
  rw [src_cells] at h
  exact h
theorem get_left {H : Hp} {d c : Addr} {l m t : Int} (e : H d = some (.dK (srcK c l m t))) : DGet H d (.str "left") (some (.int l)) := by
  have h := DGet.k (k := ks "left") e
  rw [src_left] at h
  exact h
theorem get_mixed {H : Hp} {d c : Addr} {l m t : Int} (e : H d = some (.dK (srcK c l m t))) : DGet H d (.str "mixed") (some (.int m)) := by
  have h := DGet.k (k := ks "mixed") e
  rw [src_mixed] at h
  exact h
theorem get_turn {H : Hp} {d c : Addr} {l m t : Int} (e : H d = some (.dK (srcK c l m t))) : DGet H d (.str "turn") (some (.int t)) := by
  have h := DGet.k (k := ks "turn") e
  rw [src_turn] at h
  exact h
theorem dput_left {H : Hp} {d c : Addr} {l m t z : Int} (e : H d = some (.dK (srcK c l m t))) : DPut H d (.str "left") (.int z) (upd H d (.dK (srcK c z m t))) := by
  have h := DPut.k (k := ks "left") (v := .int z) e (small1000 (by show 4 ≤ 1000; decide))
  rw [put_left] at h
  exact h
theorem dput_mixed {H : Hp} {d c : Addr} {l m t z : Int} (e : H d = some (.dK (srcK c l m t))) : DPut H d (.str "mixed") (.int z) (upd H d (.dK (srcK c l z t))) := by
  have h := DPut.k (k := ks "mixed") (v := .int z) e (small1000 (by show 4 ≤ 1000; decide))
  rw [put_mixed] at h
  exact h
theorem dput_turn {H : Hp} {d c : Addr} {l m t z : Int} (e : H d = some (.dK (srcK c l m t))) : DPut H d (.str "turn") (.int z) (upd H d (.dK (srcK c l m z))) := by
  have h := DPut.k (k := ks "turn") (v := .int z) e (small1000 (by show 4 ≤ 1000; decide))
  rw [put_turn] at h
  exact h
/-- the drawn source stands at d, its cells at c -/
def Src (H : Hp) (d c : Addr) : Prop := ∃ (xs : List Int) (l m t : Int), H d = some (.dK (srcK c l m t)) ∧ H c = some (.lst (xs.map V.int)) ∧ xs.length ≤ 63 ∧ (∀ x ∈ xs, 0 ≤ x) ∧ 0 ≤ l ∧ 0 ≤ m ∧ m < 2147483647
/-- G is known: it stands in H whatever is drawn; the source itself is apart from it -/
structure Kn (G H : Hp) (d c : Addr) : Prop where
  le : Same G H
  gd : G d = none
  gc : G c = none
  src : Src H d c
section
variable {G H H' : Hp} {d c p : Addr} {o o' : HO}
theorem Src.ne (s : Src H d c) : c ≠ d := by
  obtain ⟨xs, l, m, t, h1, h2, _⟩ := s
  exact ne_of h2 h1 (by intro z; cases z)
theorem Src.some_d (s : Src H d c) (hp : H p = none) : p ≠ d := by
  obtain ⟨xs, l, m, t, h1, h2, _⟩ := s
  exact fun e => by rw [e, h1] at hp; cases hp
theorem Src.some_c (s : Src H d c) (hp : H p = none) : p ≠ c := by
  obtain ⟨xs, l, m, t, h1, h2, _⟩ := s
  exact fun e => by rw [e, h2] at hp; cases hp
theorem Src.same (s : Src H d c) (e : Same H H') : Src H' d c := by
  obtain ⟨xs, l, m, t, h1, h2, r⟩ := s
  exact ⟨xs, l, m, t, e _ _ h1, e _ _ h2, r⟩
theorem Src.off (s : Src H d c) (h1 : p ≠ d) (h2 : p ≠ c) : Src (upd H p o) d c := by
  obtain ⟨xs, l, m, t, e1, e2, r⟩ := s
  exact ⟨xs, l, m, t, by rw [upd_ne h1.symm]; exact e1, by rw [upd_ne h2.symm]; exact e2, r⟩
theorem same_new (h : H p = none) : Same H (upd H p o) := fun b x e => by
  rw [upd_ne (ne_of_none e h)]
  exact e
theorem Kn.mono (k : Kn G H d c) (e : Same H H') : Kn G H' d c := ⟨k.le.trans e, k.gd, k.gc, k.src.same e⟩
/-- a new object, remembered -/
theorem Kn.new (k : Kn G H d c) (hp : H p = none) : Kn (upd G p o) (upd H p o) d c := by
  refine ⟨fun b x e => ?_, ?_, ?_, k.src.same (same_new hp)⟩
  · by_cases hb : b = p
    · subst hb
      rw [upd_same] at e ⊢
      exact e
    · rw [upd_ne hb] at e ⊢
      exact k.le _ _ e
  · rw [upd_ne (k.src.some_d hp).symm]
    exact k.gd
  · rw [upd_ne (k.src.some_c hp).symm]
    exact k.gc
/-- an object made meanwhile, remembered -/
theorem Kn.add (k : Kn G H d c) (e : Same H H') (hp : H p = none) (h : H' p = some o) : Kn (upd G p o) H' d c := by
  refine ⟨fun b x q => ?_, ?_, ?_, k.src.same e⟩
  · by_cases hb : b = p
    · subst hb
      rw [upd_same] at q
      cases q
      exact h
    · rw [upd_ne hb] at q
      exact e _ _ (k.le _ _ q)
  · rw [upd_ne (k.src.some_d hp).symm]
    exact k.gd
  · rw [upd_ne (k.src.some_c hp).symm]
    exact k.gc
theorem Kn.nd (k : Kn G H d c) (h : G p = some o) : p ≠ d := fun e => by
  rw [e, k.gd] at h
  cases h
theorem Kn.nc (k : Kn G H d c) (h : G p = some o) : p ≠ c := fun e => by
  rw [e, k.gc] at h
  cases h
/-- a remembered object changes -/
theorem Kn.set (k : Kn (upd G p o) H d c) : Kn (upd G p o') (upd H p o') d c := by
  have n1 : p ≠ d := k.nd upd_same
  have n2 : p ≠ c := k.nc upd_same
  refine ⟨fun b x e => ?_, ?_, ?_, k.src.off n1 n2⟩
  · by_cases hb : b = p
    · subst hb
      rw [upd_same] at e ⊢
      exact e
    · rw [upd_ne hb] at e ⊢
      refine k.le _ _ ?_
      rw [upd_ne hb]
      exact e
  · have := k.gd
    rw [upd_ne n1.symm] at this ⊢
    exact this
  · have := k.gc
    rw [upd_ne n2.symm] at this ⊢
    exact this
/-- an object that nobody remembers changes -/
theorem Kn.mut (k : Kn G H d c) (g : G p = none) (n1 : p ≠ d) (n2 : p ≠ c) : Kn G (upd H p o) d c :=
  ⟨fun b x e => by rw [upd_ne (ne_of_none e g)]; exact k.le _ _ e, k.gd, k.gc, k.src.off n1 n2⟩
/-- a remembered object becomes another -/
theorem Kn.put (k : Kn G H d c) (g : G p = some o) : Kn (upd G p o') (upd H p o') d c := by
  have n1 : p ≠ d := k.nd g
  have n2 : p ≠ c := k.nc g
  refine ⟨fun b x e => ?_, by rw [upd_ne n1.symm]; exact k.gd, by rw [upd_ne n2.symm]; exact k.gc, k.src.off n1 n2⟩
  by_cases hb : b = p
  · subst hb
    rw [upd_same] at e ⊢
    exact e
  · rw [upd_ne hb] at e ⊢
    exact k.le _ _ e
/-- all that stands but the source is known -/
def hide (H : Hp) (d c : Addr) : Hp := fun b => if b = d ∨ b = c then none else H b
theorem know (k : Kn G H d c) : Kn (hide H d c) H d c :=
  ⟨fun b x e => by
    unfold hide at e
    split at e
    · cases e
    · exact e, by simp [hide], by simp [hide], k.src⟩
theorem know_le (k : Kn G H d c) : Same G (hide H d c) := fun b x e => by
  have h1 : b ≠ d := k.nd e
  have h2 : b ≠ c := k.nc e
  unfold hide
  rw [if_neg (by simp [h1, h2])]
  exact k.le _ _ e
theorem know_t {K : PySem.W.Frag} {t : Addr} {xs : List V} (k : Kn G H d c) (h : SqT K H t xs) : SqT K (hide H d c) t xs := by
  obtain ⟨ys, l, m, z, h1, h2, _⟩ := k.src
  have off : ∀ {o : HO}, H t = some o → (∀ q, o ≠ .dK q) → (∀ q, o ≠ .lst q) → (hide H d c) t = some o := fun {o} e n1 n2 => by
    have a1 : t ≠ d := fun q => by rw [q, h1] at e; exact n1 _ (Option.some.inj e).symm
    have a2 : t ≠ c := fun q => by rw [q, h2] at e; exact n2 _ (Option.some.inj e).symm
    unfold hide
    rw [if_neg (by simp [a1, a2])]
    exact e
  rcases h with (h | ⟨o, h⟩) | h
  · exact .inl (.inl (off h (fun _ q => nomatch q) (fun _ q => nomatch q)))
  · exact .inl (.inr ⟨o, off h (fun _ q => nomatch q) (fun _ q => nomatch q)⟩)
  · exact .inr h
/-- one forgets -/
theorem Kn.weak {G' : Hp} (k : Kn G H d c) (e : Same G' G) : Kn G' H d c := ⟨e.trans k.le, e.free k.gd, e.free k.gc, k.src⟩
theorem Kn.free (k : Kn G H d c) (hp : H p = none) : G p = none := k.le.free hp
end
theorem ints_at {ns : List Int} {i : Nat} {y : V} (h : (ns.map V.int)[i]? = some y) : ∃ z, y = V.int z ∧ ns[i]? = some z := by
  rw [List.getElem?_map] at h
  cases e : ns[i]? with
  | none =>
    rw [e] at h
    cases h
  | some z =>
    rw [e] at h
    exact ⟨z, (Option.some.inj h).symm, rfl⟩
theorem at_lt {α : Type} {l : List α} {i : Nat} {x : α} (h : l[i]? = some x) : i < l.length := (List.getElem?_eq_some_iff.mp h).1
/-! ### values and tests that leave the heap -/
section
variable {σ : L2.St} {H : Hp} {x y z v : V} {ta tb td ty : TE} {d : Addr} {b : Bool}
theorem val_dget (h : Val td σ H (.ref d)) (hy : Val ty σ H y) (g : DGet H d y (some v)) : Val (tDGet td ty) σ H v := fun Q q => by
  refine h _ ?_
  refine hy _ ?_
  exact ⟨d, v, rfl, g, q⟩
theorem val_cb1 {r : List V → Hp → VK → Prop} (h : Val ta σ H x) (hr : ∀ Q : VK, Q z H → r [x] H Q) : Val (tCB r (tCons ta tNil)) σ H z := fun Q q => by
  refine h _ ?_
  exact hr Q q
theorem val_cb2 {r : List V → Hp → VK → Prop} (h : Val ta σ H x) (h2 : Val tb σ H y) (hr : ∀ Q : VK, Q z H → r [x, y] H Q) : Val (tCB r (tCons ta (tCons tb tNil))) σ H z := fun Q q => by
  refine h _ ?_
  refine h2 _ ?_
  exact hr Q q
theorem tyes {A B : Hp → Prop} (h : A H) : tYes σ H (fun b H3 => if b = true then A H3 else B H3) := by
  show (if true = true then A H else B H)
  exact iteT h
theorem ans_or2 {t u : TT} {b1 b2 : Bool} (h1 : Ans t σ H b1) (h2 : Ans u σ H b2) : Ans (tOr t u) σ H (b1 || b2) := by
  cases b1 with
  | true => exact ans_or1 h1
  | false => exact ans_or h1 h2
/-- an expression by two ways, one behind -/
theorem ifx {c : Bool} {te tf : TE} {X : VK} (P : V → Hp → Prop) (h : ∀ v H', P v H' → X v H') (h1 : c = true → ∀ Y : VK, (∀ v H', P v H' → Y v H') → te σ H Y) (h2 : c = false → ∀ Y : VK, (∀ v H', P v H' → Y v H') → tf σ H Y) :
    if c = true then te σ H X else tf σ H X := by
  cases c with
  | true => exact iteT (h1 rfl X h)
  | false => exact iteF (h2 rfl X h)
/-- a statement by two ways, one behind -/
theorem ifs {c : Bool} {tA tB : TS} {D : Ends} (P : L2.St → Hp → Prop) (h : ∀ σ' H', P σ' H' → D.nx σ' H') (h1 : c = true → ∀ N : L2.St → Hp → Prop, (∀ σ' H', P σ' H' → N σ' H') → tA { D with nx := N } σ H) (h2 : c = false → ∀ N : L2.St → Hp → Prop, (∀ σ' H', P σ' H' → N σ' H') → tB { D with nx := N } σ H) :
    if c = true then tA D σ H else tB D σ H := by
  cases c with
  | true => exact iteT (h1 rfl D.nx h)
  | false => exact iteF (h2 rfl D.nx h)
/-- one test, then another, whatever they say -/
theorem ift {c : Bool} {u : TT} {X : Bool → Hp → Prop} (P : Bool → Hp → Prop) (p : P false H) (h : ∀ b H', P b H' → X b H') (h1 : ∀ Y : Bool → Hp → Prop, (∀ b H', P b H' → Y b H') → u σ H Y) :
    if c = true then u σ H X else X false H := by
  cases c with
  | true => exact iteT (h1 X h)
  | false => exact iteF (h _ _ p)
theorem Val.to (h : Val ta σ H x) (e : x = y) : Val ta σ H y := e ▸ h
theorem val_is (h : Val ta σ H x) {Q : VK} (q : Q x H) : ta σ H Q := h Q q
end
end Lw

namespace Lw
open PySem L2 PySem.Spec PyProof.Rows
/-- a tuple of one item, none times -/
theorem tm_none (l : Addr) (items : Array Value) (n : Nat) (dd : Option Addr) (sl : Array (Option Value)) (u : Tok) (he : items.isEmpty = false) :
    Meets (Builtin.«tuple.__mul__» ⟨[.ref l, .int 0 u], []⟩) (fun _ R s => s.heap.get? l = some { cls := .type "tuple", dict := dd, data := .seq items n, slots := sl } ∧
      R (.ok (.ret (Value.ref s.heap.objs.size))) { s with heap := s.heap.push { cls := Value.type "tuple", data := Data.seq #[] }, toks := s.toks }) :=
  .of_wp fun prog w A R s z => by
    obtain ⟨h1, h2, h3, h4, h5⟩ := s
    obtain ⟨hl, z⟩ := z
    have f1 := AutoSeq1.idx_int
    have c1 : (items.isEmpty || (0 : Int) == 1) = false := by rw [he]; rfl
    wp_walk using wpAny_loadPart' hl
    repeat (first
      | (refine wpAny_ite_false (decide_eq_false (by rw [c1]; exact Bool.false_ne_true)) ?_; wp_walk using wpAny_loadPart' hl)
      | (refine wpAny_ite_true (decide_eq_true (by decide)) ?_; wp_walk using wpAny_loadPart' hl)
      | (refine wpAny_ite_false (decide_eq_false (by decide)) ?_; wp_walk using wpAny_loadPart' hl))
    exact ⟨_, rfl, z⟩
/-- a tuple of one item, once: itself -/
theorem tm_once (l : Addr) (items : Array Value) (n : Nat) (dd : Option Addr) (sl : Array (Option Value)) (u : Tok) :
    Meets (Builtin.«tuple.__mul__» ⟨[.ref l, .int 1 u], []⟩) (fun _ R s => s.heap.get? l = some { cls := .type "tuple", dict := dd, data := .seq items n, slots := sl } ∧ ∀ k, R (.ok (.ret (Value.ref l))) { s with toks := k }) :=
  .of_wp fun prog w A R s z => by
    obtain ⟨h1, h2, h3, h4, h5⟩ := s
    obtain ⟨hl, z⟩ := z
    have f1 := AutoSeq1.idx_int
    have c1 : (items.isEmpty || (1 : Int) == 1) = true := by rw [show ((1 : Int) == 1) = true from rfl, Bool.or_true]
    wp_walk using wpAny_loadPart' hl
    repeat (first
      | (refine wpAny_ite_true (decide_eq_true (by rw [c1])) ?_; wp_walk using wpAny_loadPart' hl)
      | (refine wpAny_ite_false (decide_eq_false (by decide)) ?_; wp_walk using wpAny_loadPart' hl))
    exact ⟨_, rfl, z _⟩
/-- (v,) * k -/
def rRep1 (K : PySem.W.Frag) : R2 := fun x y H Q => ∃ l k v, x = .ref l ∧ y = .int k ∧ SqT K H l [v] ∧ 0 ≤ k ∧ k ≤ 1000 ∧ ∀ t H', Same H H' → SqT K H' t (List.replicate k.toNat v) → Q (.ref t) H'
section
variable {X : Cx}
theorem op_rep1 : OpR X (binaryOp .Mult) (rRep1 X.K) := by
  intro pins s σ H x y v u Q I rx ry h
  obtain ⟨l, k, z, rfl, rfl, hT, h0, h1, q⟩ := id h
  by_cases h2 : 2 ≤ k
  · refine op_repT pins s σ H _ _ v u Q I rx ry ⟨l, k, [z], rfl, rfl, hT, by simp, h2, h1, by simp, fun p hp => q p _ (same_new hp) (.inl (.inl ?_))⟩
    rw [upd_same]
    congr 2
    induction k.toNat with
    | zero => rfl
    | succ m ih => rw [List.replicate_succ, List.flatten_cons, ih, List.replicate_succ]; rfl
  · cases rx
    obtain ⟨t, rfl⟩ := ry
    obtain ⟨its, r, ⟨⟨cls, dd, data, sl⟩, ho, hc, n, hd⟩, hs⟩ := I.tuple hT
    simp only at hc hd
    subst hc hd
    have hn : its.toArray.isEmpty = false := by
      cases r with
      | cons _ _ => rfl
    rcases (by omega : k = 0 ∨ k = 1) with rfl | rfl
    · refine wpAny_binaryOp_repeat_ref (T := "tuple") (U := "int") (by decide) ⟨_, ho, rfl⟩ (fun s' => typeIs_int s' 0 t) noFill_tuple_mul F.fills_int_mul F.slot_int_rmul repeat_tuple F.slot_int_index.lookup
        (call_meets F.slot_int_rmul (typeIs_int s 0 t) F.entry_int_rmul (F.args_int_rmul_2 _ _) (int_rmul_tuple 0 t l its.toArray n dd sl)
          ⟨ho, rfl, ⟨_, ho, rfl⟩, call_meets F.slot_tuple_mul ⟨_, ho, rfl⟩ F.entry_tuple_mul (F.args_tuple_mul_2 _ _) (tm_none l its.toArray n dd sl t hn) ⟨ho, ?_⟩⟩)
      have hf := I.hok.fresh (Nat.le_refl s.heap.objs.size)
      refine ⟨.ref s.heap.objs.size, upd H s.heap.objs.size (.tup []), I.laid (t' := s.toks) (o := .tup []) (fun b ob q => Heap.get?_push_of_some _ q) (Nat.le_refl _) ?_, rfl, q _ _ (same_new hf) (.inl (.inl upd_same))⟩
      exact ⟨Nat.zero_le _, [], .nil, IsTup.new _ _⟩
    · refine wpAny_binaryOp_repeat_ref (T := "tuple") (U := "int") (by decide) ⟨_, ho, rfl⟩ (fun s' => typeIs_int s' 1 t) noFill_tuple_mul F.fills_int_mul F.slot_int_rmul repeat_tuple F.slot_int_index.lookup
        (call_meets F.slot_int_rmul (typeIs_int s 1 t) F.entry_int_rmul (F.args_int_rmul_2 _ _) (int_rmul_tuple 1 t l its.toArray n dd sl)
          ⟨ho, rfl, ⟨_, ho, rfl⟩, call_meets F.slot_tuple_mul ⟨_, ho, rfl⟩ F.entry_tuple_mul (F.args_tuple_mul_2 _ _) (tm_once l its.toArray n dd sl t) ⟨ho, fun k => ?_⟩⟩)
      exact ⟨.ref l, H, I.tok k, rfl, q _ _ (Same.refl _) hT⟩
end
end Lw

namespace Lw
open PySem L2
/-! ### rows as data -/
def dR (r : List Int) : PyData := .tuple (r.map .int)
def dRs (rs : List (List Int)) : PyData := .list (rs.map dR)
theorem dp_ints {K : PySem.W.Frag} {H : Hp} : ∀ ns : List Int, DpAll K H (ns.map V.int) (ns.map PyData.int)
  | [] => .nil
  | n :: ns => .cons (.int n) (dp_ints ns)
theorem dp_row {K : PySem.W.Frag} {H : Hp} {t : Addr} {r : List Int} (h : SqT K H t (r.map V.int)) : Dp K H (.ref t) (dR r) := .tup h (dp_ints r)
/-- at ts stand the rows -/
inductive Rows (K : PySem.W.Frag) (H : Hp) : List V → List (List Int) → Prop where
  | nil : Rows K H [] []
  | cons {t : Addr} {ts : List V} {r : List Int} {rs : List (List Int)} : SqT K H t (r.map V.int) → Rows K H ts rs → Rows K H (.ref t :: ts) (r :: rs)
theorem sameT {K : PySem.W.Frag} {H H' : Hp} {a : Addr} {xs : List V} (e : Same H H') (h : SqT K H a xs) : SqT K H' a xs := by
  rcases h with (h | ⟨o, h⟩) | h
  · exact .inl (.inl (e _ _ h))
  · exact .inl (.inr ⟨o, e _ _ h⟩)
  · exact .inr h
theorem Rows.mono {K : PySem.W.Frag} {H H' : Hp} (e : Same H H') : ∀ {ts : List V} {rs : List (List Int)}, Rows K H ts rs → Rows K H' ts rs
  | _, _, .nil => .nil
  | _, _, .cons h t => .cons (sameT e h) (Rows.mono e t)
theorem Rows.append {K : PySem.W.Frag} {H : Hp} : ∀ {ts us : List V} {rs qs : List (List Int)}, Rows K H ts rs → Rows K H us qs → Rows K H (ts ++ us) (rs ++ qs)
  | _, _, _, _, .nil, k => k
  | _, _, _, _, .cons h t, k => .cons h (Rows.append t k)
theorem Rows.one {K : PySem.W.Frag} {H : Hp} {t : Addr} {r : List Int} (h : SqT K H t (r.map V.int)) : Rows K H [.ref t] [r] := .cons h .nil
theorem Rows.len {K : PySem.W.Frag} {H : Hp} : ∀ {ts : List V} {rs : List (List Int)}, Rows K H ts rs → ts.length = rs.length
  | _, _, .nil => rfl
  | _, _, .cons _ t => by rw [List.length_cons, List.length_cons, Rows.len t]
theorem Rows.get {K : PySem.W.Frag} {H : Hp} : ∀ {ts : List V} {rs : List (List Int)} {i : Nat} {x : V}, Rows K H ts rs → ts[i]? = some x → ∃ t r, x = .ref t ∧ rs[i]? = some r ∧ SqT K H t (r.map V.int)
  | _, _, _, _, .nil, e => by simp at e
  | _, _, 0, _, .cons h _, e => by simp at e; exact ⟨_, _, e.symm, rfl, h⟩
  | _, _, i + 1, _, .cons _ t, e => by
    obtain ⟨a, r, h1, h2, h3⟩ := Rows.get (i := i) t (by simpa using e)
    exact ⟨a, r, h1, by simpa using h2, h3⟩
theorem dp_rows {K : PySem.W.Frag} {H : Hp} : ∀ {ts : List V} {rs : List (List Int)}, Rows K H ts rs → DpAll K H ts (rs.map dR)
  | _, _, .nil => .nil
  | _, _, .cons h t => .cons (dp_row h) (dp_rows t)
theorem sqt_off {K : PySem.W.Frag} {H : Hp} {D a : Addr} {xs ys zs : List V} (hD : H D = some (.lst xs)) (h : SqT K H a zs) : SqT K (upd H D (.lst ys)) a zs := by
  rcases h with (h | ⟨o, h⟩) | h
  · exact .inl (.inl (by rw [upd_ne (ne_of h hD (by intro z; cases z))]; exact h))
  · exact .inl (.inr ⟨o, by rw [upd_ne (ne_of h hD (by intro z; cases z))]; exact h⟩)
  · exact .inr h
/-- the rows stand, whatever a list becomes -/
theorem rows_off {K : PySem.W.Frag} {H : Hp} {D : Addr} {xs ys : List V} (hD : H D = some (.lst xs)) : ∀ {ts : List V} {rs : List (List Int)}, Rows K H ts rs → Rows K (upd H D (.lst ys)) ts rs
  | _, _, .nil => .nil
  | _, _, .cons h t => .cons (sqt_off hD h) (rows_off hD t)
theorem small1000' {n : Nat} (h : n ≤ 10000) : n < sizeLine := Nat.lt_of_le_of_lt h (by decide)
theorem can_ints : ∀ ns : List Int, PyData.canLayAll0 (ns.map PyData.int) = true
  | [] => rfl
  | n :: ns => by
    show (PyData.canLay0 (.int n) && PyData.canLayAll0 (ns.map PyData.int)) = true
    rw [can_ints ns]
    rfl
theorem dep_ints : ∀ ns : List Int, PyData.depthAll (ns.map PyData.int) ≤ 1
  | [] => by decide
  | n :: ns => by
    have ih := dep_ints ns
    have h1 : PyData.depth (.int n) ≤ 1 := by simp [PyData.depth]
    simp only [List.map_cons, PyData.depthAll]
    omega
theorem can_rows : ∀ rs : List (List Int), PyData.canLayAll0 (rs.map dR) = true
  | [] => rfl
  | r :: rs => by
    show (PyData.canLay0 (dR r) && PyData.canLayAll0 (rs.map dR)) = true
    rw [can_rows rs, Bool.and_true]
    show PyData.canLayAll0 (r.map PyData.int) = true
    exact can_ints r
theorem dep_row (r : List Int) : PyData.depth (dR r) ≤ 2 := by
  have h := dep_ints r
  unfold dR
  simp only [PyData.depth]
  omega
theorem dep_rows : ∀ rs : List (List Int), PyData.depthAll (rs.map dR) ≤ 2
  | [] => by decide
  | r :: rs => by
    have ih := dep_rows rs
    have h1 := dep_row r
    simp only [List.map_cons, PyData.depthAll]
    omega
theorem shp_row (r : List Int) : SeqAt.shaped (dR r) = true := by
  unfold SeqAt.shaped
  rw [Bool.and_eq_true]
  exact ⟨can_ints r, decide_eq_true (Nat.le_trans (dep_row r) (by decide))⟩
theorem shp_rows (rs : List (List Int)) : SeqAt.shaped (dRs rs) = true := by
  unfold SeqAt.shaped
  rw [Bool.and_eq_true]
  refine ⟨can_rows rs, decide_eq_true ?_⟩
  have h := dep_rows rs
  unfold dRs
  simp only [PyData.depth]
  omega
theorem eqv_same {d : PyData} (h : SeqAt.shaped d = true) : PyData.eqv d d = true := SeqAt.eqv_refl d (SeqAt.canLay_of_shaped h)
theorem neD_no {d : PyData} (h : SeqAt.shaped d = true) {A B : Prop} (b : B) : if (!PyData.eqv d d) = true then A else B := by
  rw [eqv_same h]
  exact iteF b
theorem ne_no {x : V} {A B : Prop} (b : B) : if (!decide (x = x)) = true then A else B := by
  rw [decide_eq_true rfl]
  exact iteF b
theorem know_rows {K : PySem.W.Frag} {G H : Hp} {d c : Addr} (k : Kn G H d c) : ∀ {ts : List V} {rs : List (List Int)}, Rows K H ts rs → Rows K (hide H d c) ts rs
  | _, _, .nil => .nil
  | _, _, .cons h t => .cons (know_t k h) (know_rows k t)
theorem rows_set {K : PySem.W.Frag} {H : Hp} {t : Addr} {r : List Int} : ∀ {ts : List V} {rs : List (List Int)} {i : Nat}, Rows K H ts rs → SqT K H t (r.map V.int) → Rows K H (ts.set i (.ref t)) (rs.set i r)
  | _, _, _, .nil, _ => by simpa using Rows.nil
  | _, _, 0, .cons _ tl, h => by simpa using Rows.cons h tl
  | _, _, i + 1, .cons h0 tl, h => by simpa using Rows.cons h0 (rows_set (i := i) tl h)
theorem s_off {H H' : Hp} {D : Addr} {o : HO} (s : Same H H') (h : H D = none) : Same H (upd H' D o) := fun b x e => by
  rw [upd_ne (ne_of_none e h)]
  exact s _ _ e
theorem at_nat {us : List V} {i : Nat} {x : V} (h : us[i]? = some x) : atI us (i : Int) = some x := atI_nat h
theorem ixN_nat {n i : Nat} (h : i < n) : ixN n (i : Int) = some i := by
  unfold ixN
  rw [if_pos (by omega), if_pos (by omega)]
  simp
theorem rows_take {K : PySem.W.Frag} {H : Hp} : ∀ {ts : List V} {rs : List (List Int)} {j : Nat}, Rows K H ts rs → Rows K H (ts.take j) (rs.take j)
  | _, _, _, .nil => by simpa using Rows.nil
  | _, _, 0, .cons _ _ => .nil
  | _, _, j + 1, .cons h t => .cons h (rows_take t)
theorem six_nat {n d m : Nat} (h : m ≤ n) : HT.sIx n d (some (m : Int)) = m := by
  rw [HT.sIx_nat]
  omega
theorem cut_from (us : List V) (n : Nat) (h : n ≤ us.length) : cutV us (some (n : Int)) none = us.drop n := by
  unfold cutV
  rw [show HT.sIx us.length 0 (some (n : Int)) = n from six_nat h, show HT.sIx us.length us.length none = us.length from rfl]
  exact List.take_of_length_le (by rw [List.length_drop]; exact Nat.le_refl _)
theorem cut_to (us : List V) (x : Int) : ∃ j, cutV us none (some x) = us.take j := by
  unfold cutV
  exact ⟨_, by rw [show HT.sIx us.length 0 none = 0 from rfl, List.drop_zero]⟩
theorem rows_drop {K : PySem.W.Frag} {H : Hp} : ∀ {ts : List V} {rs : List (List Int)} {j : Nat}, Rows K H ts rs → Rows K H (ts.drop j) (rs.drop j)
  | _, _, _, .nil => by simpa using Rows.nil
  | _, _, 0, .cons h t => .cons h t
  | _, _, j + 1, .cons _ t => by simpa using rows_drop (j := j) t
theorem cut_nat (us : List V) (m : Nat) : cutV us none (some (m : Int)) = us.take m := by
  unfold cutV
  rw [show HT.sIx us.length 0 none = 0 from rfl, List.drop_zero, HT.sIx_nat, Nat.sub_zero]
  by_cases h : m ≤ us.length
  · rw [Nat.min_eq_left h]
  · rw [Nat.min_eq_right (by omega), List.take_of_length_le (Nat.le_refl _), List.take_of_length_le (by omega)]
end Lw

namespace Lw
open PySem L2 PySem.Spec PyProof.Rows
/-- X(), X an own exception class without own __init__ -/
theorem pmk_none {X : Cx} {pos : Pos} {C : Addr} {bmB : List Value} {B newId initId : String} {x : Str} {p : Pos} (F : ExcBaseFacts B newId initId bmB) (e : PySem.W.excIn X.K C bmB newId = true) (gC : X.mg x = some (.ref C))
    (kC : PySem.W.keepIn X.K (.ref C) = true) (rs : Raises X (.ref C)) (hg : Gl X x) (hdb : (x == ("__debug__" : Str)) = false := by decide) :
    PMk X (.Call (.Name x p) [] [] pos) (fun _ H Q => Q (.ref C) none H) := by
  intro pins s σ H Q I h
  refine wpAny_Call_Name_kw (ld_glob I hg gC ?_ hdb)
  refine PySem.W.callWith_K0 I.kIn kC ?_
  show wpAny _ _ (call (.ref C) []) _ _ _
  obtain ⟨bm, N, nm, qn, bs, hdct, sn, sub, ab, col, dd, k0, k1, k2, k3, k5, mN, hC, hN, hni, T⟩ := exc_obj I.kIn e
  exact wpAny_call_exc_subT F T hC hN hni (fun h' a hm => mk_of I hm rs h (I.hok.gone hm.new)) (Nat.zero_le _)
/-- what the written part says of an own exception class over ValueError -/
structure OwnX (K : PySem.W.Frag) (mg : Str → Option Value) (x : Str) (C : Addr) : Prop where
  g : mg x = some (.ref C)
  ex : PySem.W.excIn K C [.type "ValueError", .type "Exception", .type "BaseException", .type "object"] "ValueError.__new__" = true
  kp : PySem.W.keepIn K (.ref C) = true
  bE : PySem.W.subIn K (.ref C) (.type "BaseException") = some true
  tE : PySem.W.typeIn K (.ref C) = some (.type "type")
  iE : PySem.W.isClsIn K C = true
  sE : PySem.W.subIn K (.ref C) (.ref C) = some true
theorem OwnX.me {K : PySem.W.Frag} {mg : Str → Option Value} {x : Str} {C : Addr} (o : OwnX K mg x C) : PySem.W.exmOne K (.ref C) (.ref C) = some true := by
  have e1 : (PySem.W.subIn K (.ref C) (.type "BaseException") == some true) = true := by rw [o.bE]; rfl
  have e3 : (PySem.W.clsIn K C).isSome = true := o.iE
  have e2 : ((PySem.W.clsIn K C).isSome && PySem.W.typeIn K (.ref C) == some (.type "type")) = true := by rw [e3, o.tE]; rfl
  show (if _ then (if _ then _ else _) else _) = some true
  rw [if_pos e1, if_pos e2]
  exact o.sE
end Lw

/-! ### defs that may show data: nothing is being shown around them -/
namespace Lw
open PySem L2 PySem.Spec PyProof.Rows
/-- a def's promise where nothing is being shown around it -/
structure FnG (P : Program) (w : World) (K : PySem.W.Frag) (mg : Str → Option Value) (base : Heap) (CX : CXT) (k : Nat) (f : Addr) (fd : FuncData) (ps : List Str) (sp : Sp) : Prop where
  len : ∀ vs H Q E, sp vs H Q E → vs.length = ps.length
  run : ∀ (A : Around) (outer : List Env) (s : Shared) (H : Hp) (args : Args) (us : List Value) (vs : List V) (Q : VK) (E : XK), A.guards = some [] → Room k A → Env0 P w K mg base A outer s H → BindsTo s fd args (ps.zip us) → Vals vs us →
    sp vs H Q E → codeAny (model P w) A (.call (.ref f) args) (CR CX outer P w H s Q E) s
section
variable {P : Program} {w : World} {K : PySem.W.Frag} {mg : Str → Option Value} {base : Heap} {CX : CXT}
theorem FnG.of {k : Nat} {f : Addr} {fd : FuncData} {ps : List Str} {sp : Sp} (F : FnOk P w K mg base CX k f fd ps sp) : FnG P w K mg base CX k f fd ps sp :=
  ⟨F.len, fun A outer s H args us vs Q E _ hr e0 hb r h => F.run A outer s H args us vs Q E hr e0 hb r h⟩
/-- a def by its body, the guards known -/
theorem okG_of {x qual : Str} {st : Stmt} {f : Addr} {fd : FuncData} {N ps : List Str} {k : Nat} {sp : Sp} (F : Fun K x qual st f fd) (S : FnScope N ps (defScope st)) (len : ∀ vs H Q E, sp vs H Q E → vs.length = ps.length)
    (hbody : ∀ (cdv : Value) (A : Around) (outer : List Env) (s : Shared) (H : Hp) (vs : List V) (Q : VK) (E : XK), A.guards = some [] → Room k (A.deeper (envOfC qual (defScope st) s.heap.objs.size f cdv)) → sp vs H Q E →
      ∃ t, PSs (cxOf CX P w K mg base N qual (defScope st) f cdv A outer s H E) (defBody st) t ∧ t { nx := fun _ H' => Q .non H', rt := Q } (start N vs) H) :
    FnG P w K mg base CX (k + 1) f fd ps sp := by
  obtain ⟨oc, od, kV, doc, pm, an, cdv, ct, osl, rfl, lk, hcd⟩ := F.ex
  refine ⟨len, fun A outer s H args us vs Q E hG hR e0 hb r hsp => ?_⟩
  have X1 : K.In s.heap := e0.mod.kin.keeps fun b o e => (e0.bs b o e).1
  have lim : s.heap.NoLimit := e0.mod.nolimit.keeps fun b o e => (e0.bs b o e).1
  have kinds : ∀ y ∈ ps.zip us, (defScope st).names.lookup y.1 = some .local ∨ ((defScope st).names.lookup y.1 = some .cell ∧ ((cellsFrom (s.heap.objs.size + 1) (defScope st).names []).lookup y.1).isSome = true) := by
    rintro ⟨n, v⟩ hy
    cases S.par n (List.of_mem_zip hy).1 with
    | inl q => exact .inl q
    | inr q => exact .inr ⟨q, PySem.W.cellsFrom_some _ _ _ (.inl q)⟩
  refine codeAny_call_function hR.depth (X1 _ _ lk) rfl S.co S.gen rfl (PySem.W.codeRec_of X1 hcd) (hb _ _ _ _ ?_)
  refine wpAny_newFunctionEnv_cells S.kind kinds fun env he s1 ic => ?_
  subst he
  refine ⟨lim.keeps ic.toInCall.keep, codeAny_func ?_⟩
  obtain ⟨t, ht, hq⟩ := hbody cdv A outer s H vs Q E hG (hR.deeper _) hsp
  have I := inv_start (CX := CX) (E := E) S hR.hd e0 (len _ _ _ _ hsp) r ic
  refine wpAny_mono (ht.run [] s1 (start N vs) H _ I hq) (fun fl s' hs => ?_) fun e s' hs => hs
  cases fl with
  | ret u =>
    obtain ⟨v, σ', H', J, rv, q⟩ := hs
    exact ⟨v, H', J.os, J.bare, J.base, J.hok, rv, q⟩
  | next =>
    obtain ⟨σ', H', J, q⟩ := hs
    exact ⟨V.non, H', J.os, J.bare, J.base, J.hok, (rfl : Value.none = Value.none), q⟩
  | brk =>
    obtain ⟨_, _, _, q⟩ := hs
    exact False.elim q
  | cont =>
    obtain ⟨_, _, _, q⟩ := hs
    exact False.elim q
end
section
variable {P : Program} {w : World} {K : PySem.W.Frag} {mg : Str → Option Value} {base : Heap}
/-- the same where nothing is raised -/
theorem okG_nox {x qual : Str} {st : Stmt} {f : Addr} {fd : FuncData} {N ps : List Str} {k : Nat} {sp : Sp} (F : Fun K x qual st f fd) (S : FnScope N ps (defScope st)) (len : ∀ vs H Q E, sp vs H Q E → vs.length = ps.length)
    (hbody : ∀ (cdv : Value) (A : Around) (outer : List Env) (s : Shared) (H : Hp) (vs : List V) (Q : VK) (E : XK), A.guards = some [] → Room k (A.deeper (envOfC qual (defScope st) s.heap.objs.size f cdv)) → sp vs H Q E →
      ∃ t, PSs (cxOf CX0 P w K mg base N qual (defScope st) f cdv A outer s H E).nox (defBody st) t ∧ t { nx := fun _ H' => Q .non H', rt := Q } (start N vs) H) : FnG P w K mg base CX0 (k + 1) f fd ps sp :=
  okG_of F S len fun cdv A outer s H vs Q E hG hr h => by
    obtain ⟨t, ht, q⟩ := hbody cdv A outer s H vs Q E hG hr h
    exact ⟨t, ht.nox, q⟩
end
section
variable {X : Cx} {CX : CXT} {k : Nat} {f : Addr} {fd : FuncData} {ps : List Str} {sp : Sp} {dvs : List V} {ds : List Value} {E : XK} {x : Str} {p pos : Pos} {e : Expr} {es : List Expr} {t : TA}
/-- a call of such a def from a body around which nothing is being shown -/
theorem pe_callG (F : FnG X.prog X.w X.K X.mg X.base CX k f fd ps sp) (hG : X.A.guards = some []) (hr : Room k X.A) (hg : Gl X x) (hm : X.mg x = some (.ref f)) (hk : PySem.W.keepIn X.K (.ref f) = true) (hb : Binds X.K fd ps ds) (hd : Vals dvs ds) (hx : Passes CX X E)
    (ha : PA X (e :: es) t) (hdb : (x == ("__debug__" : Str)) = false := by decide) (he : starEach (e :: es) X.env = (false, eval e X.env) :: starEach es X.env := by rfl) (hpl : (backTo pos (starEach es X.env)).any (·.1) = false := by rfl) :
    PE X (.Call (.Name x p) (e :: es) [] pos) (tCall sp dvs E t) := by
  constructor
  intro pins s σ H Q I h
  refine wpAny_Call_Name_kw (ld_glob I hg hm ?_ hdb)
  refine PySem.W.callWith_K (h₀ := X.base) I.ok.mod.kin hk (thn (ha.run pos pins s σ H _ I h) ?_) he hpl
  rintro us s1 ⟨vs, H1, I1, r, q⟩
  refine ⟨I1.kIn, ?_⟩
  have r2 := r.append hd
  have hl : (us ++ ds).length = ps.length := r2.length.symm.trans (F.len _ _ _ _ q)
  refine wpAny_call (codeAny_mono (F.run X.A X.stack s1 H1 ⟨us, []⟩ _ _ Q E hG hr I1.env0 (hb s1 us I1.kIn hl) r2 q) ?_)
  intro res s' hq
  cases res with
  | error e' => exact hx pins σ H1 s1 e' s' I1 hq
  | ok fl =>
    cases fl with
    | ret u => exact I1.after hq
    | next => cases hq
    | brk => cases hq
    | cont => cases hq
/-- repr of data -/
def rReprD (K : PySem.W.Frag) : List V → Hp → VK → Prop := fun xs H Q => ∃ (v : V) (d : PyData), xs = [v] ∧ Dp K H v d ∧ d.showable = true ∧ d.canLay0 = true ∧ d.depth ≤ 64 ∧ d.shown.length ≤ sizeLine ∧ Q (.str d.shown) H
theorem call_reprD (hG : X.A.guards = some []) (hu : X.A.units + 66 < cLine) : CallR X (.builtin "repr") (rReprD X.K) := by
  intro pins s σ H xs us Q I r h
  obtain ⟨v, d, rfl, hd, hs, hc, hp, hz, q⟩ := h
  obtain ⟨u, rfl, ru⟩ := vals1 r
  cases hd with
  | non =>
    cases (show u = Value.none from ru)
    exact PySem.P.repr_of_none ⟨.str _, H, I.tok _, ⟨_, rfl⟩, q⟩
  | bl b =>
    cases (show u = Value.bool b from ru)
    exact PySem.P.repr_of_bool ⟨.str _, H, I.tok _, ⟨_, rfl⟩, q⟩
  | int i =>
    obtain ⟨t, rfl⟩ := ru
    exact PySem.P.repr_of_int (of_decide_eq_true hs) ⟨.str _, H, I.tok _, ⟨_, rfl⟩, q⟩
  | str x =>
    obtain ⟨t, rfl⟩ := ru
    exact PySem.P.repr_of_str ⟨.str _, H, I.tok _, ⟨_, rfl⟩, q⟩ hz
  | @lst a xs ds h1 h2 =>
    obtain ⟨as, hr⟩ := Dp.reads I _ _ u (.lst h1 h2) ru
    cases (show u = Value.ref a from ru)
    exact repr_of_reads' hr hs (PyData.noDict_hsm (PyData.hasDict_of_canLay _ hc)) hG (by omega) (fun _ _ z => z) (fun h' k tk hk => ⟨.str _, H, I.kept (t' := tk) hk, ⟨_, rfl⟩, q⟩) hz
  | @tup a xs ds h1 h2 =>
    obtain ⟨as, hr⟩ := Dp.reads I _ _ u (.tup h1 h2) ru
    cases (show u = Value.ref a from ru)
    exact repr_of_reads' hr hs (PyData.noDict_hsm (PyData.hasDict_of_canLay _ hc)) hG (by omega) (fun _ _ z => z) (fun h' k tk hk => ⟨.str _, H, I.kept (t' := tk) hk, ⟨_, rfl⟩, q⟩) hz
end
end Lw

/-! ### the end of a law's row, the guards known -/
namespace Lw
open PySem L2 PySem.Spec PyProof.Rows
theorem end_call {P : Program} {w : World} {K : PySem.W.Frag} {mg mb : Str → Option Value} {CX : CXT} {k : Nat} {fa a : Addr} {fd : FuncData} {x : Str} {sp : Sp} {s₁ : Shared} {vs : List Value} {ns : List Int}
    (KX : K.In s₁.heap) (hns : s₁.heap.Ns mainGlobals mg) (hb : s₁.heap.Ns builtinsNs mb) (hbb : ∀ x : Str, x ≠ "__name__" → mb x = bootBuiltins x) (hlim : s₁.heap.NoLimit) (hg : s₁.gens = #[])
    (ha : s₁.heap.get? a = some { cls := .type "list", data := .seq vs.toArray }) (hi : IntsAre vs ns) (hl : ns.length ≤ sizeLine) (hr : Room k callerA)
    (F : ∀ base : Heap, K.In base → base.Ns mainGlobals mg → FnG P w K mg base CX k fa fd [x] sp) (hbind : ∀ (s : Shared) (u : Value), BindsTo s fd ⟨[u], []⟩ [(x, u)])
    (hsp : ∀ H : Hp, SqL K H a (ns.map V.int) → sp [.ref a] H (fun v _ => v = .bl true) fun _ _ _ => False)
    (hCX : ∀ H e s', CX [] H s₁ (fun _ _ _ => False) e s' → False) :
    codeAny (model P w) callerA (.call (.ref fa) ⟨[.ref a], []⟩) (fun r s' => r = .ok (.ret (.bool true)) ∧ OldK s₁.heap s'.heap ∧ s'.os = s₁.os ∧ AllBare s'.gens) s₁ := by
  have rv := vals_ints hi
  have lenV := hi.length
  have core : ∀ H : Hp, Only H → SqL K H a (ns.map V.int) → HOk P w H s₁.heap → (∀ b, H b ≠ none → b = a) → (H a ≠ none → K.lookup a = none) →
      codeAny (model P w) callerA (.call (.ref fa) ⟨[.ref a], []⟩) (fun r s' => r = .ok (.ret (.bool true)) ∧ OldK s₁.heap s'.heap ∧ s'.os = s₁.os ∧ AllBare s'.gens) s₁ := by
    intro H hO hS hok hA hK
    -- a tracked thing is the script
    have isA : ∀ {b : Addr} {u : HO}, H b = some u → b = a := fun {b u} q => hA b (by rw [q]; exact fun z => nomatch z)
    have dictOff : ∀ {b : Addr} {o : Obj} {es : Array DictEntry} {ep : Nat}, s₁.heap.get? b = some o → o.data = .dict es ep → H b = none := fun {b o es ep} e d => by
      cases q : H b with
      | none => rfl
      | some u =>
        have eb := isA q
        rw [eb, ha] at e
        cases e
        exact absurd (show Data.seq vs.toArray _ = Data.dict es ep from d) (fun z => nomatch z)
    have nsOff : ∀ {b : Addr} {m : Str → Option Value}, s₁.heap.Ns b m → (hidT s₁.heap H).Ns b m := fun {b m} z => by
      obtain ⟨o, es, ep, e, d, r⟩ := z
      exact ⟨o, es, ep, hidT_get e (dictOff e d), d, r⟩
    have inOff : K.In (hidT s₁.heap H) := fun b o e => by
      refine hidT_get (KX b o e) ?_
      cases q : H b with
      | none => rfl
      | some u =>
        have eb := isA q
        rw [eb] at e q
        rw [hK (by rw [q]; exact fun z => nomatch z)] at e
        cases e
    have hM : Mod K mg (hidT s₁.heap H) := by
      obtain ⟨mc, h1, h2⟩ := hlim
      exact ⟨inOff, nsOff hns, ⟨mb, nsOff hb, hbb⟩, ⟨mc, nsOff h1, h2⟩⟩
    have e0 : Env0 P w K mg (hidT s₁.heap H) callerA [] s₁ H := by
      refine ⟨rfl, hM, fun b o e => of_hidT e, Nat.le_of_eq (hidT_size _ _), trivial, fun b z => ?_, hok, .of_eq hg⟩
      cases (show b ∈ ([] : List Addr) from z)
    refine codeAny_mono ((F _ inOff (nsOff hns)).run callerA [] s₁ H ⟨[.ref a], []⟩ [.ref a] [.ref a] _ _ rfl hr e0 (hbind s₁ (.ref a)) (.cons rfl .nil) (hsp H hS)) ?_
    intro r s' h
    cases r with
    | error e => exact (hCX H e s' h).elim
    | ok fl =>
      cases fl with
      | next => cases h
      | brk => cases h
      | cont => cases h
      | ret u =>
        obtain ⟨v, H', os, bare, un, hok', r', rfl⟩ := h
        obtain rfl : u = Value.bool true := r'
        refine ⟨rfl, OldK.of_keep fun b o e => ?_, os, bare⟩
        cases q : H b with
        | none => exact un.keep b o e q (fun z => by cases (show b ∈ ([] : List Addr) from z)) (fun z => by cases z)
        | some u =>
          cases hO b with
          | inl z => rw [q] at z; cases z
          | inr z =>
            obtain ⟨ob, xs, z⟩ := z
            obtain ⟨e1, _⟩ := hok b _ z
            obtain ⟨e2, _⟩ := hok' b _ (un.frzs b ob _ z)
            rw [e] at e1
            cases e1
            exact e2
  cases hk : K.lookup a with
  | some o =>
    have e := KX a o hk
    rw [ha] at e
    cases e
    refine core (fun _ => none) (fun _ => .inl rfl) (.inr ⟨_, vs.toArray, _, hk, rfl, rfl, rfl, by rw [List.size_toArray, lenV]; exact hl, by simpa using rv⟩) (fun b u z => nomatch z) (fun b z => absurd rfl z) fun z => absurd rfl z
  | none =>
    refine core (upd (fun _ => none) a (.frz { cls := .type "list", data := .seq vs.toArray } (.lst (ns.map V.int)))) (fun b => ?_) (.inl (.inr ⟨{ cls := .type "list", data := .seq vs.toArray }, upd_same⟩)) (fun b u z => ?_) (fun b z => ?_) fun _ => hk
    · by_cases hba : b = a
      · subst hba
        exact .inr ⟨_, _, upd_same⟩
      · exact .inl (upd_ne hba)
    · by_cases hba : b = a
      · subst hba
        rw [upd_same] at z
        cases z
        exact ⟨ha, by rw [List.length_map]; exact hl, vs, _, rv, ha⟩
      · rw [upd_ne hba] at z
        cases z
    · by_cases hba : b = a
      · exact hba
      · exact absurd (upd_ne hba) z
theorem walk_G {l : PySem.W.OpenLaw} {n k : Nat} {q : Program} {loose : List Str} {XP : (Str → Option Value) → Heap → Prop} {YP : World → Heap → Prop} {d : DefRec} {K : Params → PySem.W.Frag} {CX : World → CXT} {sp : World → Sp} {x : Str}
    (hn : l.most = some n) (hn2 : n ≤ sizeLine) (hdf : d.params.defaults = []) (hr : Room k callerA)
    (hY : ∀ (w : World) (h : Heap), YP w h → (K w.params).In h)
    (F : ∀ (w : World) (mg : Str → Option Value) (fa : Addr) (h : Heap), (K w.params).In h → h.Ns mainGlobals mg → mg d.name = some (.ref fa) →
      ∃ fd : FuncData, (∀ (s : Shared) (u : Value), BindsTo s fd ⟨[u], []⟩ [(x, u)]) ∧
        ∀ base : Heap, (K w.params).In base → base.Ns mainGlobals mg → FnG l.prog w (K w.params) mg base (CX w) k fa fd [x] (sp w))
    (hsp : ∀ (w : World) (H : Hp) (a : Addr) (ns : List Int), ns.length ≤ n → SqL (K w.params) H a (ns.map V.int) → sp w [.ref a] H (fun v _ => v = .bl true) fun _ _ _ => False)
    (hCX : ∀ (w : World) (H : Hp) (s : Shared) (e : Value) (s' : Shared), CX w [] H s (fun _ _ _ => False) e s' → False) :
    PySem.W.WalkO q loose XP YP l.row.toRowW d [] (fun f vs => PySem.call f vs) := by
  refine Att.attach_call hn hdf ?_
  intro w s₀ s₁ mg mb fa o pm cd doc a vs ns G Y ho hd hcd hmg hobj hints hlen hg
  have KX := hY w _ Y
  obtain ⟨fd, hb, hF⟩ := F w mg fa _ KX G.T.g hmg
  exact end_call KX G.T.g G.T.b G.T.builtins G.T.nolimit hg hobj hints (Nat.le_trans hlen hn2) hr hF hb (fun H hS => hsp w H a ns hlen hS) fun H e s' => hCX w H s₁ e s'
end Lw

/-! ### zip of lists and tuples in any mix; enumerate of a tuple -/
namespace Lw
open PySem L2 PySem.Spec PyProof.Rows
/-- a list (true), a tuple (false) -/
def SqK (K : PySem.W.Frag) (k : Bool) (H : Hp) (a : Addr) (xs : List V) : Prop := match k with
  | true => SqL K H a xs
  | false => SqT K H a xs
def ItK (k : Bool) (h : Heap) (it l : Addr) (i : Nat) : Prop := match k with
  | true => h.IsListIter it l i
  | false => h.IsTupleIter it l i
def AtK (k : Bool) (h : Heap) (l : Addr) (its : Array Value) : Prop := match k with
  | true => h.IsList l its
  | false => h.IsTuple l its
theorem SqK.same {K : PySem.W.Frag} {k : Bool} {H H' : Hp} {a : Addr} {xs : List V} (e : Same H H') (h : SqK K k H a xs) : SqK K k H' a xs := by
  cases k with
  | true => exact e.seq h
  | false => exact sameT e h
section
variable {X : Cx} {pins : List (Addr × Obj)} {σ : L2.St} {H : Hp} {s : Shared} {a : Addr} {xs ys : List V} {k : Bool}
theorem sq_at (I : Inv X pins σ H s) (h : SqK X.K k H a xs) : ∃ its : List Value, Vals xs its ∧ AtK k s.heap a its.toArray ∧ a < s.heap.objs.size := by
  cases k with
  | true =>
    obtain ⟨its, rv, p, _⟩ := I.list h
    exact ⟨its, rv, p.isList, p.lt⟩
  | false =>
    obtain ⟨its, rv, p, _⟩ := I.tuple h
    obtain ⟨o, ho, q⟩ := id p
    exact ⟨its, rv, p, Heap.lt_size ho⟩
theorem sq_inj (I : Inv X pins σ H s) (h : SqK X.K k H a xs) (h' : SqK X.K k H a ys) : xs = ys := by
  cases k with
  | true => exact I.list_inj h h'
  | false => exact I.tuple_inj h h'
end
theorem drK {prog : Program} {w : World} {A : Around} (k : Bool) (hh : A.handled = none) (it l : Addr) (hne : l ≠ it) (items : Array Value) :
    Draws prog w A it [it, l] items.size (fun i v => items[i]? = some v) (fun i h => ItK k h it l i ∧ AtK k h l items) := by
  cases k with
  | true => exact Draws.list hh it l hne items
  | false => exact Draws.tuple hh it l hne items
theorem ItK.obj {k : Bool} {h : Heap} {it l : Addr} {i : Nat} (z : ItK k h it l i) : ∃ o, h.get? it = some o ∧ ∀ v, o.data ≠ .cell v := by
  cases k with
  | true =>
    obtain ⟨o, e, _, d⟩ := z
    exact ⟨o, e, fun v q => by rw [d] at q; cases q⟩
  | false =>
    obtain ⟨o, e, _, d⟩ := z
    exact ⟨o, e, fun v q => by rw [d] at q; cases q⟩
theorem ItK.at {k : Bool} {h h' : Heap} {it l : Addr} {i : Nat} (z : ItK k h it l i) (e : ∀ o, h.get? it = some o → h'.get? it = some o) : ItK k h' it l i := by
  cases k with
  | true => exact Heap.IsListIter.at z e
  | false => exact Heap.IsTupleIter.at z e
/-- what zip goes through -/
def ItzM (K : PySem.W.Frag) (k1 k2 : Bool) (a b : Addr) : It :=
  ⟨fun i H => ∃ (xs ys : List V) (x y : V), SqK K k1 H a xs ∧ SqK K k2 H b ys ∧ xs[i]? = some x ∧ ys[i]? = some y,
    fun i H v H' => ∃ T x y, v = .ref T ∧ H T = none ∧ H' = upd H T (.tup [x, y]) ∧ (∀ xs, SqK K k1 H a xs → xs[i]? = some x) ∧ ∀ ys, SqK K k2 H b ys → ys[i]? = some y,
    fun i H => ∃ xs ys : List V, SqK K k1 H a xs ∧ SqK K k2 H b ys ∧ (xs.length = i ∨ ys.length = i) ∧ i ≤ xs.length ∧ i ≤ ys.length⟩
theorem turn_zipM {P : Program} {w : World} {K : PySem.W.Frag} {elts : List Expr} {kk : Nat} {tpos : Pos} {k1 k2 : Bool} {a b z TI TO i1 i2 : Addr} (D : ZipSep2 z TI TO i1 i2 [i1, a] [i2, b]) (n1 : a ≠ i1) (n2 : b ≠ i2) :
    Turn P w K (.Tuple elts kk tpos) (ItzM K k1 k2 a b) [z, TI, TO, i1, i2] z (fun i h => IsZip h z TI TO .none ∧ IsTupOf2 h TI (.ref i1) (.ref i2) ∧ (∃ x y, IsTupOf2 h TO x y) ∧ ItK k1 h i1 a i ∧ ItK k2 h i2 b i) where
  mem := by simp
  obj := fun i h st c hc => by
    obtain ⟨hz, hTI, ⟨x, y, hTO⟩, g1, g2⟩ := st
    simp only [List.mem_cons, List.not_mem_nil, or_false] at hc
    rcases hc with rfl | rfl | rfl | rfl | rfl
    · exact ⟨_, hz, fun v q => nomatch q⟩
    · exact ⟨_, hTI, fun v q => nomatch q⟩
    · exact ⟨_, hTO, fun v q => nomatch q⟩
    · exact g1.obj
    · exact g2.obj
  keep := fun i h h' st k => by
    obtain ⟨hz, hTI, ⟨x, y, hTO⟩, g1, g2⟩ := st
    exact ⟨k z (by simp) _ hz, k TI (by simp) _ hTI, ⟨x, y, k TO (by simp) _ hTO⟩, g1.at (k i1 (by simp)), g2.at (k i2 (by simp))⟩
  item := by
    rintro X rfl rfl rfl hc i pins s σ H E I hf ⟨hz, hTI, ⟨x0, y0, hTO⟩, g1, g2⟩ ⟨xs, ys, x, y, hqx, hqy, hx, hy⟩
    obtain ⟨its, rv, p, _⟩ := sq_at I hqx
    obtain ⟨its2, rv2, p2, _⟩ := sq_at I hqy
    obtain ⟨u, hu, ru⟩ := rv.get hx
    obtain ⟨u2, hu2, ru2⟩ := rv2.get hy
    have hzl : z < s.heap.objs.size := Heap.lt_size hz
    have hh : X.A.in1.handled = none := I.ok.hd hc
    refine wpAny_pyNext_zipD2_item D (drK k1 hh i1 a n1 its.toArray) (drK k2 hh i2 b n2 its2.toArray) hz hTI hTO ⟨g1, p⟩ ⟨g2, p2⟩ (by simpa using (List.getElem?_eq_some_iff.mp hu).1) (by simpa using (List.getElem?_eq_some_iff.mp hu2).1) ?_
    intro v1 v2 h' tk e1 e2 z' TO' st1 st2 hT hsz hk
    have q1 : v1 = u := by rw [show its.toArray[i]? = some u by simpa using hu] at e1; exact (Option.some.inj e1).symm
    have q2 : v2 = u2 := by rw [show its2.toArray[i]? = some u2 by simpa using hu2] at e2; exact (Option.some.inj e2).symm
    subst q1 q2
    refine ⟨_, rfl, wpAny_letOwnedTupleGo_zip (s := { s with heap := h', toks := tk }) z' fun h'' z'' sb => ?_⟩
    have hT2 : h''.get? s.heap.objs.size = some { cls := .type "tuple", data := .seq #[v1, v2] } := (sb.2 _ (Nat.ne_of_gt hzl)).trans hT
    have new : ObjOk X.prog X.w (upd H s.heap.objs.size (.tup [x, y])) h'' s.heap.objs.size (.tup [x, y]) :=
      ⟨by show 2 ≤ sizeLine; decide, [v1, v2], .cons ru (.cons ru2 .nil), ⟨_, hT2, rfl, _, rfl⟩⟩
    have off : ∀ c o, c ∉ [z, TI, TO, i1, i2] → s.heap.get? c = some o → h''.get? c = some o := fun c o hb q => by
      simp only [List.mem_cons, List.not_mem_nil, or_false, not_or] at hb
      exact (sb.2 c hb.1).trans (hk c o hb.1 hb.2.2.1 hb.2.2.2.1 hb.2.2.2.2 q)
    have I1 : Inv X pins σ (upd H s.heap.objs.size (.tup [x, y])) { s with heap := h'', toks := tk } := I.turnedNew (t' := tk) (ch := [z, TI, TO, i1, i2]) off hf (Nat.le_refl _) new
    refine ⟨.ref s.heap.objs.size, _, I1, rfl, ⟨_, x, y, rfl, I.hok.fresh (Nat.le_refl _), rfl, fun l hl => by rw [sq_inj I hl hqx]; exact hx, fun l hl => by rw [sq_inj I hl hqy]; exact hy⟩, ⟨z'', ?_, ⟨v1, v2, ?_⟩, ?_, ?_⟩, fun c hcm => ?_⟩
    · exact (sb.2 _ D.TIz).trans (hk _ _ D.TIz D.TITO D.TIi1 D.TIi2 hTI)
    · exact (sb.2 _ D.TOz).trans TO'
    · exact st1.1.at fun o q => (sb.2 _ (D.zi1).symm).trans q
    · exact st2.1.at fun o q => (sb.2 _ (D.zi2).symm).trans q
    · have hlt : c < s.heap.objs.size := by
        simp only [List.mem_cons, List.not_mem_nil, or_false] at hcm
        rcases hcm with rfl | rfl | rfl | rfl | rfl
        · exact hzl
        · exact Heap.lt_size hTI
        · exact Heap.lt_size hTO
        · obtain ⟨o, e, _⟩ := g1.obj; exact Heap.lt_size e
        · obtain ⟨o, e, _⟩ := g2.obj; exact Heap.lt_size e
      rw [upd_ne (Nat.ne_of_lt hlt)]
      exact (hf c hcm).1
  done := by
    rintro X rfl rfl rfl hc i pins s σ H E I hf ⟨hz, hTI, ⟨x0, y0, hTO⟩, g1, g2⟩ ⟨xs, ys, hqx, hqy, hend, b1, b2⟩
    obtain ⟨its, rv, p, _⟩ := sq_at I hqx
    obtain ⟨its2, rv2, p2, _⟩ := sq_at I hqy
    have l1 := rv.length
    have l2 := rv2.length
    have hh : X.A.in1.handled = none := I.ok.hd hc
    refine wpAny_pyNext_zipD2_end D (drK k1 hh i1 a n1 its.toArray) (drK k2 hh i2 b n2 its2.toArray) hz hTI hTO ⟨g1, p⟩ ⟨g2, p2⟩ (by simp; omega) (by simp; omega) (by simp; omega) ?_
    intro h' tk hk
    refine ⟨rfl, I.turnedL (t' := tk) (ch := [z, TI, TO, i1, i2]) (fun c o hb q => ?_) hf⟩
    simp only [List.mem_cons, List.not_mem_nil, or_false, not_or] at hb
    exact hk c o hb.1 hb.2.2.1 hb.2.2.2.1 hb.2.2.2.2 q
  self := fun A i s Q E st h => wpAny_pyIter_zip st.1 h
def iZipM (K : PySem.W.Frag) (ta : TA) : TI := fun σ H R => ta σ H fun vs H1 => ∃ k1 k2 a b xs ys, vs = [.ref a, .ref b] ∧ SqK K k1 H1 a xs ∧ SqK K k2 H1 b ys ∧ R (ItzM K k1 k2 a b) H1
theorem bgK (k : Bool) (l : Addr) (items : Array Value) : ∃ o, Begins (.ref l) o (fun h => AtK k h l items) ∧ ∀ (h : Heap) (it : Addr), h.get? it = some o → ItK k h it l 0 := by
  cases k with
  | true => exact ⟨_, begins_list l items, fun h it e => ⟨_, e, rfl, rfl⟩⟩
  | false => exact ⟨_, begins_tuple l items, fun h it e => ⟨_, e, rfl, rfl⟩⟩
theorem neA {x y : Nat} (h : ¬ x = y) : @Ne Addr x y := h
theorem niA {x y z : Nat} (h : ¬ x = y) (g : ¬ x = z) : ¬ @List.Mem Addr x [y, z] := fun q => by
  cases q with
  | head => exact h rfl
  | tail _ q =>
    cases q with
    | head => exact g rfl
    | tail _ q => cases q
theorem sepN (N a b : Nat) (la : a < N) (lb : b < N) : ZipSep2 (N + 4) (N + 2) (N + 3) N (N + 1) [N, a] [N + 1, b] where
  TIz := neA (by omega)
  TOz := neA (by omega)
  TITO := neA (by omega)
  TIi1 := neA (by omega)
  mem1 := List.mem_cons_self
  zf1 := niA (by omega) (by omega)
  Tf1 := niA (by omega) (by omega)
  TIi2 := neA (by omega)
  mem2 := List.mem_cons_self
  zf2 := niA (by omega) (by omega)
  Tf2 := niA (by omega) (by omega)
  sep1_2 := niA (by omega) (by omega)
  sep2_1 := niA (by omega) (by omega)
theorem pi_zipM {X : Cx} {e e2 : Expr} {ta : TA} {p pos tpos : Pos} {elts : List Expr} {kk : Nat} (hg : Gl X "zip") (hm : X.mg "zip" = none) (ha : PA X [e, e2] ta)
    (hs : starEach [e, e2] X.env = (false, eval e X.env) :: starEach [e2] X.env := by rfl) (hpl : (backTo pos (starEach [e2] X.env)).any (·.1) = false := by rfl) :
    PI X (.Tuple elts kk tpos) (.Call (.Name "zip" p) [e, e2] [] pos) (iZipM X.K ta) := by
  constructor
  intro pins s σ H R I h
  refine Call_ (ld_blt I hg hm PyProof.Rows.boot_zip (PyProof.Rows.callWith_type1 (thn (ha.run pos pins s σ H _ I h) ?_) hs hpl))
  rintro us s1 ⟨vs, H1, I1, r1, k1, k2, a, b, xs, ys, rfl, hqx, hqy, q⟩
  obtain ⟨u1, u2, rfl, ra, rb⟩ := vals2 r1
  cases (show u1 = Value.ref a from ra)
  cases (show u2 = Value.ref b from rb)
  obtain ⟨its, rv, p1, la⟩ := sq_at I1 hqx
  obtain ⟨its2, rv2, p2, lb⟩ := sq_at I1 hqy
  obtain ⟨o1, B1, j1⟩ := bgK k1 a its.toArray
  obtain ⟨o2, B2, j2⟩ := bgK k2 b its2.toArray
  refine zip_begins2 B1 B2 p1 p2 ?_
  intro h' hz hTI hTO e1 e2 hsz hk
  refine wpAny_pyIter_zip hz ?_
  have I2 : Inv X pins σ H1 { s1 with heap := h' } := I1.kept (t' := s1.toks) hk
  have sep := sepN s1.heap.objs.size a b la lb
  refine ⟨s1.heap.objs.size + 4, [s1.heap.objs.size + 4, s1.heap.objs.size + 2, s1.heap.objs.size + 3, s1.heap.objs.size, s1.heap.objs.size + 1], _, _, H1, rfl, I2, turn_zipM sep (Nat.ne_of_lt la) (Nat.ne_of_lt (Nat.lt_succ_of_lt lb)), ⟨hz, hTI, ⟨_, _, hTO⟩, j1 _ _ e1, j2 _ _ e2⟩, fun c hcm => ?_, q⟩
  have hle : s1.heap.objs.size ≤ c := by
    simp only [List.mem_cons, List.not_mem_nil, or_false] at hcm
    rcases hcm with rfl | rfl | rfl | rfl | rfl <;> first | exact Nat.le_refl _ | exact Nat.le_add_right _ _
  exact I1.fpOk hle (I1.hok.fresh hle)
/-! ### enumerate of a tuple, of a list -/
theorem meets_enumK {v : Value} {o : Obj} {H : Heap → Prop} (B : Begins v o H) :
    Meets (Builtin.«enumerate.__new__» ⟨[.type "enumerate", v], []⟩) (fun _ R s => H s.heap ∧
      R (.ok (.ret (.ref (s.heap.push o).objs.size))) { s with heap := (s.heap.push o).push { cls := .type "enumerate", data := .fields #[.none, .bool false, .ref s.heap.objs.size, rawInt 0, .none, .none] } }) :=
  .of_wp fun prog w A R s z => by
    obtain ⟨g1, g2, g3, g4, g5⟩ := s
    obtain ⟨h1, z⟩ := z
    have hsub := sub_enumerate
    have q1 : ∀ {A' : Around} {E : Value → Shared → Prop} {Q : Value → Shared → Prop}, Q (.ref g1.objs.size) ⟨g1.push o, g2, g3, g4, g5⟩ → wpAny (model prog w) A' (pyIter v) Q E ⟨g1, g2, g3, g4, g5⟩ :=
      fun q => B.iter prog w _ _ ⟨g1, g2, g3, g4, g5⟩ _ h1 q
    wp_walk using q1
    refine wpAny_stack_any fun st => wpAny_pure ?_
    split
    · rename_i c _ _ _ _ _
      cases (c == Value.type "enumerate")
      · wp_walk using q1
        exact ⟨_, rfl, z⟩
      · wp_walk using q1
        exact ⟨_, rfl, z⟩
    · wp_walk using q1
      exact ⟨_, rfl, z⟩
section
variable {prog : Program} {w : World} {A : Around} {E : Value → Shared → Prop} {s : Shared}
theorem enumK_begins {v : Value} {o : Obj} {H : Heap → Prop} {Q : Value → Shared → Prop} (B : Begins v o H) (h1 : H s.heap)
    (h : ∀ h', IsEnum h' (s.heap.objs.size + 1) s.heap.objs.size 0 .none → h'.get? s.heap.objs.size = some o → (∀ b o, s.heap.get? b = some o → h'.get? b = some o) → Q (.ref (s.heap.objs.size + 1)) { s with heap := h' }) :
    wpAny (model prog w) A (call (.type "enumerate") [v]) Q E s := by
  refine callType_new F.called_enumerate (by decide) (F.typeCall_enumerate_1 _) (F.newCall_enumerate_1 _) (fun obj => F.args_object_init_2 obj _) F.entry_enumerate_new (meets_enumK B) ⟨h1, ?_⟩
  have sz : (s.heap.push o).objs.size = s.heap.objs.size + 1 := Heap.size_push ..
  show _ ∧ _
  rw [sz]
  have en : IsEnum ((s.heap.push o).push { cls := .type "enumerate", data := .fields #[.none, .bool false, .ref s.heap.objs.size, rawInt 0, .none, .none] }) (s.heap.objs.size + 1) s.heap.objs.size 0 .none := by
    have q := Heap.get?_push_size (s.heap.push o) (o := { cls := .type "enumerate", data := .fields #[.none, .bool false, .ref s.heap.objs.size, rawInt 0, .none, .none] }) rfl
    rw [sz] at q
    exact q
  exact ⟨⟨_, en, rfl⟩, h _ en (Heap.get?_push_of_some _ (Heap.get?_push_size _ B.free)) fun b o x => Heap.get?_push_of_some _ (Heap.get?_push_of_some _ x)⟩
end
def IteM (K : PySem.W.Frag) (k : Bool) (a : Addr) : It :=
  ⟨fun i H => ∃ (xs : List V) (x : V), SqK K k H a xs ∧ xs[i]? = some x, fun i H v H' => ∃ T x, v = .ref T ∧ H T = none ∧ H' = upd H T (.tup [.int (i : Nat), x]) ∧ ∀ xs, SqK K k H a xs → xs[i]? = some x, fun i H => ∃ xs : List V, SqK K k H a xs ∧ xs.length = i⟩
theorem turn_enumM {P : Program} {w : World} {K : PySem.W.Frag} {elts : List Expr} {kk : Nat} {tpos : Pos} {k : Bool} (a e it : Addr) (n1 : a ≠ it) (hne : e ≠ it) (hea : e ≠ a) :
    Turn P w K (.Tuple elts kk tpos) (IteM K k a) [e, it] e (fun i h => (∃ old, IsEnum h e it ((i : Nat) : Int) old) ∧ ItK k h it a i) where
  mem := by simp
  obj := fun i h st b hb => by
    obtain ⟨⟨old, he⟩, g⟩ := st
    simp only [List.mem_cons, List.not_mem_nil, or_false] at hb
    rcases hb with rfl | rfl
    · exact ⟨_, he, fun v q => nomatch q⟩
    · exact g.obj
  keep := fun i h h' st k => by
    obtain ⟨⟨old, he⟩, g⟩ := st
    exact ⟨⟨old, k e (by simp) _ he⟩, g.at (k it (by simp))⟩
  item := by
    rintro X rfl rfl rfl hc i pins s σ H E I hf ⟨⟨old, he⟩, g⟩ ⟨xs, x, hq, hx⟩
    obtain ⟨its, rv, p, _⟩ := sq_at I hq
    obtain ⟨u, hu, ru⟩ := rv.get hx
    have hel : e < s.heap.objs.size := Heap.lt_size he
    have hh : X.A.in1.handled = none := I.ok.hd hc
    have hef : e ∉ [it, a] := fun q => by
      cases q with
      | head => exact hne rfl
      | tail _ q =>
        cases q with
        | head => exact hea rfl
        | tail _ q => cases q
    refine wpAny_pyNext_enum_itemD (drK k hh it a n1 its.toArray) he ⟨g, p⟩ (by simpa using (List.getElem?_eq_some_iff.mp hu).1) hne hef ?_
    intro v h' tk e1 ho st hT hsz hk
    have q1 : v = u := by rw [show its.toArray[i]? = some u by simpa using hu] at e1; exact (Option.some.inj e1).symm
    subst q1
    refine ⟨_, rfl, wpAny_letOwnedTupleGo_enum (s := { s with heap := h', toks := tk + 1 }) ho fun h'' he' sb => ?_⟩
    have hT2 : h''.get? s.heap.objs.size = some { cls := .type "tuple", data := .seq #[.int i tk, v] } := (sb.2 _ (Nat.ne_of_gt hel)).trans hT
    have new : ObjOk X.prog X.w (upd H s.heap.objs.size (.tup [.int (i : Nat), x])) h'' s.heap.objs.size (.tup [.int (i : Nat), x]) :=
      ⟨by show 2 ≤ sizeLine; decide, [.int i tk, v], .cons ⟨_, rfl⟩ (.cons ru .nil), ⟨_, hT2, rfl, _, rfl⟩⟩
    have I1 : Inv X pins σ (upd H s.heap.objs.size (.tup [.int (i : Nat), x])) { s with heap := h'', toks := tk + 1 } :=
      I.turnedNew (t' := tk + 1) (ch := [e, it]) (fun b ob hb q => by
        simp only [List.mem_cons, List.not_mem_nil, or_false, not_or] at hb
        exact (sb.2 b hb.1).trans (hk b ob hb.1 hb.2 q)) hf (Nat.le_refl _) new
    refine ⟨.ref s.heap.objs.size, _, I1, rfl, ⟨_, x, rfl, I.hok.fresh (Nat.le_refl _), rfl, fun ys hy => by rw [sq_inj I hy hq]; exact hx⟩, ⟨⟨v, ?_⟩, st.1.at fun o q => (sb.2 it (Ne.symm hne)).trans q⟩, fun b hb => ?_⟩
    · have e2 : ((i + 1 : Nat) : Int) = (i : Int) + 1 := by omega
      rw [e2]
      exact he'
    · have hlt : b < s.heap.objs.size := by
        simp only [List.mem_cons, List.not_mem_nil, or_false] at hb
        rcases hb with rfl | rfl
        · exact hel
        · obtain ⟨o, z, _⟩ := g.obj; exact Heap.lt_size z
      rw [upd_ne (Nat.ne_of_lt hlt)]
      exact (hf b hb).1
  done := by
    rintro X rfl rfl rfl hc i pins s σ H E I hf ⟨⟨old, he⟩, g⟩ ⟨xs, hq, hx⟩
    obtain ⟨its, rv, p, _⟩ := sq_at I hq
    have hl := rv.length
    have hh : X.A.in1.handled = none := I.ok.hd hc
    have ei : i = its.toArray.size := by simp; omega
    refine wpAny_pyNext_enum_endD (drK k hh it a n1 its.toArray) he (by rw [← ei]; exact ⟨g, p⟩) ?_
    intro h' eb
    exact ⟨rfl, I.turnedL (t' := s.toks) (ch := [e, it]) (fun b o hb q => by
      simp only [List.mem_cons, List.not_mem_nil, or_false, not_or] at hb
      exact eb b o hb.2 q) hf⟩
  self := fun A i s Q E st h => by
    obtain ⟨⟨_, he⟩, _⟩ := st
    exact wpAny_pyIter_enum he h
def iEnumM (K : PySem.W.Frag) (ta : TA) : TI := fun σ H R => ta σ H fun vs H1 => ∃ k a xs, vs = [.ref a] ∧ SqK K k H1 a xs ∧ R (IteM K k a) H1
theorem pi_enumM {X : Cx} {e : Expr} {ta : TA} {p pos tpos : Pos} {elts : List Expr} {kk : Nat} (hg : Gl X "enumerate") (hm : X.mg "enumerate" = none) (ha : PA X [e] ta) (hs : starEach [e] X.env = [(false, eval e X.env)] := by rfl) :
    PI X (.Tuple elts kk tpos) (.Call (.Name "enumerate" p) [e] [] pos) (iEnumM X.K ta) := by
  constructor
  intro pins s σ H R I h
  refine Call_ (ld_blt I hg hm boot_enumerate (PyProof.Rows.callWith_type1 (thn (ha.run pos pins s σ H _ I h) ?_) hs rfl))
  rintro us s1 ⟨vs, H1, I1, r1, k, a, xs, rfl, hq, q⟩
  obtain ⟨u1, rfl, ra⟩ := vals1 r1
  cases (show u1 = Value.ref a from ra)
  obtain ⟨its, rv, p1, la⟩ := sq_at I1 hq
  obtain ⟨o1, B1, j1⟩ := bgK k a its.toArray
  refine enumK_begins B1 p1 ?_
  intro h' he e1 hk
  refine wpAny_pyIter_enum he ?_
  have I2 : Inv X pins σ H1 { s1 with heap := h' } := I1.kept (t' := s1.toks) hk
  refine ⟨s1.heap.objs.size + 1, [s1.heap.objs.size + 1, s1.heap.objs.size], _, _, H1, rfl, I2, turn_enumM a (s1.heap.objs.size + 1) s1.heap.objs.size (Nat.ne_of_lt la) (Nat.succ_ne_self _) (Nat.ne_of_gt (Nat.lt_succ_of_lt la)), ⟨⟨.none, he⟩, j1 _ _ e1⟩, fun c hcm => ?_, q⟩
  have hle : s1.heap.objs.size ≤ c := by
    simp only [List.mem_cons, List.not_mem_nil, or_false] at hcm
    rcases hcm with rfl | rfl <;> first | exact Nat.le_refl _ | exact Nat.le_add_right _ _
  exact I1.fpOk hle (I1.hok.fresh hle)
/-! ### loops and comprehensions over them -/
theorem for_zipM {K : PySem.W.Frag} {k1 k2 : Bool} {a b : Addr} {xs ys : List V} {g : TG} {tb : TS} {D : Ends} {σ : L2.St} {H : Hp} (hl : xs.length = ys.length) (Pv : Nat → L2.St → Hp → Prop) (h0 : Pv 0 σ H) (hq : ∀ i σ H, Pv i σ H → SqK K k1 H a xs ∧ SqK K k2 H b ys)
    (hs : ∀ (i : Nat) (x y : V) (T : Addr) (σ : L2.St) (H : Hp), xs[i]? = some x → ys[i]? = some y → Pv i σ H → H T = none → g (.ref T) σ (upd H T (.tup [x, y])) fun σ2 H2 => tb { D with nx := Pv (i + 1), ct := Pv (i + 1), bk := D.nx } σ2 H2) (hd : ∀ σ H, Pv xs.length σ H → D.nx σ H) :
    ∃ W : Nat → Nat → L2.St → Hp → Prop, (∃ m, W 0 m σ H) ∧ ∀ i m σ H, W i m σ H →
      ((ItzM K k1 k2 a b).stop i H ∧ D.nx σ H) ∨ ((ItzM K k1 k2 a b).go i H ∧ ∃ N : L2.St → Hp → Prop, (∀ σ' H', N σ' H' → ∃ m', m' < m ∧ W (i + 1) m' σ' H') ∧ ∀ v H', (ItzM K k1 k2 a b).yld i H v H' → g v σ H' fun σ2 H2 => tb { D with nx := N, ct := N, bk := D.nx } σ2 H2) := by
  refine ⟨fun i m σ H => m = xs.length - i ∧ i ≤ xs.length ∧ Pv i σ H, ⟨_, rfl, Nat.zero_le _, h0⟩, ?_⟩
  rintro i m σ H ⟨rfl, hi, p⟩
  obtain ⟨qx, qy⟩ := hq i σ H p
  by_cases hlt : i < xs.length
  · refine .inr ⟨⟨xs, ys, _, _, qx, qy, List.getElem?_eq_getElem hlt, List.getElem?_eq_getElem (hl ▸ hlt)⟩, Pv (i + 1), fun σ' H' p' => ⟨xs.length - (i + 1), by omega, rfl, hlt, p'⟩, ?_⟩
    rintro v H' ⟨T, x', y', rfl, hT, rfl, f1, f2⟩
    exact hs i x' y' T σ H (f1 xs qx) (f2 ys qy) p hT
  · have e : i = xs.length := by omega
    subst e
    exact .inl ⟨⟨xs, ys, qx, qy, .inl rfl, Nat.le_refl _, Nat.le_of_eq hl⟩, hd σ H p⟩
theorem for_enumM {K : PySem.W.Frag} {k : Bool} {a : Addr} {xs : List V} {g : TG} {tb : TS} {D : Ends} {σ : L2.St} {H : Hp} (Pv : Nat → L2.St → Hp → Prop) (h0 : Pv 0 σ H) (hq : ∀ i σ H, Pv i σ H → SqK K k H a xs)
    (hs : ∀ (i : Nat) (x : V) (T : Addr) (σ : L2.St) (H : Hp), xs[i]? = some x → Pv i σ H → H T = none → g (.ref T) σ (upd H T (.tup [.int (i : Nat), x])) fun σ2 H2 => tb { D with nx := Pv (i + 1), ct := Pv (i + 1), bk := D.nx } σ2 H2) (hd : ∀ σ H, Pv xs.length σ H → D.nx σ H) :
    ∃ W : Nat → Nat → L2.St → Hp → Prop, (∃ m, W 0 m σ H) ∧ ∀ i m σ H, W i m σ H →
      ((IteM K k a).stop i H ∧ D.nx σ H) ∨ ((IteM K k a).go i H ∧ ∃ N : L2.St → Hp → Prop, (∀ σ' H', N σ' H' → ∃ m', m' < m ∧ W (i + 1) m' σ' H') ∧ ∀ v H', (IteM K k a).yld i H v H' → g v σ H' fun σ2 H2 => tb { D with nx := N, ct := N, bk := D.nx } σ2 H2) := by
  refine ⟨fun i m σ H => m = xs.length - i ∧ i ≤ xs.length ∧ Pv i σ H, ⟨_, rfl, Nat.zero_le _, h0⟩, ?_⟩
  rintro i m σ H ⟨rfl, hi, p⟩
  have qx := hq i σ H p
  by_cases hlt : i < xs.length
  · refine .inr ⟨⟨xs, _, qx, List.getElem?_eq_getElem hlt⟩, Pv (i + 1), fun σ' H' p' => ⟨xs.length - (i + 1), by omega, rfl, hlt, p'⟩, ?_⟩
    rintro v H' ⟨T, x', rfl, hT, rfl, f1⟩
    exact hs i x' T σ H (f1 xs qx) p hT
  · have e : i = xs.length := by omega
    subst e
    exact .inl ⟨⟨xs, qx, rfl⟩, hd σ H p⟩
theorem lc_zipM {K : PySem.W.Frag} {k1 k2 : Bool} {a b : Addr} {xs ys : List V} {g : TG} {tt : TT} {te : TE} {vs : List Nat} {σ : L2.St} {H1 : Hp} {D : Addr} {Qd : Hp → Prop} (hl : xs.length = ys.length) (Pv : Nat → Hp → Prop) (h0 : Pv 0 (upd H1 D (.lst []))) (hq : ∀ i H, Pv i H → SqK K k1 H a xs ∧ SqK K k2 H b ys)
    (hs : ∀ (i : Nat) (x y : V) (T : Addr) (H : Hp), xs[i]? = some x → ys[i]? = some y → Pv i H → H T = none → g (.ref T) (wipe σ vs) (upd H T (.tup [x, y])) fun σ2 H2 => wipe σ2 vs = wipe σ vs ∧ tt σ2 H2 fun b H3 =>
      if b = true then te σ2 H3 fun y H4 => ∃ acc, H4 D = some (.lst acc) ∧ acc.length < sizeLine ∧ Pv (i + 1) (upd H4 D (.lst (acc ++ [y]))) else Pv (i + 1) H3) (hd : ∀ H, Pv xs.length H → Qd H) :
    ∃ W : Nat → Nat → Hp → Prop, (∃ m, W 0 m (upd H1 D (.lst []))) ∧ ∀ i m H, W i m H →
      ((ItzM K k1 k2 a b).stop i H ∧ Qd H) ∨ ((ItzM K k1 k2 a b).go i H ∧ ∃ Nx : Hp → Prop, (∀ H', Nx H' → ∃ m', m' < m ∧ W (i + 1) m' H') ∧ ∀ x H', (ItzM K k1 k2 a b).yld i H x H' → g x (wipe σ vs) H' fun σ2 H2 => wipe σ2 vs = wipe σ vs ∧ tt σ2 H2 fun b H3 =>
        if b = true then te σ2 H3 fun y H4 => ∃ acc, H4 D = some (.lst acc) ∧ acc.length < sizeLine ∧ Nx (upd H4 D (.lst (acc ++ [y]))) else Nx H3) := by
  refine ⟨fun i m H => m = xs.length - i ∧ i ≤ xs.length ∧ Pv i H, ⟨_, rfl, Nat.zero_le _, h0⟩, ?_⟩
  rintro i m H ⟨rfl, hi, p⟩
  obtain ⟨qx, qy⟩ := hq i H p
  by_cases hlt : i < xs.length
  · refine .inr ⟨⟨xs, ys, _, _, qx, qy, List.getElem?_eq_getElem hlt, List.getElem?_eq_getElem (hl ▸ hlt)⟩, Pv (i + 1), fun H' p' => ⟨xs.length - (i + 1), by omega, rfl, hlt, p'⟩, ?_⟩
    rintro v H' ⟨T, x', y', rfl, hT, rfl, f1, f2⟩
    exact hs i x' y' T H (f1 xs qx) (f2 ys qy) p hT
  · have e : i = xs.length := by omega
    subst e
    exact .inl ⟨⟨xs, ys, qx, qy, .inl rfl, Nat.le_refl _, Nat.le_of_eq hl⟩, hd H p⟩
end Lw

namespace Lw
/-! ### rows of a ground, reckoned -/
def addR (p : Int) (r s : List Int) : List Int := List.zipWith (fun a b => (a + b) % p) r s
def subR (p : Int) (r s : List Int) : List Int := List.zipWith (fun a b => (a - b) % p) r s
def sclR (p : Int) (k : Int) (r : List Int) : List Int := r.map fun a => k * a % p
def mulR (r s : List Int) : List Int := List.zipWith (fun a b => a * b) r s
def plusR (p : Int) (r : List Int) (t : Int) (s : List Int) : List Int := List.zipWith (fun a b => (a + t * b) % p) r s
def zeroR (n : Nat) : List Int := List.replicate n 0
def combR (p : Int) (n : Nat) : List Int → List (List Int) → List Int := fun ks rs => (ks.zip rs).foldl (fun t kr => addR p t (sclR p kr.1 kr.2)) (zeroR n)
def pivR (r : List Int) : Option Nat := r.findIdx? fun a => a != 0
/-- a row of the ground with p and n -/
def IsRow (p : Int) (n : Nat) (r : List Int) : Prop := r.length = n ∧ ∀ x ∈ r, 0 ≤ x ∧ x < p
theorem IsRow.at {p : Int} {n i : Nat} {r : List Int} {x : Int} (h : IsRow p n r) (e : r[i]? = some x) : 0 ≤ x ∧ x < p := h.2 x (List.mem_of_getElem? e)
theorem get_zw {f : Int → Int → Int} {r s : List Int} {i : Nat} {x y : Int} (hx : r[i]? = some x) (hy : s[i]? = some y) : (List.zipWith f r s)[i]? = some (f x y) := by
  rw [List.getElem?_zipWith, hx, hy]
theorem len_zw {f : Int → Int → Int} {r s : List Int} {n : Nat} (h1 : r.length = n) (h2 : s.length = n) : (List.zipWith f r s).length = n := by
  rw [List.length_zipWith, h1, h2, Nat.min_self]
theorem row_zw {p : Int} (hp : 0 < p) {f : Int → Int → Int} {r s : List Int} {n : Nat} (h1 : r.length = n) (h2 : s.length = n) : IsRow p n (List.zipWith (fun a b => f a b % p) r s) := by
  refine ⟨len_zw h1 h2, fun x hx => ?_⟩
  obtain ⟨i, hi, rfl⟩ := List.getElem_of_mem hx
  rw [List.getElem_zipWith]
  exact ⟨Int.emod_nonneg _ (Int.ne_of_gt hp), Int.emod_lt_of_pos _ hp⟩
theorem row_add {p : Int} (hp : 0 < p) {r s : List Int} {n : Nat} (h1 : r.length = n) (h2 : s.length = n) : IsRow p n (addR p r s) := row_zw hp h1 h2
theorem row_sub {p : Int} (hp : 0 < p) {r s : List Int} {n : Nat} (h1 : r.length = n) (h2 : s.length = n) : IsRow p n (subR p r s) := row_zw hp h1 h2
theorem row_plus {p : Int} (hp : 0 < p) {r s : List Int} {t : Int} {n : Nat} (h1 : r.length = n) (h2 : s.length = n) : IsRow p n (plusR p r t s) := row_zw hp h1 h2
theorem row_scl {p : Int} (hp : 0 < p) {k : Int} {r : List Int} {n : Nat} (h1 : r.length = n) : IsRow p n (sclR p k r) := by
  refine ⟨by simp [sclR, h1], fun x hx => ?_⟩
  obtain ⟨a, _, rfl⟩ := List.mem_map.mp hx
  exact ⟨Int.emod_nonneg _ (Int.ne_of_gt hp), Int.emod_lt_of_pos _ hp⟩
theorem row_zero {p : Int} (hp : 0 < p) (n : Nat) : IsRow p n (zeroR n) := by
  refine ⟨by simp [zeroR], fun x hx => ?_⟩
  have := List.eq_of_mem_replicate hx
  omega
theorem zw_congr {f g : Int → Int → Int} : ∀ {r s : List Int}, (∀ (i : Nat) (x y : Int), r[i]? = some x → s[i]? = some y → f x y = g x y) → List.zipWith f r s = List.zipWith g r s
  | [], _, _ => by simp
  | _ :: _, [], _ => by simp
  | a :: r, b :: s, h => by
    rw [List.zipWith_cons_cons, List.zipWith_cons_cons, h 0 a b rfl rfl, zw_congr fun i x y h1 h2 => h (i + 1) x y h1 h2]
theorem add_plus (p : Int) (r s : List Int) : addR p r s = plusR p r 1 s := by
  unfold addR plusR
  exact zw_congr fun i x y _ _ => by rw [Int.one_mul]
theorem sub_plus (p : Int) (r s : List Int) : subR p r s = plusR p r (p - 1) s := by
  unfold subR plusR
  refine zw_congr fun i x y _ _ => ?_
  rw [Int.sub_mul, Int.one_mul, show x + (p * y - y) = (x - y) + p * y by omega, Int.add_mul_emod_self_left]
theorem scl_plus (p k : Int) : ∀ (n : Nat) (r : List Int), r.length = n → sclR p k r = plusR p (zeroR n) k r
  | 0, r, h => by
    have : r = [] := List.eq_nil_of_length_eq_zero h
    subst this
    rfl
  | n + 1, [], h => by cases h
  | n + 1, a :: r, h => by
    have ih := scl_plus p k n r (by simpa using h)
    unfold sclR plusR zeroR at ih ⊢
    rw [List.map_cons, List.replicate_succ, List.zipWith_cons_cons, ih, Int.zero_add]
theorem add_sub {p : Int} {n : Nat} {r s : List Int} (hp : 0 < p) (h1 : IsRow p n r) (h2 : s.length = n) : addR p (subR p r s) s = r := by
  apply List.ext_getElem?
  intro i
  by_cases hi : i < n
  · have hr : i < r.length := by rw [h1.1]; exact hi
    have hs : i < s.length := by rw [h2]; exact hi
    have e1 : (subR p r s)[i]? = some ((r[i] - s[i]) % p) := get_zw (List.getElem?_eq_getElem hr) (List.getElem?_eq_getElem hs)
    have e2 : (addR p (subR p r s) s)[i]? = some (((r[i] - s[i]) % p + s[i]) % p) := get_zw e1 (List.getElem?_eq_getElem hs)
    have b := h1.2 r[i] (List.getElem_mem hr)
    rw [e2, List.getElem?_eq_getElem hr, Int.emod_add_emod, Int.sub_add_cancel, Int.emod_eq_of_lt b.1 b.2]
  · rw [List.getElem?_eq_none_iff.mpr (by rw [(row_add hp (row_sub hp h1.1 h2).1 h2).1]; omega), List.getElem?_eq_none_iff.mpr (by rw [h1.1]; omega)]
theorem comb_snoc (p : Int) (n : Nat) (ks : List Int) (rs : List (List Int)) (k : Int) (r : List Int) (h : ks.length = rs.length) : combR p n (ks ++ [k]) (rs ++ [r]) = addR p (combR p n ks rs) (sclR p k r) := by
  unfold combR
  rw [List.zip_append h, List.foldl_append]
  rfl
theorem add_scl (p : Int) (t : List Int) (k : Int) (r : List Int) : addR p t (sclR p k r) = plusR p t k r := by
  unfold addR sclR plusR
  rw [List.zipWith_map_right]
  exact zw_congr fun i x y _ _ => by rw [Int.add_emod_emod]
theorem row_comb {p : Int} (hp : 0 < p) {n : Nat} {ks : List Int} {rs : List (List Int)} (h : ∀ r ∈ rs, IsRow p n r) : IsRow p n (combR p n ks rs) := by
  unfold combR
  have : ∀ (l : List (Int × List Int)) (t : List Int), IsRow p n t → (∀ kr ∈ l, IsRow p n kr.2) → IsRow p n (l.foldl (fun t kr => addR p t (sclR p kr.1 kr.2)) t) := by
    intro l
    induction l with
    | nil => intro t ht _; exact ht
    | cons a l ih =>
      intro t ht hl
      exact ih _ (row_add hp ht.1 (row_scl hp (hl a (by simp)).1).1) fun kr hk => hl kr (by simp [hk])
  exact this _ _ (row_zero hp n) fun kr hk => h _ (List.of_mem_zip hk).2
/-- the places with an entry -/
def ents (r : List Int) (m : Nat) : List Int := ((List.range m).filter fun k => (r.getD k 0) != 0).map fun k : Nat => (k : Int)
theorem piv_none {r : List Int} (h : pivR r = none) : ents r r.length = [] := by
  unfold ents
  rw [List.map_eq_nil_iff, List.filter_eq_nil_iff]
  intro k hk
  have hk' : k < r.length := List.mem_range.mp hk
  have := (List.findIdx?_eq_none_iff.mp h) r[k] (List.getElem_mem hk')
  simpa [List.getD_eq_getElem?_getD, hk'] using this
theorem piv_some {r : List Int} {k : Nat} (h : pivR r = some k) : ∃ l, ents r r.length = (k : Int) :: l := by
  obtain ⟨hk, hx, hl⟩ := List.findIdx?_eq_some_iff_getElem.mp h
  have e : List.range r.length = List.range k ++ k :: (List.range (r.length - (k + 1))).map (fun x => (k + 1) + x) := by
    rw [show r.length = (k + 1) + (r.length - (k + 1)) by omega, List.range_add, List.range_succ]
    simp
  unfold ents
  rw [e, List.filter_append, List.filter_cons]
  have h1 : (List.range k).filter (fun k => (r.getD k 0) != 0) = [] := by
    rw [List.filter_eq_nil_iff]
    intro j hj
    have hj' : j < k := List.mem_range.mp hj
    have := hl j hj'
    simpa [List.getD_eq_getElem?_getD, show j < r.length by omega] using this
  have h2 : ((r.getD k 0) != 0) = true := by simpa [List.getD_eq_getElem?_getD, hk] using hx
  rw [h1, if_pos h2]
  exact ⟨_, rfl⟩
end Lw

/-! ### data that may be shown -/
namespace Lw
open PySem L2
structure Shw (d : PyData) (k b : Nat) : Prop where
  sh : d.showable = true
  can : d.canLay0 = true
  dp : d.depth ≤ k
  ls : d.leavesShort 13 = true
  bk : d.bulk ≤ b
structure ShwA (ds : List PyData) (k b : Nat) : Prop where
  sh : PyData.showableAll ds = true
  can : PyData.canLayAll0 ds = true
  dp : PyData.depthAll ds ≤ k
  ls : PyData.leavesShortAll 13 ds = true
  bk : PyData.bulkAll ds ≤ b
theorem Shw.fits {d : PyData} {k b : Nat} (h : Shw d k b) (hb : b ≤ 2 ^ 20) : d.shown.length ≤ sizeLine := PyData.shown_fits_bulk (B := 13) (by decide) (by decide) h.ls (Nat.le_trans h.bk hb)
theorem ShwA.nil : ShwA [] 0 0 := ⟨rfl, rfl, by simp [PyData.depthAll], rfl, by simp [PyData.bulkAll]⟩
theorem ShwA.cons {d : PyData} {ds : List PyData} {k k' b b' : Nat} (h : Shw d k b) (t : ShwA ds k' b') : ShwA (d :: ds) (max k k') (b + 1 + b') := by
  refine ⟨?_, ?_, ?_, ?_, ?_⟩
  · simp only [PyData.showableAll, h.sh, t.sh, Bool.and_self]
  · simp only [PyData.canLayAll0, h.can, t.can, Bool.and_self]
  · have h1 := h.dp; have h2 := t.dp
    simp only [PyData.depthAll]
    omega
  · simp only [PyData.leavesShortAll, h.ls, t.ls, Bool.and_self]
  · have h1 := h.bk; have h2 := t.bk
    simp only [PyData.bulkAll]
    omega
theorem ShwA.mono {ds : List PyData} {k k' b b' : Nat} (t : ShwA ds k b) (h1 : k ≤ k') (h2 : b ≤ b') : ShwA ds k' b' := ⟨t.sh, t.can, Nat.le_trans t.dp h1, t.ls, Nat.le_trans t.bk h2⟩
theorem Shw.mono {d : PyData} {k k' b b' : Nat} (t : Shw d k b) (h1 : k ≤ k') (h2 : b ≤ b') : Shw d k' b' := ⟨t.sh, t.can, Nat.le_trans t.dp h1, t.ls, Nat.le_trans t.bk h2⟩
theorem ShwA.lst {ds : List PyData} {k b : Nat} (t : ShwA ds k b) : Shw (.list ds) (k + 1) b := by
  refine ⟨?_, ?_, ?_, ?_, ?_⟩
  · simpa only [PyData.showable] using t.sh
  · simpa only [PyData.canLay0] using t.can
  · have := t.dp
    simp only [PyData.depth]
    omega
  · simpa only [PyData.leavesShort] using t.ls
  · simpa only [PyData.bulk] using t.bk
theorem ShwA.tup {ds : List PyData} {k b : Nat} (t : ShwA ds k b) : Shw (.tuple ds) (k + 1) b := by
  refine ⟨?_, ?_, ?_, ?_, ?_⟩
  · simpa only [PyData.showable] using t.sh
  · simpa only [PyData.canLay0] using t.can
  · have := t.dp
    simp only [PyData.depth]
    omega
  · simpa only [PyData.leavesShort] using t.ls
  · simpa only [PyData.bulk] using t.bk
theorem shw_int {i : Int} (h0 : 0 ≤ i) (h : i < 1000000) : Shw (.int i) 1 0 := by
  refine ⟨?_, rfl, by simp [PyData.depth], ?_, by simp [PyData.bulk]⟩
  · simp only [PyData.showable, decide_eq_true_eq]
    have h1 : i.natAbs < 2 ^ 20 := by omega
    by_cases hz : i.natAbs = 0
    · rw [hz]; decide
    · have := (Nat.log2_lt hz).mpr h1
      omega
  · simp only [PyData.leavesShort, decide_eq_true_eq]
    rw [PyData.shown_int]
    exact Nat.le_trans (PyProof.Rows.toString_length_le h0 (by decide : 0 < 6) h) (by decide)
theorem shw_ints : ∀ {ns : List Int}, (∀ x ∈ ns, 0 ≤ x ∧ x < 1000000) → ShwA (ns.map PyData.int) 1 ns.length
  | [], _ => ShwA.nil.mono (by decide) (Nat.le_refl _)
  | n :: ns, h => by
    have hn := h n (by simp)
    have t := shw_ints (ns := ns) fun x hx => h x (by simp [hx])
    exact ((ShwA.cons (shw_int hn.1 hn.2) t)).mono (by decide) (by rw [List.length_cons]; omega)
theorem shw_row {r : List Int} (h : ∀ x ∈ r, 0 ≤ x ∧ x < 1000000) : Shw (dR r) 2 r.length := (shw_ints h).tup
theorem shw_rows {n : Nat} : ∀ {rs : List (List Int)}, (∀ r ∈ rs, r.length ≤ n ∧ ∀ x ∈ r, 0 ≤ x ∧ x < 1000000) → ShwA (rs.map dR) 2 (rs.length * (n + 1))
  | [], _ => ShwA.nil.mono (by decide) (Nat.zero_le _)
  | r :: rs, h => by
    have hr := h r (by simp)
    have t := shw_rows (rs := rs) fun x hx => h x (by simp [hx])
    refine (ShwA.cons (shw_row hr.2) t).mono (by decide) ?_
    rw [List.length_cons, Nat.succ_mul]
    omega
/-- the text of data, where it may be shown -/
theorem repr_ok {K : PySem.W.Frag} {H : Hp} {v : V} {d : PyData} {k b : Nat} {Q : VK} (h : Dp K H v d) (s : Shw d k b) (hk : k ≤ 64) (hb : b ≤ 2 ^ 20) (q : Q (.str d.shown) H) : rReprD K [v] H Q :=
  ⟨v, d, rfl, h, s.sh, s.can, Nat.le_trans s.dp hk, s.fits hb, q⟩
theorem nil_i {σ : L2.St} {H : Hp} {Q : List V → Hp → Prop} (h : Q [] H) : tNil σ H Q := h
theorem np_i {σ : L2.St} {H : Hp} {Q : Option Int → Hp → Prop} (h : Q none H) : tNoPart σ H Q := h
end Lw

/-! ### data with a dict as a leaf; tuples in any mix; own exceptions that keep a path -/
namespace Lw
open PySem L2 PySem.Spec PyProof.Rows
/-- the dicts that occur: {} and {0: 1} -/
inductive DctD : List (Key × V) → PyData → Prop
  | emp : DctD [] (.dict [])
  | one : DctD [(Sum.inl 0, .int 1)] (.dict [(.int 0, .int 1)])
/-- a value without a dict in it, or a dict -/
inductive Lf (K : PySem.W.Frag) (H : Hp) : V → PyData → Prop
  | dp {v : V} {d : PyData} : Dp K H v d → d.hasDict = false → Lf K H v d
  | dct {a : Addr} {kvs : List (Key × V)} {d : PyData} : H a = some (.dK kvs) → DctD kvs d → Lf K H (.ref a) d
/-- such a value, or a tuple of whole numbers with one such value amid -/
inductive Vl (K : PySem.W.Frag) (H : Hp) : V → PyData → Prop
  | lf {v : V} {d : PyData} : Lf K H v d → Vl K H v d
  | mix {a : Addr} {pre post : List Int} {x : V} {d : PyData} : SqT K H a (pre.map V.int ++ x :: post.map V.int) → Lf K H x d → Vl K H (.ref a) (.tuple (pre.map PyData.int ++ d :: post.map PyData.int))
mutual
theorem dp_same {K : PySem.W.Frag} {H H' : Hp} (e : Same H H') : ∀ (d : PyData) (v : V), Dp K H v d → Dp K H' v d
  | .none, _, h => by cases h; exact .non
  | .bool b, _, h => by cases h; exact .bl b
  | .int i, _, h => by cases h; exact .int i
  | .str x, _, h => by cases h; exact .str x
  | .list ds, _, h => by
    cases h with
    | lst hs ha => exact .lst (e.seq hs) (dp_sameA e ds _ ha)
  | .tuple ds, _, h => by
    cases h with
    | tup hs ha => exact .tup (sameT e hs) (dp_sameA e ds _ ha)
  | .dict _, _, h => by cases h
theorem dp_sameA {K : PySem.W.Frag} {H H' : Hp} (e : Same H H') : ∀ (ds : List PyData) (vs : List V), DpAll K H vs ds → DpAll K H' vs ds
  | [], _, h => by cases h; exact .nil
  | d :: ds, _, h => by
    cases h with
    | cons h1 h2 => exact .cons (dp_same e d _ h1) (dp_sameA e ds _ h2)
end
theorem Lf.mono {K : PySem.W.Frag} {H H' : Hp} {v : V} {d : PyData} (h : Lf K H v d) (e : Same H H') : Lf K H' v d := by
  cases h with
  | dp h n => exact .dp (dp_same e _ _ h) n
  | dct h k => exact .dct (e _ _ h) k
theorem Vl.mono {K : PySem.W.Frag} {H H' : Hp} {v : V} {d : PyData} (h : Vl K H v d) (e : Same H H') : Vl K H' v d := by
  cases h with
  | lf h => exact .lf (h.mono e)
  | mix h k => exact .mix (sameT e h) (k.mono e)
theorem hd_ints : ∀ ns : List Int, PyData.hasDictAll (ns.map PyData.int) = false
  | [] => by simp [PyData.hasDictAll]
  | n :: ns => by
    have := hd_ints ns
    simp [PyData.hasDictAll, PyData.hasDict, this]
theorem hd_mix (d : PyData) (post : List Int) : ∀ pre : List Int, PyData.hasDict (.tuple (pre.map PyData.int ++ d :: post.map PyData.int)) = d.hasDict
  | [] => by simp [PyData.hasDict, PyData.hasDictAll, hd_ints]
  | a :: t => by
    have := hd_mix d post t
    simpa [PyData.hasDict, PyData.hasDictAll] using this
theorem dp_mix {K : PySem.W.Frag} {H : Hp} {x : V} {d : PyData} (h : Dp K H x d) (post : List Int) : ∀ pre : List Int, DpAll K H (pre.map V.int ++ x :: post.map V.int) (pre.map PyData.int ++ d :: post.map PyData.int)
  | [] => .cons h (dp_ints post)
  | a :: t => .cons (.int a) (dp_mix h post t)
section
variable {X : Cx} {pins : List (Addr × Obj)} {σ : L2.St} {H : Hp} {s : Shared}
theorem dct_reads (I : Inv X pins σ H s) {a : Addr} {kvs : List (Key × V)} {d : PyData} (h : H a = some (.dK kvs)) (k : DctD kvs d) : ∃ as, Reads s.heap (.ref a) d as ∧ sysModules ∉ as := by
  obtain ⟨_, hn, vs, hk, o, es, ep, e, ex, hd, ko, hp, _⟩ := (show ObjOk X.prog X.w H s.heap a (.dK kvs) from I.hok a _ h)
  have hne : ¬ sysModules = a := fun z => by
    rw [← z] at hn
    exact absurd hn (by decide)
  cases k with
  | emp =>
    cases hk
    generalize hl : es.toList = l at hp
    cases hp
    refine ⟨_, .dict (kvs := []) e ex.1 hd (by rw [hl]; exact .nil) (by rw [hl]; exact .nil), by simpa using hne⟩
  | one =>
    cases hk with
    | @cons p q l1 l2 hh ht =>
      cases ht
      obtain ⟨q1, q2⟩ := q
      obtain ⟨e1, rv⟩ := hh
      simp only at e1 rv
      subst e1
      obtain ⟨t2, rfl⟩ := rv
      generalize hl : es.toList = l at hp
      cases hp with
      | @cons x kv l3 l4 hk2 hv ht =>
        cases ht
        obtain ⟨i, t, ei, ev⟩ | ⟨_, _, ei, _⟩ := keyIs_shape (k := Sum.inl 0) (v := x.key) hk2
        · obtain rfl := Sum.inl.inj ei
          refine ⟨_, .dict (kvs := [(.int 0, .int 1)]) e ex.1 hd (as := []) (bs := []) (by rw [hl]; exact ReadsAll.cons (as := []) (bs := []) (by show Reads s.heap x.key (.int 0) []; rw [ev]; exact .int 0 t) .nil) (by rw [hl]; exact ReadsAll.cons (as := []) (bs := []) (by show Reads s.heap x.val (.int 1) []; rw [hv]; exact .int 1 t2) .nil), by simpa using hne⟩
        · exact absurd ei (fun z => nomatch z)
theorem lf_reads (I : Inv X pins σ H s) {v : V} {u : Value} {d : PyData} (h : Lf X.K H v d) (r : RelV v u) : ∃ as, Reads s.heap u d as ∧ (d.hasDict = true → sysModules ∉ as) := by
  cases h with
  | dp h n =>
    obtain ⟨as, q⟩ := Dp.reads I d v u h r
    exact ⟨as, q, fun z => by rw [n] at z; cases z⟩
  | dct h k =>
    cases (show u = Value.ref _ from r)
    obtain ⟨as, q, n⟩ := dct_reads I h k
    exact ⟨as, q, fun _ => n⟩
theorem ints_reads {h : Heap} : ∀ {ns : List Int} {us : List Value}, Vals (ns.map V.int) us → ReadsAll h us (ns.map PyData.int) []
  | [], _, r => by cases r; exact .nil
  | n :: ns, _, r => by
    cases r with
    | cons r1 r2 =>
      obtain ⟨t, rfl⟩ := r1
      exact ReadsAll.cons (as := []) (bs := []) (.int n t) (ints_reads r2)
theorem mix_reads {h : Heap} {x : V} {d : PyData} {as : List Addr} {post : List Int} (hx : ∀ u, RelV x u → Reads h u d as) : ∀ {pre : List Int} {us : List Value}, Vals (pre.map V.int ++ x :: post.map V.int) us → ReadsAll h us (pre.map PyData.int ++ d :: post.map PyData.int) as
  | [], _, r => by
    cases r with
    | cons r1 r2 =>
      have := ReadsAll.cons (hx _ r1) (ints_reads (h := h) r2)
      rw [List.append_nil] at this
      exact this
  | n :: ns, _, r => by
    cases r with
    | cons r1 r2 =>
      obtain ⟨t, rfl⟩ := r1
      exact ReadsAll.cons (as := []) (.int n t) (mix_reads hx r2)
theorem vl_reads (I : Inv X pins σ H s) {v : V} {u : Value} {d : PyData} (h : Vl X.K H v d) (r : RelV v u) : ∃ as, Reads s.heap u d as ∧ (d.hasDict = true → sysModules ∉ as) := by
  cases h with
  | lf h => exact lf_reads I h r
  | @mix a pre post x d ht hx =>
    cases (show u = Value.ref a from r)
    obtain ⟨its, rv, ⟨o, ho, hc, n, hd⟩, _⟩ := I.tuple ht
    have hdi : PyData.hasDict (.tuple (pre.map PyData.int ++ d :: post.map PyData.int)) = d.hasDict := hd_mix d post pre
    have key : ∃ as, ReadsAll s.heap its (pre.map PyData.int ++ d :: post.map PyData.int) as ∧ (d.hasDict = true → sysModules ∉ as) := by
      cases hx with
      | dp h n =>
        obtain ⟨as, q⟩ := Dp.readsAll I (pre.map PyData.int ++ d :: post.map PyData.int) _ its (dp_mix h post pre) rv
        exact ⟨as, q, fun z => by rw [n] at z; cases z⟩
      | @dct b kvs _ h k =>
        obtain ⟨as, q, n⟩ := dct_reads I h k
        exact ⟨as, mix_reads (fun u ru => by cases (show u = Value.ref b from ru); exact q) rv, fun _ => n⟩
    obtain ⟨as, q, n⟩ := key
    exact ⟨_, .tuple ho hc hd q, fun z => n (hdi ▸ z)⟩
end
section
variable {X : Cx}
/-- repr of such values -/
def rReprV (K : PySem.W.Frag) : List V → Hp → VK → Prop := fun xs H Q => ∃ (v : V) (d : PyData), xs = [v] ∧ Vl K H v d ∧ d.showable = true ∧ d.depth ≤ 64 ∧ d.shown.length ≤ sizeLine ∧ Q (.str d.shown) H
theorem call_reprV (hG : X.A.guards = some []) (hu : X.A.units + 66 < cLine) : CallR X (.builtin "repr") (rReprV X.K) := by
  intro pins s σ H xs us Q I r h
  obtain ⟨v, d, rfl, hd, hs, hp, hz, q⟩ := h
  obtain ⟨u, rfl, ru⟩ := vals1 r
  obtain ⟨as, hr, hsm⟩ := vl_reads I hd ru
  cases hr with
  | none => exact PySem.P.repr_of_none ⟨.str _, H, I.tok _, ⟨_, rfl⟩, q⟩
  | bool b => exact PySem.P.repr_of_bool ⟨.str _, H, I.tok _, ⟨_, rfl⟩, q⟩
  | int i t => exact PySem.P.repr_of_int (of_decide_eq_true hs) ⟨.str _, H, I.tok _, ⟨_, rfl⟩, q⟩
  | str x t => exact PySem.P.repr_of_str ⟨.str _, H, I.tok _, ⟨_, rfl⟩, q⟩ hz
  | list h1 h2 h3 h4 => exact repr_of_reads' (.list h1 h2 h3 h4) hs hsm hG (by omega) (fun _ _ z => z) (fun h' k tk hk => ⟨.str _, H, I.kept (t' := tk) hk, ⟨_, rfl⟩, q⟩) hz
  | tuple h1 h2 h3 h4 => exact repr_of_reads' (.tuple h1 h2 h3 h4) hs hsm hG (by omega) (fun _ _ z => z) (fun h' k tk hk => ⟨.str _, H, I.kept (t' := tk) hk, ⟨_, rfl⟩, q⟩) hz
  | dict h1 h2 h3 h4 h5 => exact repr_of_reads' (.dict h1 h2 h3 h4 h5) hs hsm hG (by omega) (fun _ _ z => z) (fun h' k tk hk => ⟨.str _, H, I.kept (t' := tk) hk, ⟨_, rfl⟩, q⟩) hz
end
/-- what sort of thing a leaf is -/
inductive Kd (K : PySem.W.Frag) (H : Hp) : V → PyData → Prop
  | int (i : Int) : Kd K H (.int i) (.int i)
  | bl (b : Bool) : Kd K H (.bl b) (.bool b)
  | tup {a : Addr} {xs : List V} {ds : List PyData} : SqT K H a xs → xs.length = ds.length → (∀ (j : Nat) (x : V), xs[j]? = some x → ∃ d, ds[j]? = some d ∧ Lf K H x d) → Kd K H (.ref a) (.tuple ds)
  | oth {v : V} {d : PyData} (t : String) : (t = "NoneType" ∨ t = "str" ∨ t = "list" ∨ t = "dict") → TyX K H v (.type t) → (∀ i, d ≠ .int i) → (∀ b, d ≠ .bool b) → (∀ ds, d ≠ .tuple ds) → Kd K H v d
theorem ty_lst {K : PySem.W.Frag} {H : Hp} {a : Addr} {xs : List V} (h : SqL K H a xs) : TyX K H (.ref a) (.type "list") := by
  rcases h with (h | ⟨o, h⟩) | ⟨o, its, n, e, c, _⟩
  · exact .base (.lst h)
  · exact .base (.frz h)
  · exact .kList e c
theorem ty_tup {K : PySem.W.Frag} {H : Hp} {a : Addr} {xs : List V} (h : SqT K H a xs) : TyX K H (.ref a) (.type "tuple") := by
  rcases h with (h | ⟨o, h⟩) | ⟨o, its, n, e, c, _⟩
  · exact .base (.tup h)
  · exact .fTuple h
  · exact .kTuple e c
theorem dpa_at {K : PySem.W.Frag} {H : Hp} : ∀ {xs : List V} {ds : List PyData}, DpAll K H xs ds → PyData.hasDictAll ds = false → xs.length = ds.length ∧ ∀ (j : Nat) (x : V), xs[j]? = some x → ∃ d, ds[j]? = some d ∧ Lf K H x d
  | _, _, .nil, _ => ⟨rfl, fun j x e => by simp at e⟩
  | _, _, .cons (v := v) (vs := vs) (d := d) (ds := ds) h t, n => by
    have n' : d.hasDict = false ∧ PyData.hasDictAll ds = false := by simpa [PyData.hasDictAll] using n
    obtain ⟨h1, h2⟩ := dpa_at t n'.2
    refine ⟨by rw [List.length_cons, List.length_cons, h1], fun j x e => ?_⟩
    cases j with
    | zero =>
      simp at e
      subst e
      exact ⟨d, by simp, .dp h n'.1⟩
    | succ j => exact h2 j x (by simpa using e)
theorem lf_kd {K : PySem.W.Frag} {H : Hp} {v : V} {d : PyData} (h : Lf K H v d) : Kd K H v d := by
  cases h with
  | dp h n =>
    cases h with
    | non => exact .oth "NoneType" (.inl rfl) (.base .non) (fun _ z => nomatch z) (fun _ z => nomatch z) (fun _ z => nomatch z)
    | bl b => exact .bl b
    | int i => exact .int i
    | str x => exact .oth "str" (.inr (.inl rfl)) (.base (.str x)) (fun _ z => nomatch z) (fun _ z => nomatch z) (fun _ z => nomatch z)
    | lst hs ha => exact .oth "list" (.inr (.inr (.inl rfl))) (ty_lst hs) (fun _ z => nomatch z) (fun _ z => nomatch z) (fun _ z => nomatch z)
    | tup hs ha =>
      obtain ⟨h1, h2⟩ := dpa_at ha (by simpa [PyData.hasDict] using n)
      exact .tup hs h1 h2
  | dct h k =>
    refine .oth "dict" (.inr (.inr (.inr rfl))) (.base (.dK h)) ?_ ?_ ?_ <;> cases k <;> exact fun _ z => nomatch z
theorem vl_kd {K : PySem.W.Frag} {H : Hp} {v : V} {d : PyData} (h : Vl K H v d) : Kd K H v d := by
  cases h with
  | lf h => exact lf_kd h
  | @mix a pre post x d ht hx =>
    refine .tup ht (by simp) fun j y e => ?_
    rcases Nat.lt_trichotomy j pre.length with hj | hj | hj
    · rw [List.getElem?_append_left (by simpa using hj)] at e ⊢
      obtain ⟨z, rfl, hz⟩ := ints_at e
      exact ⟨.int z, by rw [List.getElem?_map, hz]; rfl, .dp (.int z) rfl⟩
    · subst hj
      rw [List.getElem?_append_right (by simp)] at e ⊢
      simp at e ⊢
      subst e
      exact hx
    · rw [List.getElem?_append_right (by simpa using Nat.le_of_lt hj)] at e ⊢
      obtain ⟨m, hm⟩ : ∃ m, j - (pre.map V.int).length = m + 1 := ⟨j - pre.length - 1, by rw [List.length_map]; omega⟩
      have hm' : j - (pre.map PyData.int).length = m + 1 := by rw [List.length_map] at hm ⊢; exact hm
      rw [hm] at e
      rw [hm']
      simp only [List.getElem?_cons_succ] at e ⊢
      obtain ⟨z, rfl, hz⟩ := ints_at e
      exact ⟨.int z, by rw [List.getElem?_map, hz]; rfl, .dp (.int z) rfl⟩
/-- what the written part says of an own exception class over ValueError that keeps a path -/
structure OexX (K : PySem.W.Frag) (mg : Str → Option Value) (x : Str) (C fI : Addr) : Prop where
  g : mg x = some (.ref C)
  ox : OexC K C
  iC : PySem.W.findIn K (.ref C) "__init__" = some (some (.ref fI))
  tI : PySem.W.typeIn K (.ref fI) = some (.type "function")
  me : PySem.W.exmOne K (.ref C) (.ref C) = some true
  xf : XfC K C
  np : PySem.W.findIn K (.ref C) "path" = some none
theorem exm_me {K : PySem.W.Frag} {C : Addr} (bE : PySem.W.subIn K (.ref C) (.type "BaseException") = some true) (tE : PySem.W.typeIn K (.ref C) = some (.type "type")) (iE : PySem.W.isClsIn K C = true) (sE : PySem.W.subIn K (.ref C) (.ref C) = some true) : PySem.W.exmOne K (.ref C) (.ref C) = some true := by
  have e1 : (PySem.W.subIn K (.ref C) (.type "BaseException") == some true) = true := by rw [bE]; rfl
  have e3 : (PySem.W.clsIn K C).isSome = true := iE
  have e2 : ((PySem.W.clsIn K C).isSome && PySem.W.typeIn K (.ref C) == some (.type "type")) = true := by rw [e3, tE]; rfl
  show (if _ then (if _ then _ else _) else _) = some true
  rw [if_pos e1, if_pos e2]
  exact sE
theorem oexX_mk {K : PySem.W.Frag} {mg : Str → Option Value} {x : Str} {C fI : Addr} (g : mg x = some (.ref C))
    (cls : ∃ nm q N bs bm sn sub ab col dd k0 k1 k2 k3 k5, K.lookup C = some (PySem.excClassObj nm q C N bs bm true sn sub ab col dd k0 k1 k2 k3 k5 "ValueError.__new__") ∧ PySem.HandSPX.refsVE bm = true)
    (sa : PySem.W.findIn K (.ref C) "__setattr__" = some (some (.builtin "object.__setattr__"))) (ga : PySem.W.findIn K (.ref C) "__getattribute__" = some (some (.builtin "BaseException.__getattribute__"))) (gg : PySem.W.findIn K (.ref C) "__getattr__" = some none)
    (np : PySem.W.findIn K (.ref C) "path" = some none) (iC : PySem.W.findIn K (.ref C) "__init__" = some (some (.ref fI))) (tI : PySem.W.typeIn K (.ref fI) = some (.type "function")) (kC : PySem.W.keepIn K (.ref C) = true)
    (eC : PySem.W.subIn K (.ref C) (.type "BaseException") = some true) (tC : PySem.W.typeIn K (.ref C) = some (.type "type")) (hC : PySem.W.hasDictIn K C = true) (iK : PySem.W.isClsIn K C = true) (sE : PySem.W.subIn K (.ref C) (.ref C) = some true) : OexX K mg x C fI :=
  ⟨g, ⟨cls, sa, eC, tC, kC⟩, iC, tI, exm_me eC tC iK sE, ⟨ga, gg, eC, hC⟩, np⟩
/-- the path that an own exception is made of -/
def spPath (K : PySem.W.Frag) (C : Addr) : Sp := fun vs H Q _ => ∃ (a t : Addr) (ys : List V), vs = [.ref a, .ref t] ∧ OexC K C ∧ PySem.W.findIn K (.ref C) "path" = some none ∧ H a = some (exo a C none) ∧ SqT K H t ys ∧
  ∀ dx, H dx = none → dx ≠ a → Q .non (upd (upd H dx (exd dx [("path", .ref t)])) a (exo a C (some dx)))
/-- what stands behind a raised exception with a path -/
structure Thr (K : PySem.W.Frag) (C : Addr) (H : Hp) (path : List Int) (cls : Value) (d : Option Addr) (H' : Hp) : Prop where
  c : cls = .ref C
  s : Same H H'
  f : ∃ (dd t : Addr), d = some dd ∧ H' dd = some (.xd [("path", .ref t)]) ∧ SqT K H' t (path.map V.int)
/-- C(path) runs -/
theorem thrown {K : PySem.W.Frag} {C : Addr} {H H1 : Hp} {a t : Addr} {path : List Int} {E : XK} (o : OexC K C) (np : PySem.W.findIn K (.ref C) "path" = some none) (s : Same H H1) (ht : SqT K H1 t (path.map V.int)) (ha : H1 a = none)
    (q : ∀ cls d H', Thr K C H path cls d H' → E cls d H') :
    spPath K C [.ref a, .ref t] (upd H1 a (exo a C none)) (fun v H2 => v = .non ∧ ∃ (d : Addr) (fs : List (Str × V)), H2 a = some (exo a C (some d)) ∧ H2 d = some (exd d fs) ∧ H1 d = none ∧ E (.ref C) (some d) (upd (del H2 a) d (.xd fs))) fun _ _ _ => False := by
  refine ⟨a, t, _, rfl, o, np, upd_same, sameT (same_new ha) ht, fun dx hdx ne => ⟨rfl, dx, _, upd_same, by rw [upd_ne ne, upd_same], by rw [upd_ne ne] at hdx; exact hdx, ?_⟩⟩
  have hd1 : H1 dx = none := by rw [upd_ne ne] at hdx; exact hdx
  have sm : Same H1 (upd (del (upd (upd (upd H1 a (exo a C none)) dx (exd dx [("path", .ref t)])) a (exo a C (some dx))) a) dx (.xd [("path", .ref t)])) := fun b x e => by
    have n1 : b ≠ a := ne_of_none e ha
    have n2 : b ≠ dx := ne_of_none e hd1
    rw [upd_ne n2, del_ne n1, upd_ne n1, upd_ne n2, upd_ne n1]
    exact e
  exact q _ _ _ ⟨rfl, s.trans sm, dx, t, rfl, upd_same, sameT sm ht⟩
/-- two tuples put together, wherever they stand -/
theorem cat_any {K : PySem.W.Frag} {H : Hp} {a b : Addr} {xs ys : List V} {Q : VK} (ha : SqT K H a xs) (hb : SqT K H b ys) (hl : xs.length + ys.length ≤ sizeLine) (q : ∀ t H', Same H H' → SqT K H' t (xs ++ ys) → Q (.ref t) H') : rCatA K (.ref a) (.ref b) H Q := by
  refine ⟨a, b, xs, ys, rfl, rfl, ha, hb, hl, fun e => ?_, fun _ e => ?_, fun _ _ p hp => q p _ (same_new hp) (.inl (.inl upd_same))⟩
  · exact q b H (Same.refl _) (by rw [e]; exact hb)
  · exact q a H (Same.refl _) (by rw [e, List.append_nil]; exact ha)
theorem sl_any {K : PySem.W.Frag} {H : Hp} {a : Addr} {xs : List V} {lo hi : Option Int} {Q : VK} (ha : SqT K H a xs) (q : ∀ t H', Same H H' → SqT K H' t (cutV xs lo hi) → Q (.ref t) H') : rSlA K (.ref a) lo hi H Q := by
  refine ⟨a, xs, rfl, ha, fun e => ?_, fun _ p hp => q p _ (same_new hp) (.inl (.inl upd_same))⟩
  refine q a H (Same.refl _) ?_
  have : cutV xs lo hi = xs := by
    unfold cutV
    rw [e.1, e.2, List.drop_zero, Nat.sub_zero, List.take_length]
  rw [this]
  exact ha
/-- all that stands but the source and the list D is known -/
def hide3 (H : Hp) (d c D : Addr) : Hp := fun b => if b = d ∨ b = c ∨ b = D then none else H b
theorem know3 {G H : Hp} {d c D : Addr} {xs : List V} (k : Kn (upd G D (.lst xs)) H d c) (gD : G D = none) :
    Kn (upd (hide3 H d c D) D (.lst xs)) H d c ∧ hide3 H d c D D = none ∧ Same G (hide3 H d c D) := by
  have nd : D ≠ d := k.nd upd_same
  have nc : D ≠ c := k.nc upd_same
  refine ⟨⟨fun b x e => ?_, ?_, ?_, k.src⟩, by simp [hide3], fun b x e => ?_⟩
  · by_cases hb : b = D
    · subst hb
      rw [upd_same] at e
      exact k.le _ _ (by rw [upd_same]; exact e)
    · rw [upd_ne hb] at e
      unfold hide3 at e
      split at e
      · cases e
      · exact e
  · rw [upd_ne nd.symm]
    simp [hide3]
  · rw [upd_ne nc.symm]
    simp [hide3]
  · have hb : b ≠ D := ne_of_none e gD
    have e' : (upd G D (.lst xs)) b = some x := by rw [upd_ne hb]; exact e
    have h1 : b ≠ d := k.nd e'
    have h2 : b ≠ c := k.nc e'
    unfold hide3
    rw [if_neg (by simp [h1, h2, hb])]
    exact k.le _ _ e'
theorem know3_t {K : PySem.W.Frag} {G H : Hp} {d c D t : Addr} {xs ys : List V} (k : Kn (upd G D (.lst xs)) H d c) (h : SqT K H t ys) : SqT K (hide3 H d c D) t ys := by
  obtain ⟨zs, l, m, z, h1, h2, _⟩ := k.src
  have h3 := k.le D _ upd_same
  have off : ∀ {o : HO}, H t = some o → (∀ q, o ≠ .dK q) → (∀ q, o ≠ .lst q) → (hide3 H d c D) t = some o := fun {o} e n1 n2 => by
    have a1 : t ≠ d := fun q => by rw [q, h1] at e; exact n1 _ (Option.some.inj e).symm
    have a2 : t ≠ c := fun q => by rw [q, h2] at e; exact n2 _ (Option.some.inj e).symm
    have a3 : t ≠ D := fun q => by rw [q, h3] at e; exact n2 _ (Option.some.inj e).symm
    unfold hide3
    rw [if_neg (by simp [a1, a2, a3])]
    exact e
  rcases h with (h | ⟨o, h⟩) | h
  · exact .inl (.inl (off h (fun _ q => nomatch q) (fun _ q => nomatch q)))
  · exact .inl (.inr ⟨o, off h (fun _ q => nomatch q) (fun _ q => nomatch q)⟩)
  · exact .inr h
theorem know3_o {G H : Hp} {d c D t : Addr} {xs : List V} {o : HO} (k : Kn (upd G D (.lst xs)) H d c) (h : H t = some o) (nd : t ≠ d) (nc : t ≠ c) (nD : t ≠ D) : hide3 H d c D t = some o := by
  unfold hide3
  rw [if_neg (by simp [nd, nc, nD])]
  exact h
end Lw

/-! ### range objects: range(n), i not in r -/
namespace Lw
open PySem L2 PySem.Spec PyProof.Rows
section
variable {X : Cx}
def rRange1 : List V → Hp → VK → Prop := fun vs H Q => ∃ j, vs = [V.int j] ∧ ∀ p, H p = none → Q (.ref p) (upd H p (.rng 0 j))
theorem cr_range1 : CallR X (.type "range") rRange1 := by
  intro pins s σ H vs us Q I r h
  obtain ⟨j, rfl, q⟩ := h
  obtain ⟨u, rfl, ru⟩ := vals1 r
  obtain ⟨t, rfl⟩ := ru
  refine call_range_1 ⟨.ref s.heap.objs.size, upd H s.heap.objs.size (.rng 0 j), I.laid (t' := s.toks + 1 + 1) (fun b o e => Heap.get?_push_of_some _ e) (Nat.le_refl _) ?_, rfl, q _ (I.hok.fresh (Nat.le_refl _))⟩
  exact ⟨s.toks, t, s.toks + 1, Heap.get?_push_size _ rfl⟩
def rNotInRng : R2 := fun x y H Q => ∃ i a lo hi, x = V.int i ∧ y = V.ref a ∧ H a = some (.rng lo hi) ∧ Q (.bl (!decide (lo ≤ i ∧ i < hi))) H
theorem op_notIn_rng : OpR X (compareOp .NotIn) rNotInRng := by
  intro pins s σ H x y v u Q I rx ry h
  obtain ⟨i, a, lo, hi, rfl, rfl, ha, q⟩ := h
  obtain ⟨k, rfl⟩ := rx
  obtain rfl : u = Value.ref a := ry
  obtain ⟨t1, t2, t3, ho⟩ := I.hok a _ ha
  refine NotIn_slot (T := "range") ⟨_, ho, rfl⟩ F.slot_range_contains (call_meets F.slot_range_contains ⟨_, ho, rfl⟩ F.entry_range_contains (F.args_range_contains_2 _ _) (L2.q_contains a lo hi i t1 t2 t3 k) ⟨ho, wpAny_truthy_bool ⟨.bl _, H, I, rfl, ?_⟩⟩)
  rw [L2.place1]
  exact q
/-- going through a range object that stands in a name -/
def iRngO (te : TE) : TI := fun σ H R => te σ H fun x H1 => ∃ (a : Addr) (lo hi : Int), x = .ref a ∧ H1 a = some (.rng lo hi) ∧ -(2 ^ 62) ≤ lo ∧ lo < 2 ^ 62 ∧ -(2 ^ 62) ≤ hi ∧ hi < 2 ^ 62 ∧ R (Itr lo (hi - lo).toNat) H1
theorem pi_rngO {tg e : Expr} {te : TE} (he : PE X e te) : PI X tg e (iRngO te) := by
  refine ⟨fun pins s σ H R I h => ?_⟩
  refine thn (he.run pins s σ H _ I h) fun v s1 ⟨x, H1, I1, r1, q1⟩ => ?_
  obtain ⟨a, lo, hi, rfl, ha, h1, h2, h3, h4, q⟩ := q1
  obtain rfl : v = Value.ref a := r1
  obtain ⟨t, u, w, ho⟩ := I1.hok a _ ha
  refine wpAny_pyIter_range (show IsRange s1.heap a lo hi 1 t u w from ho) (small_one h1 h2 h3 h4) ?_
  refine ⟨s1.heap.objs.size, [s1.heap.objs.size], _, _, H1, rfl, I1.kept (t' := s1.toks) fun b o e => Heap.get?_push_of_some _ e, turn_range _ lo (hi - lo).toNat, ?_, fun b hb => ?_, q⟩
  · have e1 : lo + ((0 : Nat) : Int) * 1 = lo := by simp
    have e2 : (((hi - lo).toNat : Nat) : Int) - ((0 : Nat) : Int) = Builtin.Range.rangeSize lo hi 1 := by rw [rangeSize_one]; split <;> omega
    show IsRangeIter _ _ (lo + ((0 : Nat) : Int) * 1) ((((hi - lo).toNat : Nat) : Int) - ((0 : Nat) : Int)) 1
    rw [e1, e2]
    exact Heap.get?_push_size _ rfl
  · have e : b = s1.heap.objs.size := by simpa using hb
    subst e
    exact I1.fpOk (Nat.le_refl _) (I1.hok.fresh (Nat.le_refl _))
/-- tuple(xs), xs a list or a tuple -/
def rTupOf (K : PySem.W.Frag) : List V → Hp → VK → Prop := fun xs H Q => ∃ p ys, xs = [.ref p] ∧ ((SqL K H p ys ∧ ∀ l, H l = none → Q (.ref l) (upd H l (.tup ys))) ∨ (SqT K H p ys ∧ Q (.ref p) H))
theorem call_tupOf : CallR X (.type "tuple") (rTupOf X.K) := call_tuple_of
/-- list(xs), xs a list or a tuple -/
def rListOf (K : PySem.W.Frag) : List V → Hp → VK → Prop := fun xs H Q => ∃ p ys, xs = [V.ref p] ∧ (SqL K H p ys ∨ SqT K H p ys) ∧ ∀ l, H l = none → Q (V.ref l) (upd H l (.lst ys))
theorem call_listOf : CallR X (.type "list") (rListOf X.K) := call_list_of
/-- the less of two -/
def rMin2 : List V → Hp → VK → Prop := fun xs H Q => ∃ i j, xs = [.int i, .int j] ∧ Q (.int (if j < i then j else i)) H
theorem cr_min2 (hc : X.calm = true) : CallR X (.builtin "min") rMin2 := call_min2 hc
/-- len(xs), xs a list or a tuple -/
def rLenOf (K : PySem.W.Frag) : List V → Hp → VK → Prop := fun xs H Q => ∃ p ys, xs = [V.ref p] ∧ (SqL K H p ys ∨ SqT K H p ys) ∧ Q (.int (ys.length : Nat)) H
theorem call_lenOf : CallR X (.builtin "len") (rLenOf X.K) := call_len_seq
end
end Lw

namespace Lw
open PySem L2
/-! ### zip, the second one the shorter -/
theorem for_zipS {K : PySem.W.Frag} {k1 k2 : Bool} {a b : Addr} {xs ys : List V} {g : TG} {tb : TS} {D : Ends} {σ : L2.St} {H : Hp} (hl : ys.length ≤ xs.length) (Pv : Nat → L2.St → Hp → Prop) (h0 : Pv 0 σ H) (hq : ∀ i σ H, Pv i σ H → SqK K k1 H a xs ∧ SqK K k2 H b ys)
    (hs : ∀ (i : Nat) (x y : V) (T : Addr) (σ : L2.St) (H : Hp), xs[i]? = some x → ys[i]? = some y → Pv i σ H → H T = none → g (.ref T) σ (upd H T (.tup [x, y])) fun σ2 H2 => tb { D with nx := Pv (i + 1), ct := Pv (i + 1), bk := D.nx } σ2 H2) (hd : ∀ σ H, Pv ys.length σ H → D.nx σ H) :
    ∃ W : Nat → Nat → L2.St → Hp → Prop, (∃ m, W 0 m σ H) ∧ ∀ i m σ H, W i m σ H →
      ((ItzM K k1 k2 a b).stop i H ∧ D.nx σ H) ∨ ((ItzM K k1 k2 a b).go i H ∧ ∃ N : L2.St → Hp → Prop, (∀ σ' H', N σ' H' → ∃ m', m' < m ∧ W (i + 1) m' σ' H') ∧ ∀ v H', (ItzM K k1 k2 a b).yld i H v H' → g v σ H' fun σ2 H2 => tb { D with nx := N, ct := N, bk := D.nx } σ2 H2) := by
  refine ⟨fun i m σ H => m = ys.length - i ∧ i ≤ ys.length ∧ Pv i σ H, ⟨_, rfl, Nat.zero_le _, h0⟩, ?_⟩
  rintro i m σ H ⟨rfl, hi, p⟩
  obtain ⟨qx, qy⟩ := hq i σ H p
  by_cases hlt : i < ys.length
  · refine .inr ⟨⟨xs, ys, _, _, qx, qy, List.getElem?_eq_getElem (Nat.lt_of_lt_of_le hlt hl), List.getElem?_eq_getElem hlt⟩, Pv (i + 1), fun σ' H' p' => ⟨ys.length - (i + 1), by omega, rfl, hlt, p'⟩, ?_⟩
    rintro v H' ⟨T, x', y', rfl, hT, rfl, f1, f2⟩
    exact hs i x' y' T σ H (f1 xs qx) (f2 ys qy) p hT
  · have e : i = ys.length := by omega
    subst e
    exact .inl ⟨⟨xs, ys, qx, qy, .inr rfl, hl, Nat.le_refl _⟩, hd σ H p⟩
theorem lc_zipS {K : PySem.W.Frag} {k1 k2 : Bool} {a b : Addr} {xs ys : List V} {g : TG} {tt : TT} {te : TE} {vs : List Nat} {σ : L2.St} {H1 : Hp} {D : Addr} {Qd : Hp → Prop} (hl : ys.length ≤ xs.length) (Pv : Nat → Hp → Prop) (h0 : Pv 0 (upd H1 D (.lst []))) (hq : ∀ i H, Pv i H → SqK K k1 H a xs ∧ SqK K k2 H b ys)
    (hs : ∀ (i : Nat) (x y : V) (T : Addr) (H : Hp), xs[i]? = some x → ys[i]? = some y → Pv i H → H T = none → g (.ref T) (wipe σ vs) (upd H T (.tup [x, y])) fun σ2 H2 => wipe σ2 vs = wipe σ vs ∧ tt σ2 H2 fun b H3 =>
      if b = true then te σ2 H3 fun y H4 => ∃ acc, H4 D = some (.lst acc) ∧ acc.length < sizeLine ∧ Pv (i + 1) (upd H4 D (.lst (acc ++ [y]))) else Pv (i + 1) H3) (hd : ∀ H, Pv ys.length H → Qd H) :
    ∃ W : Nat → Nat → Hp → Prop, (∃ m, W 0 m (upd H1 D (.lst []))) ∧ ∀ i m H, W i m H →
      ((ItzM K k1 k2 a b).stop i H ∧ Qd H) ∨ ((ItzM K k1 k2 a b).go i H ∧ ∃ Nx : Hp → Prop, (∀ H', Nx H' → ∃ m', m' < m ∧ W (i + 1) m' H') ∧ ∀ x H', (ItzM K k1 k2 a b).yld i H x H' → g x (wipe σ vs) H' fun σ2 H2 => wipe σ2 vs = wipe σ vs ∧ tt σ2 H2 fun b H3 =>
        if b = true then te σ2 H3 fun y H4 => ∃ acc, H4 D = some (.lst acc) ∧ acc.length < sizeLine ∧ Nx (upd H4 D (.lst (acc ++ [y]))) else Nx H3) := by
  refine ⟨fun i m H => m = ys.length - i ∧ i ≤ ys.length ∧ Pv i H, ⟨_, rfl, Nat.zero_le _, h0⟩, ?_⟩
  rintro i m H ⟨rfl, hi, p⟩
  obtain ⟨qx, qy⟩ := hq i H p
  by_cases hlt : i < ys.length
  · refine .inr ⟨⟨xs, ys, _, _, qx, qy, List.getElem?_eq_getElem (Nat.lt_of_lt_of_le hlt hl), List.getElem?_eq_getElem hlt⟩, Pv (i + 1), fun H' p' => ⟨ys.length - (i + 1), by omega, rfl, hlt, p'⟩, ?_⟩
    rintro v H' ⟨T, x', y', rfl, hT, rfl, f1, f2⟩
    exact hs i x' y' T H (f1 xs qx) (f2 ys qy) p hT
  · have e : i = ys.length := by omega
    subst e
    exact .inl ⟨⟨xs, ys, qx, qy, .inr rfl, hl, Nat.le_refl _⟩, hd H p⟩
end Lw

/-! ### sorted of any number of tuples of whole numbers -/
namespace Lw
open PySem L2 PySem.Spec PyProof.Rows
theorem swo_code (B : Int) (k : Value → List Int) : SrtO.Swo fun v u => decide (TS.code B (k v) < TS.code B (k u)) :=
  ⟨fun x y h => decide_eq_false (by have := of_decide_eq_true h; omega), fun x y z h1 h2 => decide_eq_false (by have := of_decide_eq_false h1; have := of_decide_eq_false h2; omega)⟩
section
variable {prog : Program} {w : World} {A : Around} {E : Value → Shared → Prop} {s : Shared}
theorem tups_cmp {d : Nat} {B : Int} {vs : List Value} {k : Value → List Int} (hk : ∀ v ∈ vs, TS.TupInts s.heap v (k v) ∧ (k v).length = d ∧ TS.Bd B (k v)) :
    SrtO.Cmp prog w A s (tuples' true) (fun p => p.1 ∈ vs) (SrtO.lt2 fun v u => decide (TS.code B (k v) < TS.code B (k u))) := by
  intro p q hm hm'
  show wpAny (model prog w) A (keyLt' (tuples' true) p.1 q.1) (fun r s' => s' = s ∧ r = decide (TS.code B (k p.1) < TS.code B (k q.1))) (fun _ _ => False) s
  obtain ⟨tp, lp, bp⟩ := hk _ hm
  obtain ⟨tq, lq, bq⟩ := hk _ hm'
  generalize k p.1 = ns at *
  generalize k q.1 = ms at *
  obtain ⟨a, xs, e1, ⟨o, ho, hc, n, hdt⟩, i⟩ := tp
  obtain ⟨a', ys, e2, ⟨o', ho', hc', n', hdt'⟩, i'⟩ := tq
  rw [e1, e2]
  refine PySem.W.kat_lt ho hdt ho' hdt' ?_
  have sz : decide (xs.size < ys.size) = false := by
    have l1 := i.length
    have l2 := i'.length
    rw [Array.length_toList] at l1 l2
    exact decide_eq_false (by omega)
  rw [sz]
  exact TS.lex_ints 0 i i' (by omega) bp bq ⟨rfl, rfl⟩
theorem tups_sortable {a : Addr} {d : Nat} {B : Int} {vs : List Value} {k : Value → List Int} (hd : 1 ≤ d) (h0 : 0 < vs.length) (hk : ∀ v ∈ vs, TS.TupInts s.heap v (k v) ∧ (k v).length = d ∧ TS.Bd B (k v)) (ha : ∀ o, s.heap.get? a = some o → o.cls ≠ .type "tuple") :
    SrtO.SortableO prog w A s a vs fun v u => decide (TS.code B (k v) < TS.code B (k u)) := by
  intro h' keep
  have hk' : ∀ v ∈ vs, TS.TupInts h' v (k v) ∧ (k v).length = d ∧ TS.Bd B (k v) := fun v hm => ⟨(hk v hm).1.keeps fun b o e c => keep b o (fun z => by subst z; exact ha o e c) e, (hk v hm).2⟩
  obtain ⟨fs, h1, h2, h3⟩ := TS.firsts_of hd vs (fun v hv => ⟨_, hk' v hv⟩)
  refine ⟨tuples' true, fun Q E hq => ?_, tups_cmp hk'⟩
  refine PySem.W.kat_kind (T := .type "int") h1 (by omega) (fun f hm => ?_) (by rfl) ?_
  · obtain ⟨x, t, rfl⟩ := h3 f hm
    exact PySem.W.Looks.now
  · have e : (Value.type "int" != Value.type "tuple") = true := by first | decide +kernel | rfl | decide
    rw [e]
    exact hq
theorem sorted_tupsO {l : Addr} {vs : List Value} {d : Nat} {B : Int} {k : Value → List Int} {Q : Value → Shared → Prop} (hd : 2 ≤ vs.length → 1 ≤ d) (hl : s.heap.IsList l vs.toArray) (hz : vs.length ≤ sizeLine) (hk : ∀ v ∈ vs, TS.TupInts s.heap v (k v) ∧ (k v).length = d ∧ TS.Bd B (k v))
    (h : ∀ (h' : Heap) (d : Addr) (out : List Value), SrtO.Srtd (fun v u => decide (TS.code B (k v) < TS.code B (k u))) out → out.Perm vs → (∀ b o, s.heap.get? b = some o → h'.get? b = some o) → s.heap.objs.size ≤ d → (∃ n, h'.get? d = some (seqObj "list" out.toArray n)) → Q (.ref d) { s with heap := h' }) :
    wpAny (model prog w) A (call (.builtin "sorted") [.ref l]) Q E s := by
  refine SrtO.sorted_ord (swo_code B k) hl hz (fun h2 h₁ a ha kk => ?_) fun out hs hb => ?_
  · refine tups_sortable (s := { s with heap := h₁ }) (hd h2) (by omega) (fun v hm => ⟨(hk v hm).1.keeps fun b o e _ => (kk b o e).2, (hk v hm).2⟩) fun o e => ?_
    have e' : some o = some (seqObj "list" vs.toArray 0) := e.symm.trans ha
    cases e'
    intro c
    exact absurd (Value.type.inj c) (by decide)
  · exact h _ _ out hs hb.perm (fun b o e => PyProof.Rows.sortedAll_old e) (Nat.le_succ _) (PyProof.Rows.sortedAll_at s.heap vs out.toArray)
end
def rSortTL (K : PySem.W.Frag) (d : Nat) (B : Int) : List V → Hp → VK → Prop := fun vs H Q => ∃ (a : Addr) (xs : List V), vs = [V.ref a] ∧ SqL K H a xs ∧ (2 ≤ xs.length → 1 ≤ d) ∧ (∀ x ∈ xs, ∃ ns, TupI K H x ns ∧ ns.length = d ∧ TS.Bd B ns) ∧
  ∀ (ys : List V) (p : Addr), ys.Perm xs → ys.Pairwise (fun x y => ∀ n m, TupI K H x n → TupI K H y m → TS.code B n ≤ TS.code B m) → H p = none → Q (.ref p) (upd H p (.lst ys))
section
variable {X : Cx}
theorem cr_sortTL {d : Nat} {B : Int} : CallR X (.builtin "sorted") (rSortTL X.K d B) := by
  intro pins s σ H vs us Q I r h
  obtain ⟨a, xs, rfl, hs, hd, hx, q⟩ := h
  obtain ⟨its, rv, hl, hz⟩ := I.list hs
  rw [Vals.ref1 r]
  obtain ⟨e1, e2⟩ := bkV_refs rv fun x m => by
    obtain ⟨ns, ⟨t, e, _⟩, _⟩ := hx x m
    exact ⟨t, e⟩
  refine sorted_tupsO (d := d) (B := B) (k := TS.intsOf s.heap) (by rw [← rv.length]; exact hd) hl.isList (by rw [← rv.length]; exact hz) (fun v hv => ?_) fun h' D out h1 hp1 kp hD hn => ?_
  · obtain ⟨t, rfl⟩ := e2 v hv
    have hm : V.ref t ∈ xs := by
      rw [e1]
      exact List.mem_map.mpr ⟨_, hv, rfl⟩
    obtain ⟨ns, ⟨t', e, ht⟩, hn, hb⟩ := hx _ hm
    cases e
    have tr := tupI_raw I ht
    rw [tr.ints]
    exact ⟨tr, hn, hb⟩
  · have h3 : ∀ u ∈ out, ∃ a, u = Value.ref a := fun u hu => e2 u (hp1.mem_iff.mp hu)
    have hp : (out.map bkV).Perm xs := by
      rw [e1]
      exact hp1.map bkV
    have hlen : (out.map bkV).length ≤ sizeLine := by
      rw [hp.length_eq]
      exact hz
    obtain ⟨n, hn⟩ := hn
    refine ⟨.ref D, upd H D (.lst (out.map bkV)), I.laid (t' := s.toks) kp hD ⟨hlen, out, n, bkV_vals h3, hn⟩, rfl, q _ _ hp ?_ (I.hok.fresh hD)⟩
    rw [List.pairwise_map]
    refine List.Pairwise.imp (fun {u v} huv n m hn hm => ?_) h1
    obtain ⟨t, et, ht⟩ := hn
    obtain ⟨t', et', ht'⟩ := hm
    have eu := bkV_ref et
    have ev := bkV_ref et'
    have i1 : TS.intsOf s.heap u = n := by
      rw [eu]
      exact (tupI_raw I ht).ints
    have i2 : TS.intsOf s.heap v = m := by
      rw [ev]
      exact (tupI_raw I ht').ints
    rw [← i1, ← i2]
    have := of_decide_eq_false huv
    omega
end
end Lw

namespace Lw
open PySem L2 PySem.Spec PyProof.Rows
/-- (v,) * k, where the tuple is one's own -/
def rRep1T (K : PySem.W.Frag) : R2 := fun x y H Q => ∃ l k v, x = .ref l ∧ y = .int k ∧ H l = some (.tup [v]) ∧ 0 ≤ k ∧ k ≤ 1000 ∧ ∀ t H', Same H H' → H' t = some (.tup (List.replicate k.toNat v)) → Q (.ref t) H'
section
variable {X : Cx}
theorem op_rep1T : OpR X (binaryOp .Mult) (rRep1T X.K) := by
  intro pins s σ H x y v u Q I rx ry h
  obtain ⟨l, k, z, rfl, rfl, hl, h0, h1, q⟩ := id h
  have hT : SqT X.K H l [z] := .inl (.inl hl)
  by_cases h2 : 2 ≤ k
  · refine op_repT pins s σ H _ _ v u Q I rx ry ⟨l, k, [z], rfl, rfl, hT, by simp, h2, h1, by simp, fun p hp => q p _ (same_new hp) ?_⟩
    rw [upd_same]
    congr 2
    induction k.toNat with
    | zero => rfl
    | succ m ih => rw [List.replicate_succ, List.flatten_cons, ih, List.replicate_succ]; rfl
  · cases rx
    obtain ⟨t, rfl⟩ := ry
    obtain ⟨its, r, ⟨⟨cls, dd, data, sl⟩, ho, hc, n, hd⟩, hs⟩ := I.tuple hT
    simp only at hc hd
    subst hc hd
    have hn : its.toArray.isEmpty = false := by
      cases r with
      | cons _ _ => rfl
    rcases (by omega : k = 0 ∨ k = 1) with rfl | rfl
    · refine wpAny_binaryOp_repeat_ref (T := "tuple") (U := "int") (by decide) ⟨_, ho, rfl⟩ (fun s' => typeIs_int s' 0 t) noFill_tuple_mul F.fills_int_mul F.slot_int_rmul repeat_tuple F.slot_int_index.lookup
        (call_meets F.slot_int_rmul (typeIs_int s 0 t) F.entry_int_rmul (F.args_int_rmul_2 _ _) (int_rmul_tuple 0 t l its.toArray n dd sl)
          ⟨ho, rfl, ⟨_, ho, rfl⟩, call_meets F.slot_tuple_mul ⟨_, ho, rfl⟩ F.entry_tuple_mul (F.args_tuple_mul_2 _ _) (tm_none l its.toArray n dd sl t hn) ⟨ho, ?_⟩⟩)
      have hf := I.hok.fresh (Nat.le_refl s.heap.objs.size)
      refine ⟨.ref s.heap.objs.size, upd H s.heap.objs.size (.tup []), I.laid (t' := s.toks) (o := .tup []) (fun b ob q => Heap.get?_push_of_some _ q) (Nat.le_refl _) ?_, rfl, q _ _ (same_new hf) upd_same⟩
      exact ⟨Nat.zero_le _, [], .nil, IsTup.new _ _⟩
    · refine wpAny_binaryOp_repeat_ref (T := "tuple") (U := "int") (by decide) ⟨_, ho, rfl⟩ (fun s' => typeIs_int s' 1 t) noFill_tuple_mul F.fills_int_mul F.slot_int_rmul repeat_tuple F.slot_int_index.lookup
        (call_meets F.slot_int_rmul (typeIs_int s 1 t) F.entry_int_rmul (F.args_int_rmul_2 _ _) (int_rmul_tuple 1 t l its.toArray n dd sl)
          ⟨ho, rfl, ⟨_, ho, rfl⟩, call_meets F.slot_tuple_mul ⟨_, ho, rfl⟩ F.entry_tuple_mul (F.args_tuple_mul_2 _ _) (tm_once l its.toArray n dd sl t) ⟨ho, fun k => ?_⟩⟩)
      exact ⟨.ref l, H, I.tok k, rfl, q _ _ (Same.refl _) hl⟩
end
/-! ### a dict that holds True at rows -/
def tbD (M : List (List Int)) : List (List Key × V) := M.map fun r => (r.map Sum.inl, V.bl true)
def insD (M : List (List Int)) (r : List Int) : List (List Int) := if r ∈ M then M else M ++ [r]
theorem inl_inj : ∀ {r s : List Int}, (r.map Sum.inl : List Key) = s.map Sum.inl → r = s
  | [], [], _ => rfl
  | [], _ :: _, h => by simp at h
  | _ :: _, [], h => by simp at h
  | a :: r, b :: s, h => by
    rw [List.map_cons, List.map_cons] at h
    obtain ⟨h1, h2⟩ := List.cons.inj h
    rw [Sum.inl.inj h1, inl_inj h2]
theorem put_tb (M : List (List Int)) (r : List Int) : putK (tbD M) (r.map Sum.inl) (V.bl true) = tbD (insD M r) := by
  have ha : ((tbD M).any fun kv => decide (kv.1 = (r.map Sum.inl : List Key))) = decide (r ∈ M) := by
    induction M with
    | nil => rfl
    | cons a M ih =>
      show (decide ((a.map Sum.inl : List Key) = r.map Sum.inl) || _) = _
      rw [show (List.any (List.map (fun r => (r.map Sum.inl, V.bl true)) M) fun kv => decide (kv.1 = (r.map Sum.inl : List Key))) = decide (r ∈ M) from ih]
      by_cases e : a = r
      · subst e
        simp
      · rw [decide_eq_false (fun z => e (inl_inj z)), Bool.false_or]
        simp [Ne.symm e]
  unfold putK
  rw [ha]
  unfold insD
  by_cases h : r ∈ M
  · rw [if_pos (decide_eq_true h), if_pos h]
    unfold tbD
    rw [List.map_map]
    refine List.map_congr_left fun a _ => ?_
    show (if (a.map Sum.inl : List Key) = r.map Sum.inl then _ else _) = _
    split <;> rfl
  · rw [if_neg (by simpa using h), if_neg h]
    simp [tbD]
theorem ins_mem {M : List (List Int)} {r x : List Int} : x ∈ insD M r ↔ x ∈ M ∨ x = r := by
  unfold insD
  by_cases h : r ∈ M
  · rw [if_pos h]
    constructor
    · exact .inl
    · rintro (q | rfl)
      · exact q
      · exact h
  · rw [if_neg h, List.mem_append, List.mem_singleton]
theorem ins_nodup {M : List (List Int)} {r : List Int} (h : M.Nodup) : (insD M r).Nodup := by
  unfold insD
  by_cases q : r ∈ M
  · rw [if_pos q]
    exact h
  · rw [if_neg q, List.nodup_append]
    refine ⟨h, by simp, fun a ha b hb e => ?_⟩
    rw [List.mem_singleton] at hb
    exact q (hb ▸ e ▸ ha)
theorem ins_len {M : List (List Int)} {r : List Int} : (insD M r).length ≤ M.length + 1 := by
  unfold insD
  split
  · omega
  · rw [List.length_append, List.length_singleton]
    omega
theorem tb_len {M : List (List Int)} : (tbD M).length = M.length := by simp [tbD]
theorem kv_ints : ∀ r : List Int, (r.map Sum.inl : List Key).map kV = r.map V.int
  | [] => rfl
  | a :: r => by
    rw [List.map_cons, List.map_cons, List.map_cons, kv_ints r]
    rfl
theorem keys_rows {K : PySem.W.Frag} {H : Hp} : ∀ {M : List (List Int)} {bs : List Addr}, IsKeys H (tbD M) bs → Rows K H (bs.map V.ref) M
  | [], [], _ => .nil
  | [], _ :: _, h => by cases h
  | _ :: _, [], h => by cases h
  | a :: M, b :: bs, h => by
    cases h with
    | cons h1 h2 =>
      refine .cons (.inl (.inl ?_)) (keys_rows h2)
      have : H b = some (.tup ((a.map Sum.inl : List Key).map kV)) := h1
      rwa [kv_ints] at this
end Lw

/-! ### orders: sorting steps, inversions -/
namespace Lw
/-- the places at which a lesser number follows -/
def stpsN (o : List Int) : List Nat := (List.range (o.length - 1)).filter fun j => decide (o.getD (j + 1) 0 < o.getD j 0)
def stps (o : List Int) : List Int := (stpsN o).map fun (j : Nat) => (1 + j : Int)
/-- the two members at j and j + 1 exchanged -/
def stpN (o : List Int) (j : Nat) : List Int := o.take j ++ [o.getD (j + 1) 0, o.getD j 0] ++ o.drop (j + 2)
def stp (o : List Int) (i : Int) : List Int := stpN o (i.toNat - 1)
def inv : List Int → Nat
  | [] => 0
  | x :: xs => xs.countP (fun y => decide (y < x)) + inv xs
theorem mem_stpsN {o : List Int} {j : Nat} : j ∈ stpsN o ↔ j + 1 < o.length ∧ o.getD (j + 1) 0 < o.getD j 0 := by
  unfold stpsN
  rw [List.mem_filter, List.mem_range, decide_eq_true_eq]
  omega
theorem mem_stps {o : List Int} {i : Int} : i ∈ stps o ↔ ∃ j : Nat, i = 1 + j ∧ j + 1 < o.length ∧ o.getD (j + 1) 0 < o.getD j 0 := by
  unfold stps
  rw [List.mem_map]
  constructor
  · rintro ⟨j, h, rfl⟩
    exact ⟨j, rfl, mem_stpsN.mp h⟩
  · rintro ⟨j, rfl, h⟩
    exact ⟨j, mem_stpsN.mpr h, rfl⟩
theorem stp_one {o : List Int} {j : Nat} : stp o (1 + j) = stpN o j := by
  unfold stp
  rw [show ((1 : Int) + j).toNat - 1 = j from by omega]
theorem stps_lo {o : List Int} {i : Int} (h : i ∈ stps o) : 1 ≤ i ∧ i < o.length := by
  obtain ⟨j, rfl, h1, _⟩ := mem_stps.mp h
  omega
theorem stps_len (o : List Int) : (stps o).length ≤ o.length := by
  unfold stps stpsN
  rw [List.length_map]
  refine Nat.le_trans (List.length_filter_le _ _) ?_
  rw [List.length_range]
  omega
theorem stpN_len {o : List Int} {j : Nat} (h : j + 1 < o.length) : (stpN o j).length = o.length := by
  unfold stpN
  rw [List.length_append, List.length_append, List.length_take, List.length_drop]
  simp only [List.length_cons, List.length_nil]
  omega
theorem stp_len {o : List Int} {i : Int} (h : i ∈ stps o) : (stp o i).length = o.length := by
  obtain ⟨j, rfl, h1, _⟩ := mem_stps.mp h
  rw [stp_one, stpN_len h1]
theorem split_at {o : List Int} {j : Nat} (h : j + 1 < o.length) : o = o.take j ++ o.getD j 0 :: o.getD (j + 1) 0 :: o.drop (j + 2) := by
  conv => lhs; rw [← List.take_append_drop j o]
  rw [List.drop_eq_getElem_cons (by omega : j < o.length), List.drop_eq_getElem_cons (by omega : j + 1 < o.length)]
  rw [List.getD_eq_getElem?_getD, List.getD_eq_getElem?_getD, List.getElem?_eq_getElem (by omega : j < o.length), List.getElem?_eq_getElem (by omega : j + 1 < o.length)]
  rfl
theorem inv_app {l l' : List Int} (p : l.Perm l') : ∀ a : List Int, inv (a ++ l) + inv l' = inv (a ++ l') + inv l
  | [] => by rw [List.nil_append, List.nil_append, Nat.add_comm]
  | x :: a => by
    have ih := inv_app p a
    have e : (a ++ l).countP (fun y => decide (y < x)) = (a ++ l').countP (fun y => decide (y < x)) := by
      rw [List.countP_append, List.countP_append, p.countP_eq]
    show (a ++ l).countP _ + inv (a ++ l) + inv l' = (a ++ l').countP _ + inv (a ++ l') + inv l
    rw [e]
    omega
theorem inv_two (x y : Int) (h : y < x) (b : List Int) : inv (x :: y :: b) = inv (y :: x :: b) + 1 := by
  have e1 : decide (y < x) = true := decide_eq_true h
  have e2 : decide (x < y) = false := decide_eq_false (by omega)
  show (y :: b).countP _ + (b.countP _ + inv b) = (x :: b).countP _ + (b.countP _ + inv b) + 1
  rw [List.countP_cons, List.countP_cons]
  simp only [e1, e2, if_true, if_false, Bool.false_eq_true]
  omega
theorem inv_stp {o : List Int} {i : Int} (h : i ∈ stps o) : inv o = inv (stp o i) + 1 := by
  obtain ⟨j, rfl, h1, h2⟩ := mem_stps.mp h
  rw [stp_one]
  have e := split_at h1
  have p : (o.getD j 0 :: o.getD (j + 1) 0 :: o.drop (j + 2)).Perm (o.getD (j + 1) 0 :: o.getD j 0 :: o.drop (j + 2)) := List.Perm.swap _ _ _
  have q := inv_app p (o.take j)
  have t := inv_two _ _ h2 (o.drop (j + 2))
  have e2 : stpN o j = o.take j ++ o.getD (j + 1) 0 :: o.getD j 0 :: o.drop (j + 2) := by
    unfold stpN
    rw [List.append_assoc]
    rfl
  rw [e2]
  conv => lhs; rw [e]
  omega
theorem inv_le : ∀ o : List Int, inv o ≤ o.length * o.length
  | [] => Nat.zero_le _
  | x :: xs => by
    have := inv_le xs
    have h : xs.countP (fun y => decide (y < x)) ≤ xs.length := List.countP_le_length
    show _ + inv xs ≤ (xs.length + 1) * (xs.length + 1)
    rw [Nat.succ_mul, Nat.mul_succ]
    omega
theorem inv_none {o : List Int} (h : inv o = 0) : stps o = [] := by
  cases e : stps o with
  | nil => rfl
  | cons i t =>
    have := inv_stp (o := o) (i := i) (by rw [e]; simp)
    omega
theorem stpN_mem {o : List Int} {j : Nat} {x : Int} (h1 : j + 1 < o.length) (h : x ∈ stpN o j) : x ∈ o := by
  rw [split_at h1]
  unfold stpN at h
  simp only [List.mem_append, List.mem_cons, List.not_mem_nil, or_false] at h ⊢
  rcases h with (h | h | h) | h
  · exact .inl h
  · exact .inr (.inr (.inl h))
  · exact .inr (.inl h)
  · exact .inr (.inr (.inr h))
/-- the level row with the least step at each turn -/
def fstR : Nat → List Int → List Int
  | 0, _ => []
  | n + 1, o => match stps o with
    | [] => []
    | i :: _ => i :: fstR n (stp o i)
theorem fstR_none {o : List Int} (h : stps o = []) : ∀ n, fstR n o = []
  | 0 => rfl
  | n + 1 => by simp [fstR, h]
theorem fstR_step {o : List Int} {i : Int} {t : List Int} (h : stps o = i :: t) : fstR (inv o) o = i :: fstR (inv (stp o i)) (stp o i) := by
  rw [inv_stp (o := o) (i := i) (by rw [h]; simp)]
  simp [fstR, h]
theorem fstR_len : ∀ (n : Nat) (o : List Int), (fstR n o).length ≤ n
  | 0, _ => Nat.zero_le _
  | n + 1, o => by
    unfold fstR
    split
    · exact Nat.zero_le _
    · next i t e =>
      have := fstR_len n (stp o i)
      rw [List.length_cons]
      omega
theorem fstR_mem : ∀ (n : Nat) (o : List Int) (x : Int), x ∈ fstR n o → 1 ≤ x ∧ x < o.length
  | 0, _, _, h => by simp [fstR] at h
  | n + 1, o, x, h => by
    unfold fstR at h
    split at h
    · simp at h
    · next i t e =>
      have hi : i ∈ stps o := by rw [e]; simp
      rcases List.mem_cons.mp h with rfl | h
      · exact stps_lo hi
      · have := fstR_mem n _ x h
        rwa [stp_len hi] at this
end Lw

/-! ### lists with one odd value amid; a statement that is not reached; isinstance of two types -/
namespace Lw
open PySem L2 PySem.Spec PyProof.Rows
section
variable {X : Cx}
/-- a statement that nothing comes to -/
theorem ps_dead {st : Stmt} : PS X st (fun _ _ _ => False) := ⟨fun _ _ _ _ _ _ h => h.elim⟩
/-- repr of a list of whole numbers with one value amid, a dict too -/
def rReprM (K : PySem.W.Frag) : List V → Hp → VK → Prop := fun xs H Q => ∃ (a : Addr) (pre post : List Int) (x : V) (d : PyData), xs = [.ref a] ∧ SqL K H a (pre.map V.int ++ x :: post.map V.int) ∧ Lf K H x d ∧
  (PyData.list (pre.map PyData.int ++ d :: post.map PyData.int)).showable = true ∧ (PyData.list (pre.map PyData.int ++ d :: post.map PyData.int)).depth ≤ 64 ∧ (PyData.list (pre.map PyData.int ++ d :: post.map PyData.int)).shown.length ≤ sizeLine ∧
  Q (.str (PyData.list (pre.map PyData.int ++ d :: post.map PyData.int)).shown) H
theorem call_reprM (hG : X.A.guards = some []) (hu : X.A.units + 66 < cLine) : CallR X (.builtin "repr") (rReprM X.K) := by
  intro pins s σ H xs us Q I r h
  obtain ⟨a, pre, post, x, d, rfl, hS, hx, hs, hp, hz, q⟩ := h
  obtain ⟨u, rfl, ru⟩ := vals1 r
  cases (show u = Value.ref a from ru)
  obtain ⟨its, rv, ⟨o, n, h1, h2, h0, h3⟩, _⟩ := I.list hS
  have key : ∃ as, ReadsAll s.heap its (pre.map PyData.int ++ d :: post.map PyData.int) as ∧ (d.hasDict = true → sysModules ∉ as) := by
    cases hx with
    | dp h n =>
      obtain ⟨as, q⟩ := Dp.readsAll I (pre.map PyData.int ++ d :: post.map PyData.int) _ its (dp_mix h post pre) rv
      exact ⟨as, q, fun z => by rw [n] at z; cases z⟩
    | @dct b kvs _ h k =>
      obtain ⟨as, q, n⟩ := dct_reads I h k
      exact ⟨as, mix_reads (fun u ru => by cases (show u = Value.ref b from ru); exact q) rv, fun _ => n⟩
  obtain ⟨as, h4, hsm⟩ := key
  have hdi : PyData.hasDictAll (pre.map PyData.int ++ d :: post.map PyData.int) = d.hasDict := by
    have := hd_mix d post pre
    simpa only [PyData.hasDict] using this
  generalize pre.map PyData.int ++ d :: post.map PyData.int = xs at *
  have hz' : (listText (PyData.shownAll xs)).length ≤ sizeLine := by simpa only [PyData.shown] using hz
  obtain ⟨bs, hb, hk⟩ := ReprAllK.of_readsAll (prog := X.prog) (w := X.w) h4 (by simpa [PyData.showable] using hs) (fun hx => hsm (hdi ▸ hx)) (fun t ht => Nat.le_trans (listText_mem_le ht) hz')
  have hl : Reads s.heap (.ref a) (.list xs) (a :: as) := .list h1 h2 h3 (by simpa using h4)
  have hna : a ∉ bs := not_mem_of_deeper hl (by simp only [PyData.depth]; omega) hb
  simp only [PyData.depth] at hp
  refine call_repr_slot (T := "list") (idr := "list.__repr__") (by omega) ⟨o, h1, h2⟩ F.slot_list_repr.toG ?_
  cases its with
  | nil =>
    have h4' : ReadsAll s.heap [] xs _ := h4
    cases h4'
    simp only [PyData.shown, PyData.shownAll, listText_nil] at q
    exact call_list_repr_empty ⟨o, h1, h2⟩ h1 h3 ⟨_, _, rfl, .str _, H, I.tok _, ⟨_, rfl⟩, q⟩
  | cons y l =>
    simp only [PyData.shown] at q
    exact call_list_reprK h1 h2 h3 hna (by simpa using hk.length_eq) (fun i y e => hk.item i y (by simpa using e)) hG (fun b _ => Clear.nil b) (by show X.A.units + 1 + _ < cLine; omega) (fun _ _ z => z) (fun h' u tk hk' => ⟨_, _, rfl, .str _, H, I.kept (t' := tk) hk', ⟨_, rfl⟩, q⟩) hz'
/-- repr of such a list, or of other data -/
def rReprE (K : PySem.W.Frag) : List V → Hp → VK → Prop := fun xs H Q => rReprM K xs H Q ∨ rReprD K xs H Q
theorem call_reprE (hG : X.A.guards = some []) (hu : X.A.units + 66 < cLine) : CallR X (.builtin "repr") (rReprE X.K) := by
  intro pins s σ H xs us Q I r h
  rcases h with h | h
  · exact call_reprM hG hu pins s σ H xs us Q I r h
  · exact call_reprD hG hu pins s σ H xs us Q I r h
end
end Lw

namespace Lw
open PySem L2
def topS (i : Nat) : Stmt := PySem.Challenge.pw_codenests_k45_level_rows_judged.main.body.getD i (.Pass ⟨0, 0, 0, 0⟩)
abbrev s_NoLevel_init : Stmt := inClass (topS 2) 0
abbrev s_is_number : Stmt := topS 4
abbrev s_sorting_steps : Stmt := topS 6
abbrev s_stepped : Stmt := topS 7
abbrev s_levels_fault : Stmt := topS 9
abbrev s_judge_levels : Stmt := topS 10
abbrev s_first_row : Stmt := topS 11
abbrev s_l_source : Stmt := topS 13
abbrev s_l_pick : Stmt := topS 14
abbrev s_l_of : Stmt := topS 15
abbrev s_l_mixed : Stmt := topS 16
abbrev s_l_any_order : Stmt := topS 17
abbrev s_l_stepped : Stmt := topS 18
abbrev s_l_steps : Stmt := topS 19
abbrev s_l_drawn_row : Stmt := topS 20
abbrev s_l_verdict : Stmt := topS 21
abbrev s_l_bent_row : Stmt := topS 22
abbrev s_l_first : Stmt := topS 23
abbrev s_law : Stmt := topS 24
theorem sc_NoLevel_init : FnScope ["self", "level"] ["self", "level"] (defScope s_NoLevel_init) := ⟨rfl, rfl, rfl, by decide +kernel, rfl, by decide +kernel, by decide +kernel⟩
theorem sc_is_number : FnScope ["value"] ["value"] (defScope s_is_number) := ⟨rfl, rfl, rfl, by decide +kernel, rfl, by decide +kernel, by decide +kernel⟩
theorem sc_sorting_steps : FnScope ["order", "i"] ["order"] (defScope s_sorting_steps) := ⟨rfl, rfl, rfl, by decide +kernel, rfl, by decide +kernel, by decide +kernel⟩
theorem sc_stepped : FnScope ["order", "level"] ["order", "level"] (defScope s_stepped) := ⟨rfl, rfl, rfl, by decide +kernel, rfl, by decide +kernel, by decide +kernel⟩
theorem sc_levels_fault : FnScope ["order", "levels", "left", "k", "level"] ["order", "levels"] (defScope s_levels_fault) := ⟨rfl, rfl, rfl, by decide +kernel, rfl, by decide +kernel, by decide +kernel⟩
theorem sc_judge_levels : FnScope ["order", "value", "number"] ["order", "value"] (defScope s_judge_levels) := ⟨rfl, rfl, rfl, by decide +kernel, rfl, by decide +kernel, by decide +kernel⟩
theorem sc_first_row : FnScope ["order", "row", "left"] ["order"] (defScope s_first_row) := ⟨rfl, rfl, rfl, by decide +kernel, rfl, by decide +kernel, by decide +kernel⟩
theorem sc_l_source : FnScope ["_law_script", "_law_mixed_here", "_law_cell"] ["_law_script"] (defScope s_l_source) := ⟨rfl, rfl, rfl, by decide +kernel, rfl, by decide +kernel, by decide +kernel⟩
theorem sc_l_pick : FnScope ["_law_source_here", "_law_many", "_law_left", "_law_mixed_here"] ["_law_source_here", "_law_many"] (defScope s_l_pick) := ⟨rfl, rfl, rfl, by decide +kernel, rfl, by decide +kernel, by decide +kernel⟩
theorem sc_l_of : FnScope ["_law_source_here", "_law_some"] ["_law_source_here", "_law_some"] (defScope s_l_of) := ⟨rfl, rfl, rfl, by decide +kernel, rfl, by decide +kernel, by decide +kernel⟩
theorem sc_l_mixed : FnScope ["_law_source_here", "_law_things", "_law_rest", "_law_lap"] ["_law_source_here", "_law_things"] (defScope s_l_mixed) := ⟨rfl, rfl, rfl, by decide +kernel, rfl, by decide +kernel, by decide +kernel⟩
theorem sc_l_any_order : FnScope ["_law_source_here", "_law_n", "_law_turn", "_law_order", "_law_k"] ["_law_source_here", "_law_n"] (defScope s_l_any_order) := ⟨rfl, rfl, rfl, by decide +kernel, rfl, by decide +kernel, by decide +kernel⟩
theorem sc_l_stepped : FnScope ["_law_order", "_law_level"] ["_law_order", "_law_level"] (defScope s_l_stepped) := ⟨rfl, rfl, rfl, by decide +kernel, rfl, by decide +kernel, by decide +kernel⟩
theorem sc_l_steps : FnScope ["_law_order", "_law_i"] ["_law_order"] (defScope s_l_steps) := ⟨rfl, rfl, rfl, by decide +kernel, rfl, by decide +kernel, by decide +kernel⟩
theorem sc_l_drawn_row : FnScope ["_law_source_here", "_law_order", "_law_found", "_law_lap"] ["_law_source_here", "_law_order"] (defScope s_l_drawn_row) := ⟨rfl, rfl, rfl, by decide +kernel, rfl, by decide +kernel, by decide +kernel⟩
theorem sc_l_verdict : FnScope ["_law_order", "_law_value", "_law_k"] ["_law_order", "_law_value"] (defScope s_l_verdict) := ⟨rfl, rfl, rfl, by decide +kernel, rfl, by decide +kernel, by decide +kernel⟩
theorem sc_l_bent_row : FnScope ["_law_source_here", "_law_order", "_law_row", "_law_way", "_law_at", "_law_level", "_law_odd"] ["_law_source_here", "_law_order", "_law_row"] (defScope s_l_bent_row) := ⟨rfl, rfl, rfl, by decide +kernel, rfl, by decide +kernel, by decide +kernel⟩
theorem sc_l_first : FnScope ["_law_order", "_law_found", "_law_lap"] ["_law_order"] (defScope s_l_first) := ⟨rfl, rfl, rfl, by decide +kernel, rfl, by decide +kernel, by decide +kernel⟩
theorem sc_law : FnScope ["_law_script", "_law_source_here", "_law_lap", "_law_n", "_law_order", "_law_row", "_law_due", "_law_turn", "_law_told", "_law_some", "_law_seen", "_law_odd"] ["_law_script"] (defScope s_law) := ⟨rfl, rfl, rfl, by decide +kernel, rfl, by decide +kernel, by decide +kernel⟩
structure Tx (K : PySem.W.Frag) (mg : Str → Option Value) : Type where
  f_is_number : Addr
  d_is_number : FuncData
  F_is_number : Fun K "is_number" "is_number" s_is_number f_is_number d_is_number
  b_is_number : Binds K d_is_number ["value"] []
  g_is_number : mg "is_number" = some (.ref f_is_number)
  f_sorting_steps : Addr
  d_sorting_steps : FuncData
  F_sorting_steps : Fun K "sorting_steps" "sorting_steps" s_sorting_steps f_sorting_steps d_sorting_steps
  b_sorting_steps : Binds K d_sorting_steps ["order"] []
  g_sorting_steps : mg "sorting_steps" = some (.ref f_sorting_steps)
  f_stepped : Addr
  d_stepped : FuncData
  F_stepped : Fun K "stepped" "stepped" s_stepped f_stepped d_stepped
  b_stepped : Binds K d_stepped ["order", "level"] []
  g_stepped : mg "stepped" = some (.ref f_stepped)
  f_levels_fault : Addr
  d_levels_fault : FuncData
  F_levels_fault : Fun K "levels_fault" "levels_fault" s_levels_fault f_levels_fault d_levels_fault
  b_levels_fault : Binds K d_levels_fault ["order", "levels"] []
  g_levels_fault : mg "levels_fault" = some (.ref f_levels_fault)
  f_judge_levels : Addr
  d_judge_levels : FuncData
  F_judge_levels : Fun K "judge_levels" "judge_levels" s_judge_levels f_judge_levels d_judge_levels
  b_judge_levels : Binds K d_judge_levels ["order", "value"] []
  g_judge_levels : mg "judge_levels" = some (.ref f_judge_levels)
  f_first_row : Addr
  d_first_row : FuncData
  F_first_row : Fun K "first_row" "first_row" s_first_row f_first_row d_first_row
  b_first_row : Binds K d_first_row ["order"] []
  g_first_row : mg "first_row" = some (.ref f_first_row)
  f_l_source : Addr
  d_l_source : FuncData
  F_l_source : Fun K "_law_source" "_law_source" s_l_source f_l_source d_l_source
  b_l_source : Binds K d_l_source ["_law_script"] []
  g_l_source : mg "_law_source" = some (.ref f_l_source)
  f_l_pick : Addr
  d_l_pick : FuncData
  F_l_pick : Fun K "_law_pick" "_law_pick" s_l_pick f_l_pick d_l_pick
  b_l_pick : Binds K d_l_pick ["_law_source_here", "_law_many"] []
  g_l_pick : mg "_law_pick" = some (.ref f_l_pick)
  f_l_of : Addr
  d_l_of : FuncData
  F_l_of : Fun K "_law_of" "_law_of" s_l_of f_l_of d_l_of
  b_l_of : Binds K d_l_of ["_law_source_here", "_law_some"] []
  g_l_of : mg "_law_of" = some (.ref f_l_of)
  f_l_mixed : Addr
  d_l_mixed : FuncData
  F_l_mixed : Fun K "_law_mixed" "_law_mixed" s_l_mixed f_l_mixed d_l_mixed
  b_l_mixed : Binds K d_l_mixed ["_law_source_here", "_law_things"] []
  g_l_mixed : mg "_law_mixed" = some (.ref f_l_mixed)
  f_l_any_order : Addr
  d_l_any_order : FuncData
  F_l_any_order : Fun K "_law_any_order" "_law_any_order" s_l_any_order f_l_any_order d_l_any_order
  b_l_any_order : Binds K d_l_any_order ["_law_source_here", "_law_n"] []
  g_l_any_order : mg "_law_any_order" = some (.ref f_l_any_order)
  f_l_stepped : Addr
  d_l_stepped : FuncData
  F_l_stepped : Fun K "_law_stepped" "_law_stepped" s_l_stepped f_l_stepped d_l_stepped
  b_l_stepped : Binds K d_l_stepped ["_law_order", "_law_level"] []
  g_l_stepped : mg "_law_stepped" = some (.ref f_l_stepped)
  f_l_steps : Addr
  d_l_steps : FuncData
  F_l_steps : Fun K "_law_steps" "_law_steps" s_l_steps f_l_steps d_l_steps
  b_l_steps : Binds K d_l_steps ["_law_order"] []
  g_l_steps : mg "_law_steps" = some (.ref f_l_steps)
  f_l_drawn_row : Addr
  d_l_drawn_row : FuncData
  F_l_drawn_row : Fun K "_law_drawn_row" "_law_drawn_row" s_l_drawn_row f_l_drawn_row d_l_drawn_row
  b_l_drawn_row : Binds K d_l_drawn_row ["_law_source_here", "_law_order"] []
  g_l_drawn_row : mg "_law_drawn_row" = some (.ref f_l_drawn_row)
  f_l_verdict : Addr
  d_l_verdict : FuncData
  F_l_verdict : Fun K "_law_verdict" "_law_verdict" s_l_verdict f_l_verdict d_l_verdict
  b_l_verdict : Binds K d_l_verdict ["_law_order", "_law_value"] []
  g_l_verdict : mg "_law_verdict" = some (.ref f_l_verdict)
  f_l_bent_row : Addr
  d_l_bent_row : FuncData
  F_l_bent_row : Fun K "_law_bent_row" "_law_bent_row" s_l_bent_row f_l_bent_row d_l_bent_row
  b_l_bent_row : Binds K d_l_bent_row ["_law_source_here", "_law_order", "_law_row"] []
  g_l_bent_row : mg "_law_bent_row" = some (.ref f_l_bent_row)
  f_l_first : Addr
  d_l_first : FuncData
  F_l_first : Fun K "_law_first" "_law_first" s_l_first f_l_first d_l_first
  b_l_first : Binds K d_l_first ["_law_order"] []
  g_l_first : mg "_law_first" = some (.ref f_l_first)
  f_law : Addr
  d_law : FuncData
  F_law : Fun K "law" "law" s_law f_law d_law
  b_law : Binds K d_law ["_law_script"] []
  g_law : mg "law" = some (.ref f_law)
  z_len : mg "len" = none
  z_range : mg "range" = none
  z_int : mg "int" = none
  z_bool : mg "bool" = none
  z_tuple : mg "tuple" = none
  z_list : mg "list" = none
  z_isinstance : mg "isinstance" = none
  z_abs : mg "abs" = none
  z_max : mg "max" = none
  z_enumerate : mg "enumerate" = none
  z_repr : mg "repr" = none
def tx_mk {K : PySem.W.Frag} {h : Heap} {mg : Str → Option Value} (X : K.In h) (G : h.Ns mainGlobals mg)
    {f_is_number f_sorting_steps f_stepped f_levels_fault f_judge_levels f_first_row f_l_source f_l_pick f_l_of f_l_mixed f_l_any_order f_l_stepped f_l_steps f_l_drawn_row f_l_verdict f_l_bent_row f_l_first f_law : Addr} {oc1 kV1 dc1 pm1 cd1 ct1 oc2 kV2 dc2 pm2 cd2 ct2 oc3 kV3 dc3 pm3 cd3 ct3 oc4 kV4 dc4 pm4 cd4 ct4 oc5 kV5 dc5 pm5 cd5 ct5 oc6 kV6 dc6 pm6 cd6 ct6 oc7 kV7 dc7 pm7 cd7 ct7 oc8 kV8 dc8 pm8 cd8 ct8 oc9 kV9 dc9 pm9 cd9 ct9 oc10 kV10 dc10 pm10 cd10 ct10 oc11 kV11 dc11 pm11 cd11 ct11 oc12 kV12 dc12 pm12 cd12 ct12 oc13 kV13 dc13 pm13 cd13 ct13 oc14 kV14 dc14 pm14 cd14 ct14 oc15 kV15 dc15 pm15 cd15 ct15 oc16 kV16 dc16 pm16 cd16 ct16 oc17 kV17 dc17 pm17 cd17 ct17 oc18 kV18 dc18 pm18 cd18 ct18 : Value} {od1 an1 : Option Addr} {sl1 : Array (Option Value)} {od2 an2 : Option Addr} {sl2 : Array (Option Value)} {od3 an3 : Option Addr} {sl3 : Array (Option Value)} {od4 an4 : Option Addr} {sl4 : Array (Option Value)} {od5 an5 : Option Addr} {sl5 : Array (Option Value)} {od6 an6 : Option Addr} {sl6 : Array (Option Value)} {od7 an7 : Option Addr} {sl7 : Array (Option Value)} {od8 an8 : Option Addr} {sl8 : Array (Option Value)} {od9 an9 : Option Addr} {sl9 : Array (Option Value)} {od10 an10 : Option Addr} {sl10 : Array (Option Value)} {od11 an11 : Option Addr} {sl11 : Array (Option Value)} {od12 an12 : Option Addr} {sl12 : Array (Option Value)} {od13 an13 : Option Addr} {sl13 : Array (Option Value)} {od14 an14 : Option Addr} {sl14 : Array (Option Value)} {od15 an15 : Option Addr} {sl15 : Array (Option Value)} {od16 an16 : Option Addr} {sl16 : Array (Option Value)} {od17 an17 : Option Addr} {sl17 : Array (Option Value)} {od18 an18 : Option Addr} {sl18 : Array (Option Value)} 
    (a_is_number : PySem.W.nsIn K mainGlobals "is_number" = some (some (.ref f_is_number)))
    (l_is_number : K.lookup f_is_number = some ⟨oc1, od1, .func (PySem.W.fnOf "is_number" "is_number" (defArgs s_is_number) (defBody s_is_number) (defScope s_is_number) .none kV1 dc1 pm1 an1 cd1 ct1), sl1⟩)
    (c_is_number : PySem.W.codeIn K cd1 "is_number" = true)
    (k_is_number : PySem.W.keepIn K (.ref f_is_number) = true)
    (a_sorting_steps : PySem.W.nsIn K mainGlobals "sorting_steps" = some (some (.ref f_sorting_steps)))
    (l_sorting_steps : K.lookup f_sorting_steps = some ⟨oc2, od2, .func (PySem.W.fnOf "sorting_steps" "sorting_steps" (defArgs s_sorting_steps) (defBody s_sorting_steps) (defScope s_sorting_steps) .none kV2 dc2 pm2 an2 cd2 ct2), sl2⟩)
    (c_sorting_steps : PySem.W.codeIn K cd2 "sorting_steps" = true)
    (k_sorting_steps : PySem.W.keepIn K (.ref f_sorting_steps) = true)
    (a_stepped : PySem.W.nsIn K mainGlobals "stepped" = some (some (.ref f_stepped)))
    (l_stepped : K.lookup f_stepped = some ⟨oc3, od3, .func (PySem.W.fnOf "stepped" "stepped" (defArgs s_stepped) (defBody s_stepped) (defScope s_stepped) .none kV3 dc3 pm3 an3 cd3 ct3), sl3⟩)
    (c_stepped : PySem.W.codeIn K cd3 "stepped" = true)
    (k_stepped : PySem.W.keepIn K (.ref f_stepped) = true)
    (a_levels_fault : PySem.W.nsIn K mainGlobals "levels_fault" = some (some (.ref f_levels_fault)))
    (l_levels_fault : K.lookup f_levels_fault = some ⟨oc4, od4, .func (PySem.W.fnOf "levels_fault" "levels_fault" (defArgs s_levels_fault) (defBody s_levels_fault) (defScope s_levels_fault) .none kV4 dc4 pm4 an4 cd4 ct4), sl4⟩)
    (c_levels_fault : PySem.W.codeIn K cd4 "levels_fault" = true)
    (k_levels_fault : PySem.W.keepIn K (.ref f_levels_fault) = true)
    (a_judge_levels : PySem.W.nsIn K mainGlobals "judge_levels" = some (some (.ref f_judge_levels)))
    (l_judge_levels : K.lookup f_judge_levels = some ⟨oc5, od5, .func (PySem.W.fnOf "judge_levels" "judge_levels" (defArgs s_judge_levels) (defBody s_judge_levels) (defScope s_judge_levels) .none kV5 dc5 pm5 an5 cd5 ct5), sl5⟩)
    (c_judge_levels : PySem.W.codeIn K cd5 "judge_levels" = true)
    (k_judge_levels : PySem.W.keepIn K (.ref f_judge_levels) = true)
    (a_first_row : PySem.W.nsIn K mainGlobals "first_row" = some (some (.ref f_first_row)))
    (l_first_row : K.lookup f_first_row = some ⟨oc6, od6, .func (PySem.W.fnOf "first_row" "first_row" (defArgs s_first_row) (defBody s_first_row) (defScope s_first_row) .none kV6 dc6 pm6 an6 cd6 ct6), sl6⟩)
    (c_first_row : PySem.W.codeIn K cd6 "first_row" = true)
    (k_first_row : PySem.W.keepIn K (.ref f_first_row) = true)
    (a_l_source : PySem.W.nsIn K mainGlobals "_law_source" = some (some (.ref f_l_source)))
    (l_l_source : K.lookup f_l_source = some ⟨oc7, od7, .func (PySem.W.fnOf "_law_source" "_law_source" (defArgs s_l_source) (defBody s_l_source) (defScope s_l_source) .none kV7 dc7 pm7 an7 cd7 ct7), sl7⟩)
    (c_l_source : PySem.W.codeIn K cd7 "_law_source" = true)
    (k_l_source : PySem.W.keepIn K (.ref f_l_source) = true)
    (a_l_pick : PySem.W.nsIn K mainGlobals "_law_pick" = some (some (.ref f_l_pick)))
    (l_l_pick : K.lookup f_l_pick = some ⟨oc8, od8, .func (PySem.W.fnOf "_law_pick" "_law_pick" (defArgs s_l_pick) (defBody s_l_pick) (defScope s_l_pick) .none kV8 dc8 pm8 an8 cd8 ct8), sl8⟩)
    (c_l_pick : PySem.W.codeIn K cd8 "_law_pick" = true)
    (k_l_pick : PySem.W.keepIn K (.ref f_l_pick) = true)
    (a_l_of : PySem.W.nsIn K mainGlobals "_law_of" = some (some (.ref f_l_of)))
    (l_l_of : K.lookup f_l_of = some ⟨oc9, od9, .func (PySem.W.fnOf "_law_of" "_law_of" (defArgs s_l_of) (defBody s_l_of) (defScope s_l_of) .none kV9 dc9 pm9 an9 cd9 ct9), sl9⟩)
    (c_l_of : PySem.W.codeIn K cd9 "_law_of" = true)
    (k_l_of : PySem.W.keepIn K (.ref f_l_of) = true)
    (a_l_mixed : PySem.W.nsIn K mainGlobals "_law_mixed" = some (some (.ref f_l_mixed)))
    (l_l_mixed : K.lookup f_l_mixed = some ⟨oc10, od10, .func (PySem.W.fnOf "_law_mixed" "_law_mixed" (defArgs s_l_mixed) (defBody s_l_mixed) (defScope s_l_mixed) .none kV10 dc10 pm10 an10 cd10 ct10), sl10⟩)
    (c_l_mixed : PySem.W.codeIn K cd10 "_law_mixed" = true)
    (k_l_mixed : PySem.W.keepIn K (.ref f_l_mixed) = true)
    (a_l_any_order : PySem.W.nsIn K mainGlobals "_law_any_order" = some (some (.ref f_l_any_order)))
    (l_l_any_order : K.lookup f_l_any_order = some ⟨oc11, od11, .func (PySem.W.fnOf "_law_any_order" "_law_any_order" (defArgs s_l_any_order) (defBody s_l_any_order) (defScope s_l_any_order) .none kV11 dc11 pm11 an11 cd11 ct11), sl11⟩)
    (c_l_any_order : PySem.W.codeIn K cd11 "_law_any_order" = true)
    (k_l_any_order : PySem.W.keepIn K (.ref f_l_any_order) = true)
    (a_l_stepped : PySem.W.nsIn K mainGlobals "_law_stepped" = some (some (.ref f_l_stepped)))
    (l_l_stepped : K.lookup f_l_stepped = some ⟨oc12, od12, .func (PySem.W.fnOf "_law_stepped" "_law_stepped" (defArgs s_l_stepped) (defBody s_l_stepped) (defScope s_l_stepped) .none kV12 dc12 pm12 an12 cd12 ct12), sl12⟩)
    (c_l_stepped : PySem.W.codeIn K cd12 "_law_stepped" = true)
    (k_l_stepped : PySem.W.keepIn K (.ref f_l_stepped) = true)
    (a_l_steps : PySem.W.nsIn K mainGlobals "_law_steps" = some (some (.ref f_l_steps)))
    (l_l_steps : K.lookup f_l_steps = some ⟨oc13, od13, .func (PySem.W.fnOf "_law_steps" "_law_steps" (defArgs s_l_steps) (defBody s_l_steps) (defScope s_l_steps) .none kV13 dc13 pm13 an13 cd13 ct13), sl13⟩)
    (c_l_steps : PySem.W.codeIn K cd13 "_law_steps" = true)
    (k_l_steps : PySem.W.keepIn K (.ref f_l_steps) = true)
    (a_l_drawn_row : PySem.W.nsIn K mainGlobals "_law_drawn_row" = some (some (.ref f_l_drawn_row)))
    (l_l_drawn_row : K.lookup f_l_drawn_row = some ⟨oc14, od14, .func (PySem.W.fnOf "_law_drawn_row" "_law_drawn_row" (defArgs s_l_drawn_row) (defBody s_l_drawn_row) (defScope s_l_drawn_row) .none kV14 dc14 pm14 an14 cd14 ct14), sl14⟩)
    (c_l_drawn_row : PySem.W.codeIn K cd14 "_law_drawn_row" = true)
    (k_l_drawn_row : PySem.W.keepIn K (.ref f_l_drawn_row) = true)
    (a_l_verdict : PySem.W.nsIn K mainGlobals "_law_verdict" = some (some (.ref f_l_verdict)))
    (l_l_verdict : K.lookup f_l_verdict = some ⟨oc15, od15, .func (PySem.W.fnOf "_law_verdict" "_law_verdict" (defArgs s_l_verdict) (defBody s_l_verdict) (defScope s_l_verdict) .none kV15 dc15 pm15 an15 cd15 ct15), sl15⟩)
    (c_l_verdict : PySem.W.codeIn K cd15 "_law_verdict" = true)
    (k_l_verdict : PySem.W.keepIn K (.ref f_l_verdict) = true)
    (a_l_bent_row : PySem.W.nsIn K mainGlobals "_law_bent_row" = some (some (.ref f_l_bent_row)))
    (l_l_bent_row : K.lookup f_l_bent_row = some ⟨oc16, od16, .func (PySem.W.fnOf "_law_bent_row" "_law_bent_row" (defArgs s_l_bent_row) (defBody s_l_bent_row) (defScope s_l_bent_row) .none kV16 dc16 pm16 an16 cd16 ct16), sl16⟩)
    (c_l_bent_row : PySem.W.codeIn K cd16 "_law_bent_row" = true)
    (k_l_bent_row : PySem.W.keepIn K (.ref f_l_bent_row) = true)
    (a_l_first : PySem.W.nsIn K mainGlobals "_law_first" = some (some (.ref f_l_first)))
    (l_l_first : K.lookup f_l_first = some ⟨oc17, od17, .func (PySem.W.fnOf "_law_first" "_law_first" (defArgs s_l_first) (defBody s_l_first) (defScope s_l_first) .none kV17 dc17 pm17 an17 cd17 ct17), sl17⟩)
    (c_l_first : PySem.W.codeIn K cd17 "_law_first" = true)
    (k_l_first : PySem.W.keepIn K (.ref f_l_first) = true)
    (a_law : PySem.W.nsIn K mainGlobals "law" = some (some (.ref f_law)))
    (l_law : K.lookup f_law = some ⟨oc18, od18, .func (PySem.W.fnOf "law" "law" (defArgs s_law) (defBody s_law) (defScope s_law) .none kV18 dc18 pm18 an18 cd18 ct18), sl18⟩)
    (c_law : PySem.W.codeIn K cd18 "law" = true)
    (k_law : PySem.W.keepIn K (.ref f_law) = true)
    (z_len : PySem.W.nsIn K mainGlobals "len" = some none)
    (z_range : PySem.W.nsIn K mainGlobals "range" = some none)
    (z_int : PySem.W.nsIn K mainGlobals "int" = some none)
    (z_bool : PySem.W.nsIn K mainGlobals "bool" = some none)
    (z_tuple : PySem.W.nsIn K mainGlobals "tuple" = some none)
    (z_list : PySem.W.nsIn K mainGlobals "list" = some none)
    (z_isinstance : PySem.W.nsIn K mainGlobals "isinstance" = some none)
    (z_abs : PySem.W.nsIn K mainGlobals "abs" = some none)
    (z_max : PySem.W.nsIn K mainGlobals "max" = some none)
    (z_enumerate : PySem.W.nsIn K mainGlobals "enumerate" = some none)
    (z_repr : PySem.W.nsIn K mainGlobals "repr" = some none) : Tx K mg where
  f_is_number := f_is_number
  d_is_number := PySem.W.fnOf "is_number" "is_number" (defArgs s_is_number) (defBody s_is_number) (defScope s_is_number) .none kV1 dc1 pm1 an1 cd1 ct1
  F_is_number := fun_mk (st := s_is_number) l_is_number c_is_number k_is_number
  b_is_number := (fun_mk (st := s_is_number) l_is_number c_is_number k_is_number).binds (ps := ["value"]) fun _ _ _ _ _ _ us hl => match us, hl with | [_], _ => rfl
  g_is_number := PySem.W.mg_of X G a_is_number
  f_sorting_steps := f_sorting_steps
  d_sorting_steps := PySem.W.fnOf "sorting_steps" "sorting_steps" (defArgs s_sorting_steps) (defBody s_sorting_steps) (defScope s_sorting_steps) .none kV2 dc2 pm2 an2 cd2 ct2
  F_sorting_steps := fun_mk (st := s_sorting_steps) l_sorting_steps c_sorting_steps k_sorting_steps
  b_sorting_steps := (fun_mk (st := s_sorting_steps) l_sorting_steps c_sorting_steps k_sorting_steps).binds (ps := ["order"]) fun _ _ _ _ _ _ us hl => match us, hl with | [_], _ => rfl
  g_sorting_steps := PySem.W.mg_of X G a_sorting_steps
  f_stepped := f_stepped
  d_stepped := PySem.W.fnOf "stepped" "stepped" (defArgs s_stepped) (defBody s_stepped) (defScope s_stepped) .none kV3 dc3 pm3 an3 cd3 ct3
  F_stepped := fun_mk (st := s_stepped) l_stepped c_stepped k_stepped
  b_stepped := (fun_mk (st := s_stepped) l_stepped c_stepped k_stepped).binds (ps := ["order", "level"]) fun _ _ _ _ _ _ us hl => match us, hl with | [_, _], _ => rfl
  g_stepped := PySem.W.mg_of X G a_stepped
  f_levels_fault := f_levels_fault
  d_levels_fault := PySem.W.fnOf "levels_fault" "levels_fault" (defArgs s_levels_fault) (defBody s_levels_fault) (defScope s_levels_fault) .none kV4 dc4 pm4 an4 cd4 ct4
  F_levels_fault := fun_mk (st := s_levels_fault) l_levels_fault c_levels_fault k_levels_fault
  b_levels_fault := (fun_mk (st := s_levels_fault) l_levels_fault c_levels_fault k_levels_fault).binds (ps := ["order", "levels"]) fun _ _ _ _ _ _ us hl => match us, hl with | [_, _], _ => rfl
  g_levels_fault := PySem.W.mg_of X G a_levels_fault
  f_judge_levels := f_judge_levels
  d_judge_levels := PySem.W.fnOf "judge_levels" "judge_levels" (defArgs s_judge_levels) (defBody s_judge_levels) (defScope s_judge_levels) .none kV5 dc5 pm5 an5 cd5 ct5
  F_judge_levels := fun_mk (st := s_judge_levels) l_judge_levels c_judge_levels k_judge_levels
  b_judge_levels := (fun_mk (st := s_judge_levels) l_judge_levels c_judge_levels k_judge_levels).binds (ps := ["order", "value"]) fun _ _ _ _ _ _ us hl => match us, hl with | [_, _], _ => rfl
  g_judge_levels := PySem.W.mg_of X G a_judge_levels
  f_first_row := f_first_row
  d_first_row := PySem.W.fnOf "first_row" "first_row" (defArgs s_first_row) (defBody s_first_row) (defScope s_first_row) .none kV6 dc6 pm6 an6 cd6 ct6
  F_first_row := fun_mk (st := s_first_row) l_first_row c_first_row k_first_row
  b_first_row := (fun_mk (st := s_first_row) l_first_row c_first_row k_first_row).binds (ps := ["order"]) fun _ _ _ _ _ _ us hl => match us, hl with | [_], _ => rfl
  g_first_row := PySem.W.mg_of X G a_first_row
  f_l_source := f_l_source
  d_l_source := PySem.W.fnOf "_law_source" "_law_source" (defArgs s_l_source) (defBody s_l_source) (defScope s_l_source) .none kV7 dc7 pm7 an7 cd7 ct7
  F_l_source := fun_mk (st := s_l_source) l_l_source c_l_source k_l_source
  b_l_source := (fun_mk (st := s_l_source) l_l_source c_l_source k_l_source).binds (ps := ["_law_script"]) fun _ _ _ _ _ _ us hl => match us, hl with | [_], _ => rfl
  g_l_source := PySem.W.mg_of X G a_l_source
  f_l_pick := f_l_pick
  d_l_pick := PySem.W.fnOf "_law_pick" "_law_pick" (defArgs s_l_pick) (defBody s_l_pick) (defScope s_l_pick) .none kV8 dc8 pm8 an8 cd8 ct8
  F_l_pick := fun_mk (st := s_l_pick) l_l_pick c_l_pick k_l_pick
  b_l_pick := (fun_mk (st := s_l_pick) l_l_pick c_l_pick k_l_pick).binds (ps := ["_law_source_here", "_law_many"]) fun _ _ _ _ _ _ us hl => match us, hl with | [_, _], _ => rfl
  g_l_pick := PySem.W.mg_of X G a_l_pick
  f_l_of := f_l_of
  d_l_of := PySem.W.fnOf "_law_of" "_law_of" (defArgs s_l_of) (defBody s_l_of) (defScope s_l_of) .none kV9 dc9 pm9 an9 cd9 ct9
  F_l_of := fun_mk (st := s_l_of) l_l_of c_l_of k_l_of
  b_l_of := (fun_mk (st := s_l_of) l_l_of c_l_of k_l_of).binds (ps := ["_law_source_here", "_law_some"]) fun _ _ _ _ _ _ us hl => match us, hl with | [_, _], _ => rfl
  g_l_of := PySem.W.mg_of X G a_l_of
  f_l_mixed := f_l_mixed
  d_l_mixed := PySem.W.fnOf "_law_mixed" "_law_mixed" (defArgs s_l_mixed) (defBody s_l_mixed) (defScope s_l_mixed) .none kV10 dc10 pm10 an10 cd10 ct10
  F_l_mixed := fun_mk (st := s_l_mixed) l_l_mixed c_l_mixed k_l_mixed
  b_l_mixed := (fun_mk (st := s_l_mixed) l_l_mixed c_l_mixed k_l_mixed).binds (ps := ["_law_source_here", "_law_things"]) fun _ _ _ _ _ _ us hl => match us, hl with | [_, _], _ => rfl
  g_l_mixed := PySem.W.mg_of X G a_l_mixed
  f_l_any_order := f_l_any_order
  d_l_any_order := PySem.W.fnOf "_law_any_order" "_law_any_order" (defArgs s_l_any_order) (defBody s_l_any_order) (defScope s_l_any_order) .none kV11 dc11 pm11 an11 cd11 ct11
  F_l_any_order := fun_mk (st := s_l_any_order) l_l_any_order c_l_any_order k_l_any_order
  b_l_any_order := (fun_mk (st := s_l_any_order) l_l_any_order c_l_any_order k_l_any_order).binds (ps := ["_law_source_here", "_law_n"]) fun _ _ _ _ _ _ us hl => match us, hl with | [_, _], _ => rfl
  g_l_any_order := PySem.W.mg_of X G a_l_any_order
  f_l_stepped := f_l_stepped
  d_l_stepped := PySem.W.fnOf "_law_stepped" "_law_stepped" (defArgs s_l_stepped) (defBody s_l_stepped) (defScope s_l_stepped) .none kV12 dc12 pm12 an12 cd12 ct12
  F_l_stepped := fun_mk (st := s_l_stepped) l_l_stepped c_l_stepped k_l_stepped
  b_l_stepped := (fun_mk (st := s_l_stepped) l_l_stepped c_l_stepped k_l_stepped).binds (ps := ["_law_order", "_law_level"]) fun _ _ _ _ _ _ us hl => match us, hl with | [_, _], _ => rfl
  g_l_stepped := PySem.W.mg_of X G a_l_stepped
  f_l_steps := f_l_steps
  d_l_steps := PySem.W.fnOf "_law_steps" "_law_steps" (defArgs s_l_steps) (defBody s_l_steps) (defScope s_l_steps) .none kV13 dc13 pm13 an13 cd13 ct13
  F_l_steps := fun_mk (st := s_l_steps) l_l_steps c_l_steps k_l_steps
  b_l_steps := (fun_mk (st := s_l_steps) l_l_steps c_l_steps k_l_steps).binds (ps := ["_law_order"]) fun _ _ _ _ _ _ us hl => match us, hl with | [_], _ => rfl
  g_l_steps := PySem.W.mg_of X G a_l_steps
  f_l_drawn_row := f_l_drawn_row
  d_l_drawn_row := PySem.W.fnOf "_law_drawn_row" "_law_drawn_row" (defArgs s_l_drawn_row) (defBody s_l_drawn_row) (defScope s_l_drawn_row) .none kV14 dc14 pm14 an14 cd14 ct14
  F_l_drawn_row := fun_mk (st := s_l_drawn_row) l_l_drawn_row c_l_drawn_row k_l_drawn_row
  b_l_drawn_row := (fun_mk (st := s_l_drawn_row) l_l_drawn_row c_l_drawn_row k_l_drawn_row).binds (ps := ["_law_source_here", "_law_order"]) fun _ _ _ _ _ _ us hl => match us, hl with | [_, _], _ => rfl
  g_l_drawn_row := PySem.W.mg_of X G a_l_drawn_row
  f_l_verdict := f_l_verdict
  d_l_verdict := PySem.W.fnOf "_law_verdict" "_law_verdict" (defArgs s_l_verdict) (defBody s_l_verdict) (defScope s_l_verdict) .none kV15 dc15 pm15 an15 cd15 ct15
  F_l_verdict := fun_mk (st := s_l_verdict) l_l_verdict c_l_verdict k_l_verdict
  b_l_verdict := (fun_mk (st := s_l_verdict) l_l_verdict c_l_verdict k_l_verdict).binds (ps := ["_law_order", "_law_value"]) fun _ _ _ _ _ _ us hl => match us, hl with | [_, _], _ => rfl
  g_l_verdict := PySem.W.mg_of X G a_l_verdict
  f_l_bent_row := f_l_bent_row
  d_l_bent_row := PySem.W.fnOf "_law_bent_row" "_law_bent_row" (defArgs s_l_bent_row) (defBody s_l_bent_row) (defScope s_l_bent_row) .none kV16 dc16 pm16 an16 cd16 ct16
  F_l_bent_row := fun_mk (st := s_l_bent_row) l_l_bent_row c_l_bent_row k_l_bent_row
  b_l_bent_row := (fun_mk (st := s_l_bent_row) l_l_bent_row c_l_bent_row k_l_bent_row).binds (ps := ["_law_source_here", "_law_order", "_law_row"]) fun _ _ _ _ _ _ us hl => match us, hl with | [_, _, _], _ => rfl
  g_l_bent_row := PySem.W.mg_of X G a_l_bent_row
  f_l_first := f_l_first
  d_l_first := PySem.W.fnOf "_law_first" "_law_first" (defArgs s_l_first) (defBody s_l_first) (defScope s_l_first) .none kV17 dc17 pm17 an17 cd17 ct17
  F_l_first := fun_mk (st := s_l_first) l_l_first c_l_first k_l_first
  b_l_first := (fun_mk (st := s_l_first) l_l_first c_l_first k_l_first).binds (ps := ["_law_order"]) fun _ _ _ _ _ _ us hl => match us, hl with | [_], _ => rfl
  g_l_first := PySem.W.mg_of X G a_l_first
  f_law := f_law
  d_law := PySem.W.fnOf "law" "law" (defArgs s_law) (defBody s_law) (defScope s_law) .none kV18 dc18 pm18 an18 cd18 ct18
  F_law := fun_mk (st := s_law) l_law c_law k_law
  b_law := (fun_mk (st := s_law) l_law c_law k_law).binds (ps := ["_law_script"]) fun _ _ _ _ _ _ us hl => match us, hl with | [_], _ => rfl
  g_law := PySem.W.mg_of X G a_law
  z_len := PySem.W.mg_none_of X G z_len
  z_range := PySem.W.mg_none_of X G z_range
  z_int := PySem.W.mg_none_of X G z_int
  z_bool := PySem.W.mg_none_of X G z_bool
  z_tuple := PySem.W.mg_none_of X G z_tuple
  z_list := PySem.W.mg_none_of X G z_list
  z_isinstance := PySem.W.mg_none_of X G z_isinstance
  z_abs := PySem.W.mg_none_of X G z_abs
  z_max := PySem.W.mg_none_of X G z_max
  z_enumerate := PySem.W.mg_none_of X G z_enumerate
  z_repr := PySem.W.mg_none_of X G z_repr

section
variable {P : Program} {w : World} {K : PySem.W.Frag} {mg : Str → Option Value} {base : Heap}
/-- a drawn number below many -/
def spPick : Sp := fun vs H Q _ => ∃ (G : Hp) (d c : Addr) (many : Int), vs = [.ref d, .int many] ∧ Kn G H d c ∧ many < 1073741824 ∧
  ∀ (r : Int) (H' : Hp), Kn G H' d c → 0 ≤ r → (r < many ∨ (r = 0 ∧ many ≤ 1)) → Q (.int r) H'
theorem ok_pick (T : Tx K mg) : FnOk P w K mg base CX0 1 T.f_l_pick T.d_l_pick ["_law_source_here", "_law_many"] spPick := by
  refine T.F_l_pick.ok sc_l_pick (fun vs H Q E h => ?_) (fun cdv A outer s H vs Q E hr h => ?_)
  · obtain ⟨G, d, c, many, rfl, _⟩ := h
    rfl
  · obtain ⟨G, d, c, many, rfl, k, hm, q⟩ := h
    have hu := hu_of hr
    refine ⟨_, (pss_cons (ps_while PassesOwn.never (PW.pt (pw_and (pt_cmpR op_gt (pv 1) pe_int (nomark _)) (pw_and (pt_cmpR op_lt (pe_dget hu (pv 0) pe_str (fun _ _ => rfl)) pe_int (nomark _)) (pw_and1 (pt_cmpR op_gt (pe_callB call_len_seq (by rfl) T.z_len PySem.boot_len (pa_cons (pe_dget hu (pv 0) pe_str (fun _ _ => rfl)) pa_nil)) pe_int (nomark _)))))) (pss_one (ps_dput hu (pv 0) pe_str (pe_bm0 PySem.F.plainAttrs_list PySem.F.slot_list_pop PySem.F.type_list_pop mt_pop (pe_dget hu (pv 0) pe_str (fun _ _ => rfl))) rfl)))
    (pss_cons (ps_set (i := 2) sc_l_pick.nd rfl (Or.inl rfl) (pe_dget hu (pv 0) pe_str (fun _ _ => rfl)))
    (pss_cons (ps_if (PW.pt (pw_or (pt_cmpR op_lt (pv 1) pe_int (nomark _)) (pw_or1 (pt_cmpR op_gt (pv 2) pe_int (nomark _))))) (pss_cons (ps_dput hu (pv 0) pe_str (pe_op op_fdiv (pv 2) (pe_callB (call_max2 rfl) (by rfl) T.z_max (by decide +kernel) (pa_cons pe_int (pa_cons (pv 1) pa_nil)))) rfl)
    (pss_one (ps_ret (pe_op op_mod (pe_callTy call_int1 (by rfl) T.z_int (by decide +kernel) (pa_cons (pv 2) pa_nil)) (pe_callB (call_max2 rfl) (by rfl) T.z_max (by decide +kernel) (pa_cons pe_int (pa_cons (pv 1) pa_nil))))))) pss_nil)
    (pss_cons (ps_dput hu (pv 0) pe_str (pe_op op_add (pe_dget hu (pv 0) pe_str (fun _ _ => rfl)) pe_int) rfl)
    (pss_cons (ps_set (i := 3) sc_l_pick.nd rfl (Or.inl rfl) (pe_op op_mod (pe_callTy call_int1 (by rfl) T.z_int (by decide +kernel) (pa_cons (pe_op op_add (pe_dget hu (pv 0) pe_str (fun _ _ => rfl)) (pe_op op_mul (pe_dget hu (pv 0) pe_str (fun _ _ => rfl)) pe_int)) pa_nil)) pe_int))
    (pss_cons (ps_set (i := 3) sc_l_pick.nd rfl (Or.inl rfl) (pe_op op_mod (pe_callTy call_int1 (by rfl) T.z_int (by decide +kernel) (pa_cons (pe_op op_add (pe_op op_mul (pv 3) (pv 3)) (pe_op op_mul (pe_dget hu (pv 0) pe_str (fun _ _ => rfl)) pe_int)) pa_nil)) pe_int))
    (pss_cons (ps_dput hu (pv 0) pe_str (pv 3) rfl)
    (pss_one (ps_ret (pe_op op_mod (pe_callTy call_int1 (by rfl) T.z_int (by decide +kernel) (pa_cons (pe_op op_fdiv (pv 3) pe_int) pa_nil)) (pv 1))))))))))), ?_⟩
    obtain ⟨xs, l, m, t, e1, e2, e3, e4, e5, e6, e7⟩ := id k.src
    refine ⟨fun n σ H' => ∃ (xs : List Int) (l m t : Int), σ = [some (.ref d), some (.int many), none, none] ∧ n = xs.length ∧ Kn G H' d c ∧ H' d = some (.dK (srcK c l m t)) ∧ H' c = some (.lst (xs.map V.int)) ∧ xs.length ≤ 63 ∧ (∀ x ∈ xs, 0 ≤ x) ∧ 0 ≤ l ∧ 0 ≤ m ∧ m < 2147483647,
      ⟨xs.length, xs, l, m, t, rfl, rfl, k, e1, e2, e3, e4, e5, e6, e7⟩, fun n σ H' hW => ?_⟩
    obtain ⟨xs, l, m, t, rfl, rfl, k, e1, e2, e3, e4, e5, e6, e7⟩ := hW
    have ncd : c ≠ d := k.src.ne
    have vd : ∀ (a b : Option V), Val (tVar 0) [some (.ref d), some (.int many), a, b] H' (.ref d) := fun a b => val_var rfl
    -- while many > 1 and left < 2 and len(cells) > 0
    refine ans_and2 (b1 := decide (1 < many)) (b2 := decide (l < 2) && decide (0 < (xs.length : Int))) (ans_cmp (val_var rfl) val_c fun Q q => ⟨_, _, rfl, rfl, q⟩)
      (ans_and2 (ans_cmp (x := .int l) (val_dget (vd _ _) val_c (get_left e1)) val_c fun Q q => ⟨_, _, rfl, rfl, q⟩)
        (ans_cmp (x := .int (xs.length : Int)) (val_cb1 (val_dget (vd _ _) val_c (get_cells e1)) fun Q q => ⟨c, _, rfl, .inl (SqL.of e2), by rw [List.length_map]; exact q⟩) val_c fun Q q => ⟨_, _, rfl, rfl, q⟩)) _ ?_
    refine ite2 (fun hb => ?_) (fun hb => ?_)
    · -- a cell is taken
      have hlen : 0 < xs.length := by
        simp only [Bool.and_eq_true, decide_eq_true_eq] at hb
        omega
      obtain ⟨ys, y, rfl⟩ : ∃ ys y, xs = ys ++ [y] := ⟨xs.dropLast, xs.getLast (List.ne_nil_of_length_pos hlen), (List.dropLast_concat_getLast _).symm⟩
      have hy : 0 ≤ y := e4 y (by simp)
      refine ⟨fun σ H2 => ∃ (xs : List Int) (l m t : Int), σ = [some (.ref d), some (.int many), none, none] ∧ xs.length < (ys ++ [y]).length ∧ Kn G H2 d c ∧ H2 d = some (.dK (srcK c l m t)) ∧ H2 c = some (.lst (xs.map V.int)) ∧ xs.length ≤ 63 ∧ (∀ x ∈ xs, 0 ≤ x) ∧ 0 ≤ l ∧ 0 ≤ m ∧ m < 2147483647, fun σ2 H2 hN => ?_, ?_⟩
      · obtain ⟨zs, l', m', t', rfl, h1, h2⟩ := hN
        exact ⟨zs.length, h1, zs, l', m', t', rfl, rfl, h2⟩
      · refine ⟨.ref d, rfl, d, .ref c, rfl, get_cells e1, .inl ⟨rfl, _, SqL.of e2⟩, c, (ys ++ [y]).map V.int, .int y, rfl, rfl, e2, ?_, ?_⟩
        · rw [List.length_map, List.length_append, List.map_append]
          simp
        · have e2' : ((ys ++ [y]).map V.int).dropLast = ys.map V.int := by simp
          rw [e2']
          have f1 : (upd H' c (.lst (ys.map V.int))) d = some (.dK (srcK c l m t)) := by rw [upd_ne ncd.symm]; exact e1
          refine ⟨.ref d, rfl, d, _, rfl, dput_left f1, ?_⟩
          have g1 : (upd (upd H' c (.lst (ys.map V.int))) d (.dK (srcK c y m t))) d = some (.dK (srcK c y m t)) := upd_same
          have g2 : (upd (upd H' c (.lst (ys.map V.int))) d (.dK (srcK c y m t))) c = some (.lst (ys.map V.int)) := by rw [upd_ne ncd, upd_same]
          have hl : ys.length ≤ 63 := by simp at e3; omega
          have hn : ∀ x ∈ ys, 0 ≤ x := fun x hx => e4 x (by simp [hx])
          refine ⟨ys, y, m, t, rfl, by simp, ⟨fun b o e => ?_, k.gd, k.gc, ⟨ys, y, m, t, g1, g2, hl, hn, hy, e6, e7⟩⟩, g1, g2, hl, hn, hy, e6, e7⟩
          have nb1 : b ≠ d := fun z => by rw [z, k.gd] at e; cases e
          have nb2 : b ≠ c := fun z => by rw [z, k.gc] at e; cases e
          rw [upd_ne nb1, upd_ne nb2]
          exact k.le _ _ e
    · -- behind the loop
      have setk : ∀ (l' m' t' : Int), 0 ≤ l' → 0 ≤ m' → m' < 2147483647 → ∀ H2, (∀ b, b ≠ d → H2 b = H' b) → H2 d = some (.dK (srcK c l' m' t')) → Kn G H2 d c := fun l' m' t' h1 h2 h3 H2 hH hd =>
        ⟨fun b o e => by rw [hH b (fun z => by rw [z, k.gd] at e; cases e)]; exact k.le _ _ e, k.gd, k.gc, ⟨xs, l', m', t', hd, by rw [hH c ncd]; exact e2, e3, e4, h1, h2, h3⟩⟩
      have hmx : 0 < (if many > 1 then many else 1) := by split <;> omega
      have hmx2 : (if many > 1 then many else 1) < 1073741824 := by split <;> omega
      -- left = source["left"]; if many < 2 or left > 1
      refine ⟨.ref d, rfl, d, _, rfl, get_left e1, ?_⟩
      refine ans_or2 (b1 := decide (many < 2)) (b2 := decide (1 < l)) (ans_cmp (val_var rfl) val_c fun Q q => ⟨_, _, rfl, rfl, q⟩) (ans_cmp (val_var rfl) val_c fun Q q => ⟨_, _, rfl, rfl, q⟩) _ ?_
      refine ite2 (fun hb => ?_) (fun hb => ?_)
      · -- a digit of what is left
        refine ⟨.int l, rfl, .int many, rfl, 1, many, rfl, l, _, rfl, rfl, ⟨hmx, hmx2⟩, .ref d, rfl, d, _, rfl, dput_left e1, ?_⟩
        refine ⟨.int l, rfl, .inl ⟨_, rfl, .int many, rfl, 1, many, rfl, l, _, rfl, rfl, hmx, ?_⟩⟩
        refine q _ _ (setk _ _ _ (Int.ediv_nonneg e5 (Int.le_of_lt hmx)) e6 e7 _ (fun b hb => upd_ne hb) upd_same) (Int.emod_nonneg _ (Int.ne_of_gt hmx)) ?_
        have hlt := Int.emod_lt_of_pos l hmx
        by_cases h : many > 1
        · rw [if_pos h] at hlt ⊢
          exact .inl hlt
        · rw [if_neg h] at hlt ⊢
          exact .inr ⟨by omega, by omega⟩
      · -- mixed anew
        have hb1 : ¬ many < 2 := fun h => hb (by simp [h])
        refine ⟨.ref d, rfl, d, _, rfl, get_turn e1, t, 1, rfl, rfl, .ref d, rfl, d, _, rfl, dput_turn e1, ?_⟩
        have f1 : (upd H' d (.dK (srcK c l m (t + 1)))) d = some (.dK (srcK c l m (t + 1))) := upd_same
        refine ⟨.ref d, rfl, d, _, rfl, get_mixed f1, .ref d, rfl, d, _, rfl, get_turn f1, t + 1, 104729, rfl, rfl, .inr ⟨by decide, by decide⟩, m, _, rfl, rfl, .inl ⟨_, rfl, _, _, rfl, rfl, (by show (0 : Int) < 998244353; decide), ?_⟩⟩
        have b0 : 0 ≤ (m + (t + 1) * 104729) % 998244353 := Int.emod_nonneg _ (by decide)
        have b1 : (m + (t + 1) * 104729) % 998244353 < 998244353 := Int.emod_lt_of_pos _ (by decide)
        refine ⟨_, rfl, _, rfl, (m + (t + 1) * 104729) % 998244353, (m + (t + 1) * 104729) % 998244353, rfl, rfl, .inl ⟨by omega, by omega⟩, .ref d, rfl, d, _, rfl, get_turn f1, t + 1, 17, rfl, rfl, .inr ⟨by decide, by decide⟩, _, _, rfl, rfl, .inl ⟨_, rfl, _, _, rfl, rfl, (by show (0 : Int) < 2147483647; decide), ?_⟩⟩
        have b2 : 0 ≤ ((m + (t + 1) * 104729) % 998244353 * ((m + (t + 1) * 104729) % 998244353) + (t + 1) * 17) % 2147483647 := Int.emod_nonneg _ (by decide)
        have b3 : ((m + (t + 1) * 104729) % 998244353 * ((m + (t + 1) * 104729) % 998244353) + (t + 1) * 17) % 2147483647 < 2147483647 := Int.emod_lt_of_pos _ (by decide)
        refine ⟨_, rfl, .ref d, rfl, d, _, rfl, dput_mixed f1, ?_⟩
        refine ⟨_, rfl, _, 16, rfl, rfl, ⟨by decide, by decide⟩, .inl ⟨_, rfl, .int many, rfl, _, _, rfl, rfl, (by show (0 : Int) < many; omega), ?_⟩⟩
        exact q _ _ (setk l _ (t + 1) e5 b2 b3 _ (fun b hb => by rw [upd_ne hb, upd_ne hb]) upd_same) (Int.emod_nonneg _ (by omega)) (.inl (Int.emod_lt_of_pos _ (by omega)))
end

section
variable {P : Program} {w : World} {K : PySem.W.Frag} {mg : Str → Option Value} {base : Heap}
def absI (z : Int) : Int := if z < 0 then -z else z
def spSource (K : PySem.W.Frag) : Sp := fun vs H Q _ => ∃ (a : Addr) (ns : List Int), vs = [.ref a] ∧ SqL K H a (ns.map V.int) ∧ ns.length ≤ 63 ∧ ∀ (d c : Addr) (H' : Hp), Kn H H' d c → Q (.ref d) H'
theorem ok_source (T : Tx K mg) : FnOk P w K mg base CX0 1 T.f_l_source T.d_l_source ["_law_script"] (spSource K) := by
  refine T.F_l_source.ok sc_l_source (fun vs H Q E h => ?_) (fun cdv A outer s H vs Q E hr h => ?_)
  · obtain ⟨a, ns, rfl, _⟩ := h
    rfl
  · obtain ⟨a, ns, rfl, hS, hlen, q⟩ := h
    have hu := hu_of hr
    refine ⟨_, (pss_cons (ps_set (i := 1) sc_l_source.nd rfl (Or.inl rfl) pe_int)
    (pss_cons (ps_for PassesOwn.never rfl (pi_list (pv 0)) (pg_name (i := 2) sc_l_source.nd rfl (Or.inl rfl))
    (pss_one (ps_set (i := 1) sc_l_source.nd rfl (Or.inl rfl) (pe_op op_mod (pe_callTy call_int1 (by rfl) T.z_int (by decide +kernel) (pa_cons (pe_op op_add (pe_op op_add (pe_op op_mul (pv 1) pe_int) (pe_op op_mul (pv 2) pe_int)) pe_int) pa_nil)) pe_int))))
    (pss_one (ps_ret (pe_disp (pps_cons pe_str (pe_revL (pe_lc (own := [("_law_cell", 2)]) (g := gName 2) rfl sc_l_source.nd (pi_list (pv 0)) (blkOk_by (own := [("_law_cell", 2)]) (N := ["_law_script", "_law_mixed_here", "_law_cell"]) (sc := defScope s_l_source) (by decide +kernel)) (fun _ _ _ _ _ => (pg_name (i := 2) sc_l_source.nd rfl (Or.inl rfl))) (fun _ _ _ _ _ => pts_nil) (fun _ _ _ _ _ => (pe_callB call_abs (by rfl) T.z_abs (by decide +kernel) (pa_cons (pv 2) pa_nil))))) (pps_cons pe_str pe_int (pps_cons pe_str (pv 1) (pps_cons pe_str pe_int pps_nil)))) (by rfl) (by rfl) (fun z => by cases z) (by decide)))))), ?_⟩
    refine ⟨.ref a, rfl, a, rfl, ⟨_, hS⟩, for_list (K := K) (a := a) (xs := ns.map V.int) (fun i σ H' => ∃ (m : Int) (v : Option V), σ = [some (.ref a), some (.int m), v] ∧ H' = H ∧ 0 ≤ m ∧ m < 2147483647)
      ⟨11, none, rfl, rfl, by decide, by decide⟩ (fun i σ H' _ ⟨_, _, _, e, _⟩ => e ▸ hS) ?_ ?_⟩
    · rintro i y σ H' hi ⟨m, v, rfl, rfl, m0, m1⟩
      obtain ⟨z, rfl, hz⟩ := ints_at hi
      refine ⟨.int m, rfl, m, 69069, rfl, rfl, .inl ⟨by omega, by omega⟩, .int z, rfl, z, 31, rfl, rfl, .inr ⟨by decide, by decide⟩, _, _, rfl, rfl, _, _, rfl, rfl, .inl ⟨_, rfl, _, _, rfl, rfl, (by show (0 : Int) < 2147483629; decide), ?_⟩⟩
      exact ⟨_, _, rfl, rfl, Int.emod_nonneg _ (by decide), Int.lt_trans (Int.emod_lt_of_pos _ (by decide)) (by decide : (2147483629 : Int) < 2147483647)⟩
    · rintro σ H' ⟨m, v, rfl, rfl, m0, m1⟩
      intro d hd
      have sd : Same H' (upd H' d (.dK [])) := same_new hd
      refine ⟨.ref a, rfl, a, rfl, ⟨_, sd.seq hS⟩, fun D hD => ?_⟩
      have hDd : d ≠ D := fun e => by rw [← e, upd_same] at hD; cases hD
      have hD0 : H' D = none := sd.free hD
      have sD : Same (upd H' d (.dK [])) (upd (upd H' d (.dK [])) D (.lst [])) := same_new hD
      refine lc_list (K := K) (a := a) (xs := ns.map V.int) (fun i H2 => H2 = upd (upd H' d (.dK [])) D (.lst (((ns.take i).map absI).map V.int))) rfl (fun i H2 _ e => ?_) ?_ ?_
      · subst e
        exact (sd.trans (same_new hD)).seq hS
      · rintro i y H2 hi rfl
        obtain ⟨z, rfl, hz⟩ := ints_at hi
        refine ⟨rfl, tyes ?_⟩
        refine ⟨.int z, rfl, z, rfl, _, upd_same, ?_, ?_⟩
        · rw [List.length_map, List.length_map, List.length_take]
          exact Nat.lt_of_le_of_lt (Nat.min_le_right _ _) (small1000 (by omega))
        · show upd (upd (upd H' d (.dK [])) D _) D _ = _
          rw [upd_upd, List.take_add_one, hz, List.map_append, List.map_append]
          rfl
      · rintro H2 rfl
        rw [List.length_map, List.take_length]
        refine ⟨D, _, rfl, .inl (.inl upd_same), fun c hc => ?_⟩
        have hcd : c ≠ d := fun e => by rw [e, upd_ne hDd, upd_same] at hc; cases hc
        have hcD : c ≠ D := fun e => by rw [e, upd_same] at hc; cases hc
        have hc0 : H' c = none := by rw [upd_ne hcD, upd_ne hcd] at hc; exact hc
        refine ⟨_, rfl, ?_⟩
        refine ⟨by rw [upd_ne hcd.symm, upd_ne hDd]; exact upd_same, srcK c 1 m 0, rfl, by show 4 ≤ 15; decide, ?_⟩
        rw [merge_src]
        refine q d c _ ⟨fun b o e => ?_, hd, hc0, ⟨((ns.map absI).reverse), 1, m, 0, upd_same, ?_, ?_, ?_, by decide, m0, m1⟩⟩
        · rw [upd_ne (ne_of_none e hd), upd_ne (ne_of_none e hc0), upd_ne (ne_of_none e hD0), upd_ne (ne_of_none e hd)]
          exact e
        · rw [upd_ne hcd, upd_same, List.map_reverse]
        · rw [List.length_reverse, List.length_map]
          exact hlen
        · intro x hx
          rw [List.mem_reverse, List.mem_map] at hx
          obtain ⟨z, _, rfl⟩ := hx
          unfold absI
          split <;> omega
end

section
variable {P : Program} {w : World} {K : PySem.W.Frag} {mg : Str → Option Value} {base : Heap}
/-- a drawn member of a list -/
def spOf (K : PySem.W.Frag) : Sp := fun vs H Q _ => ∃ (G : Hp) (d c a : Addr) (xs : List V), vs = [.ref d, .ref a] ∧ Kn G H d c ∧ SqL K G a xs ∧ 0 < xs.length ∧ xs.length ≤ 100000 ∧
  ∀ (x : V) (H' : Hp), Kn G H' d c → x ∈ xs → Q x H'
theorem ok_of (T : Tx K mg) : FnOk P w K mg base CX0 2 T.f_l_of T.d_l_of ["_law_source_here", "_law_some"] (spOf K) := by
  have G_l_pick := ok_pick (P := P) (w := w) (base := base) T
  refine T.F_l_of.ok sc_l_of (fun vs H Q E h => ?_) (fun cdv A outer s H vs Q E hr h => ?_)
  · obtain ⟨G, d, c, a, xs, rfl, _⟩ := h
    rfl
  · obtain ⟨G, d, c, a, xs, rfl, k, hS, h0, h1, q⟩ := h
    refine ⟨_, (pss_one (ps_ret (pe_ix ix_list (pv 1) (pe_call G_l_pick (hr.mono (by decide)) (by rfl) T.g_l_pick T.F_l_pick.kp T.b_l_pick .nil pass0 (pa_cons (pv 0) (pa_cons (pe_callB call_len_seq (by rfl) T.z_len PySem.boot_len (pa_cons (pv 1) pa_nil)) pa_nil))) (fun _ _ => rfl)))), ?_⟩
    refine ⟨.ref a, rfl, .ref d, rfl, .ref a, rfl, a, xs, rfl, .inl (k.le.seq hS), G, d, c, xs.length, rfl, k, by omega, fun r H' k' r0 r1 => ?_⟩
    obtain ⟨j, rfl⟩ : ∃ j : Nat, r = j := ⟨r.toNat, by omega⟩
    have hj : j < xs.length := by omega
    refine ⟨a, xs, (j : Int), xs[j], rfl, rfl, k'.le.seq hS, atI_nat (List.getElem?_eq_getElem hj), ?_⟩
    exact q _ _ k' (List.getElem_mem hj)
end

section
variable {P : Program} {w : World} {K : PySem.W.Frag} {mg : Str → Option Value} {base : Heap}
/-- a number, as data -/
def numD : PyData → Bool
  | .int i => decide (0 ≤ i)
  | _ => false
theorem numD_oth {d : PyData} (h : ∀ i, d ≠ .int i) : numD d = false := by
  cases d with
  | int i => exact absurd rfl (h i)
  | _ => rfl
def spIsNumD (K : PySem.W.Frag) : Sp := fun vs H Q _ => ∃ (v : V) (d : PyData), vs = [v] ∧ Lf K H v d ∧ Q (.bl (numD d)) H
theorem ok_is_numD (T : Tx K mg) : FnOk P w K mg base CX0 1 T.f_is_number T.d_is_number ["value"] (spIsNumD K) := by
  refine T.F_is_number.ok sc_is_number (fun vs H Q E h => ?_) (fun cdv A outer s H vs Q E hr h => ?_)
  · obtain ⟨v, d, rfl, _⟩ := h
    rfl
  · obtain ⟨v, d, rfl, hl, q⟩ := h
    refine ⟨_, (pss_one (ps_ret (pe_and (pe_callB call_isi (by rfl) T.z_isinstance (by decide +kernel) (pa_cons (pv 0) (pa_cons (pe_bltn (v := .ty "int") (by rfl) T.z_int (by decide +kernel) rfl) pa_nil))) (pe_and (pe_not (pe_callB call_isi (by rfl) T.z_isinstance (by decide +kernel) (pa_cons (pv 0) (pa_cons (pe_bltn (v := .ty "bool") (by rfl) T.z_bool (by decide +kernel) rfl) pa_nil)))) (pe_one (pe_cmpR op_ge (pv 0) pe_int (nomark _))))))), ?_⟩
    cases lf_kd hl with
    | int i =>
      refine ⟨_, rfl, _, .ty "int", _, _, true, rfl, .ty _, .base (.int i), kit_ty (by decide +kernel), true, rfl, iteT ?_⟩
      refine ⟨_, rfl, _, .ty "bool", _, _, false, rfl, .ty _, .base (.int i), kit_ty (by decide +kernel), false, rfl, true, rfl, iteT ?_⟩
      exact ⟨_, rfl, _, _, rfl, rfl, q⟩
    | bl b =>
      refine ⟨_, rfl, _, .ty "int", _, _, true, rfl, .ty _, .base (.bl b), kit_ty (by decide +kernel), true, rfl, iteT ?_⟩
      refine ⟨_, rfl, _, .ty "bool", _, _, true, rfl, .ty _, .base (.bl b), kit_ty (by decide +kernel), true, rfl, false, rfl, iteF ?_⟩
      exact q
    | tup ht hl hx =>
      refine ⟨_, rfl, _, .ty "int", _, _, false, rfl, .ty _, ty_tup ht, kit_ty (by decide +kernel), false, rfl, iteF ?_⟩
      exact q
    | oth t ht ty n1 n2 n3 =>
      have q' : Q (.bl false) H := by rw [numD_oth n1] at q; exact q
      rcases ht with rfl | rfl | rfl | rfl
      · exact ⟨_, rfl, _, .ty "int", _, _, false, rfl, .ty _, ty, kit_ty (by decide +kernel), false, rfl, iteF q'⟩
      · exact ⟨_, rfl, _, .ty "int", _, _, false, rfl, .ty _, ty, kit_ty (by decide +kernel), false, rfl, iteF q'⟩
      · exact ⟨_, rfl, _, .ty "int", _, _, false, rfl, .ty _, ty, kit_ty (by decide +kernel), false, rfl, iteF q'⟩
      · exact ⟨_, rfl, _, .ty "int", _, _, false, rfl, .ty _, ty, kit_ty (by decide +kernel), false, rfl, iteF q'⟩
end

section
variable {P : Program} {w : World} {K : PySem.W.Frag} {mg : Str → Option Value} {base : Heap}
theorem o_at {o : List Int} {j : Nat} (h : j < o.length) : atI (o.map V.int) (j : Int) = some (.int (o.getD j 0)) := by
  refine atI_nat ?_
  rw [List.getElem?_map, List.getElem?_eq_getElem h, List.getD_eq_getElem?_getD, List.getElem?_eq_getElem h]
  rfl
/-- the sorting steps -/
def spSteps (K : PySem.W.Frag) : Sp := fun vs H Q _ => ∃ (t : Addr) (o : List Int), vs = [.ref t] ∧ SqT K H t (o.map V.int) ∧ o.length ≤ 1000 ∧
  ∀ l H', Same H H' → H l = none → H' l = some (.lst ((stps o).map V.int)) → Q (.ref l) H'
theorem ok_sorting_steps (T : Tx K mg) : FnOk P w K mg base CX0 1 T.f_sorting_steps T.d_sorting_steps ["order"] (spSteps K) := by
  refine T.F_sorting_steps.ok sc_sorting_steps (fun vs H Q E h => ?_) (fun cdv A outer s H vs Q E hr h => ?_)
  · obtain ⟨t, o, rfl, _⟩ := h
    rfl
  · obtain ⟨t, o, rfl, hT, ol, q⟩ := h
    refine ⟨_, (pss_one (ps_ret (pe_lc (own := [("i", 1)]) (g := gName 1) rfl sc_sorting_steps.nd (pi_range2 (by rfl) T.z_range (pa_cons pe_int (pa_cons (pe_callB call_len_seq (by rfl) T.z_len PySem.boot_len (pa_cons (pv 0) pa_nil)) pa_nil))) (blkOk_by (own := [("i", 1)]) (N := ["order", "i"]) (sc := defScope s_sorting_steps) (by decide +kernel)) (fun _ _ _ _ _ => (pg_name (i := 1) sc_sorting_steps.nd rfl (Or.inl rfl))) (fun _ _ _ _ _ => (pts_one (pt_cmpR op_gt (pe_ix (show IxR _ (rIxT K) from ix_tup) (pv 0) (pe_op op_sub (pv 1) pe_int) (fun _ _ => rfl)) (pe_ix (show IxR _ (rIxT K) from ix_tup) (pv 0) (pv 1) (fun _ _ => rfl)) (nomark _)))) (fun _ _ _ _ _ => (pv 1))))), ?_⟩
    refine ⟨.ref t, rfl, t, o.map V.int, rfl, .inr hT, ?_⟩
    rw [List.length_map]
    refine ⟨1, (o.length : Int), rfl, ⟨by decide, by decide, by omega, by omega⟩, fun D hD => ?_⟩
    refine lc_range (lo := 1) (n := ((o.length : Int) - 1).toNat) (fun i H' => (∀ b x, H b = some x → H' b = some x) ∧ H' D = some (.lst ((((List.range i).filter fun j => decide (o.getD (j + 1) 0 < o.getD j 0)).map fun (j : Nat) => (1 + j : Int)).map V.int))) ⟨same_new hD, upd_same⟩ ?_ ?_
    · rintro i H2 hi ⟨sm, hL⟩
      have hi' : i + 1 < o.length := by omega
      refine ⟨rfl, ?_⟩
      have hT2 : SqT K H2 t (o.map V.int) := sameT sm hT
      have a1 : atI (o.map V.int) (1 + (i : Int) - 1) = some (.int (o.getD i 0)) := by
        rw [show 1 + (i : Int) - 1 = (i : Int) by omega]
        exact o_at (by omega)
      have a2 : atI (o.map V.int) (1 + (i : Int)) = some (.int (o.getD (i + 1) 0)) := by
        rw [show 1 + (i : Int) = ((i + 1 : Nat) : Int) by omega]
        exact o_at hi'
      refine ⟨.ref t, rfl, .int (1 + (i : Int)), rfl, _, _, rfl, rfl, t, _, _, _, rfl, rfl, hT2, a1, .ref t, rfl, .int (1 + (i : Int)), rfl, t, _, _, _, rfl, rfl, hT2, a2, _, _, rfl, rfl, ?_⟩
      refine ⟨_, rfl, ite2 (fun hb => ?_) (fun hb => ?_)⟩
      · refine ⟨_, rfl, _, hL, ?_, fun b x e => ?_, ?_⟩
        · rw [List.length_map, List.length_map]
          refine Nat.lt_of_le_of_lt (List.length_filter_le _ _) ?_
          rw [List.length_range]
          exact small1000 (by omega)
        · rw [upd_ne (ne_of_none e hD)]
          exact sm _ _ e
        · rw [upd_same, List.range_succ, List.filter_append, List.filter_cons, if_pos (by simpa using hb), List.map_append, List.map_append]
          rfl
      · refine ⟨sm, ?_⟩
        rw [List.range_succ, List.filter_append, List.filter_cons, if_neg (by simpa using hb), List.filter_nil, List.append_nil]
        exact hL
    · rintro H2 ⟨sm, hL⟩
      rw [show ((o.length : Int) - 1).toNat = o.length - 1 by omega] at hL
      exact q D H2 sm hD hL
/-- the order with two neighbours exchanged -/
def spStepped (K : PySem.W.Frag) : Sp := fun vs H Q _ => ∃ (t : Addr) (o : List Int) (i : Int), vs = [.ref t, .int i] ∧ SqT K H t (o.map V.int) ∧ o.length ≤ 1000 ∧ 1 ≤ i ∧ i < o.length ∧
  ∀ u H', Same H H' → SqT K H' u ((stp o i).map V.int) → Q (.ref u) H'
theorem stp_cut {o : List Int} {i : Int} (h1 : 1 ≤ i) (h2 : i < o.length) : cutV (o.map V.int) none (some (i - 1)) ++ [V.int (o.getD i.toNat 0), V.int (o.getD (i.toNat - 1) 0)] ++ cutV (o.map V.int) (some (i + 1)) none = (stp o i).map V.int := by
  obtain ⟨j, rfl⟩ : ∃ j : Nat, i = 1 + j := ⟨(i - 1).toNat, by omega⟩
  rw [stp_one, show (1 + (j : Int)) - 1 = (j : Nat) by omega, show (1 + (j : Int)) + 1 = ((j + 2 : Nat) : Int) by omega, cut_nat, cut_from _ _ (by rw [List.length_map]; omega)]
  unfold stpN
  rw [show (1 + (j : Int)).toNat = j + 1 by omega, Nat.add_sub_cancel, List.map_append, List.map_append, List.map_take, List.map_drop]
  rfl
theorem ok_stepped (T : Tx K mg) : FnOk P w K mg base CX0 2 T.f_stepped T.d_stepped ["order", "level"] (spStepped K) := by
  have G_is_number := ok_is_numD (P := P) (w := w) (base := base) T
  refine T.F_stepped.ok sc_stepped (fun vs H Q E h => ?_) (fun cdv A outer s H vs Q E hr h => ?_)
  · obtain ⟨t, o, i, rfl, _⟩ := h
    rfl
  · obtain ⟨t, o, i, rfl, hT, ol, h1, h2, q⟩ := h
    refine ⟨_, (pss_cons (ps_if (PW.pt (pw_or (pt_not (pt_val (pe_call G_is_number (hr.mono (by decide)) (by rfl) T.g_is_number T.F_is_number.kp T.b_is_number .nil pass0 (pa_cons (pv 1) pa_nil)))) (pw_or1 (pt_not (pt_chain op_le op_lt pe_int (pv 1) (pe_callB call_len_seq (by rfl) T.z_len PySem.boot_len (pa_cons (pv 0) pa_nil))))))) (pss_one ps_dead) pss_nil)
    (pss_one (ps_ret (pe_op op_catA (pe_op op_catA (pe_slice sl_tupA (pv 0) po_none (po_some (pe_op op_sub (pv 1) pe_int))) (pe_tup (pa_cons (pe_ix ix_tup (pv 0) (pv 1) (fun _ _ => rfl)) (pa_cons (pe_ix ix_tup (pv 0) (pe_op op_sub (pv 1) pe_int) (fun _ _ => rfl)) pa_nil)))) (pe_slice sl_tupA (pv 0) (po_some (pe_op op_add (pv 1) pe_int)) po_none))))), ?_⟩
    refine ⟨.int i, rfl, .int i, .int i, rfl, .dp (.int i) rfl, ?_⟩
    have hn : numD (.int i) = true := decide_eq_true (by omega)
    refine ⟨true, by rw [hn], iteF ?_⟩
    refine ⟨.int i, rfl, _, _, rfl, rfl, _, rfl, Eq.mpr (if_pos (decide_eq_true h1)) ?_⟩
    refine ⟨.ref t, rfl, t, _, rfl, .inr hT, _, _, rfl, rfl, _, rfl, ?_⟩
    rw [List.length_map, decide_eq_true h2]
    refine iteF ?_
    have b1 : i.toNat < o.length := by omega
    have b2 : i.toNat - 1 < o.length := by omega
    refine ⟨.ref t, rfl, ?_⟩
    refine np_i ?_
    refine ⟨.int i, rfl, _, _, rfl, rfl, i - 1, rfl, ?_⟩
    refine sl_any hT fun t1 H1 s1 ht1 => ?_
    have hT1 := sameT s1 hT
    have a1 : atI (o.map V.int) i = some (.int (o.getD i.toNat 0)) := by
      have := o_at b1
      rwa [show ((i.toNat : Nat) : Int) = i by omega] at this
    have a2 : atI (o.map V.int) (i - 1) = some (.int (o.getD (i.toNat - 1) 0)) := by
      have := o_at b2
      rwa [show ((i.toNat - 1 : Nat) : Int) = i - 1 by omega] at this
    refine ⟨.ref t, rfl, .int i, rfl, t, _, _, _, rfl, rfl, hT1, a1, .ref t, rfl, .int i, rfl, _, _, rfl, rfl, t, _, _, _, rfl, rfl, hT1, a2, (by show 2 ≤ sizeLine; decide), fun t2 ht2 => ?_⟩
    have s2 : Same H1 (upd H1 t2 (.tup [.int (o.getD i.toNat 0), .int (o.getD (i.toNat - 1) 0)])) := same_new ht2
    have hT2 : SqT K (upd H1 t2 (.tup [.int (o.getD i.toNat 0), .int (o.getD (i.toNat - 1) 0)])) t2 [.int (o.getD i.toNat 0), .int (o.getD (i.toNat - 1) 0)] := .inl (.inl upd_same)
    generalize upd H1 t2 (.tup [.int (o.getD i.toNat 0), .int (o.getD (i.toNat - 1) 0)]) = H2 at s2 hT2
    have lc : ∀ (lo hi : Option Int), (cutV (o.map V.int) lo hi).length ≤ 1000 := fun lo hi => by
      have : (cutV (o.map V.int) lo hi).length ≤ (o.map V.int).length := by
        unfold cutV
        rw [List.length_take, List.length_drop]
        omega
      rw [List.length_map] at this
      omega
    refine cat_any (sameT s2 ht1) hT2 ?_ fun t3 H3 s3 ht3 => ?_
    · have := lc none (some (i - 1))
      rw [sizeLine_eq]
      simp only [List.length_cons, List.length_nil]
      omega
    · refine ⟨.ref t, rfl, .int i, rfl, _, _, rfl, rfl, i + 1, rfl, ?_⟩
      refine np_i ?_
      refine sl_any (sameT s3 (sameT s2 hT1)) fun t4 H4 s4 ht4 => ?_
      refine cat_any (sameT s4 ht3) ht4 ?_ fun t5 H5 s5 ht5 => ?_
      · have h1 := lc none (some (i - 1))
        have h2 := lc (some (i + 1)) none
        rw [sizeLine_eq, List.length_append]
        simp only [List.length_cons, List.length_nil]
        omega
      · rw [stp_cut h1 h2] at ht5
        exact q _ _ ((((s1.trans s2).trans s3).trans s4).trans s5) ht5
theorem inV_ints (x : Int) : ∀ r : List Int, inV (.int x) (r.map V.int) = decide (x ∈ r)
  | [] => by simp [inV]
  | y :: r => by
    have ih := inV_ints x r
    show ((y == x) || inV (.int x) (r.map V.int)) = _
    rw [ih, Bool.eq_iff_iff]
    simp only [Bool.or_eq_true, beq_iff_eq, decide_eq_true_eq, List.mem_cons]
    constructor
    · rintro (h | h)
      · exact .inl h.symm
      · exact .inr h
    · rintro (h | h)
      · exact .inl h.symm
      · exact .inr h
theorem flat_ints (r : List Int) : (r.map V.int).all flatV = true := by
  rw [List.all_map, List.all_eq_true]
  exact fun x _ => rfl
theorem last_at (xs : List V) (x : V) : atI (xs ++ [x]) (-1) = some x := by
  have e : ixN (xs ++ [x]).length (-1) = some xs.length := by
    unfold ixN
    rw [if_neg (by decide), List.length_append, List.length_singleton, if_pos (by omega)]
    congr 1
    omega
  unfold atI
  rw [e]
  show (xs ++ [x])[xs.length]? = some x
  rw [List.getElem?_append_right (Nat.le_refl _), Nat.sub_self]
  rfl
/-- the level row with the number 0 -/
def spFirst (K : PySem.W.Frag) : Sp := fun vs H Q _ => ∃ (t : Addr) (o : List Int), vs = [.ref t] ∧ SqT K H t (o.map V.int) ∧ o.length ≤ 30 ∧
  ∀ l H', Same H H' → H l = none → H' l = some (.lst ((fstR (inv o) o).map V.int)) → Q (.ref l) H'
theorem ok_first_row (T : Tx K mg) : FnOk P w K mg base CX0 3 T.f_first_row T.d_first_row ["order"] (spFirst K) := by
  have G_sorting_steps := ok_sorting_steps (P := P) (w := w) (base := base) T
  have G_stepped := ok_stepped (P := P) (w := w) (base := base) T
  refine T.F_first_row.ok sc_first_row (fun vs H Q E h => ?_) (fun cdv A outer s H vs Q E hr h => ?_)
  · obtain ⟨t, o, rfl, _⟩ := h
    rfl
  · obtain ⟨t, o, rfl, hT, ol, q⟩ := h
    refine ⟨_, (pss_cons (ps_set (i := 1) sc_first_row.nd rfl (Or.inl rfl) (pe_lst pa_nil))
    (pss_cons (ps_set (i := 2) sc_first_row.nd rfl (Or.inl rfl) (pv 0))
    (pss_cons (ps_while PassesOwn.never (pt_cmpR op_gt (pe_callB call_len_seq (by rfl) T.z_len PySem.boot_len (pa_cons (pe_call G_sorting_steps (hr.mono (by decide)) (by rfl) T.g_sorting_steps T.F_sorting_steps.kp T.b_sorting_steps .nil pass0 (pa_cons (pv 2) pa_nil)) pa_nil)) pe_int (nomark _)) (pss_cons (ps_expr (pe_bm PySem.F.plainAttrs_list PySem.F.slot_list_append PySem.F.type_list_append mt_append (pv 1) (pa_cons (pe_ix ix_list (pe_call G_sorting_steps (hr.mono (by decide)) (by rfl) T.g_sorting_steps T.F_sorting_steps.kp T.b_sorting_steps .nil pass0 (pa_cons (pv 2) pa_nil)) pe_int (fun _ _ => rfl)) pa_nil)))
    (pss_one (ps_set (i := 2) sc_first_row.nd rfl (Or.inl rfl) (pe_call G_stepped (hr.mono (by decide)) (by rfl) T.g_stepped T.F_stepped.kp T.b_stepped .nil pass0 (pa_cons (pv 2) (pa_cons (pe_ix ix_list (pv 1) (pe_un un_neg pe_int) (fun _ _ => rfl)) pa_nil)))))))
    (pss_one (ps_ret (pv 1)))))), ?_⟩
    refine ⟨Nat.zero_le _, fun l hl => ?_⟩
    have s0 : Same H (upd H l (.lst [])) := same_new hl
    have hL0 : (upd H l (.lst [])) l = some (.lst []) := upd_same
    generalize upd H l (.lst []) = H0 at s0 hL0
    refine ⟨.ref t, rfl, fun n σ H' => ∃ (u : Addr) (r : List Int) (o' : List Int), σ = [some (.ref t), some (.ref l), some (.ref u)] ∧ n = inv o' ∧ Same H H' ∧ H' l = some (.lst (r.map V.int)) ∧ SqT K H' u (o'.map V.int) ∧ o'.length = o.length ∧ r ++ fstR (inv o') o' = fstR (inv o) o ∧ r.length + inv o' ≤ inv o,
      ⟨_, t, [], o, rfl, rfl, s0, hL0, sameT s0 hT, rfl, rfl, by simp⟩, fun n σ H' hW => ?_⟩
    obtain ⟨u, r, o', rfl, rfl, sm, hL, hU, ol', er, hr'⟩ := hW
    have il : inv o ≤ 900 := by
      have := inv_le o
      have h2 : o.length * o.length ≤ 30 * 30 := Nat.mul_le_mul ol ol
      omega
    refine ⟨.ref u, rfl, u, o', rfl, hU, by omega, fun m1 H1 s1 _ hm1 => ?_⟩
    refine ⟨m1, _, rfl, .inl (.inl (.inl hm1)), _, _, rfl, rfl, _, rfl, ite2 (fun hb => ?_) (fun hb => ?_)⟩
    · rw [List.length_map] at hb
      have hpos : 0 < (stps o').length := by
        have := of_decide_eq_true hb
        omega
      obtain ⟨i, tl, hst⟩ : ∃ i tl, stps o' = i :: tl := by
        cases e : stps o' with
        | nil => rw [e] at hpos; exact absurd hpos (by decide)
        | cons i tl => exact ⟨i, tl, rfl⟩
      have hi : i ∈ stps o' := by rw [hst]; simp
      obtain ⟨i1, i2⟩ := stps_lo hi
      have hlt := inv_stp hi
      refine ⟨fun σ H2 => ∃ (u : Addr) (r : List Int) (o2 : List Int), σ = [some (.ref t), some (.ref l), some (.ref u)] ∧ inv o2 < inv o' ∧ Same H H2 ∧ H2 l = some (.lst (r.map V.int)) ∧ SqT K H2 u (o2.map V.int) ∧ o2.length = o.length ∧ r ++ fstR (inv o2) o2 = fstR (inv o) o ∧ r.length + inv o2 ≤ inv o, fun σ2 H2 hN => ?_, ?_⟩
      · obtain ⟨u2, r2, o2, h1, h2, h3⟩ := hN
        exact ⟨_, h2, u2, r2, o2, h1, rfl, h3⟩
      · have hL1 := s1 _ _ hL
        have hU1 := sameT s1 hU
        refine ⟨.ref l, rfl, .inl ⟨rfl, _, .inl (.inl hL1)⟩, ?_⟩
        refine ⟨.ref u, rfl, u, o', rfl, hU1, by omega, fun m2 H2 s2 _ hm2 => ?_⟩
        have a0 : atI ((stps o').map V.int) 0 = some (.int i) := by
          rw [hst]
          exact atI_nat (j := 0) rfl
        refine ⟨m2, _, _, _, rfl, rfl, .inl (.inl hm2), a0, ?_⟩
        have hL2 := s2 _ _ hL1
        refine ⟨l, _, _, rfl, rfl, hL2, ?_, ?_⟩
        · rw [List.length_map]
          exact small1000' (by omega)
        · have hU3 : SqT K (upd H2 l (.lst (r.map V.int ++ [.int i]))) u (o'.map V.int) := sqt_off hL2 (sameT s2 hU1)
          have hL3 : (upd H2 l (.lst (r.map V.int ++ [.int i]))) l = some (.lst (r.map V.int ++ [.int i])) := upd_same
          have s3 : Same H (upd H2 l (.lst (r.map V.int ++ [.int i]))) := fun b x e => by
            rw [upd_ne (ne_of_none e hl)]
            exact s2 _ _ (s1 _ _ (sm _ _ e))
          generalize upd H2 l (.lst (r.map V.int ++ [.int i])) = H3 at hU3 hL3 s3
          refine ⟨.ref u, rfl, .ref l, rfl, _, rfl, l, _, _, _, rfl, rfl, .inl (.inl hL3), last_at _ _, ?_⟩
          refine ⟨u, o', i, rfl, hU3, by omega, i1, i2, fun v H4 s4 hV => ?_⟩
          refine ⟨v, r ++ [i], stp o' i, rfl, by omega, s3.trans s4, ?_, hV, by rw [stp_len hi]; exact ol', ?_, ?_⟩
          · rw [s4 _ _ hL3, List.map_append]
            rfl
          · rw [← er, fstR_step hst, List.append_assoc]
            rfl
          · rw [List.length_append, List.length_singleton]
            omega
    · rw [List.length_map] at hb
      have hz : stps o' = [] := by
        cases e : stps o' with
        | nil => rfl
        | cons i tl =>
          exfalso
          apply hb
          rw [e]
          exact decide_eq_true (by simp only [List.length_cons]; omega)
      rw [fstR_none hz, List.append_nil] at er
      refine ⟨.ref l, rfl, ?_⟩
      rw [er] at hL
      exact q l H1 (sm.trans s1) hl (s1 _ _ hL)
/-- where a list of levels fails -/
def okL (o : List Int) : PyData → Bool
  | .int i => decide (i ∈ stps o)
  | _ => false
def numOf : PyData → Int
  | .int i => i
  | _ => 0
def lvf : List Int → List PyData → Nat → Option Nat
  | o, [], k => if stps o = [] then none else some k
  | o, d :: ds, k => if okL o d = true then lvf (stp o (numOf d)) ds (k + 1) else some k
def optV : Option Nat → V
  | none => .non
  | some k => .int (k : Nat)
theorem lvf_at {o : List Int} {ds : List PyData} {d : PyData} {i k : Nat} (h : ds[i]? = some d) : lvf o (ds.drop i) k = if okL o d = true then lvf (stp o (numOf d)) (ds.drop (i + 1)) (k + 1) else some k := by
  obtain ⟨hi, rfl⟩ := List.getElem?_eq_some_iff.mp h
  rw [List.drop_eq_getElem_cons hi]
  rfl
def spLF (K : PySem.W.Frag) : Sp := fun vs H Q _ => ∃ (t a : Addr) (o : List Int) (k : Bool) (xs : List V) (ds : List PyData), vs = [.ref t, .ref a] ∧ SqT K H t (o.map V.int) ∧ o.length ≤ 1000 ∧ SqK K k H a xs ∧ xs.length = ds.length ∧
  (∀ (j : Nat) (x : V), xs[j]? = some x → ∃ d, ds[j]? = some d ∧ Lf K H x d) ∧ ∀ H', Same H H' → Q (optV (lvf o ds 0)) H'
theorem ok_levels_fault (T : Tx K mg) : FnOk P w K mg base CX0 3 T.f_levels_fault T.d_levels_fault ["order", "levels"] (spLF K) := by
  have G_is_number := ok_is_numD (P := P) (w := w) (base := base) T
  have G_sorting_steps := ok_sorting_steps (P := P) (w := w) (base := base) T
  have G_stepped := ok_stepped (P := P) (w := w) (base := base) T
  refine T.F_levels_fault.ok sc_levels_fault (fun vs H Q E h => ?_) (fun cdv A outer s H vs Q E hr h => ?_)
  · obtain ⟨t, a, o, k, xs, ds, rfl, _⟩ := h
    rfl
  · obtain ⟨t, a, o, k, xs, ds, rfl, hT, ol, hA, hlen, hx, q⟩ := h
    refine ⟨_, (pss_cons (ps_set (i := 2) sc_levels_fault.nd rfl (Or.inl rfl) (pv 0))
    (pss_cons (ps_for PassesOwn.never rfl (pi_enumM (by rfl) T.z_enumerate (pa_cons (pv 1) pa_nil)) (pg_tup rfl (pgs_cons (pg_name (i := 3) sc_levels_fault.nd rfl (Or.inl rfl)) (pgs_cons (pg_name (i := 4) sc_levels_fault.nd rfl (Or.inl rfl)) pgs_nil)))
    (pss_cons (ps_if (PW.pt (pw_or (pt_not (pt_val (pe_call G_is_number (hr.mono (by decide)) (by rfl) T.g_is_number T.F_is_number.kp T.b_is_number .nil pass0 (pa_cons (pv 4) pa_nil)))) (pw_or1 (pt_cmpR op_notIn_seq (pv 4) (pe_call G_sorting_steps (hr.mono (by decide)) (by rfl) T.g_sorting_steps T.F_sorting_steps.kp T.b_sorting_steps .nil pass0 (pa_cons (pv 2) pa_nil)) (by rfl))))) (pss_one (ps_ret (pv 3))) pss_nil)
    (pss_one (ps_set (i := 2) sc_levels_fault.nd rfl (Or.inl rfl) (pe_call G_stepped (hr.mono (by decide)) (by rfl) T.g_stepped T.F_stepped.kp T.b_stepped .nil pass0 (pa_cons (pv 2) (pa_cons (pv 4) pa_nil)))))))
    (pss_one (ps_ret (pe_ifExp (pt_cmpR op_gt (pe_callB call_len_seq (by rfl) T.z_len PySem.boot_len (pa_cons (pe_call G_sorting_steps (hr.mono (by decide)) (by rfl) T.g_sorting_steps T.F_sorting_steps.kp T.b_sorting_steps .nil pass0 (pa_cons (pv 2) pa_nil)) pa_nil)) pe_int (nomark _)) (pe_callB call_len_seq (by rfl) T.z_len PySem.boot_len (pa_cons (pv 1) pa_nil)) pe_non))))), ?_⟩
    refine ⟨.ref t, rfl, .ref a, rfl, k, a, xs, rfl, hA, for_enumM (K := K) (k := k) (a := a) (xs := xs) (fun i σ H' => ∃ (u : Addr) (o' : List Int) (v3 v4 : Option V), σ = [some (.ref t), some (.ref a), some (.ref u), v3, v4] ∧ Same H H' ∧ SqT K H' u (o'.map V.int) ∧ o'.length = o.length ∧ lvf o' (ds.drop i) i = lvf o ds 0) ⟨t, o, none, none, rfl, Same.refl H, hT, rfl, rfl⟩ (fun i σ H' ⟨_, _, _, _, _, sm, _⟩ => hA.same sm) ?_ ?_⟩
    · rintro i x Z σ H1 hxi ⟨u, o', v3, v4, rfl, sm, hU, ol', el⟩ hZ
      obtain ⟨d, hd, hf⟩ := hx i x hxi
      have sZ : Same H1 (upd H1 Z (.tup [.int (i : Nat), x])) := same_new hZ
      have hz1 : (upd H1 Z (.tup [.int (i : Nat), x])) Z = some (.tup [.int (i : Nat), x]) := upd_same
      generalize upd H1 Z (.tup [.int (i : Nat), x]) = H2 at sZ hz1
      refine ⟨Z, [.int (i : Nat), x], rfl, .inl (.inl hz1), rfl, .int (i : Nat), [x], rfl, x, [], rfl, rfl, ?_⟩
      have s02 := sm.trans sZ
      rw [lvf_at hd] at el
      refine ⟨x, rfl, x, d, rfl, hf.mono s02, ?_⟩
      have stop : okL o' d = false → ∀ H', Same H H' → Q (.int (i : Nat)) H' := fun hk H' s' => by
        have := q H' s'
        rw [← el, hk] at this
        exact this
      cases hn : numD d with
      | false =>
        have hk : okL o' d = false := by
          cases d with
          | int z =>
            have hz' : ¬ 0 ≤ z := of_decide_eq_false hn
            refine decide_eq_false fun hm => ?_
            have := stps_lo hm
            omega
          | _ => rfl
        refine ⟨false, rfl, iteT (iteT ?_)⟩
        exact ⟨_, rfl, stop hk _ s02⟩
      | true =>
        refine ⟨true, rfl, iteF ?_⟩
        have hkd := lf_kd hf
        cases hkd with
        | bl b => cases hn
        | tup _ _ _ => cases hn
        | oth t ht ty n1 n2 n3 => rw [numD_oth n1] at hn; cases hn
        | int z =>
          have hU2 := sameT sZ hU
          refine ⟨.int z, rfl, .ref u, rfl, u, o', rfl, hU2, by omega, fun m H3 s3 _ hm => ?_⟩
          refine ⟨m, _, rfl, .inl (.inl (.inl hm)), rfl, flat_ints _, ?_⟩
          refine ⟨!decide (z ∈ stps o'), congrArg V.bl (by rw [if_pos rfl, inV_ints]), ?_⟩
          by_cases hmem : z ∈ stps o'
          · rw [decide_eq_true hmem]
            refine iteF ?_
            obtain ⟨z1, z2⟩ := stps_lo hmem
            refine ⟨.ref u, rfl, .int z, rfl, u, o', z, rfl, sameT s3 hU2, by omega, z1, z2, fun v H4 s4 hV => ?_⟩
            refine ⟨v, stp o' z, _, _, rfl, (s02.trans s3).trans s4, hV, by rw [stp_len hmem]; exact ol', ?_⟩
            rw [show okL o' (.int z) = true from decide_eq_true hmem, if_pos rfl] at el
            exact el
          · rw [decide_eq_false hmem]
            refine iteT ?_
            exact ⟨_, rfl, stop (decide_eq_false hmem) _ (s02.trans s3)⟩
    · rintro σ H1 ⟨u, o', v3, v4, rfl, sm, hU, ol', el⟩
      have e0 : ds.drop xs.length = [] := by rw [hlen, List.drop_length]
      rw [e0] at el
      refine ⟨.ref u, rfl, u, o', rfl, hU, by omega, fun m H3 s3 _ hm => ?_⟩
      refine ⟨m, _, rfl, .inl (.inl (.inl hm)), _, _, rfl, rfl, _, rfl, ite2 (fun hb => ?_) (fun hb => ?_)⟩
      · rw [List.length_map] at hb
        have hne : ¬ stps o' = [] := fun z => by
          rw [z] at hb
          exact absurd hb (by decide)
        have := q H3 (sm.trans s3)
        rw [← el] at this
        unfold lvf at this
        rw [if_neg hne] at this
        refine ⟨.ref a, rfl, a, xs, rfl, ?_, this⟩
        have hA3 := hA.same (sm.trans s3)
        cases k with
        | true => exact .inl hA3
        | false => exact .inr hA3
      · rw [List.length_map] at hb
        have hz : stps o' = [] := by
          cases e : stps o' with
          | nil => rfl
          | cons i tl =>
            exfalso
            apply hb
            rw [e]
            exact decide_eq_true (by simp only [List.length_cons]; omega)
        have := q H3 (sm.trans s3)
        rw [← el] at this
        unfold lvf at this
        rw [if_pos hz] at this
        exact this
/-- how a value is judged: none: a level row; some none: no list -/
inductive JV (K : PySem.W.Frag) (H : Hp) (o : List Int) : V → Option (Option Nat) → Prop
  | seq {k : Bool} {a : Addr} {xs : List V} {ds : List PyData} : SqK K k H a xs → xs.length = ds.length → (∀ (j : Nat) (x : V), xs[j]? = some x → ∃ d, ds[j]? = some d ∧ Lf K H x d) → JV K H o (.ref a) ((lvf o ds 0).map some)
  | oth {v : V} (t : String) : (t = "int" ∨ t = "bool" ∨ t = "NoneType" ∨ t = "str" ∨ t = "dict") → TyX K H v (.type t) → JV K H o v (some none)
def dJ : Option (Option Nat) → PyData
  | none => .none
  | some none => .tuple [.str "form"]
  | some (some k) => .tuple [.str "levels", .int (k : Nat)]
theorem tyx_same {K : PySem.W.Frag} {H H' : Hp} {v : V} {t : Value} (e : Same H H') (h : TyX K H v t) : TyX K H' v t := by
  cases h with
  | base h =>
    refine .base ?_
    cases h with
    | non => exact .non
    | bl x => exact .bl x
    | int i => exact .int i
    | str x => exact .str x
    | flt x => exact .flt x
    | lst h => exact .lst (e _ _ h)
    | frz h => exact .frz (e _ _ h)
    | tup h => exact .tup (e _ _ h)
    | dK h => exact .dK (e _ _ h)
    | dT h => exact .dT (e _ _ h)
    | ins h a b c d f => exact .ins (e _ _ h) a b c d f
  | byt b => exact .byt b
  | set h => exact .set (e _ _ h)
  | kList a b => exact .kList a b
  | kTuple a b => exact .kTuple a b
  | kDict a b => exact .kDict a b
  | fTuple h => exact .fTuple (e _ _ h)
  | fDict h => exact .fDict (e _ _ h)
theorem kit_lt {K : PySem.W.Frag} {t : String} {b1 b2 : Bool} (h1 : kitB t "list" = some b1) (h2 : kitB t "tuple" = some b2) : PySem.W.kitAny K (.type t) [.type "list", .type "tuple"] = some (b1 || b2) := by
  refine kitAny_cons (kit_ty h1) (fun e => ?_) (fun e => by rw [e]; rfl)
  rw [e]
  exact kitAny_cons (kit_ty h2) (fun e => by rw [e]; rfl) (fun e => by rw [e]; rfl)
def spJudge (K : PySem.W.Frag) : Sp := fun vs H Q _ => ∃ (t : Addr) (v : V) (o : List Int) (r : Option (Option Nat)), vs = [.ref t, v] ∧ SqT K H t (o.map V.int) ∧ o.length ≤ 1000 ∧ JV K H o v r ∧
  ∀ x H', Same H H' → Dp K H' x (dJ r) → Q x H'
theorem ok_judge_levels (T : Tx K mg) : FnOk P w K mg base CX0 4 T.f_judge_levels T.d_judge_levels ["order", "value"] (spJudge K) := by
  have G_levels_fault := ok_levels_fault (P := P) (w := w) (base := base) T
  refine T.F_judge_levels.ok sc_judge_levels (fun vs H Q E h => ?_) (fun cdv A outer s H vs Q E hr h => ?_)
  · obtain ⟨t, v, o, r, rfl, _⟩ := h
    rfl
  · obtain ⟨t, v, o, r, rfl, hT, ol, hj, q⟩ := h
    refine ⟨_, (pss_cons (ps_if (pt_not (pt_val (pe_callB call_isiT (by rfl) T.z_isinstance (by decide +kernel) (pa_cons (pv 1) (pa_cons (pe_tup (pa_cons (pe_bltn (v := .ty "list") (by rfl) T.z_list (by decide +kernel) rfl) (pa_cons (pe_bltn (v := .ty "tuple") (by rfl) T.z_tuple (by decide +kernel) rfl) pa_nil))) pa_nil))))) (pss_one (ps_ret (pe_tup (pa_cons pe_str pa_nil)))) pss_nil)
    (pss_cons (ps_set (i := 2) sc_judge_levels.nd rfl (Or.inl rfl) (pe_call G_levels_fault (hr.mono (by decide)) (by rfl) T.g_levels_fault T.F_levels_fault.kp T.b_levels_fault .nil pass0 (pa_cons (pv 0) (pa_cons (pv 1) pa_nil))))
    (pss_one (ps_ret (pe_ifExp (pt_cmpR op_isN (pv 2) pe_non (nomark _)) pe_non (pe_tup (pa_cons pe_str (pa_cons (pv 2) pa_nil)))))))), ?_⟩
    refine ⟨v, rfl, (by show 2 ≤ sizeLine; decide), fun tp htp => ?_⟩
    have s1 : Same H (upd H tp (.tup [.ty "list", .ty "tuple"])) := same_new htp
    have h1 : (upd H tp (.tup [.ty "list", .ty "tuple"])) tp = some (.tup [.ty "list", .ty "tuple"]) := upd_same
    generalize upd H tp (.tup [.ty "list", .ty "tuple"]) = H1 at s1 h1
    have pcl : Paired ClsV [.ty "list", .ty "tuple"] [.type "list", .type "tuple"] := .cons (.ty _) (.cons (.ty _) .nil)
    cases hj with
    | oth ty ht hty =>
      have fin : tRet (tTup (tCons (tC (V.str (Str.ofString "form"))) tNil)) { nx := fun _ H' => Q .non H', rt := Q } (L2.start [Str.ofString "order", Str.ofString "value", Str.ofString "number"] [V.ref t, v]) H1 := by
        refine ⟨(by show 1 ≤ sizeLine; decide), fun u hu => q _ _ (s1.trans (same_new hu)) (.tup (.inl (.inl upd_same)) (.cons (.str _) .nil))⟩
      have ty1 := tyx_same s1 hty
      refine nil_i ⟨v, tp, _, .type ty, _, false, rfl, h1, pcl, ty1, ?_, false, rfl, iteT fin⟩
      rcases ht with rfl | rfl | rfl | rfl | rfl
      all_goals exact kit_lt (b1 := false) (b2 := false) (by decide +kernel) (by decide +kernel)
    | @seq k a xs ds hA hlen hx =>
      have hA1 := hA.same s1
      have tyk : ∃ ty : String, TyX K H1 (.ref a) (.type ty) ∧ PySem.W.kitAny K (.type ty) [.type "list", .type "tuple"] = some true := by
        cases k with
        | true => exact ⟨"list", ty_lst hA1, kit_lt (b1 := true) (b2 := false) (by decide +kernel) (by decide +kernel)⟩
        | false => exact ⟨"tuple", ty_tup hA1, kit_lt (b1 := false) (b2 := true) (by decide +kernel) (by decide +kernel)⟩
      obtain ⟨ty, hty, hkit⟩ := tyk
      refine nil_i ⟨.ref a, tp, _, .type ty, _, true, rfl, h1, pcl, hty, hkit, true, rfl, iteF ?_⟩
      refine ⟨.ref t, rfl, .ref a, rfl, t, a, o, k, xs, ds, rfl, sameT s1 hT, ol, hA1, hlen, fun j x e => ?_, fun H2 s2 => ?_⟩
      · obtain ⟨d, hd, hf⟩ := hx j x e
        exact ⟨d, hd, hf.mono s1⟩
      · cases hl : lvf o ds 0 with
        | none =>
          rw [hl] at q
          refine ⟨.non, rfl, rfl, _, rfl, ?_⟩
          rw [decide_eq_true rfl]
          exact iteT (q _ _ (s1.trans s2) .non)
        | some n =>
          rw [hl] at q
          refine ⟨.int (n : Nat), rfl, rfl, _, rfl, ?_⟩
          rw [decide_eq_false (fun z => nomatch z)]
          refine iteF ⟨.int (n : Nat), rfl, (by show 2 ≤ sizeLine; decide), fun u hu => q _ _ ((s1.trans s2).trans (same_new hu)) ?_⟩
          exact .tup (.inl (.inl upd_same)) (.cons (.str _) (.cons (.int _) .nil))
end

section
variable {P : Program} {w : World} {K : PySem.W.Frag} {mg : Str → Option Value} {base : Heap}
theorem ok_lsteps (T : Tx K mg) : FnOk P w K mg base CX0 1 T.f_l_steps T.d_l_steps ["_law_order"] (spSteps K) := by
  refine T.F_l_steps.ok sc_l_steps (fun vs H Q E h => ?_) (fun cdv A outer s H vs Q E hr h => ?_)
  · obtain ⟨t, o, rfl, _⟩ := h
    rfl
  · obtain ⟨t, o, rfl, hT, ol, q⟩ := h
    refine ⟨_, (pss_one (ps_ret (pe_lc (own := [("_law_i", 1)]) (g := gName 1) rfl sc_l_steps.nd (pi_range2 (by rfl) T.z_range (pa_cons pe_int (pa_cons (pe_callB call_len_seq (by rfl) T.z_len PySem.boot_len (pa_cons (pv 0) pa_nil)) pa_nil))) (blkOk_by (own := [("_law_i", 1)]) (N := ["_law_order", "_law_i"]) (sc := defScope s_l_steps) (by decide +kernel)) (fun _ _ _ _ _ => (pg_name (i := 1) sc_l_steps.nd rfl (Or.inl rfl))) (fun _ _ _ _ _ => (pts_one (pt_cmpR op_gt (pe_ix (show IxR _ (rIxT K) from ix_tup) (pv 0) (pe_op op_sub (pv 1) pe_int) (fun _ _ => rfl)) (pe_ix (show IxR _ (rIxT K) from ix_tup) (pv 0) (pv 1) (fun _ _ => rfl)) (nomark _)))) (fun _ _ _ _ _ => (pv 1))))), ?_⟩
    refine ⟨.ref t, rfl, t, o.map V.int, rfl, .inr hT, ?_⟩
    rw [List.length_map]
    refine ⟨1, (o.length : Int), rfl, ⟨by decide, by decide, by omega, by omega⟩, fun D hD => ?_⟩
    refine lc_range (lo := 1) (n := ((o.length : Int) - 1).toNat) (fun i H' => (∀ b x, H b = some x → H' b = some x) ∧ H' D = some (.lst ((((List.range i).filter fun j => decide (o.getD (j + 1) 0 < o.getD j 0)).map fun (j : Nat) => (1 + j : Int)).map V.int))) ⟨same_new hD, upd_same⟩ ?_ ?_
    · rintro i H2 hi ⟨sm, hL⟩
      have hi' : i + 1 < o.length := by omega
      refine ⟨rfl, ?_⟩
      have hT2 : SqT K H2 t (o.map V.int) := sameT sm hT
      have a1 : atI (o.map V.int) (1 + (i : Int) - 1) = some (.int (o.getD i 0)) := by
        rw [show 1 + (i : Int) - 1 = (i : Int) by omega]
        exact o_at (by omega)
      have a2 : atI (o.map V.int) (1 + (i : Int)) = some (.int (o.getD (i + 1) 0)) := by
        rw [show 1 + (i : Int) = ((i + 1 : Nat) : Int) by omega]
        exact o_at hi'
      refine ⟨.ref t, rfl, .int (1 + (i : Int)), rfl, _, _, rfl, rfl, t, _, _, _, rfl, rfl, hT2, a1, .ref t, rfl, .int (1 + (i : Int)), rfl, t, _, _, _, rfl, rfl, hT2, a2, _, _, rfl, rfl, ?_⟩
      refine ⟨_, rfl, ite2 (fun hb => ?_) (fun hb => ?_)⟩
      · refine ⟨_, rfl, _, hL, ?_, fun b x e => ?_, ?_⟩
        · rw [List.length_map, List.length_map]
          refine Nat.lt_of_le_of_lt (List.length_filter_le _ _) ?_
          rw [List.length_range]
          exact small1000 (by omega)
        · rw [upd_ne (ne_of_none e hD)]
          exact sm _ _ e
        · rw [upd_same, List.range_succ, List.filter_append, List.filter_cons, if_pos (by simpa using hb), List.map_append, List.map_append]
          rfl
      · refine ⟨sm, ?_⟩
        rw [List.range_succ, List.filter_append, List.filter_cons, if_neg (by simpa using hb), List.filter_nil, List.append_nil]
        exact hL
    · rintro H2 ⟨sm, hL⟩
      rw [show ((o.length : Int) - 1).toNat = o.length - 1 by omega] at hL
      exact q D H2 sm hD hL
theorem ok_lstepped (T : Tx K mg) : FnOk P w K mg base CX0 1 T.f_l_stepped T.d_l_stepped ["_law_order", "_law_level"] (spStepped K) := by
  refine T.F_l_stepped.ok sc_l_stepped (fun vs H Q E h => ?_) (fun cdv A outer s H vs Q E hr h => ?_)
  · obtain ⟨t, o, i, rfl, _⟩ := h
    rfl
  · obtain ⟨t, o, i, rfl, hT, ol, h1, h2, q⟩ := h
    refine ⟨_, (pss_one (ps_ret (pe_op op_catA (pe_op op_catA (pe_slice sl_tupA (pv 0) po_none (po_some (pe_op op_sub (pv 1) pe_int))) (pe_tup (pa_cons (pe_ix ix_tup (pv 0) (pv 1) (fun _ _ => rfl)) (pa_cons (pe_ix ix_tup (pv 0) (pe_op op_sub (pv 1) pe_int) (fun _ _ => rfl)) pa_nil)))) (pe_slice sl_tupA (pv 0) (po_some (pe_op op_add (pv 1) pe_int)) po_none)))), ?_⟩
    have b1 : i.toNat < o.length := by omega
    have b2 : i.toNat - 1 < o.length := by omega
    refine ⟨.ref t, rfl, ?_⟩
    refine np_i ?_
    refine ⟨.int i, rfl, _, _, rfl, rfl, i - 1, rfl, ?_⟩
    refine sl_any hT fun t1 H1 s1 ht1 => ?_
    have hT1 := sameT s1 hT
    have a1 : atI (o.map V.int) i = some (.int (o.getD i.toNat 0)) := by
      have := o_at b1
      rwa [show ((i.toNat : Nat) : Int) = i by omega] at this
    have a2 : atI (o.map V.int) (i - 1) = some (.int (o.getD (i.toNat - 1) 0)) := by
      have := o_at b2
      rwa [show ((i.toNat - 1 : Nat) : Int) = i - 1 by omega] at this
    refine ⟨.ref t, rfl, .int i, rfl, t, _, _, _, rfl, rfl, hT1, a1, .ref t, rfl, .int i, rfl, _, _, rfl, rfl, t, _, _, _, rfl, rfl, hT1, a2, (by show 2 ≤ sizeLine; decide), fun t2 ht2 => ?_⟩
    have s2 : Same H1 (upd H1 t2 (.tup [.int (o.getD i.toNat 0), .int (o.getD (i.toNat - 1) 0)])) := same_new ht2
    have hT2 : SqT K (upd H1 t2 (.tup [.int (o.getD i.toNat 0), .int (o.getD (i.toNat - 1) 0)])) t2 [.int (o.getD i.toNat 0), .int (o.getD (i.toNat - 1) 0)] := .inl (.inl upd_same)
    generalize upd H1 t2 (.tup [.int (o.getD i.toNat 0), .int (o.getD (i.toNat - 1) 0)]) = H2 at s2 hT2
    have lc : ∀ (lo hi : Option Int), (cutV (o.map V.int) lo hi).length ≤ 1000 := fun lo hi => by
      have : (cutV (o.map V.int) lo hi).length ≤ (o.map V.int).length := by
        unfold cutV
        rw [List.length_take, List.length_drop]
        omega
      rw [List.length_map] at this
      omega
    refine cat_any (sameT s2 ht1) hT2 ?_ fun t3 H3 s3 ht3 => ?_
    · have := lc none (some (i - 1))
      rw [sizeLine_eq]
      simp only [List.length_cons, List.length_nil]
      omega
    · refine ⟨.ref t, rfl, .int i, rfl, _, _, rfl, rfl, i + 1, rfl, ?_⟩
      refine np_i ?_
      refine sl_any (sameT s3 (sameT s2 hT1)) fun t4 H4 s4 ht4 => ?_
      refine cat_any (sameT s4 ht3) ht4 ?_ fun t5 H5 s5 ht5 => ?_
      · have h1 := lc none (some (i - 1))
        have h2 := lc (some (i + 1)) none
        rw [sizeLine_eq, List.length_append]
        simp only [List.length_cons, List.length_nil]
        omega
      · rw [stp_cut h1 h2] at ht5
        exact q _ _ ((((s1.trans s2).trans s3).trans s4).trans s5) ht5
end

section
variable {P : Program} {w : World} {K : PySem.W.Frag} {mg : Str → Option Value} {base : Heap}
theorem upd_swap {G : Hp} {a b : Addr} {x y z : HO} (h : a ≠ b) : upd (upd (upd G a x) b y) a z = upd (upd G a z) b y := by
  funext e
  unfold upd
  by_cases h1 : e = a
  · subst h1
    rw [if_pos rfl, if_neg h, if_pos rfl]
  · rw [if_neg h1]
    by_cases h2 : e = b
    · rw [if_pos h2, if_pos h2]
    · rw [if_neg h2, if_neg h2, if_neg h1, if_neg h1]
theorem six_at {n : Nat} {j : Int} (h0 : 0 ≤ j) (h1 : j < n) : seqIndex? j n = some j.toNat := (ixN_seq (j := j.toNat) (by unfold ixN; rw [if_pos h0, if_pos h1])).1
theorem perm_pop {α : Type} {xs ys zs : List α} {j : Nat} {y : α} (p : (ys ++ zs).Perm xs) (h : zs[j]? = some y) : ((ys ++ [y]) ++ zs.eraseIdx j).Perm xs := by
  refine List.Perm.trans ?_ p
  rw [List.append_assoc]
  refine List.Perm.append_left ys ?_
  obtain ⟨hj, rfl⟩ := List.getElem?_eq_some_iff.mp h
  have e : zs = zs.take j ++ zs[j] :: zs.drop (j + 1) := by
    rw [← List.drop_eq_getElem_cons hj, List.take_append_drop]
  rw [List.eraseIdx_eq_take_drop_succ, List.singleton_append]
  conv => rhs; rw [e]
  exact List.perm_middle.symm
/-- the things in a drawn order -/
def spMixed (K : PySem.W.Frag) : Sp := fun vs H Q _ => ∃ (G : Hp) (d c a : Addr) (xs : List V), vs = [.ref d, .ref a] ∧ Kn G H d c ∧ SqL K G a xs ∧ xs.length ≤ 1000 ∧
  ∀ (l : Addr) (ys : List V) (G' H' : Hp), Same G G' → Kn G' H' d c → G' l = some (.lst ys) → ys.Perm xs → G l = none → Q (.ref l) H'
theorem ok_mixed (T : Tx K mg) : FnOk P w K mg base CX0 2 T.f_l_mixed T.d_l_mixed ["_law_source_here", "_law_things"] (spMixed K) := by
  have G_l_pick := ok_pick (P := P) (w := w) (base := base) T
  refine T.F_l_mixed.ok sc_l_mixed (fun vs H Q E h => ?_) (fun cdv A outer s H vs Q E hr h => ?_)
  · obtain ⟨G, d, c, a, xs, rfl, _⟩ := h
    rfl
  · obtain ⟨G, d, c, a, xs, rfl, k, hS, hl, q⟩ := h
    refine ⟨_, (pss_cons (ps_set (i := 2) sc_l_mixed.nd rfl (Or.inr rfl) (pe_callTy call_list_of (by rfl) T.z_list (by decide +kernel) (pa_cons (pv 1) pa_nil)))
    (pss_one (ps_ret (pe_lc (own := [("_law_lap", 3)]) (g := gName 3) rfl sc_l_mixed.nd (pi_range1 rfl T.z_range (pa_cons (pe_callB call_len_seq (by rfl) T.z_len PySem.boot_len (pa_cons (pv 2) pa_nil)) pa_nil)) (blkOk_by (own := [("_law_lap", 3)]) (N := ["_law_source_here", "_law_things", "_law_rest", "_law_lap"]) (sc := defScope s_l_mixed) (by decide +kernel)) (fun _ _ _ _ _ => (pg_name (i := 3) sc_l_mixed.nd rfl (Or.inl rfl))) (fun _ _ _ _ _ => pts_nil) (fun _ _ _ _ _ => (show PE _ _ (tBM K "list" rPopAt _ _) from (pe_bm PySem.F.plainAttrs_list PySem.F.slot_list_pop PySem.F.type_list_pop mt_popAt (pv 2) (pa_cons (pe_call G_l_pick (hr.mono (by decide)) (by rfl) T.g_l_pick T.F_l_pick.kp T.b_l_pick .nil pass0 (pa_cons (pv 0) (pa_cons (pe_callB (show CallR _ _ (rLenOf K) from call_lenOf) (by rfl) T.z_len PySem.boot_len (pa_cons (pv 2) pa_nil)) pa_nil))) pa_nil)))))))), ?_⟩
    refine ⟨.ref a, rfl, a, xs, rfl, .inl (k.le.seq hS), fun r hr0 => ?_⟩
    have k1 := k.new (o := .lst xs) hr0
    have gr : G r = none := k.free hr0
    have h1 : (upd H r (.lst xs)) r = some (.lst xs) := upd_same
    generalize upd H r (.lst xs) = H1 at k1 h1
    refine ⟨.ref r, rfl, r, xs, rfl, .inl (.inl (.inl h1)), (xs.length : Int), rfl, by omega, by omega, fun D hD => ?_⟩
    have hDr : D ≠ r := fun e => by rw [e, h1] at hD; cases hD
    have gD : G D = none := k1.weak (same_new gr) |>.free hD
    refine lc_range (lo := 0) (n := (xs.length : Int).toNat) (fun i H' => ∃ ys zs : List V, Kn (upd (upd G r (.lst zs)) D (.lst ys)) H' d c ∧ (ys ++ zs).Perm xs ∧ zs.length + i = xs.length ∧ ys.length = i) ⟨[], xs, k1.new hD, by simp, by simp, rfl⟩ ?_ ?_
    · rintro i H2 hi ⟨ys, zs, k2, pm, e1, e2⟩
      have hz : 0 < zs.length := by omega
      have hr2 := k2.le r _ (by rw [upd_ne hDr.symm, upd_same])
      have hD2 := k2.le D _ upd_same
      refine ⟨rfl, tyes ?_⟩
      refine ⟨.ref r, rfl, .inl ⟨rfl, _, .inl (.inl hr2)⟩, ?_⟩
      refine ⟨.ref d, rfl, .ref r, rfl, r, zs, rfl, .inl (.inl (.inl hr2)), _, d, c, (zs.length : Nat), rfl, k2, by omega, fun j H3 k3 j0 j1 => ?_⟩
      have hr3 := k3.le r _ (by rw [upd_ne hDr.symm, upd_same])
      have hjl : j < (zs.length : Nat) := by omega
      have hj : j.toNat < zs.length := by omega
      refine ⟨r, zs, j, j.toNat, zs[j.toNat], rfl, rfl, hr3, by omega, by omega, six_at j0 hjl, List.getElem?_eq_getElem hj, ?_⟩
      have k4 := k3.put (o' := .lst (zs.eraseIdx j.toNat)) (p := r) (by rw [upd_ne hDr.symm, upd_same])
      rw [upd_swap hDr.symm] at k4
      have k5 := k4.put (o' := .lst (ys ++ [zs[j.toNat]])) (p := D) upd_same
      rw [upd_upd] at k5
      refine ⟨ys, k4.le D _ upd_same, ?_, ys ++ [zs[j.toNat]], zs.eraseIdx j.toNat, k5, perm_pop pm (List.getElem?_eq_getElem hj), ?_, ?_⟩
      · exact small1000' (by omega)
      · rw [List.length_eraseIdx_of_lt hj]
        omega
      · rw [List.length_append, List.length_singleton, e2]
    · rintro H2 ⟨ys, zs, k2, pm, e1, e2⟩
      have hz : zs = [] := List.eq_nil_of_length_eq_zero (by omega)
      subst hz
      rw [List.append_nil] at pm
      exact q D ys _ H2 ((same_new gr).trans (same_new (by rw [upd_ne hDr]; exact gD))) k2 upd_same pm gD
end

section
variable {P : Program} {w : World} {K : PySem.W.Frag} {mg : Str → Option Value} {base : Heap}
/-- a drawn order -/
def rgI (n : Nat) : List Int := (List.range n).map fun (j : Nat) => (j : Int)
theorem perm_ints {ys : List V} {xs : List Int} (h : ys.Perm (xs.map V.int)) : ∃ zs : List Int, ys = zs.map V.int ∧ zs.Perm xs := by
  refine ⟨ys.map fun v => match v with | .int i => i | _ => 0, ?_, ?_⟩
  · rw [List.map_map]
    conv => lhs; rw [← List.map_id ys]
    refine List.map_congr_left fun v hv => ?_
    obtain ⟨x, _, rfl⟩ := List.mem_map.mp (h.mem_iff.mp hv)
    rfl
  · have := h.map fun v => match v with | .int i => i | _ => 0
    rw [List.map_map] at this
    simpa [Function.comp_def] using this
theorem rgV_rgI (n : Nat) : rgV 0 (n : Int) = (rgI n).map V.int := by
  unfold rgV rgI
  rw [List.map_map, show ((n : Int) - 0).toNat = n by omega]
  refine List.map_congr_left fun i _ => ?_
  show V.int (0 + (i : Int)) = V.int (i : Int)
  rw [Int.zero_add]
theorem rgI_len (n : Nat) : (rgI n).length = n := by
  unfold rgI
  rw [List.length_map, List.length_range]
theorem stpN_perm {o : List Int} {j : Nat} (h : j + 1 < o.length) : (stpN o j).Perm o := by
  conv => rhs; rw [split_at h]
  unfold stpN
  rw [List.append_assoc]
  exact List.Perm.append_left _ (List.Perm.swap _ _ _)
theorem set_stpN {o : List Int} {j : Nat} (h : j + 1 < o.length) : (o.set j (o.getD (j + 1) 0)).set (j + 1) (o.getD j 0) = stpN o j := by
  have e := split_at h
  have l : (o.take j).length = j := by rw [List.length_take]; omega
  unfold stpN
  generalize o.getD j 0 = x at e ⊢
  generalize o.getD (j + 1) 0 = y at e ⊢
  generalize o.take j = a at e l ⊢
  generalize o.drop (j + 2) = b at e ⊢
  subst e
  rw [List.set_append_right _ _ (by omega), List.set_append_right _ _ (by omega), l, Nat.sub_self, show j + 1 - j = 1 by omega, List.append_assoc]
  rfl
def spAnyO (K : PySem.W.Frag) : Sp := fun vs H Q _ => ∃ (G : Hp) (d c : Addr) (n : Nat), vs = [.ref d, .int (n : Nat)] ∧ Kn G H d c ∧ n ≤ 30 ∧
  ∀ (t : Addr) (o : List Int) (G' H' : Hp), Same G G' → Kn G' H' d c → G' t = some (.tup (o.map V.int)) → o.Perm (rgI n) → Q (.ref t) H'
theorem ok_any_order (T : Tx K mg) : FnOk P w K mg base CX0 3 T.f_l_any_order T.d_l_any_order ["_law_source_here", "_law_n"] (spAnyO K) := by
  have G_l_pick := ok_pick (P := P) (w := w) (base := base) T
  have G_l_mixed := ok_mixed (P := P) (w := w) (base := base) T
  refine T.F_l_any_order.ok sc_l_any_order (fun vs H Q E h => ?_) (fun cdv A outer s H vs Q E hr h => ?_)
  · obtain ⟨G, d, c, n, rfl, _⟩ := h
    rfl
  · obtain ⟨G, d, c, n, rfl, k, hn, q⟩ := h
    refine ⟨_, (pss_cons (ps_par (i := 2) (j := 3) (by rfl) sc_l_any_order.nd rfl rfl (by decide) rfl rfl (pa_cons (pe_call G_l_pick (hr.mono (by decide)) (by rfl) T.g_l_pick T.F_l_pick.kp T.b_l_pick .nil pass0 (pa_cons (pv 0) (pa_cons pe_int pa_nil))) (pa_cons (pe_listRg rfl (by rfl) T.z_list (prg_1 (by rfl) T.z_range (pv 1))) pa_nil)) (by rfl))
    (pss_cons (ps_if (pt_cmpR op_eq (pv 2) pe_int (nomark _)) (pss_one (ps_ret (pe_callTy call_tuple_of (by rfl) T.z_tuple (by decide +kernel) (pa_cons (pe_revL (pv 3)) pa_nil)))) pss_nil)
    (pss_cons (ps_if (PW.pt (pw_and (pt_cmpR op_eq (pv 2) pe_int (nomark _)) (pw_and1 (pt_cmpR op_gt (pv 1) pe_int (nomark _))))) (pss_cons (ps_set (i := 4) sc_l_any_order.nd rfl (Or.inl rfl) (pe_call G_l_pick (hr.mono (by decide)) (by rfl) T.g_l_pick T.F_l_pick.kp T.b_l_pick .nil pass0 (pa_cons (pv 0) (pa_cons (pe_op op_sub (pv 1) pe_int) pa_nil))))
    (pss_one (ps_asg (pe_tup (pa_cons (pe_ix ix_list (pv 3) (pe_op op_add (pv 4) pe_int) (fun _ _ => rfl)) (pa_cons (pe_ix ix_list (pv 3) (pv 4) (fun _ _ => rfl)) pa_nil))) (pg_tup rfl (pgs_cons (pg_sub (pv 3) (pv 4) set_list) (pgs_cons (pg_sub (pv 3) (pe_op op_add (pv 4) pe_int) set_list) pgs_nil)))))) pss_nil)
    (pss_one (ps_ret (pe_callTy call_tuple_of (by rfl) T.z_tuple (by decide +kernel) (pa_cons (pe_ifExp (pt_cmpR op_lt (pv 2) pe_int (nomark _)) (pv 3) (pe_call G_l_mixed (hr.mono (by decide)) (by rfl) T.g_l_mixed T.F_l_mixed.kp T.b_l_mixed .nil pass0 (pa_cons (pv 0) (pa_cons (pv 3) pa_nil)))) pa_nil))))))), ?_⟩
    refine ⟨.ref d, rfl, G, d, c, 6, rfl, k, by omega, fun turn H1 k1 t0 t1 => ?_⟩
    refine ⟨.int (n : Nat), rfl, (n : Int), rfl, RgOk.of_le (by decide) (by omega) (by decide) (by omega), fun r hr => ?_⟩
    rw [rgV_rgI]
    have gr : G r = none := k1.free hr
    have sr : Same G (upd G r (.lst ((rgI n).map V.int))) := same_new gr
    have k2 := k1.new (o := .lst ((rgI n).map V.int)) hr
    generalize upd H1 r (.lst ((rgI n).map V.int)) = H2 at k2
    refine ⟨_, _, rfl, ?_⟩
    have hr2 := k2.le r _ upd_same
    refine ⟨.int turn, rfl, rfl, _, rfl, ite2 (fun hb => ?_) (fun hb => ?_)⟩
    · refine ⟨.ref r, rfl, r, _, rfl, .inl (.inl hr2), fun p hp => ?_⟩
      have k3 := k2.new (o := .lst ((rgI n).map V.int).reverse) hp
      have gp : (upd G r (.lst ((rgI n).map V.int))) p = none := k2.free hp
      refine ⟨p, _, rfl, .inl ⟨.inl (.inl upd_same), fun l hl => ?_⟩⟩
      rw [← List.map_reverse] at k3 hl ⊢
      have k4 := k3.new (o := .tup ((rgI n).reverse.map V.int)) hl
      exact q l _ _ _ ((sr.trans (same_new gp)).trans (same_new (k3.free hl))) k4 upd_same (List.reverse_perm _)
    · refine ⟨.int turn, rfl, rfl, _, rfl, ?_⟩
      refine ift (fun b H' => H' = H2 ∧ (b = true → 1 < n)) ⟨rfl, fun z => by cases z⟩ (fun b H' e => ?_) (fun Y hY => ?_)
      · obtain ⟨rfl, e2⟩ := e
        refine ifs (fun σ' H' => ∃ (v4 : Option V) (ws : List Int), σ' = [some (.ref d), some (.int (n : Nat)), some (.int turn), some (.ref r), v4] ∧ Kn (upd G r (.lst (ws.map V.int))) H' d c ∧ ws.Perm (rgI n)) (fun σ' H' ⟨v4, ws, e, k3, pm⟩ => ?_) (fun hb N hN => ?_) (fun hb N hN => hN _ _ ⟨_, _, rfl, k2, List.Perm.refl _⟩)
        · subst e
          have hr3 := k3.le r _ upd_same
          have srw : Same G (upd G r (.lst (ws.map V.int))) := same_new gr
          refine ⟨.int turn, rfl, _, _, rfl, rfl, _, rfl, ite2 (fun hb => ?_) (fun hb => ?_)⟩
          · refine ⟨.ref r, rfl, r, _, rfl, .inl ⟨.inl (.inl hr3), fun l hl => ?_⟩⟩
            exact q l _ _ _ (srw.trans (same_new (k3.free hl))) (k3.new hl) upd_same pm
          · refine ⟨.ref d, rfl, .ref r, rfl, _, d, c, r, _, rfl, k3, .inl (.inl upd_same), ?_, fun l ys G' H3 s3 k4 hl pm2 _ => ?_⟩
            · rw [List.length_map, pm.length_eq, rgI_len]
              omega
            · obtain ⟨zs, rfl, pz⟩ := perm_ints pm2
              refine ⟨l, _, rfl, .inl ⟨.inl (.inl (k4.le _ _ hl)), fun t ht => ?_⟩⟩
              exact q t _ _ _ ((srw.trans s3).trans (same_new (k4.free ht))) (k4.new ht) upd_same (pz.trans pm)
        · have n1 := e2 hb
          refine ⟨.ref d, rfl, .int (n : Nat), rfl, _, _, rfl, rfl, _, d, c, (n : Int) - 1, rfl, k2, by omega, fun j H3 k3 j0 j1 => ?_⟩
          obtain ⟨i, rfl⟩ : ∃ i : Nat, j = i := ⟨j.toNat, by omega⟩
          have hi : i + 1 < (rgI n).length := by rw [rgI_len]; omega
          have hr3 := k3.le r _ upd_same
          have a1 : atI ((rgI n).map V.int) ((i : Int) + 1) = some (.int ((rgI n).getD (i + 1) 0)) := o_at (j := i + 1) hi
          have a2 : atI ((rgI n).map V.int) (i : Int) = some (.int ((rgI n).getD i 0)) := o_at (by omega)
          refine ⟨.ref r, rfl, .int (i : Nat), rfl, _, _, rfl, rfl, r, _, _, _, rfl, rfl, .inl (.inl hr3), a1, .ref r, rfl, .int (i : Nat), rfl, r, _, _, _, rfl, rfl, .inl (.inl hr3), a2, (by show 2 ≤ sizeLine; decide), fun Z hZ => ?_⟩
          have k4 := (k3.new (o := .tup [.int ((rgI n).getD (i + 1) 0), .int ((rgI n).getD i 0)]) hZ).weak (same_new (k3.free hZ))
          have hz4 : (upd H3 Z (.tup [.int ((rgI n).getD (i + 1) 0), .int ((rgI n).getD i 0)])) Z = some (.tup [.int ((rgI n).getD (i + 1) 0), .int ((rgI n).getD i 0)]) := upd_same
          generalize upd H3 Z (.tup [.int ((rgI n).getD (i + 1) 0), .int ((rgI n).getD i 0)]) = H4 at k4 hz4
          have hr4 := k4.le r _ upd_same
          have hlen : ((rgI n).map V.int).length = n := by rw [List.length_map, rgI_len]
          have hlen2 : (((rgI n).map V.int).set i (.int ((rgI n).getD (i + 1) 0))).length = n := by rw [List.length_set, hlen]
          refine ⟨Z, [.int ((rgI n).getD (i + 1) 0), .int ((rgI n).getD i 0)], rfl, .inl (.inl hz4), rfl, .int ((rgI n).getD (i + 1) 0), [.int ((rgI n).getD i 0)], rfl, .ref r, rfl, .int (i : Nat), rfl, r, _, _, i, rfl, rfl, hr4, by rw [hlen]; exact ixN_nat (by rw [rgI_len] at hi; omega), ?_⟩
          have k5 := k4.set (o' := .lst (((rgI n).map V.int).set i (.int ((rgI n).getD (i + 1) 0))))
          have hr5 := k5.le r _ upd_same
          refine ⟨.int ((rgI n).getD i 0), [], rfl, .ref r, rfl, .int (i : Nat), rfl, _, _, rfl, rfl, r, _, _, i + 1, rfl, rfl, hr5, by rw [hlen2]; exact ixN_nat (i := i + 1) (by rw [rgI_len] at hi; omega), ?_⟩
          have k6 := k5.set (o' := .lst ((((rgI n).map V.int).set i (.int ((rgI n).getD (i + 1) 0))).set (i + 1) (.int ((rgI n).getD i 0))))
          have es : (((rgI n).map V.int).set i (.int ((rgI n).getD (i + 1) 0))).set (i + 1) (.int ((rgI n).getD i 0)) = (stpN (rgI n) i).map V.int := by
            rw [← List.map_set, ← List.map_set, set_stpN hi]
          rw [es] at k6 ⊢
          exact ⟨rfl, hN _ _ ⟨_, _, rfl, k6, stpN_perm hi⟩⟩
      · refine ⟨.int (n : Nat), rfl, _, _, rfl, rfl, _, rfl, hY _ _ ⟨rfl, fun z => ?_⟩⟩
        have := of_decide_eq_true z
        omega
end

section
variable {P : Program} {w : World} {K : PySem.W.Frag} {mg : Str → Option Value} {base : Heap}
theorem dp_il {K : PySem.W.Frag} {H : Hp} {t : Addr} {r : List Int} (h : SqL K H t (r.map V.int)) : Dp K H (.ref t) (.list (r.map .int)) := .lst h (dp_ints r)
theorem shp_il (r : List Int) : SeqAt.shaped (.list (r.map .int)) = true := by
  have h := shp_row r
  unfold SeqAt.shaped dR at *
  simpa [PyData.canLay0, PyData.depth] using h
theorem eqv_nl (ds : List PyData) : PyData.eqv (.list ds) (.list []) = ds.isEmpty := by
  cases ds <;> simp [PyData.eqv, PyData.eqvAll]
theorem lvf_app (s : List Int) {o' : List Int} {i : Int} (hi : i ∈ stps o') (k : Nat) : lvf o' ((i :: s).map PyData.int) k = lvf (stp o' i) (s.map PyData.int) (k + 1) := by
  show (if okL o' (.int i) = true then lvf (stp o' i) (s.map PyData.int) (k + 1) else some k) = _
  exact if_pos (decide_eq_true hi)
/-- a level row -/
structure LRow (o r : List Int) : Prop where
  ok : lvf o (r.map PyData.int) 0 = none
  mem : ∀ x ∈ r, 1 ≤ x ∧ x < o.length
  len : r.length ≤ inv o
def spDrawn (K : PySem.W.Frag) : Sp := fun vs H Q _ => ∃ (G : Hp) (d c t : Addr) (o : List Int), vs = [.ref d, .ref t] ∧ Kn G H d c ∧ SqT K G t (o.map V.int) ∧ o.length ≤ 30 ∧
  ∀ (l : Addr) (r : List Int) (G' H' : Hp), Same G G' → Kn G' H' d c → G' l = some (.lst (r.map V.int)) → LRow o r → Q (.ref l) H'
theorem ok_drawn (T : Tx K mg) : FnOk P w K mg base CX0 3 T.f_l_drawn_row T.d_l_drawn_row ["_law_source_here", "_law_order"] (spDrawn K) := by
  have G_l_of := ok_of (P := P) (w := w) (base := base) T
  have G_l_steps := ok_lsteps (P := P) (w := w) (base := base) T
  have G_l_stepped := ok_lstepped (P := P) (w := w) (base := base) T
  refine T.F_l_drawn_row.ok sc_l_drawn_row (fun vs H Q E h => ?_) (fun cdv A outer s H vs Q E hr h => ?_)
  · obtain ⟨G, d, c, t, o, rfl, _⟩ := h
    rfl
  · obtain ⟨G, d, c, t, o, rfl, k, hT, ol, q⟩ := h
    refine ⟨_, (pss_cons (ps_set (i := 2) sc_l_drawn_row.nd rfl (Or.inl rfl) (pe_lst pa_nil))
    (pss_cons (ps_for PassesOwn.never rfl (pi_range1 rfl T.z_range (pa_cons (pe_op op_mul (pe_callB call_len_seq (by rfl) T.z_len PySem.boot_len (pa_cons (pv 1) pa_nil)) (pe_callB call_len_seq (by rfl) T.z_len PySem.boot_len (pa_cons (pv 1) pa_nil))) pa_nil)) (pg_name (i := 3) sc_l_drawn_row.nd rfl (Or.inl rfl))
    (pss_one (ps_if (pt_cmpR (op_neD hr.units) (pe_call G_l_steps (hr.mono (by decide)) (by rfl) T.g_l_steps T.F_l_steps.kp T.b_l_steps .nil pass0 (pa_cons (pv 1) pa_nil)) (pe_lst pa_nil) (nomark _)) (pss_cons (ps_expr (pe_bm PySem.F.plainAttrs_list PySem.F.slot_list_append PySem.F.type_list_append mt_append (pv 2) (pa_cons (pe_call G_l_of (hr.mono (by decide)) (by rfl) T.g_l_of T.F_l_of.kp T.b_l_of .nil pass0 (pa_cons (pv 0) (pa_cons (pe_call G_l_steps (hr.mono (by decide)) (by rfl) T.g_l_steps T.F_l_steps.kp T.b_l_steps .nil pass0 (pa_cons (pv 1) pa_nil)) pa_nil))) pa_nil)))
    (pss_one (ps_set (i := 1) sc_l_drawn_row.nd rfl (Or.inl rfl) (pe_call G_l_stepped (hr.mono (by decide)) (by rfl) T.g_l_stepped T.F_l_stepped.kp T.b_l_stepped .nil pass0 (pa_cons (pv 1) (pa_cons (pe_ix ix_list (pv 2) (pe_un un_neg pe_int) (fun _ _ => rfl)) pa_nil)))))) pss_nil)))
    (pss_one (ps_ret (pv 2))))), ?_⟩
    refine ⟨Nat.zero_le _, fun l hl => ?_⟩
    have gl : G l = none := k.free hl
    have k0 := k.new (o := .lst []) hl
    generalize upd H l (.lst []) = H0 at k0
    have il := inv_le o
    have ol2 : o.length * o.length ≤ 30 * 30 := Nat.mul_le_mul ol ol
    have hT0 : SqT K (upd G l (.lst [])) t (o.map V.int) := sameT (same_new gl) hT
    have lo : (o.map V.int).length = o.length := List.length_map ..
    refine ⟨.ref t, rfl, t, _, rfl, .inr (sameT k0.le hT0), .ref t, rfl, t, _, rfl, .inr (sameT k0.le hT0), _, _, rfl, rfl, ?_⟩
    rw [lo]
    have eJ : (o.length : Int) * (o.length : Int) = ((o.length * o.length : Nat) : Int) := by push_cast; rfl
    obtain ⟨N, hN⟩ : ∃ N, N = o.length * o.length := ⟨_, rfl⟩
    rw [← hN] at il ol2 eJ
    refine ⟨.inl ⟨by omega, by omega⟩, ?_⟩
    refine nil_i ⟨(N : Int), congrArg (fun z => [V.int z]) eJ, by omega, by omega, for_range (lo := 0) (n := (N : Int).toNat) (fun i σ H' => ∃ (r o' : List Int) (u : Addr) (v3 : Option V) (G' : Hp), σ = [some (.ref d), some (.ref u), some (.ref l), v3] ∧ Same G G' ∧ G' l = none ∧ Kn (upd G' l (.lst (r.map V.int))) H' d c ∧ SqT K G' u (o'.map V.int) ∧ o'.length = o.length ∧ r.length + inv o' = inv o ∧
      (∀ s : List Int, lvf o ((r ++ s).map PyData.int) 0 = lvf o' (s.map PyData.int) r.length) ∧ (∀ x ∈ r, 1 ≤ x ∧ x < o.length) ∧ (stps o' = [] ∨ i + inv o' ≤ inv o)) ⟨[], o, t, none, G, rfl, Same.refl G, gl, k0, hT, rfl, by simp, fun s => rfl, fun x hx => by simp at hx, .inr (by omega)⟩ ?_ ?_⟩
    · rintro i σ H1 hi ⟨r, o', u, v3, G1, rfl, sG, gl1, k1, hU, ol', en, hlv, hmem, hst⟩
      have hU1 : SqT K H1 u (o'.map V.int) := sameT k1.le (sameT (same_new gl1) hU)
      refine ⟨.ref u, rfl, u, o', rfl, hU1, by omega, fun m H2 s2 m0 hm => ?_⟩
      refine ⟨Nat.zero_le _, fun e he => ?_⟩
      have sE : Same H2 (upd H2 e (.lst [])) := same_new he
      refine ⟨.list ((stps o').map .int), .list [], dp_il (.inl (.inl (sE _ _ hm))), .lst (.inl (.inl upd_same)) .nil, shp_il _, by decide +kernel, _, rfl, ?_⟩
      rw [eqv_nl]
      have k3 := (k1.mono s2).mono sE
      have hU3 := sameT sE (sameT s2 hU1)
      generalize upd H2 e (.lst []) = H3 at k3 hU3
      cases hs : stps o' with
      | nil => exact iteF ⟨r, o', u, _, G1, rfl, sG, gl1, k3, hU, ol', en, hlv, hmem, .inl hs⟩
      | cons i0 tl =>
        refine iteT ?_
        rcases hst with hst | hst
        · rw [hst] at hs
          cases hs
        · obtain ⟨kA, gA, sA⟩ := know3 k3 gl1
          have hUA := know3_t k3 hU3
          generalize hide3 H3 d c l = GA at kA gA sA hUA
          have hl3 := kA.le l _ upd_same
          refine ⟨.ref l, rfl, .inl ⟨rfl, _, .inl (.inl hl3)⟩, ?_⟩
          refine ⟨.ref d, rfl, .ref u, rfl, u, o', rfl, hU3, by omega, fun m2 H4 s4 m20 hm2 => ?_⟩
          have kB := kA.add s4 m20 hm2
          have gm2 := kA.free m20
          refine ⟨_, d, c, m2, _, rfl, kB, .inl (.inl upd_same), ?_, ?_, fun x H5 k5 hx => ?_⟩
          · rw [List.length_map, hs]
            simp
          · rw [List.length_map]
            have := stps_len o'
            omega
          · obtain ⟨z, hz, rfl⟩ := List.mem_map.mp hx
            have k6 := k5.weak (same_new gm2)
            have hl6 := k6.le l _ upd_same
            refine ⟨l, _, _, rfl, rfl, hl6, ?_, ?_⟩
            · rw [List.length_map]
              exact small1000' (by omega)
            · have k7 := k6.set (o' := .lst (r.map V.int ++ [.int z]))
              have hU7 : SqT K (upd H5 l (.lst (r.map V.int ++ [.int z]))) u (o'.map V.int) := sameT k7.le (sameT (same_new gA) hUA)
              generalize upd H5 l (.lst (r.map V.int ++ [.int z])) = H7 at k7 hU7
              have hl7 := k7.le l _ upd_same
              obtain ⟨z1, z2⟩ := stps_lo hz
              have hlt := inv_stp hz
              refine ⟨.ref u, rfl, .ref l, rfl, _, rfl, l, _, _, _, rfl, rfl, .inl (.inl hl7), last_at _ _, ?_⟩
              refine ⟨u, o', z, rfl, hU7, by omega, z1, z2, fun v H8 s8 hV => ?_⟩
              have k8 := k7.mono s8
              obtain ⟨kC, gC, sC⟩ := know3 k8 gA
              have hVC := know3_t k8 hV
              generalize hide3 H8 d c l = GC at kC gC sC hVC
              have em : r.map V.int ++ [.int z] = (r ++ [z]).map V.int := by
                rw [List.map_append]
                rfl
              rw [em] at kC
              refine ⟨r ++ [z], stp o' z, v, _, GC, rfl, (sG.trans sA).trans sC, gC, kC, hVC, by rw [stp_len hz]; exact ol', ?_, fun s => ?_, fun x hx => ?_, .inr (by omega)⟩
              · rw [List.length_append, List.length_singleton]
                omega
              · rw [List.append_assoc, hlv, List.singleton_append, lvf_app s hz, List.length_append, List.length_singleton]
              · rcases List.mem_append.mp hx with hx | hx
                · exact hmem x hx
                · rw [List.mem_singleton] at hx
                  subst hx
                  omega
    · rintro σ H1 ⟨r, o', u, v3, G1, rfl, sG, gl1, k1, hU, ol', en, hlv, hmem, hst⟩
      have hz : stps o' = [] := by
        rcases hst with h | h
        · exact h
        · exact inv_none (by omega)
      refine ⟨.ref l, rfl, q l r _ H1 (sG.trans (same_new gl1)) k1 upd_same ⟨?_, hmem, by omega⟩⟩
      have := hlv []
      rw [List.append_nil] at this
      rw [this]
      show lvf o' [] r.length = none
      unfold lvf
      rw [if_pos hz]
end

section
variable {P : Program} {w : World} {K : PySem.W.Frag} {mg : Str → Option Value} {base : Heap}
theorem ok_lfirst (T : Tx K mg) : FnOk P w K mg base CX0 2 T.f_l_first T.d_l_first ["_law_order"] (spFirst K) := by
  have G_l_steps := ok_lsteps (P := P) (w := w) (base := base) T
  have G_l_stepped := ok_lstepped (P := P) (w := w) (base := base) T
  refine T.F_l_first.ok sc_l_first (fun vs H Q E h => ?_) (fun cdv A outer s H vs Q E hr h => ?_)
  · obtain ⟨t, o, rfl, _⟩ := h
    rfl
  · obtain ⟨t, o, rfl, hT, ol, q⟩ := h
    refine ⟨_, (pss_cons (ps_set (i := 1) sc_l_first.nd rfl (Or.inl rfl) (pe_lst pa_nil))
    (pss_cons (ps_for PassesOwn.never rfl (pi_range1 rfl T.z_range (pa_cons (pe_op op_mul (pe_callB call_len_seq (by rfl) T.z_len PySem.boot_len (pa_cons (pv 0) pa_nil)) (pe_callB call_len_seq (by rfl) T.z_len PySem.boot_len (pa_cons (pv 0) pa_nil))) pa_nil)) (pg_name (i := 2) sc_l_first.nd rfl (Or.inl rfl))
    (pss_one (ps_if (pt_cmpR (op_neD hr.units) (pe_call G_l_steps (hr.mono (by decide)) (by rfl) T.g_l_steps T.F_l_steps.kp T.b_l_steps .nil pass0 (pa_cons (pv 0) pa_nil)) (pe_lst pa_nil) (nomark _)) (pss_cons (ps_expr (pe_bm PySem.F.plainAttrs_list PySem.F.slot_list_append PySem.F.type_list_append mt_append (pv 1) (pa_cons (pe_ix ix_list (pe_call G_l_steps (hr.mono (by decide)) (by rfl) T.g_l_steps T.F_l_steps.kp T.b_l_steps .nil pass0 (pa_cons (pv 0) pa_nil)) pe_int (fun _ _ => rfl)) pa_nil)))
    (pss_one (ps_set (i := 0) sc_l_first.nd rfl (Or.inl rfl) (pe_call G_l_stepped (hr.mono (by decide)) (by rfl) T.g_l_stepped T.F_l_stepped.kp T.b_l_stepped .nil pass0 (pa_cons (pv 0) (pa_cons (pe_ix ix_list (pv 1) (pe_un un_neg pe_int) (fun _ _ => rfl)) pa_nil)))))) pss_nil)))
    (pss_one (ps_ret (pv 1))))), ?_⟩
    refine ⟨Nat.zero_le _, fun l hl => ?_⟩
    have s0 : Same H (upd H l (.lst [])) := same_new hl
    have hL0 : (upd H l (.lst [])) l = some (.lst []) := upd_same
    generalize upd H l (.lst []) = H0 at s0 hL0
    have hT0 := sameT s0 hT
    have il := inv_le o
    have ol2 : o.length * o.length ≤ 30 * 30 := Nat.mul_le_mul ol ol
    have lo : (o.map V.int).length = o.length := List.length_map ..
    refine ⟨.ref t, rfl, t, _, rfl, .inr hT0, .ref t, rfl, t, _, rfl, .inr hT0, _, _, rfl, rfl, ?_⟩
    rw [lo]
    have eJ : (o.length : Int) * (o.length : Int) = ((o.length * o.length : Nat) : Int) := by push_cast; rfl
    obtain ⟨N, hN⟩ : ∃ N, N = o.length * o.length := ⟨_, rfl⟩
    rw [← hN] at il ol2 eJ
    refine ⟨.inl ⟨by omega, by omega⟩, ?_⟩
    refine nil_i ⟨(N : Int), congrArg (fun z => [V.int z]) eJ, by omega, by omega, for_range (lo := 0) (n := (N : Int).toNat) (fun i σ H' => ∃ (r o' : List Int) (u : Addr) (v3 : Option V), σ = [some (.ref u), some (.ref l), v3] ∧ Same H H' ∧ H' l = some (.lst (r.map V.int)) ∧ SqT K H' u (o'.map V.int) ∧ o'.length = o.length ∧ r.length + inv o' = inv o ∧
      r ++ fstR (inv o') o' = fstR (inv o) o ∧ (stps o' = [] ∨ i + inv o' ≤ inv o)) ⟨[], o, t, none, rfl, s0, hL0, hT0, rfl, by simp, rfl, .inr (by omega)⟩ ?_ ?_⟩
    · rintro i σ H1 hi ⟨r, o', u, v3, rfl, sm, hL, hU, ol', en, er, hst⟩
      refine ⟨.ref u, rfl, u, o', rfl, hU, by omega, fun m H2 s2 m0 hm => ?_⟩
      refine ⟨Nat.zero_le _, fun e he => ?_⟩
      have sE : Same H2 (upd H2 e (.lst [])) := same_new he
      refine ⟨.list ((stps o').map .int), .list [], dp_il (.inl (.inl (sE _ _ hm))), .lst (.inl (.inl upd_same)) .nil, shp_il _, by decide +kernel, _, rfl, ?_⟩
      rw [eqv_nl]
      have hL3 := sE _ _ (s2 _ _ hL)
      have hU3 := sameT sE (sameT s2 hU)
      have s3 := (sm.trans s2).trans sE
      generalize upd H2 e (.lst []) = H3 at hL3 hU3 s3
      cases hs : stps o' with
      | nil => exact iteF ⟨r, o', u, _, rfl, s3, hL3, hU3, ol', en, er, .inl hs⟩
      | cons i0 tl =>
        refine iteT ?_
        rcases hst with hst | hst
        · rw [hst] at hs
          cases hs
        · refine ⟨.ref l, rfl, .inl ⟨rfl, _, .inl (.inl hL3)⟩, ?_⟩
          refine ⟨.ref u, rfl, u, o', rfl, hU3, by omega, fun m2 H4 s4 m20 hm2 => ?_⟩
          have a0 : atI ((stps o').map V.int) 0 = some (.int i0) := by
            rw [hs]
            exact atI_nat (j := 0) rfl
          refine ⟨m2, _, _, _, rfl, rfl, .inl (.inl hm2), a0, ?_⟩
          have hL4 := s4 _ _ hL3
          have hi0 : i0 ∈ stps o' := by rw [hs]; simp
          obtain ⟨z1, z2⟩ := stps_lo hi0
          have hlt := inv_stp hi0
          refine ⟨l, _, _, rfl, rfl, hL4, ?_, ?_⟩
          · rw [List.length_map]
            exact small1000' (by omega)
          · have hU5 : SqT K (upd H4 l (.lst (r.map V.int ++ [.int i0]))) u (o'.map V.int) := sqt_off hL4 (sameT s4 hU3)
            have hL5 : (upd H4 l (.lst (r.map V.int ++ [.int i0]))) l = some (.lst (r.map V.int ++ [.int i0])) := upd_same
            have s5 : Same H (upd H4 l (.lst (r.map V.int ++ [.int i0]))) := fun b x e => by
              rw [upd_ne (ne_of_none e hl)]
              exact s4 _ _ (s3 _ _ e)
            generalize upd H4 l (.lst (r.map V.int ++ [.int i0])) = H5 at hU5 hL5 s5
            refine ⟨.ref u, rfl, .ref l, rfl, _, rfl, l, _, _, _, rfl, rfl, .inl (.inl hL5), last_at _ _, ?_⟩
            refine ⟨u, o', i0, rfl, hU5, by omega, z1, z2, fun v H6 s6 hV => ?_⟩
            refine ⟨r ++ [i0], stp o' i0, v, _, rfl, s5.trans s6, ?_, hV, by rw [stp_len hi0]; exact ol', ?_, ?_, .inr (by omega)⟩
            · rw [s6 _ _ hL5, List.map_append]
              rfl
            · rw [List.length_append, List.length_singleton]
              omega
            · rw [← er, fstR_step hs, List.append_assoc]
              rfl
    · rintro σ H1 ⟨r, o', u, v3, rfl, sm, hL, hU, ol', en, er, hst⟩
      have hz : stps o' = [] := by
        rcases hst with h | h
        · exact h
        · exact inv_none (by omega)
      rw [fstR_none hz, List.append_nil] at er
      rw [er] at hL
      exact ⟨.ref l, rfl, q l H1 sm hl hL⟩
/-- why anything is no level row -/
def spVerdict (K : PySem.W.Frag) : Sp := fun vs H Q _ => ∃ (t a : Addr) (o : List Int) (xs : List V) (ds : List PyData), vs = [.ref t, .ref a] ∧ SqT K H t (o.map V.int) ∧ o.length ≤ 1000 ∧ SqL K H a xs ∧ xs.length = ds.length ∧ xs.length ≤ 10000 ∧
  (∀ (j : Nat) (x : V), xs[j]? = some x → ∃ d, ds[j]? = some d ∧ Lf K H x d) ∧ ∀ x H', Same H H' → Dp K H' x (dJ ((lvf o ds 0).map some)) → Q x H'
theorem ok_verdict (T : Tx K mg) : FnOk P w K mg base CX0 2 T.f_l_verdict T.d_l_verdict ["_law_order", "_law_value"] (spVerdict K) := by
  have G_l_steps := ok_lsteps (P := P) (w := w) (base := base) T
  have G_l_stepped := ok_lstepped (P := P) (w := w) (base := base) T
  refine T.F_l_verdict.ok sc_l_verdict (fun vs H Q E h => ?_) (fun cdv A outer s H vs Q E hr h => ?_)
  · obtain ⟨t, a, o, xs, ds, rfl, _⟩ := h
    rfl
  · obtain ⟨t, a, o, xs, ds, rfl, hT, ol, hA, hlen, hl2, hx, q⟩ := h
    refine ⟨_, (pss_cons (ps_if (pt_not (pt_val (pe_callB call_isiT (by rfl) T.z_isinstance (by decide +kernel) (pa_cons (pv 1) (pa_cons (pe_tup (pa_cons (pe_bltn (v := .ty "list") (by rfl) T.z_list (by decide +kernel) rfl) (pa_cons (pe_bltn (v := .ty "tuple") (by rfl) T.z_tuple (by decide +kernel) rfl) pa_nil))) pa_nil))))) (pss_one (ps_ret (pe_tup (pa_cons pe_str pa_nil)))) pss_nil)
    (pss_cons (ps_for PassesOwn.never rfl (pi_range1 rfl T.z_range (pa_cons (pe_callB call_len_seq (by rfl) T.z_len PySem.boot_len (pa_cons (pv 1) pa_nil)) pa_nil)) (pg_name (i := 2) sc_l_verdict.nd rfl (Or.inl rfl))
    (pss_cons (ps_if (PW.pt (pw_or (pt_not (pt_val (pe_callB call_isi (by rfl) T.z_isinstance (by decide +kernel) (pa_cons (pe_ix ix_list (pv 1) (pv 2) (fun _ _ => rfl)) (pa_cons (pe_bltn (v := .ty "int") (by rfl) T.z_int (by decide +kernel) rfl) pa_nil))))) (pw_or (pt_val (pe_callB call_isi (by rfl) T.z_isinstance (by decide +kernel) (pa_cons (pe_ix ix_list (pv 1) (pv 2) (fun _ _ => rfl)) (pa_cons (pe_bltn (v := .ty "bool") (by rfl) T.z_bool (by decide +kernel) rfl) pa_nil)))) (pw_or1 (pt_cmpR op_notIn_seq (pe_ix ix_list (pv 1) (pv 2) (fun _ _ => rfl)) (pe_call G_l_steps (hr.mono (by decide)) (by rfl) T.g_l_steps T.F_l_steps.kp T.b_l_steps .nil pass0 (pa_cons (pv 0) pa_nil)) (by rfl)))))) (pss_one (ps_ret (pe_tup (pa_cons pe_str (pa_cons (pv 2) pa_nil))))) pss_nil)
    (pss_one (ps_set (i := 0) sc_l_verdict.nd rfl (Or.inl rfl) (pe_call G_l_stepped (hr.mono (by decide)) (by rfl) T.g_l_stepped T.F_l_stepped.kp T.b_l_stepped .nil pass0 (pa_cons (pv 0) (pa_cons (pe_ix ix_list (pv 1) (pv 2) (fun _ _ => rfl)) pa_nil)))))))
    (pss_one (ps_ret (pe_ifExp (pt_cmpR (op_eqD hr.units) (pe_call G_l_steps (hr.mono (by decide)) (by rfl) T.g_l_steps T.F_l_steps.kp T.b_l_steps .nil pass0 (pa_cons (pv 0) pa_nil)) (pe_lst pa_nil) (nomark _)) pe_non (pe_tup (pa_cons pe_str (pa_cons (pe_callB call_len_seq (by rfl) T.z_len PySem.boot_len (pa_cons (pv 1) pa_nil)) pa_nil)))))))), ?_⟩
    refine ⟨.ref a, rfl, (by show 2 ≤ sizeLine; decide), fun tp htp => ?_⟩
    have s1 : Same H (upd H tp (.tup [.ty "list", .ty "tuple"])) := same_new htp
    have h1 : (upd H tp (.tup [.ty "list", .ty "tuple"])) tp = some (.tup [.ty "list", .ty "tuple"]) := upd_same
    generalize upd H tp (.tup [.ty "list", .ty "tuple"]) = H1 at s1 h1
    have pcl : Paired ClsV [.ty "list", .ty "tuple"] [.type "list", .type "tuple"] := .cons (.ty _) (.cons (.ty _) .nil)
    have hA1 := s1.seq hA
    refine nil_i ⟨.ref a, tp, _, .type "list", _, true, rfl, h1, pcl, ty_lst hA1, kit_lt (b1 := true) (b2 := false) (by decide +kernel) (by decide +kernel), true, rfl, iteF ?_⟩
    refine ⟨.ref a, rfl, a, xs, rfl, .inl hA1, xs.length, rfl, by omega, by omega, for_range (lo := 0) (n := (xs.length : Int).toNat) (fun i σ H' => ∃ (u : Addr) (o' : List Int) (v2 : Option V), σ = [some (.ref u), some (.ref a), v2] ∧ Same H H' ∧ SqT K H' u (o'.map V.int) ∧ o'.length = o.length ∧ lvf o' (ds.drop i) i = lvf o ds 0) ⟨t, o, none, rfl, s1, sameT s1 hT, rfl, rfl⟩ ?_ ?_⟩
    · rintro i σ H2 hi ⟨u, o', v2, rfl, sm, hU, ol', el⟩
      rw [Int.zero_add]
      have hi' : i < xs.length := by omega
      have hxi := List.getElem?_eq_getElem hi'
      obtain ⟨d, hd, hf⟩ := hx i _ hxi
      have ax : atI xs (i : Int) = some xs[i] := atI_nat hxi
      generalize xs[i] = x at hxi hf ax
      rw [lvf_at hd] at el
      have hA2 := sm.seq hA
      have hf2 := hf.mono sm
      have stop : okL o' d = false → ∀ H', Same H H' → tRet (tTup (tCons (tC (V.str (Str.ofString "levels"))) (tCons (tVar 2) tNil))) { nx := fun _ H' => Q .non H', rt := Q } [some (.ref u), some (.ref a), some (V.int (i : Nat))] H' := fun hk H' s' => by
        rw [hk] at el
        refine ⟨.int (i : Nat), rfl, (by show 2 ≤ sizeLine; decide), fun z hz => q _ _ (s'.trans (same_new hz)) ?_⟩
        rw [← el]
        exact .tup (.inl (.inl upd_same)) (.cons (.str _) (.cons (.int _) .nil))
      have noint : ∀ ty : String, (ty = "tuple" ∨ ty = "NoneType" ∨ ty = "str" ∨ ty = "list" ∨ ty = "dict") → kitB ty "int" = some false := fun ty h => by
        rcases h with rfl | rfl | rfl | rfl | rfl <;> decide +kernel
      cases lf_kd hf2 with
      | bl b =>
        refine ⟨.ref a, rfl, .int (i : Nat), rfl, a, xs, _, _, rfl, rfl, hA2, ax, _, .ty "int", _, _, true, rfl, .ty _, .base (.bl b), kit_ty (by decide +kernel), true, rfl, iteF ?_⟩
        exact ⟨.ref a, rfl, .int (i : Nat), rfl, a, xs, _, _, rfl, rfl, hA2, ax, _, .ty "bool", _, _, true, rfl, .ty _, .base (.bl b), kit_ty (by decide +kernel), true, rfl, iteT (iteT (stop rfl _ sm))⟩
      | tup ht hl hx' =>
        exact ⟨.ref a, rfl, .int (i : Nat), rfl, a, xs, _, _, rfl, rfl, hA2, ax, _, .ty "int", _, _, false, rfl, .ty _, ty_tup ht, kit_ty (noint _ (.inl rfl)), false, rfl, iteT (iteT (stop rfl _ sm))⟩
      | oth ty ht hty n1 n2 n3 =>
        have hk : okL o' d = false := by
          cases d with
          | int z => exact absurd rfl (n1 z)
          | _ => rfl
        exact ⟨.ref a, rfl, .int (i : Nat), rfl, a, xs, _, _, rfl, rfl, hA2, ax, _, .ty "int", _, _, false, rfl, .ty _, hty, kit_ty (noint _ (.inr ht)), false, rfl, iteT (iteT (stop hk _ sm))⟩
      | int z =>
        refine ⟨.ref a, rfl, .int (i : Nat), rfl, a, xs, _, _, rfl, rfl, hA2, ax, _, .ty "int", _, _, true, rfl, .ty _, .base (.int z), kit_ty (by decide +kernel), true, rfl, iteF ?_⟩
        refine ⟨.ref a, rfl, .int (i : Nat), rfl, a, xs, _, _, rfl, rfl, hA2, ax, _, .ty "bool", _, _, false, rfl, .ty _, .base (.int z), kit_ty (by decide +kernel), false, rfl, iteF ?_⟩
        refine ⟨.ref a, rfl, .int (i : Nat), rfl, a, xs, _, _, rfl, rfl, hA2, ax, .ref u, rfl, u, o', rfl, hU, by omega, fun m H3 s3 _ hm => ?_⟩
        refine ⟨m, _, rfl, .inl (.inl (.inl hm)), rfl, flat_ints _, ?_⟩
        refine ⟨!decide (z ∈ stps o'), congrArg V.bl (by rw [if_pos rfl, inV_ints]), ?_⟩
        by_cases hmem : z ∈ stps o'
        · rw [decide_eq_true hmem]
          refine iteF ?_
          obtain ⟨z1, z2⟩ := stps_lo hmem
          refine ⟨.ref u, rfl, .ref a, rfl, .int (i : Nat), rfl, a, xs, _, _, rfl, rfl, s3.seq hA2, ax, u, o', z, rfl, sameT s3 hU, by omega, z1, z2, fun v H4 s4 hV => ?_⟩
          refine ⟨v, stp o' z, _, rfl, (sm.trans s3).trans s4, hV, by rw [stp_len hmem]; exact ol', ?_⟩
          rw [show okL o' (.int z) = true from decide_eq_true hmem, if_pos rfl] at el
          exact el
        · rw [decide_eq_false hmem]
          exact iteT (stop (decide_eq_false hmem) _ (sm.trans s3))
    · rintro σ H2 ⟨u, o', v2, rfl, sm, hU, ol', el⟩
      have e0 : ds.drop (xs.length : Int).toNat = [] := by
        rw [show (xs.length : Int).toNat = ds.length by omega, List.drop_length]
      rw [e0] at el
      refine ⟨.ref u, rfl, u, o', rfl, hU, by omega, fun m H3 s3 _ hm => ?_⟩
      refine ⟨Nat.zero_le _, fun e he => ?_⟩
      have sE : Same H3 (upd H3 e (.lst [])) := same_new he
      refine ⟨.list ((stps o').map .int), .list [], dp_il (.inl (.inl (sE _ _ hm))), .lst (.inl (.inl upd_same)) .nil, shp_il _, by decide +kernel, _, rfl, ?_⟩
      rw [eqv_nl]
      have s4 := (sm.trans s3).trans sE
      generalize upd H3 e (.lst []) = H4 at s4
      rw [← el] at q
      unfold lvf at q
      cases hs : stps o' with
      | nil =>
        rw [hs] at q
        exact iteT (q _ _ s4 .non)
      | cons i0 tl =>
        rw [hs, if_neg (fun z => nomatch z)] at q
        refine iteF ⟨.ref a, rfl, a, xs, rfl, .inl (s4.seq hA), (by show 2 ≤ sizeLine; decide), fun z hz => ?_⟩
        rw [show (xs.length : Int).toNat = xs.length by omega] at q
        exact q _ _ (s4.trans (same_new hz)) (.tup (.inl (.inl upd_same)) (.cons (.str _) (.cons (.int _) .nil)))
end

/-! ### data that is short enough to be shown -/
structure Fit (d : PyData) : Prop where
  sh : d.showable = true
  dp : d.depth ≤ 10
  ls : d.leavesShort 40 = true
  bk : d.bulk ≤ 1100
theorem Fit.len {d : PyData} (h : Fit d) : d.shown.length ≤ sizeLine := by
  have h1 := PyData.shown_le_bulk 40 (by decide) d h.ls
  have h2 := h.bk
  rw [sizeLine_eq]
  omega
theorem fit_int {i : Int} (h0 : 0 ≤ i) (h : i < 1000000) : Fit (.int i) := by
  have s := shw_int h0 h
  refine ⟨s.sh, Nat.le_trans s.dp (by decide), ?_, Nat.le_trans s.bk (by decide)⟩
  have := s.ls
  simp only [PyData.leavesShort, decide_eq_true_eq] at this ⊢
  omega
theorem shw_fits : ∀ {ns : List Int}, (∀ x ∈ ns, 0 ≤ x ∧ x < 1000000) → PyData.showableAll (ns.map PyData.int) = true ∧ PyData.depthAll (ns.map PyData.int) ≤ 1 ∧ PyData.leavesShortAll 40 (ns.map PyData.int) = true ∧ PyData.bulkAll (ns.map PyData.int) = ns.length
  | [], _ => ⟨rfl, by simp [PyData.depthAll], rfl, by simp [PyData.bulkAll]⟩
  | n :: ns, h => by
    have hn := h n (by simp)
    have f := fit_int hn.1 hn.2
    obtain ⟨a1, a2, a3, a4⟩ := shw_fits (ns := ns) fun x hx => h x (by simp [hx])
    refine ⟨?_, ?_, ?_, ?_⟩
    · simp only [List.map_cons, PyData.showableAll, f.sh, a1, Bool.and_self]
    · simp only [List.map_cons, PyData.depthAll, PyData.depth]; omega
    · simp only [List.map_cons, PyData.leavesShortAll, f.ls, a3, Bool.and_self]
    · simp only [List.map_cons, PyData.bulkAll, PyData.bulk, a4, List.length_cons]; omega
theorem fit_row {ns : List Int} (h : ∀ x ∈ ns, 0 ≤ x ∧ x < 1000000) (hl : ns.length ≤ 1050) : Fit (.tuple (ns.map PyData.int)) := by
  obtain ⟨a1, a2, a3, a4⟩ := shw_fits h
  refine ⟨by simpa only [PyData.showable] using a1, ?_, by simpa only [PyData.leavesShort] using a3, ?_⟩
  · simp only [PyData.depth]; omega
  · simp only [PyData.bulk, a4]; omega
theorem fit_list {ns : List Int} (h : ∀ x ∈ ns, 0 ≤ x ∧ x < 1000000) (hl : ns.length ≤ 1050) : Fit (.list (ns.map PyData.int)) := by
  obtain ⟨a1, a2, a3, a4⟩ := shw_fits h
  refine ⟨by simpa only [PyData.showable] using a1, ?_, by simpa only [PyData.leavesShort] using a3, ?_⟩
  · simp only [PyData.depth]; omega
  · simp only [PyData.bulk, a4]; omega
/-- as an entry among whole numbers -/
structure FitE (d : PyData) : Prop where
  sh : d.showable = true
  dp : d.depth ≤ 8
  ls : d.leavesShort 40 = true
  bk : d.bulk ≤ 20
theorem FitE.fit {d : PyData} (h : FitE d) : Fit d := ⟨h.sh, Nat.le_trans h.dp (by decide), h.ls, Nat.le_trans h.bk (by decide)⟩
theorem fitE_int {i : Int} (h0 : 0 ≤ i) (h : i < 1000000) : FitE (.int i) := by
  have f := fit_int h0 h
  exact ⟨f.sh, by simp only [PyData.depth]; omega, f.ls, by simp only [PyData.bulk]; omega⟩
theorem fit_mix {d : PyData} (hd : FitE d) {post : List Int} (hp : ∀ x ∈ post, 0 ≤ x ∧ x < 1000000) : ∀ {pre : List Int}, (∀ x ∈ pre, 0 ≤ x ∧ x < 1000000) →
    PyData.showableAll (pre.map PyData.int ++ d :: post.map PyData.int) = true ∧ PyData.depthAll (pre.map PyData.int ++ d :: post.map PyData.int) ≤ 8 ∧ PyData.leavesShortAll 40 (pre.map PyData.int ++ d :: post.map PyData.int) = true ∧ PyData.bulkAll (pre.map PyData.int ++ d :: post.map PyData.int) ≤ pre.length + post.length + 21
  | [], _ => by
    obtain ⟨a1, a2, a3, a4⟩ := shw_fits hp
    have b1 := hd.dp
    have b2 := hd.bk
    refine ⟨?_, ?_, ?_, ?_⟩
    · simp only [List.map_nil, List.nil_append, PyData.showableAll, hd.sh, a1, Bool.and_self]
    · simp only [List.map_nil, List.nil_append, PyData.depthAll]; omega
    · simp only [List.map_nil, List.nil_append, PyData.leavesShortAll, hd.ls, a3, Bool.and_self]
    · simp only [List.map_nil, List.nil_append, PyData.bulkAll, a4, List.length_nil]; omega
  | n :: ns, h => by
    have hn := h n (by simp)
    have f := fit_int hn.1 hn.2
    obtain ⟨a1, a2, a3, a4⟩ := fit_mix hd hp (pre := ns) fun x hx => h x (by simp [hx])
    refine ⟨?_, ?_, ?_, ?_⟩
    · simp only [List.map_cons, List.cons_append, PyData.showableAll, f.sh, a1, Bool.and_self]
    · simp only [List.map_cons, List.cons_append, PyData.depthAll, PyData.depth]; omega
    · simp only [List.map_cons, List.cons_append, PyData.leavesShortAll, f.ls, a3, Bool.and_self]
    · simp only [List.map_cons, List.cons_append, PyData.bulkAll, PyData.bulk, List.length_cons]; omega
theorem fit_mixT {d : PyData} (hd : FitE d) {pre post : List Int} (h1 : ∀ x ∈ pre, 0 ≤ x ∧ x < 1000000) (h2 : ∀ x ∈ post, 0 ≤ x ∧ x < 1000000) (hl : pre.length + post.length ≤ 1050) : Fit (.tuple (pre.map PyData.int ++ d :: post.map PyData.int)) := by
  obtain ⟨a1, a2, a3, a4⟩ := fit_mix hd h2 h1
  refine ⟨by simpa only [PyData.showable] using a1, ?_, by simpa only [PyData.leavesShort] using a3, ?_⟩
  · simp only [PyData.depth]; omega
  · simp only [PyData.bulk]; omega
theorem fit_mixL {d : PyData} (hd : FitE d) {pre post : List Int} (h1 : ∀ x ∈ pre, 0 ≤ x ∧ x < 1000000) (h2 : ∀ x ∈ post, 0 ≤ x ∧ x < 1000000) (hl : pre.length + post.length ≤ 1050) : Fit (.list (pre.map PyData.int ++ d :: post.map PyData.int)) := by
  obtain ⟨a1, a2, a3, a4⟩ := fit_mix hd h2 h1
  refine ⟨by simpa only [PyData.showable] using a1, ?_, by simpa only [PyData.leavesShort] using a3, ?_⟩
  · simp only [PyData.depth]; omega
  · simp only [PyData.bulk]; omega

section
variable {P : Program} {w : World} {K : PySem.W.Frag} {mg : Str → Option Value} {base : Heap}
/-- whole numbers, with one value amid at times -/
inductive Bent (K : PySem.W.Frag) (G : Hp) : List V → List PyData → Prop
  | nums {ys : List Int} : (∀ x ∈ ys, 0 ≤ x ∧ x < 1000000) → ys.length ≤ 1000 → Bent K G (ys.map V.int) (ys.map PyData.int)
  | mix {pre post : List Int} {x : V} {e : PyData} : Lf K G x e → FitE e → (∀ x ∈ pre, 0 ≤ x ∧ x < 1000000) → (∀ x ∈ post, 0 ≤ x ∧ x < 1000000) → pre.length + post.length ≤ 1000 →
      Bent K G (pre.map V.int ++ x :: post.map V.int) (pre.map PyData.int ++ e :: post.map PyData.int)
theorem Bent.mono {K : PySem.W.Frag} {G G' : Hp} {xs : List V} {ds : List PyData} (h : Bent K G xs ds) (s : Same G G') : Bent K G' xs ds := by
  cases h with
  | nums a b => exact .nums a b
  | mix f e a b c => exact .mix (f.mono s) e a b c
theorem cut_fromA (us : List V) (n : Nat) : cutV us (some (n : Int)) none = us.drop n := by
  by_cases h : n ≤ us.length
  · exact cut_from us n h
  · unfold cutV
    rw [HT.sIx_nat, Nat.min_eq_right (by omega), List.drop_length, List.take_nil, List.drop_eq_nil_of_le (by omega)]
def spBent (K : PySem.W.Frag) : Sp := fun vs H Q _ => ∃ (G : Hp) (d c t a : Addr) (o r : List Int), vs = [.ref d, .ref t, .ref a] ∧ Kn G H d c ∧ SqT K G t (o.map V.int) ∧ o.length ≤ 30 ∧ G a = some (.lst (r.map V.int)) ∧ r.length ≤ 900 ∧ (∀ x ∈ r, 0 ≤ x ∧ x < 1000000) ∧
  ∀ (l : Addr) (xs : List V) (ds : List PyData) (G' H' : Hp), Same G G' → Kn G' H' d c → G' l = some (.lst xs) → Bent K G' xs ds → Q (.ref l) H'
theorem ok_bent (T : Tx K mg) : FnOk P w K mg base CX0 3 T.f_l_bent_row T.d_l_bent_row ["_law_source_here", "_law_order", "_law_row"] (spBent K) := by
  have G_l_pick := ok_pick (P := P) (w := w) (base := base) T
  have G_l_of := ok_of (P := P) (w := w) (base := base) T
  have G_l_mixed := ok_mixed (P := P) (w := w) (base := base) T
  refine T.F_l_bent_row.ok sc_l_bent_row (fun vs H Q E h => ?_) (fun cdv A outer s H vs Q E hr h => ?_)
  · obtain ⟨G, d, c, t, a, o, r, rfl, _⟩ := h
    rfl
  · obtain ⟨G, d, c, t, a, o, r, rfl, k, hT, ol, hR, rl, rm, q⟩ := h
    refine ⟨_, (pss_cons (ps_par (i := 3) (j := 4) (by rfl) sc_l_bent_row.nd rfl rfl (by decide) rfl rfl (pa_cons (pe_call G_l_pick (hr.mono (by decide)) (by rfl) T.g_l_pick T.F_l_pick.kp T.b_l_pick .nil pass0 (pa_cons (pv 0) (pa_cons pe_int pa_nil))) (pa_cons (pe_call G_l_pick (hr.mono (by decide)) (by rfl) T.g_l_pick T.F_l_pick.kp T.b_l_pick .nil pass0 (pa_cons (pv 0) (pa_cons (pe_op op_add (pe_callB call_len_seq (by rfl) T.z_len PySem.boot_len (pa_cons (pv 2) pa_nil)) pe_int) pa_nil))) pa_nil)) (by rfl))
    (pss_cons (ps_par (i := 5) (j := 6) (by rfl) sc_l_bent_row.nd rfl rfl (by decide) rfl rfl (pa_cons (pe_op op_add pe_int (pe_call G_l_pick (hr.mono (by decide)) (by rfl) T.g_l_pick T.F_l_pick.kp T.b_l_pick .nil pass0 (pa_cons (pv 0) (pa_cons (pe_callB (call_max2 rfl) (by rfl) T.z_max (by decide +kernel) (pa_cons pe_int (pa_cons (pe_op op_sub (pe_callB call_len_seq (by rfl) T.z_len PySem.boot_len (pa_cons (pv 1) pa_nil)) pe_int) pa_nil))) pa_nil)))) (pa_cons (pe_lst (pa_cons pe_non (pa_cons pe_bl (pa_cons pe_int (pa_cons (pe_un un_neg pe_int) (pa_cons (pe_callB call_len_seq (by rfl) T.z_len PySem.boot_len (pa_cons (pv 1) pa_nil)) (pa_cons pe_str (pa_cons (pe_lst pa_nil) (pa_cons pe_dnewK (pa_cons (pe_tup (pa_cons pe_int pa_nil)) (pa_cons (pe_lst (pa_cons pe_int pa_nil)) pa_nil))))))))))) pa_nil)) (by rfl))
    (pss_cons (ps_if (pt_cmpR op_eq (pv 3) pe_int (nomark _)) (pss_one (ps_ret (pe_op op_cat (pe_slice sl_list (pv 2) po_none (po_some (pv 4))) (pe_slice sl_list (pv 2) (po_some (pe_op op_add (pv 4) pe_int)) po_none)))) pss_nil)
    (pss_cons (ps_if (pt_cmpR op_eq (pv 3) pe_int (nomark _)) (pss_one (ps_ret (pe_op op_cat (pe_op op_cat (pe_slice sl_list (pv 2) po_none (po_some (pv 4))) (pe_lst (pa_cons (pv 5) pa_nil))) (pe_slice sl_list (pv 2) (po_some (pv 4)) po_none)))) pss_nil)
    (pss_cons (ps_if (pt_cmpR op_eq (pv 3) pe_int (nomark _)) (pss_one (ps_ret (pe_op op_cat (pe_op op_cat (pe_slice sl_list (pv 2) po_none (po_some (pv 4))) (pe_lst (pa_cons (pv 5) pa_nil))) (pe_slice sl_list (pv 2) (po_some (pe_op op_add (pv 4) pe_int)) po_none)))) pss_nil)
    (pss_cons (ps_if (pt_cmpR op_eq (pv 3) pe_int (nomark _)) (pss_one (ps_ret (pe_op op_cat (pe_revL (pe_slice sl_list (pv 2) po_none (po_some (pv 4)))) (pe_slice sl_list (pv 2) (po_some (pv 4)) po_none)))) pss_nil)
    (pss_cons (ps_if (pt_cmpR op_eq (pv 3) pe_int (nomark _)) (pss_one (ps_ret (pe_call G_l_mixed (hr.mono (by decide)) (by rfl) T.g_l_mixed T.F_l_mixed.kp T.b_l_mixed .nil pass0 (pa_cons (pv 0) (pa_cons (pv 2) pa_nil))))) pss_nil)
    (pss_one (ps_ret (pe_op op_cat (pe_op op_cat (pe_slice sl_list (pv 2) po_none (po_some (pv 4))) (pe_lst (pa_cons (pe_call G_l_of (hr.mono (by decide)) (by rfl) T.g_l_of T.F_l_of.kp T.b_l_of .nil pass0 (pa_cons (pv 0) (pa_cons (pe_op op_cat (pv 6) (pe_lst (pa_cons (pe_op op_pow pe_int pe_int) pa_nil))) pa_nil))) pa_nil))) (pe_slice sl_list (pv 2) (po_some (pe_op op_add (pv 4) pe_int)) po_none))))))))))), ?_⟩
    refine ⟨.ref d, rfl, G, d, c, 6, rfl, k, by omega, fun way H1 k1 w0 w1 => ?_⟩
    refine ⟨.ref d, rfl, .ref a, rfl, a, _, rfl, .inl (.inl (.inl (k1.le _ _ hR))), ?_⟩
    rw [List.length_map]
    refine ⟨_, _, rfl, rfl, G, d, c, (r.length : Int) + 1, rfl, k1, by omega, fun ati H2 k2 at0 at1 => ?_⟩
    obtain ⟨m, rfl⟩ : ∃ m : Nat, ati = m := ⟨ati.toNat, by omega⟩
    refine ⟨_, _, rfl, ?_⟩
    refine ⟨.ref d, rfl, .ref t, rfl, t, _, rfl, .inr (sameT k2.le hT), _, _, rfl, rfl, ?_⟩
    refine nil_i ⟨_, _, rfl, ?_⟩
    rw [List.length_map]
    have mx : ∃ mm : Int, (if (o.length : Int) - 1 > 1 then (o.length : Int) - 1 else 1) = mm ∧ 1 ≤ mm ∧ mm ≤ 30 := by
      refine ⟨_, rfl, ?_⟩
      split <;> omega
    obtain ⟨mm, hmm, mm1, mm2⟩ := mx
    rw [hmm]
    refine nil_i ⟨G, d, c, mm, rfl, k2, by omega, fun lv H3 k3 lv0 lv1 => ?_⟩
    refine ⟨_, _, rfl, rfl, ?_⟩
    have lvb : 0 ≤ 1 + lv ∧ 1 + lv < 1000000 := by omega
    refine ⟨_, rfl, .ref t, rfl, t, _, rfl, .inr (sameT k3.le hT), ?_⟩
    rw [List.length_map]
    have ol2 : (0 : Int) ≤ o.length ∧ (o.length : Int) < 1000000 := by omega
    generalize (o.length : Int) = on at ol2
    refine ⟨Nat.zero_le _, fun t1 h1 => ?_⟩
    have s1 : Same H3 (upd H3 t1 (.lst [])) := same_new h1
    have f1 : (upd H3 t1 (.lst [])) t1 = some (.lst []) := upd_same
    generalize upd H3 t1 (.lst []) = H4 at s1 f1
    intro t2 h2
    have s2 : Same H4 (upd H4 t2 (.dK [])) := same_new h2
    have f2 : (upd H4 t2 (.dK [])) t2 = some (.dK []) := upd_same
    generalize upd H4 t2 (.dK []) = H5 at s2 f2
    refine ⟨(by show 1 ≤ sizeLine; decide), fun t3 h3 => ?_⟩
    have s3 : Same H5 (upd H5 t3 (.tup [.int 1])) := same_new h3
    have f3 : (upd H5 t3 (.tup [.int 1])) t3 = some (.tup [.int 1]) := upd_same
    generalize upd H5 t3 (.tup [.int 1]) = H6 at s3 f3
    refine ⟨(by show 1 ≤ sizeLine; decide), fun t4 h4 => ?_⟩
    have s4 : Same H6 (upd H6 t4 (.lst [.int 1])) := same_new h4
    have f4 : (upd H6 t4 (.lst [.int 1])) t4 = some (.lst [.int 1]) := upd_same
    generalize upd H6 t4 (.lst [.int 1]) = H7 at s4 f4
    refine ⟨(by show 10 ≤ sizeLine; decide), fun od h5 => ?_⟩
    have hod : ∃ od1, od1 = [V.non, V.bl true, V.int 0, V.int (-1), V.int on, V.str (Str.ofString "1"), V.ref t1, V.ref t2, V.ref t3, V.ref t4] := ⟨_, rfl⟩
    obtain ⟨od1, hod⟩ := hod
    rw [← hod]
    have s5 : Same H7 (upd H7 od (.lst od1)) := same_new h5
    have f5 : (upd H7 od (.lst od1)) od = some (.lst od1) := upd_same
    generalize upd H7 od (.lst od1) = H8 at s5 f5
    refine ⟨_, _, rfl, ?_⟩
    have g1 := s5 _ _ (s4 _ _ (s3 _ _ (s2 _ _ f1)))
    have g2 := s5 _ _ (s4 _ _ (s3 _ _ f2))
    have g3 := s5 _ _ (s4 _ _ f3)
    have g4 := s5 _ _ f4
    have k4 := k3.mono s1
    have k5 := k4.mono s2
    have k6 := k5.mono s3
    have k7 := k6.mono s4
    have k8 := k7.mono s5
    have hid : ∀ {x : Addr} {ob : HO}, H8 x = some ob → x ≠ d → x ≠ c → hide H8 d c x = some ob := fun {x ob} e n1 n2 => by
      unfold hide
      rw [if_neg (by simp [n1, n2])]
      exact e
    have e1 := hid g1 (k3.src.some_d h1) (k3.src.some_c h1)
    have e2 := hid g2 (k4.src.some_d h2) (k4.src.some_c h2)
    have e3 := hid g3 (k5.src.some_d h3) (k5.src.some_c h3)
    have e4 := hid g4 (k6.src.some_d h4) (k6.src.some_c h4)
    have e5 := hid f5 (k7.src.some_d h5) (k7.src.some_c h5)
    have sG := know_le k8
    have kk := know k8
    generalize hide H8 d c = G8 at e1 e2 e3 e4 e5 sG kk
    have hR8 := kk.le _ _ (sG _ _ hR)
    have fin : ∀ (Hx : Hp) (xs : List V) (ds : List PyData), Kn G8 Hx d c → Bent K G8 xs ds → ∀ p, Hx p = none → Q (.ref p) (upd Hx p (.lst xs)) := fun Hx xs ds kx hb p hp =>
      q p xs ds (upd G8 p (.lst xs)) _ (sG.trans (same_new (kx.free hp))) (kx.new hp) upd_same (hb.mono (same_new (kx.free hp)))
    have cl : cutV (r.map V.int) none (some (m : Int)) = (r.take m).map V.int := by rw [cut_nat, List.map_take]
    have cr : ∀ z : Nat, cutV (r.map V.int) (some (z : Int)) none = (r.drop z).map V.int := fun z => by rw [cut_fromA, List.map_drop]
    have bt : ∀ x ∈ r.take m, 0 ≤ x ∧ x < 1000000 := fun x hx => rm x (List.mem_of_mem_take hx)
    have bd : ∀ z, ∀ x ∈ r.drop z, 0 ≤ x ∧ x < 1000000 := fun z x hx => rm x (List.mem_of_mem_drop hx)
    have lt : (r.take m).length ≤ 900 := by rw [List.length_take]; omega
    have ld : ∀ z, (r.drop z).length ≤ 900 := fun z => by rw [List.length_drop]; omega
    have sz : (2000 : Nat) ≤ sizeLine := by decide
    have hs : (0 : Int) ≤ (m : Int) ∧ (m : Int) + 1 = ((m + 1 : Nat) : Int) := ⟨by omega, by push_cast; rfl⟩
    refine ⟨.int way, rfl, rfl, _, rfl, ite2 (fun hb => ?_) (fun hb => ?_)⟩
    · refine ⟨.ref a, rfl, ?_⟩
      refine np_i ?_
      refine ⟨.int (m : Nat), rfl, (m : Int), rfl, ?_⟩
      refine ⟨a, _, rfl, .inl (.inl hR8), fun p1 hp1 => ?_⟩
      rw [cl]
      have sp1 := same_new (o := .lst ((r.take m).map V.int)) hp1
      have fp1 : (upd H8 p1 (.lst ((r.take m).map V.int))) p1 = _ := upd_same
      generalize upd H8 p1 (.lst ((r.take m).map V.int)) = H9 at sp1 fp1
      have kx := kk.mono sp1
      have hRx := sp1 _ _ hR8
      refine ⟨.ref a, rfl, .int (m : Nat), rfl, _, _, rfl, rfl, (m : Int) + 1, rfl, ?_⟩
      refine np_i ?_
      refine ⟨a, _, rfl, .inl (.inl hRx), fun p2 hp2 => ?_⟩
      rw [hs.2, cr (m + 1)]
      have sp2 := same_new (o := .lst ((r.drop (m + 1)).map V.int)) hp2
      have fp2 : (upd H9 p2 (.lst ((r.drop (m + 1)).map V.int))) p2 = _ := upd_same
      have fq := sp2 _ _ fp1
      generalize upd H9 p2 (.lst ((r.drop (m + 1)).map V.int)) = H10 at sp2 fp2 fq
      have ky := kx.mono sp2
      refine ⟨_, p2, _, _, rfl, rfl, fq, fp2, ?_, fun p hp => ?_⟩
      · have := ld (m + 1)
        simp only [List.length_append, List.length_map, List.length_cons, List.length_nil, List.length_reverse]
        omega
      · rw [← List.map_append]
        refine fin _ _ _ ky (.nums (fun x hx => ?_) ?_) p hp
        · rcases List.mem_append.mp hx with hx | hx
          · exact bt x hx
          · exact bd _ x hx
        · rw [List.length_append, List.length_take, List.length_drop]
          omega
    refine ⟨.int way, rfl, rfl, _, rfl, ite2 (fun hb => ?_) (fun hb => ?_)⟩
    · refine ⟨.ref a, rfl, ?_⟩
      refine np_i ?_
      refine ⟨.int (m : Nat), rfl, (m : Int), rfl, ?_⟩
      refine ⟨a, _, rfl, .inl (.inl hR8), fun p1 hp1 => ?_⟩
      rw [cl]
      have sp1 := same_new (o := .lst ((r.take m).map V.int)) hp1
      have fp1 : (upd H8 p1 (.lst ((r.take m).map V.int))) p1 = _ := upd_same
      generalize upd H8 p1 (.lst ((r.take m).map V.int)) = H9 at sp1 fp1
      have kx := kk.mono sp1
      have hRx := sp1 _ _ hR8
      refine ⟨.int (1 + lv), rfl, (by show 1 ≤ sizeLine; decide), fun p3 hp3 => ?_⟩
      have sp3 := same_new (o := .lst [.int (1 + lv)]) hp3
      have fp3 : (upd H9 p3 (.lst [.int (1 + lv)])) p3 = _ := upd_same
      have fr := sp3 _ _ fp1
      have hRy := sp3 _ _ hRx
      generalize upd H9 p3 (.lst [.int (1 + lv)]) = H11 at sp3 fp3 fr hRy
      refine ⟨p1, p3, _, _, rfl, rfl, fr, fp3, ?_, fun p4 hp4 => ?_⟩
      · rw [List.length_map, List.length_singleton]
        omega
      have sp4 := same_new (o := .lst ((r.take m).map V.int ++ [.int (1 + lv)])) hp4
      have fp4 : (upd H11 p4 (.lst ((r.take m).map V.int ++ [.int (1 + lv)]))) p4 = _ := upd_same
      have hRz := sp4 _ _ hRy
      have k13 := (kx.mono sp3).mono sp4
      generalize upd H11 p4 (.lst ((r.take m).map V.int ++ [.int (1 + lv)])) = H12 at sp4 fp4 hRz k13
      clear hRx kx fp1
      have hRx := hRz
      have kx := k13
      have fp1 := fp4
      refine ⟨.ref a, rfl, .int (m : Nat), rfl, (m : Int), rfl, ?_⟩
      refine np_i ?_
      refine ⟨a, _, rfl, .inl (.inl hRx), fun p2 hp2 => ?_⟩
      rw [cr m]
      have sp2 := same_new (o := .lst ((r.drop (m)).map V.int)) hp2
      have fp2 : (upd H12 p2 (.lst ((r.drop (m)).map V.int))) p2 = _ := upd_same
      have fq := sp2 _ _ fp1
      generalize upd H12 p2 (.lst ((r.drop (m)).map V.int)) = H13 at sp2 fp2 fq
      have ky := kx.mono sp2
      refine ⟨_, p2, _, _, rfl, rfl, fq, fp2, ?_, fun p hp => ?_⟩
      · have := ld (m)
        simp only [List.length_append, List.length_map, List.length_cons, List.length_nil, List.length_reverse]
        omega
      · have em : (r.take m).map V.int ++ [V.int (1 + lv)] ++ (r.drop (m)).map V.int = (r.take m ++ [1 + lv] ++ r.drop (m)).map V.int := by
          rw [List.map_append, List.map_append]
          rfl
        rw [em]
        refine fin _ _ _ ky (.nums (fun x hx => ?_) ?_) p hp
        · simp only [List.mem_append, List.mem_singleton] at hx
          rcases hx with (hx | hx) | hx
          · exact bt x hx
          · subst hx
            exact lvb
          · exact bd _ x hx
        · rw [List.length_append, List.length_append, List.length_take, List.length_drop, List.length_singleton]
          omega
    refine ⟨.int way, rfl, rfl, _, rfl, ite2 (fun hb => ?_) (fun hb => ?_)⟩
    · refine ⟨.ref a, rfl, ?_⟩
      refine np_i ?_
      refine ⟨.int (m : Nat), rfl, (m : Int), rfl, ?_⟩
      refine ⟨a, _, rfl, .inl (.inl hR8), fun p1 hp1 => ?_⟩
      rw [cl]
      have sp1 := same_new (o := .lst ((r.take m).map V.int)) hp1
      have fp1 : (upd H8 p1 (.lst ((r.take m).map V.int))) p1 = _ := upd_same
      generalize upd H8 p1 (.lst ((r.take m).map V.int)) = H9 at sp1 fp1
      have kx := kk.mono sp1
      have hRx := sp1 _ _ hR8
      refine ⟨.int (1 + lv), rfl, (by show 1 ≤ sizeLine; decide), fun p3 hp3 => ?_⟩
      have sp3 := same_new (o := .lst [.int (1 + lv)]) hp3
      have fp3 : (upd H9 p3 (.lst [.int (1 + lv)])) p3 = _ := upd_same
      have fr := sp3 _ _ fp1
      have hRy := sp3 _ _ hRx
      generalize upd H9 p3 (.lst [.int (1 + lv)]) = H11 at sp3 fp3 fr hRy
      refine ⟨p1, p3, _, _, rfl, rfl, fr, fp3, ?_, fun p4 hp4 => ?_⟩
      · rw [List.length_map, List.length_singleton]
        omega
      have sp4 := same_new (o := .lst ((r.take m).map V.int ++ [.int (1 + lv)])) hp4
      have fp4 : (upd H11 p4 (.lst ((r.take m).map V.int ++ [.int (1 + lv)]))) p4 = _ := upd_same
      have hRz := sp4 _ _ hRy
      have k13 := (kx.mono sp3).mono sp4
      generalize upd H11 p4 (.lst ((r.take m).map V.int ++ [.int (1 + lv)])) = H12 at sp4 fp4 hRz k13
      clear hRx kx fp1
      have hRx := hRz
      have kx := k13
      have fp1 := fp4
      refine ⟨.ref a, rfl, .int (m : Nat), rfl, _, _, rfl, rfl, (m : Int) + 1, rfl, ?_⟩
      refine np_i ?_
      refine ⟨a, _, rfl, .inl (.inl hRx), fun p2 hp2 => ?_⟩
      rw [hs.2, cr (m + 1)]
      have sp2 := same_new (o := .lst ((r.drop (m + 1)).map V.int)) hp2
      have fp2 : (upd H12 p2 (.lst ((r.drop (m + 1)).map V.int))) p2 = _ := upd_same
      have fq := sp2 _ _ fp1
      generalize upd H12 p2 (.lst ((r.drop (m + 1)).map V.int)) = H13 at sp2 fp2 fq
      have ky := kx.mono sp2
      refine ⟨_, p2, _, _, rfl, rfl, fq, fp2, ?_, fun p hp => ?_⟩
      · have := ld (m + 1)
        simp only [List.length_append, List.length_map, List.length_cons, List.length_nil, List.length_reverse]
        omega
      · have em : (r.take m).map V.int ++ [V.int (1 + lv)] ++ (r.drop (m + 1)).map V.int = (r.take m ++ [1 + lv] ++ r.drop (m + 1)).map V.int := by
          rw [List.map_append, List.map_append]
          rfl
        rw [em]
        refine fin _ _ _ ky (.nums (fun x hx => ?_) ?_) p hp
        · simp only [List.mem_append, List.mem_singleton] at hx
          rcases hx with (hx | hx) | hx
          · exact bt x hx
          · subst hx
            exact lvb
          · exact bd _ x hx
        · rw [List.length_append, List.length_append, List.length_take, List.length_drop, List.length_singleton]
          omega
    refine ⟨.int way, rfl, rfl, _, rfl, ite2 (fun hb => ?_) (fun hb => ?_)⟩
    · refine ⟨.ref a, rfl, ?_⟩
      refine np_i ?_
      refine ⟨.int (m : Nat), rfl, (m : Int), rfl, ?_⟩
      refine ⟨a, _, rfl, .inl (.inl hR8), fun p1 hp1 => ?_⟩
      rw [cl]
      have sp1 := same_new (o := .lst ((r.take m).map V.int)) hp1
      have fp1 : (upd H8 p1 (.lst ((r.take m).map V.int))) p1 = _ := upd_same
      generalize upd H8 p1 (.lst ((r.take m).map V.int)) = H9 at sp1 fp1
      have kx := kk.mono sp1
      have hRx := sp1 _ _ hR8
      refine ⟨p1, _, rfl, .inl (.inl fp1), fun p3 hp3 => ?_⟩
      rw [← List.map_reverse]
      have sp3 := same_new (o := .lst ((r.take m).reverse.map V.int)) hp3
      have fp3 : (upd H9 p3 (.lst ((r.take m).reverse.map V.int))) p3 = _ := upd_same
      have hRy := sp3 _ _ hRx
      have k13 := kx.mono sp3
      generalize upd H9 p3 (.lst ((r.take m).reverse.map V.int)) = H11 at sp3 fp3 hRy k13
      clear hRx kx fp1
      have hRx := hRy
      have kx := k13
      have fp1 := fp3
      refine ⟨.ref a, rfl, .int (m : Nat), rfl, (m : Int), rfl, ?_⟩
      refine np_i ?_
      refine ⟨a, _, rfl, .inl (.inl hRx), fun p2 hp2 => ?_⟩
      rw [cr m]
      have sp2 := same_new (o := .lst ((r.drop (m)).map V.int)) hp2
      have fp2 : (upd H11 p2 (.lst ((r.drop (m)).map V.int))) p2 = _ := upd_same
      have fq := sp2 _ _ fp1
      generalize upd H11 p2 (.lst ((r.drop (m)).map V.int)) = H12 at sp2 fp2 fq
      have ky := kx.mono sp2
      refine ⟨_, p2, _, _, rfl, rfl, fq, fp2, ?_, fun p hp => ?_⟩
      · have := ld (m)
        simp only [List.length_append, List.length_map, List.length_cons, List.length_nil, List.length_reverse]
        omega
      · rw [← List.map_append]
        refine fin _ _ _ ky (.nums (fun x hx => ?_) ?_) p hp
        · rcases List.mem_append.mp hx with hx | hx
          · exact bt x (List.mem_reverse.mp hx)
          · exact bd _ x hx
        · rw [List.length_append, List.length_reverse, List.length_take, List.length_drop]
          omega
    refine ⟨.int way, rfl, rfl, _, rfl, ite2 (fun hb => ?_) (fun hb => ?_)⟩
    · refine ⟨.ref d, rfl, .ref a, rfl, G8, d, c, a, _, rfl, kk, .inl (.inl (sG _ _ hR)), by rw [List.length_map]; omega, fun l ys G' H' s' k' hl pm _ => ?_⟩
      obtain ⟨zs, rfl, pz⟩ := perm_ints pm
      exact q l _ _ G' H' (sG.trans s') k' hl (.nums (fun x hx => rm x (pz.mem_iff.mp hx)) (by rw [pz.length_eq]; omega))
    refine ⟨.ref a, rfl, ?_⟩
    refine np_i ?_
    refine ⟨.int (m : Nat), rfl, (m : Int), rfl, ?_⟩
    refine ⟨a, _, rfl, .inl (.inl hR8), fun p1 hp1 => ?_⟩
    rw [cl]
    have sp1 := same_new (o := .lst ((r.take m).map V.int)) hp1
    have fp1 : (upd H8 p1 (.lst ((r.take m).map V.int))) p1 = _ := upd_same
    generalize upd H8 p1 (.lst ((r.take m).map V.int)) = H9 at sp1 fp1
    have kx := kk.mono sp1
    have hRx := sp1 _ _ hR8
    refine ⟨.ref d, rfl, .ref od, rfl, 10, 30, rfl, rfl, (by unfold CPow; decide), (by show 1 ≤ sizeLine; decide), fun p3 hp3 => ?_⟩
    have sp3 := same_new (o := .lst [.int (10 ^ (30 : Int).toNat)]) hp3
    refine ⟨od, p3, _, _, rfl, rfl, sp3 _ _ (sp1 _ _ f5), upd_same, by rw [hod]; show 10 + 1 ≤ sizeLine; decide, fun p4 hp4 => ?_⟩
    have kz := (kx.mono sp3).new (o := .lst (od1 ++ [.int (10 ^ (30 : Int).toNat)])) hp4
    have gp4 := (kx.mono sp3).free hp4
    have sp4 := same_new (o := .lst (od1 ++ [.int (10 ^ (30 : Int).toNat)])) hp4
    have fp5 := sp4 _ _ (sp3 _ _ fp1)
    have hn1 : H8 p1 = none := hp1
    generalize upd (upd H9 p3 (.lst [.int (10 ^ (30 : Int).toNat)])) p4 (.lst (od1 ++ [.int (10 ^ (30 : Int).toNat)])) = H11 at kz sp4 fp5
    have n1d := kk.src.some_d hn1
    have n1c := kk.src.some_c hn1
    have kw := know kz
    have sw := know_le kz
    have h4w : hide H11 d c p4 = some (.lst (od1 ++ [.int (10 ^ (30 : Int).toNat)])) := sw _ _ upd_same
    have h1w : hide H11 d c p1 = some (.lst ((r.take m).map V.int)) := by
      unfold hide
      rw [if_neg (by simp [n1d, n1c])]
      exact fp5
    refine ⟨hide H11 d c, d, c, p4, _, rfl, kw, .inl (.inl h4w), by rw [hod]; exact Nat.zero_lt_succ _, by rw [hod]; show 11 ≤ 100000; decide, fun x H12 k12 hx => ?_⟩
    have f12 := k12.le _ _ h1w
    have kv : Kn G8 H12 d c := k12.weak ((same_new gp4).trans sw)
    have hRv := kv.le _ _ (sG _ _ hR)
    have hodd : ∃ e, Lf K G8 x e ∧ FitE e := by
      rw [hod] at hx
      simp only [List.cons_append, List.nil_append, List.mem_cons, List.not_mem_nil, or_false] at hx
      rcases hx with rfl | rfl | rfl | rfl | rfl | rfl | rfl | rfl | rfl | rfl | rfl
      · exact ⟨_, .dp .non rfl, ⟨rfl, by decide +kernel, rfl, by decide +kernel⟩⟩
      · exact ⟨_, .dp (.bl true) rfl, ⟨rfl, by decide +kernel, rfl, by decide +kernel⟩⟩
      · exact ⟨_, .dp (.int 0) rfl, fitE_int (by decide) (by decide)⟩
      · exact ⟨_, .dp (.int (-1)) rfl, ⟨by decide +kernel, by decide +kernel, by decide +kernel, by decide +kernel⟩⟩
      · exact ⟨_, .dp (.int on) rfl, fitE_int ol2.1 ol2.2⟩
      · exact ⟨_, .dp (.str _) rfl, ⟨by decide +kernel, by decide +kernel, by decide +kernel, by decide +kernel⟩⟩
      · exact ⟨_, .dp (.lst (.inl (.inl e1)) .nil) rfl, ⟨by decide +kernel, by decide +kernel, by decide +kernel, by decide +kernel⟩⟩
      · exact ⟨_, .dct e2 .emp, ⟨by decide +kernel, by decide +kernel, by decide +kernel, by decide +kernel⟩⟩
      · exact ⟨_, .dp (.tup (.inl (.inl e3)) (.cons (.int 1) .nil)) rfl, ⟨by decide +kernel, by decide +kernel, by decide +kernel, by decide +kernel⟩⟩
      · exact ⟨_, .dp (.lst (.inl (.inl e4)) (.cons (.int 1) .nil)) rfl, ⟨by decide +kernel, by decide +kernel, by decide +kernel, by decide +kernel⟩⟩
      · exact ⟨_, .dp (.int _) rfl, ⟨by decide +kernel, by decide +kernel, by decide +kernel, by decide +kernel⟩⟩
    obtain ⟨e, he, hfe⟩ := hodd
    refine ⟨(by show 1 ≤ sizeLine; decide), fun p5 hp5 => ?_⟩
    have sp5 := same_new (o := .lst [x]) hp5
    have ft := sp5 _ _ f12
    have fp6 : (upd H12 p5 (.lst [x])) p5 = _ := upd_same
    have hRu := sp5 _ _ hRv
    have ku := kv.mono sp5
    generalize upd H12 p5 (.lst [x]) = H13 at sp5 ft fp6 hRu ku
    refine ⟨p1, p5, _, _, rfl, rfl, ft, fp6, ?_, fun p6 hp6 => ?_⟩
    · rw [List.length_map, List.length_singleton]
      omega
    have sp6 := same_new (o := .lst ((r.take m).map V.int ++ [x])) hp6
    have fp7 : (upd H13 p6 (.lst ((r.take m).map V.int ++ [x]))) p6 = _ := upd_same
    have hRt := sp6 _ _ hRu
    have kt := ku.mono sp6
    generalize upd H13 p6 (.lst ((r.take m).map V.int ++ [x])) = H14 at sp6 fp7 hRt kt
    clear hRx kx fp1
    have hRx := hRt
    have kx := kt
    have fp1 := fp7
    refine ⟨.ref a, rfl, .int (m : Nat), rfl, _, _, rfl, rfl, (m : Int) + 1, rfl, ?_⟩
    refine np_i ?_
    refine ⟨a, _, rfl, .inl (.inl hRx), fun p2 hp2 => ?_⟩
    rw [hs.2, cr (m + 1)]
    have sp2 := same_new (o := .lst ((r.drop (m + 1)).map V.int)) hp2
    have fp2 : (upd H14 p2 (.lst ((r.drop (m + 1)).map V.int))) p2 = _ := upd_same
    have fq := sp2 _ _ fp1
    generalize upd H14 p2 (.lst ((r.drop (m + 1)).map V.int)) = H15 at sp2 fp2 fq
    have ky := kx.mono sp2
    refine ⟨_, p2, _, _, rfl, rfl, fq, fp2, ?_, fun p hp => ?_⟩
    · have := ld (m + 1)
      simp only [List.length_append, List.length_map, List.length_cons, List.length_nil, List.length_reverse]
      omega
    · have em : (r.take m).map V.int ++ [x] ++ (r.drop (m + 1)).map V.int = (r.take m).map V.int ++ x :: (r.drop (m + 1)).map V.int := by
        rw [List.append_assoc]
        rfl
      rw [em]
      refine fin _ _ _ ky (.mix he hfe bt (bd _) ?_) p hp
      rw [List.length_take, List.length_drop]
      omega
end

section
variable {P : Program} {w : World} {K : PySem.W.Frag} {mg : Str → Option Value} {base : Heap}
def spLaw (K : PySem.W.Frag) : Sp := fun vs H Q _ => ∃ (a : Addr) (ns : List Int), vs = [.ref a] ∧ SqL K H a (ns.map V.int) ∧ ns.length ≤ 63 ∧ ∀ H', Q (.bl true) H'
theorem lvf_bd : ∀ (ds : List PyData) (o : List Int) (k j : Nat), lvf o ds k = some j → j ≤ k + ds.length
  | [], o, k, j, h => by
    unfold lvf at h
    split at h
    · cases h
    · cases h
      simp
  | d :: ds, o, k, j, h => by
    unfold lvf at h
    split at h
    · have := lvf_bd ds _ _ _ h
      rw [List.length_cons]
      omega
    · cases h
      simp
structure ShwJ (d : PyData) : Prop where
  sh : d.showable = true
  cl : d.canLay0 = true
  dp : d.depth ≤ 64
  ln : d.shown.length ≤ sizeLine
theorem shw_j {r : Option (Option Nat)} (h : ∀ k, r = some (some k) → k ≤ 5000) : ShwJ (dJ r) := by
  rcases r with _ | _ | k
  · exact ⟨rfl, rfl, by decide +kernel, by decide +kernel⟩
  · exact ⟨by decide +kernel, by decide +kernel, by decide +kernel, by decide +kernel⟩
  · have hk := h k rfl
    have f : Fit (.int (k : Nat)) := fit_int (by omega) (by omega)
    have g : Fit (.str (Str.ofString "levels")) := ⟨by decide +kernel, by decide +kernel, by decide +kernel, by decide +kernel⟩
    have t : Fit (dJ (some (some k))) := by
      have f3 := f.dp
      have g3 := g.dp
      have f4 := f.bk
      have g4 := g.bk
      refine ⟨?_, ?_, ?_, ?_⟩
      · show PyData.showable (.tuple [.str (Str.ofString "levels"), .int (k : Nat)]) = true
        simp only [PyData.showable, PyData.showableAll, f.sh, Bool.and_self, Bool.true_and, Bool.and_true]
        exact f.sh
      · show PyData.depth (.tuple [.str (Str.ofString "levels"), .int (k : Nat)]) ≤ 10
        simp only [PyData.depth, PyData.depthAll] at *
        omega
      · show PyData.leavesShort 40 (.tuple [.str (Str.ofString "levels"), .int (k : Nat)]) = true
        simp only [PyData.leavesShort, PyData.leavesShortAll, Bool.and_true, Bool.and_eq_true]
        exact ⟨g.ls, f.ls⟩
      · show PyData.bulk (.tuple [.str (Str.ofString "levels"), .int (k : Nat)]) ≤ 1100
        simp only [PyData.bulk, PyData.bulkAll]
        decide
    exact ⟨t.sh, by simp [dJ, PyData.canLay0, PyData.canLayAll0]; decide +kernel, Nat.le_trans t.dp (by decide), t.len⟩
theorem shw_l {r : List Int} (h : ∀ x ∈ r, 0 ≤ x ∧ x < 1000000) (hl : r.length ≤ 1000) : ShwJ (.list (r.map .int)) := by
  have f := fit_list h (by omega)
  exact ⟨f.sh, by simpa [PyData.canLay0] using can_ints r, Nat.le_trans f.dp (by decide), f.len⟩
theorem lf_ints {K : PySem.W.Frag} {H : Hp} (r : List Int) (j : Nat) (x : V) (h : (r.map V.int)[j]? = some x) : ∃ d, (r.map PyData.int)[j]? = some d ∧ Lf K H x d := by
  obtain ⟨z, rfl, hz⟩ := ints_at h
  exact ⟨.int z, by rw [List.getElem?_map, hz]; rfl, .dp (.int z) rfl⟩
theorem bent_at {K : PySem.W.Frag} {H : Hp} {xs : List V} {ds : List PyData} (h : Bent K H xs ds) : xs.length = ds.length ∧ xs.length ≤ 1001 ∧ ∀ (j : Nat) (x : V), xs[j]? = some x → ∃ d, ds[j]? = some d ∧ Lf K H x d := by
  cases h with
  | nums a b => exact ⟨by rw [List.length_map, List.length_map], by rw [List.length_map]; omega, lf_ints _⟩
  | @mix pre post x e hf he a b c =>
    refine ⟨by simp, by simp only [List.length_append, List.length_map, List.length_cons]; omega, fun j y hy => ?_⟩
    rcases Nat.lt_trichotomy j pre.length with hj | hj | hj
    · rw [List.getElem?_append_left (by simpa using hj)] at hy ⊢
      exact lf_ints _ j y hy
    · subst hj
      rw [List.getElem?_append_right (by simp)] at hy ⊢
      simp at hy ⊢
      subst hy
      exact hf
    · rw [List.getElem?_append_right (by simpa using Nat.le_of_lt hj)] at hy ⊢
      obtain ⟨m, hm⟩ : ∃ m : Nat, j - (pre.map V.int).length = m + 1 := ⟨j - pre.length - 1, by rw [List.length_map]; omega⟩
      have hm' : j - (pre.map PyData.int).length = m + 1 := by rw [List.length_map] at hm ⊢; exact hm
      rw [hm] at hy
      rw [hm']
      simp only [List.getElem?_cons_succ] at hy ⊢
      exact lf_ints _ m y hy
theorem bent_repr {K : PySem.W.Frag} {H : Hp} {a : Addr} {xs : List V} {ds : List PyData} {Q : VK} (h : Bent K H xs ds) (ha : SqL K H a xs) (q : Q (.str (PyData.list ds).shown) H) : rReprE K [.ref a] H Q := by
  cases h with
  | nums hb hl =>
    have f := shw_l hb hl
    exact .inr ⟨.ref a, _, rfl, dp_il ha, f.sh, f.cl, f.dp, f.ln, q⟩
  | mix hf he h1 h2 hl =>
    have f := fit_mixL he h1 h2 (by omega)
    exact .inl ⟨a, _, _, _, _, rfl, ha, hf, f.sh, Nat.le_trans f.dp (by decide), f.len, q⟩
theorem jv_row {K : PySem.W.Frag} {H : Hp} {o r : List Int} {k : Bool} {a : Addr} (h : SqK K k H a (r.map V.int)) (hr : LRow o r) : JV K H o (.ref a) none := by
  have := JV.seq (o := o) h (by rw [List.length_map, List.length_map] : (r.map V.int).length = (r.map PyData.int).length) (lf_ints r)
  rwa [hr.ok] at this
theorem non_of {K : PySem.W.Frag} {H : Hp} {x : V} (h : Dp K H x (dJ none)) : x = .non := by
  cases h
  rfl
theorem ok_law (T : Tx K mg) : FnG P w K mg base CX0 9 T.f_law T.d_law ["_law_script"] (spLaw K) := by
  have G_l_source := ok_source (P := P) (w := w) (base := base) T
  have G_l_pick := ok_pick (P := P) (w := w) (base := base) T
  have G_l_any_order := ok_any_order (P := P) (w := w) (base := base) T
  have G_l_drawn_row := ok_drawn (P := P) (w := w) (base := base) T
  have G_l_first := ok_lfirst (P := P) (w := w) (base := base) T
  have G_l_bent_row := ok_bent (P := P) (w := w) (base := base) T
  have G_l_verdict := ok_verdict (P := P) (w := w) (base := base) T
  have G_judge_levels := ok_judge_levels (P := P) (w := w) (base := base) T
  have G_first_row := ok_first_row (P := P) (w := w) (base := base) T
  refine okG_nox T.F_law sc_law (fun vs H Q E h => ?_) (fun cdv A0 outer s H vs Q E hgd hr h => ?_)
  · obtain ⟨a, ns, rfl, _⟩ := h
    rfl
  · obtain ⟨a, ns, rfl, hS, hlen, q⟩ := h
    have hu := hu_of hr
    have hu66 : (A0.deeper (PyProof.Rows.envOfC "law" (defScope s_law) s.heap.objs.size T.f_law cdv)).units + 66 < cLine := by have := hr.un; omega
    refine ⟨_, (pss_cons (ps_set (i := 1) sc_law.nd rfl (Or.inl rfl) (pe_call G_l_source (hr.mono (by decide)) (by rfl) T.g_l_source T.F_l_source.kp T.b_l_source .nil pass0 (pa_cons (pv 0) pa_nil)))
    (pss_cons (ps_for PassesOwn.never rfl (pi_range1 rfl T.z_range (pa_cons pe_int pa_nil)) (pg_name (i := 2) sc_law.nd rfl (Or.inl rfl))
    (pss_cons (ps_set (i := 3) sc_law.nd rfl (Or.inl rfl) (pe_ix ix_list (pe_lst (pa_cons (pe_call G_l_pick (hr.mono (by decide)) (by rfl) T.g_l_pick T.F_l_pick.kp T.b_l_pick .nil pass0 (pa_cons (pv 1) (pa_cons pe_int pa_nil))) (pa_cons (pe_op op_add pe_int (pe_call G_l_pick (hr.mono (by decide)) (by rfl) T.g_l_pick T.F_l_pick.kp T.b_l_pick .nil pass0 (pa_cons (pv 1) (pa_cons pe_int pa_nil)))) (pa_cons pe_int (pa_cons pe_int (pa_cons (pe_op op_add pe_int (pe_call G_l_pick (hr.mono (by decide)) (by rfl) T.g_l_pick T.F_l_pick.kp T.b_l_pick .nil pass0 (pa_cons (pv 1) (pa_cons pe_int pa_nil)))) pa_nil)))))) (pv 2) (fun _ _ => rfl)))
    (pss_cons (ps_set (i := 4) sc_law.nd rfl (Or.inl rfl) (pe_call G_l_any_order (hr.mono (by decide)) (by rfl) T.g_l_any_order T.F_l_any_order.kp T.b_l_any_order .nil pass0 (pa_cons (pv 1) (pa_cons (pv 3) pa_nil))))
    (pss_cons (ps_par (i := 5) (j := 6) (by rfl) sc_law.nd rfl rfl (by decide) rfl rfl (pa_cons (pe_call G_l_drawn_row (hr.mono (by decide)) (by rfl) T.g_l_drawn_row T.F_l_drawn_row.kp T.b_l_drawn_row .nil pass0 (pa_cons (pv 1) (pa_cons (pv 4) pa_nil))) (pa_cons (pe_call G_l_first (hr.mono (by decide)) (by rfl) T.g_l_first T.F_l_first.kp T.b_l_first .nil pass0 (pa_cons (pv 4) pa_nil)) pa_nil)) (by rfl))
    (pss_cons (ps_if (PW.pt (pw_or (pt_cmpR op_notN (pe_call G_judge_levels (hr.mono (by decide)) (by rfl) T.g_judge_levels T.F_judge_levels.kp T.b_judge_levels .nil pass0 (pa_cons (pv 4) (pa_cons (pv 5) pa_nil))) pe_non (nomark _)) (pw_or1 (pt_cmpR op_notN (pe_call G_judge_levels (hr.mono (by decide)) (by rfl) T.g_judge_levels T.F_judge_levels.kp T.b_judge_levels .nil pass0 (pa_cons (pv 4) (pa_cons (pe_callTy call_tuple_of (by rfl) T.z_tuple (by decide +kernel) (pa_cons (pv 5) pa_nil)) pa_nil))) pe_non (nomark _))))) (pss_one (ps_ret pe_bl)) pss_nil)
    (pss_cons (ps_for PassesOwn.never rfl (pi_range1 rfl T.z_range (pa_cons pe_int pa_nil)) (pg_name (i := 7) sc_law.nd rfl (Or.inl rfl))
    (pss_cons (ps_set (i := 8) sc_law.nd rfl (Or.inl rfl) (pe_call G_first_row (hr.mono (by decide)) (by rfl) T.g_first_row T.F_first_row.kp T.b_first_row .nil pass0 (pa_cons (pv 4) pa_nil)))
    (pss_cons (ps_if (pt_cmpR op_ne (pe_callB (call_reprD hgd hu66) (by rfl) T.z_repr (by decide +kernel) (pa_cons (pv 8) pa_nil)) (pe_callB (call_reprD hgd hu66) (by rfl) T.z_repr (by decide +kernel) (pa_cons (pv 6) pa_nil)) (nomark _)) (pss_one (ps_ret pe_bl)) pss_nil)
    (pss_one (ps_expr (pe_bm PySem.F.plainAttrs_list PySem.F.slot_list_append PySem.F.type_list_append mt_append (pv 8) (pa_cons pe_non pa_nil)))))))
    (pss_cons (ps_for PassesOwn.never rfl (pi_range1 rfl T.z_range (pa_cons pe_int pa_nil)) (pg_name (i := 7) sc_law.nd rfl (Or.inl rfl))
    (pss_cons (ps_set (i := 9) sc_law.nd rfl (Or.inl rfl) (pe_call G_l_bent_row (hr.mono (by decide)) (by rfl) T.g_l_bent_row T.F_l_bent_row.kp T.b_l_bent_row .nil pass0 (pa_cons (pv 1) (pa_cons (pv 4) (pa_cons (pv 5) pa_nil)))))
    (pss_cons (ps_par (i := 10) (j := 8) (by rfl) sc_law.nd rfl rfl (by decide) rfl rfl (pa_cons (pe_callB (call_reprE hgd hu66) (by rfl) T.z_repr (by decide +kernel) (pa_cons (pv 9) pa_nil)) (pa_cons (pe_call G_judge_levels (hr.mono (by decide)) (by rfl) T.g_judge_levels T.F_judge_levels.kp T.b_judge_levels .nil pass0 (pa_cons (pv 4) (pa_cons (pv 9) pa_nil))) pa_nil)) (by rfl))
    (pss_cons (ps_if (PW.pt (pw_or (pt_cmpR op_ne (pe_callB (call_reprD hgd hu66) (by rfl) T.z_repr (by decide +kernel) (pa_cons (pv 8) pa_nil)) (pe_callB (call_reprD hgd hu66) (by rfl) T.z_repr (by decide +kernel) (pa_cons (pe_call G_l_verdict (hr.mono (by decide)) (by rfl) T.g_l_verdict T.F_l_verdict.kp T.b_l_verdict .nil pass0 (pa_cons (pv 4) (pa_cons (pv 9) pa_nil))) pa_nil)) (nomark _)) (pw_or1 (pt_cmpR op_ne (pe_callB (call_reprE hgd hu66) (by rfl) T.z_repr (by decide +kernel) (pa_cons (pv 9) pa_nil)) (pv 10) (nomark _))))) (pss_one (ps_ret pe_bl)) pss_nil)
    (pss_one (ps_if (pt_cmpR op_ne (pe_callB (call_reprD hgd hu66) (by rfl) T.z_repr (by decide +kernel) (pa_cons (pe_call G_judge_levels (hr.mono (by decide)) (by rfl) T.g_judge_levels T.F_judge_levels.kp T.b_judge_levels .nil pass0 (pa_cons (pv 4) (pa_cons (pe_callTy call_tuple_of (by rfl) T.z_tuple (by decide +kernel) (pa_cons (pv 9) pa_nil)) pa_nil))) pa_nil)) (pe_callB (call_reprD hgd hu66) (by rfl) T.z_repr (by decide +kernel) (pa_cons (pv 8) pa_nil)) (nomark _)) (pss_one (ps_ret pe_bl)) pss_nil))))))
    (pss_one (ps_for PassesOwn.never rfl (pi_list (pe_lst (pa_cons pe_non (pa_cons pe_int (pa_cons pe_bl (pa_cons pe_str (pa_cons pe_str (pa_cons pe_dnewK (pa_cons (pe_disp (pps_cons pe_int pe_int pps_nil) (by rfl) (by rfl) (fun z => by cases z) (by decide)) (pa_cons (pe_disp (pps_cons pe_int pe_int pps_nil) (by rfl) (by rfl) (fun z => by cases z) (by decide)) pa_nil)))))))))) (pg_name (i := 11) sc_law.nd rfl (Or.inl rfl))
    (pss_one (ps_if (pt_cmpR op_ne (pe_callB (call_reprD hgd hu66) (by rfl) T.z_repr (by decide +kernel) (pa_cons (pe_call G_judge_levels (hr.mono (by decide)) (by rfl) T.g_judge_levels T.F_judge_levels.kp T.b_judge_levels .nil pass0 (pa_cons (pv 4) (pa_cons (pv 11) pa_nil))) pa_nil)) (pe_callB (call_reprD hgd hu66) (by rfl) T.z_repr (by decide +kernel) (pa_cons (pe_tup (pa_cons pe_str pa_nil)) pa_nil)) (nomark _)) (pss_one (ps_ret pe_bl)) pss_nil)))))))))))
    (pss_cons (ps_if (PW.pt (pw_or (pt_cmpR op_notN (pe_call G_judge_levels (hr.mono (by decide)) (by rfl) T.g_judge_levels T.F_judge_levels.kp T.b_judge_levels .nil pass0 (pa_cons (pe_tup pa_nil) (pa_cons (pe_lst pa_nil) pa_nil))) pe_non (nomark _)) (pw_or1 (pt_cmpR (op_neD hr.units) (pe_call G_judge_levels (hr.mono (by decide)) (by rfl) T.g_judge_levels T.F_judge_levels.kp T.b_judge_levels .nil pass0 (pa_cons (pe_tup (pa_cons pe_int pa_nil)) (pa_cons (pe_lst (pa_cons pe_int pa_nil)) pa_nil))) (pe_tup (pa_cons pe_str (pa_cons pe_int pa_nil))) (nomark _))))) (pss_one (ps_ret pe_bl)) pss_nil)
    (pss_one (ps_ret (pe_cmpR (op_eqD hr.units) (pe_call G_judge_levels (hr.mono (by decide)) (by rfl) T.g_judge_levels T.F_judge_levels.kp T.b_judge_levels .nil pass0 (pa_cons (pe_tup (pa_cons pe_int (pa_cons pe_int pa_nil))) (pa_cons (pe_tup pa_nil) pa_nil))) (pe_tup (pa_cons pe_str (pa_cons pe_int pa_nil))) (nomark _))))))), ?_⟩
    refine ⟨.ref a, rfl, a, ns, rfl, hS, hlen, fun d c H1 k1 => ?_⟩
    refine ⟨5, rfl, by decide, by decide, for_range (lo := 0) (n := 5) (fun i σ H' => ∃ v2 v3 v4 v5 v6 v7 v8 v9 v10 v11 : Option V, σ = [some (.ref a), some (.ref d), v2, v3, v4, v5, v6, v7, v8, v9, v10, v11] ∧ Kn H H' d c) ⟨_, _, _, _, _, _, _, _, _, _, rfl, k1⟩ ?_ ?_⟩
    · rintro i σ H2 hi ⟨v2, v3, v4, v5, v6, v7, v8, v9, v10, v11, rfl, k2⟩
      refine ⟨.ref d, rfl, H, d, c, 3, rfl, k2, by decide, fun z1 H3 k3 a1 b1 => ?_⟩
      refine ⟨.ref d, rfl, H, d, c, 4, rfl, k3, by decide, fun z2 H4 k4 a2 b2 => ?_⟩
      refine ⟨_, _, rfl, rfl, ?_⟩
      refine ⟨.ref d, rfl, H, d, c, 21, rfl, k4, by decide, fun z3 H5 k5 a3 b3 => ?_⟩
      refine ⟨_, _, rfl, rfl, (by show 5 ≤ sizeLine; decide), fun p hp => ?_⟩
      have hn : ∃ n : Nat, atI [V.int z1, .int (3 + z2), .int 6, .int 4, .int (10 + z3)] (0 + (i : Int)) = some (.int (n : Nat)) ∧ n ≤ 30 := by
        rw [Int.zero_add]
        have hi' : i = 0 ∨ i = 1 ∨ i = 2 ∨ i = 3 ∨ i = 4 := by omega
        rcases hi' with rfl | rfl | rfl | rfl | rfl
        · exact ⟨z1.toNat, by rw [show ((z1.toNat : Nat) : Int) = z1 by omega]; exact atI_nat (j := 0) rfl, by omega⟩
        · exact ⟨(3 + z2).toNat, by rw [show (((3 + z2).toNat : Nat) : Int) = 3 + z2 by omega]; exact atI_nat (j := 1) rfl, by omega⟩
        · exact ⟨6, atI_nat (j := 2) rfl, by omega⟩
        · exact ⟨4, atI_nat (j := 3) rfl, by omega⟩
        · exact ⟨(10 + z3).toNat, by rw [show (((10 + z3).toNat : Nat) : Int) = 10 + z3 by omega]; exact atI_nat (j := 4) rfl, by omega⟩
      obtain ⟨n, hat, n30⟩ := hn
      refine ⟨.int (0 + (i : Int)), rfl, p, _, _, _, rfl, rfl, .inl (.inl upd_same), hat, ?_⟩
      have k6 := k5.mono (same_new (o := .lst [V.int z1, .int (3 + z2), .int 6, .int 4, .int (10 + z3)]) hp)
      generalize upd H5 p (.lst [V.int z1, .int (3 + z2), .int 6, .int 4, .int (10 + z3)]) = H6 at k6
      refine ⟨.ref d, rfl, .int (n : Nat), rfl, H, d, c, n, rfl, k6, n30, fun t o G1 H7 s1 k7 ht pm => ?_⟩
      have on : o.length = n := by rw [pm.length_eq, rgI_len]
      refine ⟨.ref d, rfl, .ref t, rfl, G1, d, c, t, o, rfl, k7, .inl (.inl ht), by omega, fun l r G2 H8 s2 k8 hl lr => ?_⟩
      have ht8 : SqT K H8 t (o.map V.int) := .inl (.inl (k8.le _ _ (s2 _ _ ht)))
      refine ⟨.ref t, rfl, t, o, rfl, ht8, by omega, fun l2 H9 s9 hl20 hl2 => ⟨_, _, rfl, ?_⟩⟩
      have k9 := k8.add s9 hl20 hl2
      have g2 : Same G2 (upd G2 l2 (.lst ((fstR (inv o) o).map V.int))) := same_new (k8.free hl20)
      have hl2G : (upd G2 l2 (.lst ((fstR (inv o) o).map V.int))) l2 = some (.lst ((fstR (inv o) o).map V.int)) := upd_same
      have htG : SqT K (upd G2 l2 (.lst ((fstR (inv o) o).map V.int))) t (o.map V.int) := .inl (.inl (g2 _ _ (s2 _ _ ht)))
      have hlG := g2 _ _ hl
      have sH : Same H (upd G2 l2 (.lst ((fstR (inv o) o).map V.int))) := (s1.trans s2).trans g2
      generalize upd G2 l2 (.lst ((fstR (inv o) o).map V.int)) = G3 at k9 hl2G htG hlG sH
      have il : inv o ≤ 900 := by
        have h1 := inv_le o
        have h2 : o.length * o.length ≤ 30 * 30 := Nat.mul_le_mul (by omega) (by omega)
        omega
      have rb : ∀ x ∈ r, 0 ≤ x ∧ x < 1000000 := fun x hx => by have := lr.mem x hx; omega
      have rl := lr.len
      have hl9 := k9.le _ _ hlG
      have ht9 := sameT k9.le htG
      -- judge_levels(order, row), of a list and of a tuple
      refine ⟨.ref t, rfl, .ref l, rfl, t, .ref l, o, none, rfl, ht9, by omega, jv_row (k := true) (.inl (.inl hl9)) lr, fun x H10 s10 hx => ?_⟩
      cases non_of hx
      refine ⟨rfl, false, by rw [decide_eq_true rfl]; rfl, iteF ?_⟩
      have k10 := k9.mono s10
      refine ⟨.ref t, rfl, .ref l, rfl, l, _, rfl, .inl ⟨.inl (.inl (k10.le _ _ hlG)), fun tt htt => ?_⟩⟩
      have k11 := k10.mono (same_new (o := .tup (r.map V.int)) htt)
      have htt1 : (upd H10 tt (.tup (r.map V.int))) tt = some (.tup (r.map V.int)) := upd_same
      generalize upd H10 tt (.tup (r.map V.int)) = H11 at k11 htt1
      refine ⟨t, .ref tt, o, none, rfl, sameT k11.le htG, by omega, jv_row (k := false) (.inl (.inl htt1)) lr, fun x H12 s12 hx => ?_⟩
      cases non_of hx
      refine ⟨rfl, false, by rw [decide_eq_true rfl]; rfl, iteF ?_⟩
      have k12 := k11.mono s12
      have fL := shw_l (r := fstR (inv o) o) (fun x hx => by have := fstR_mem _ _ x hx; omega) (by have := fstR_len (inv o) o; omega)
      refine ⟨2, rfl, by decide, by decide, for_range (lo := 0) (n := 2) (fun j σ H' => ∃ v7 v8 : Option V, σ = [some (.ref a), some (.ref d), some (.int (0 + (i : Int))), some (.int (n : Nat)), some (.ref t), some (.ref l), some (.ref l2), v7, v8, v9, v10, v11] ∧ Kn G3 H' d c) ⟨_, _, rfl, k12⟩ ?_ ?_⟩
      · rintro j σ H13 hj ⟨v7, v8, rfl, k13⟩
        refine ⟨.ref t, rfl, t, o, rfl, sameT k13.le htG, by omega, fun l3 H14 s14 hl30 hl3 => ?_⟩
        have k14 := k13.mono s14
        refine ⟨.ref l3, rfl, .ref l3, _, rfl, dp_il (.inl (.inl hl3)), fL.sh, fL.cl, fL.dp, fL.ln, .ref l2, rfl, .ref l2, _, rfl, dp_il (.inl (.inl (k14.le _ _ hl2G))), fL.sh, fL.cl, fL.dp, fL.ln, rfl, _, rfl, ne_no ?_⟩
        refine ⟨.ref l3, rfl, .inl ⟨rfl, _, .inl (.inl hl3)⟩, l3, _, _, rfl, rfl, hl3, ?_, ?_⟩
        · rw [List.length_map]
          have := fstR_len (inv o) o
          exact small1000' (by omega)
        · exact ⟨_, _, rfl, k14.mut (k13.free hl30) (k13.src.some_d hl30) (k13.src.some_c hl30)⟩
      · rintro σ H13 ⟨v7, v8, rfl, k13⟩
        refine ⟨5, rfl, by decide, by decide, for_range (lo := 0) (n := 5) (fun j σ H' => ∃ v7 v8 v9 v10 : Option V, σ = [some (.ref a), some (.ref d), some (.int (0 + (i : Int))), some (.int (n : Nat)), some (.ref t), some (.ref l), some (.ref l2), v7, v8, v9, v10, v11] ∧ Kn G3 H' d c) ⟨_, _, _, _, rfl, k13⟩ ?_ ?_⟩
        · rintro j σ H14 hj ⟨v7, v8, v9, v10, rfl, k14⟩
          refine ⟨.ref d, rfl, .ref t, rfl, .ref l, rfl, G3, d, c, t, l, o, r, rfl, k14, htG, by omega, hlG, by omega, rb, fun l4 xs ds G4 H15 s15 k15 hl4 hb => ?_⟩
          obtain ⟨bl, bl2, bm⟩ := bent_at hb
          have hl4H := k15.le _ _ hl4
          have htG4 := sameT s15 htG
          have hbH := hb.mono k15.le
          have rj : ∀ k, (lvf o ds 0).map some = some (some k) → k ≤ 5000 := fun k hk => by
            cases hv : lvf o ds 0 with
            | none =>
              rw [hv] at hk
              cases hk
            | some m =>
              rw [hv] at hk
              have := lvf_bd ds o 0 m hv
              obtain rfl : m = k := by
                have := Option.some.inj (Option.some.inj hk)
                exact this
              omega
          have fJ := shw_j rj
          -- seen, told
          refine ⟨.ref l4, rfl, bent_repr hbH (.inl (.inl hl4H)) ?_⟩
          have jv : ∀ {Hx : Hp} {kk : Bool} {b : Addr}, Same G4 Hx → SqK K kk Hx b xs → JV K Hx o (.ref b) ((lvf o ds 0).map some) := fun {Hx kk b} sx hx =>
            .seq hx bl (fun j x e => by
              obtain ⟨e', h1, h2⟩ := bm j x e
              exact ⟨e', h1, h2.mono sx⟩)
          refine ⟨.ref t, rfl, .ref l4, rfl, t, .ref l4, o, _, rfl, sameT k15.le htG4, by omega, jv (kk := true) k15.le (.inl (.inl hl4H)), fun x H16 s16 hx => ⟨_, _, rfl, ?_⟩⟩
          have k16 := k15.mono s16
          -- repr(told) != repr(verdict)
          refine ⟨x, rfl, x, _, rfl, hx, fJ.sh, fJ.cl, fJ.dp, fJ.ln, .ref t, rfl, .ref l4, rfl, t, l4, o, xs, ds, rfl, sameT k16.le htG4, by omega, .inl (.inl (k16.le _ _ hl4)), bl, by omega, fun j y e => ?_, fun y H17 s17 hy => ?_⟩
          · obtain ⟨e', h1, h2⟩ := bm j y e
            exact ⟨e', h1, h2.mono k16.le⟩
          · have k17 := k16.mono s17
            have hx17 : Dp K H17 x (dJ ((lvf o ds 0).map some)) := dp_same s17 _ _ hx
            refine ⟨y, _, rfl, hy, fJ.sh, fJ.cl, fJ.dp, fJ.ln, rfl, false, by rw [decide_eq_true rfl]; rfl, iteF ?_⟩
            refine ⟨.ref l4, rfl, bent_repr (hb.mono k17.le) (.inl (.inl (k17.le _ _ hl4))) ?_⟩
            refine ⟨_, rfl, rfl, false, by rw [decide_eq_true rfl]; rfl, iteF ?_⟩
            -- of a tuple
            refine ⟨.ref t, rfl, .ref l4, rfl, l4, xs, rfl, .inl ⟨.inl (.inl (k17.le _ _ hl4)), fun tt htt => ?_⟩⟩
            have sT := same_new (o := .tup xs) htt
            have k18 := k17.mono sT
            have htt1 : (upd H17 tt (.tup xs)) tt = some (.tup xs) := upd_same
            generalize upd H17 tt (.tup xs) = H18 at sT k18 htt1
            refine ⟨t, .ref tt, o, _, rfl, sameT k18.le htG4, by omega, jv (kk := false) k18.le (.inl (.inl htt1)), fun z H19 s19 hz => ?_⟩
            have hx19 := dp_same s19 _ _ (dp_same sT _ _ hx17)
            refine ⟨z, _, rfl, hz, fJ.sh, fJ.cl, fJ.dp, fJ.ln, x, rfl, x, _, rfl, hx19, fJ.sh, fJ.cl, fJ.dp, fJ.ln, rfl, _, rfl, ne_no ?_⟩
            exact ⟨_, _, _, _, rfl, (k18.mono s19).weak s15⟩
        · rintro σ H14 ⟨v7, v8, v9, v10, rfl, k14⟩
          intro q1 hq1
          have u1 : Same H14 (upd H14 q1 (.dK [])) := same_new hq1
          have f1 : (upd H14 q1 (.dK [])) q1 = some (.dK []) := upd_same
          generalize upd H14 q1 (.dK []) = H15 at u1 f1
          intro q2 hq2
          refine ⟨upd_same, [(Sum.inl 1, .int 2)], rfl, (by show 1 ≤ 15; decide), ?_⟩
          rw [show mergeK [] [((Sum.inl 1 : Key), V.int 2)] = [(Sum.inl 1, V.int 2)] from rfl, upd_upd]
          have u2 : Same H15 (upd H15 q2 (.dK [(Sum.inl 1, .int 2)])) := same_new hq2
          have f2 : (upd H15 q2 (.dK [(Sum.inl 1, .int 2)])) q2 = some (.dK [(Sum.inl 1, .int 2)]) := upd_same
          generalize upd H15 q2 (.dK [(Sum.inl 1, .int 2)]) = H16 at u2 f2
          intro q3 hq3
          refine ⟨upd_same, [(Sum.inl 0, .int 1)], rfl, (by show 1 ≤ 15; decide), ?_⟩
          rw [show mergeK [] [((Sum.inl 0 : Key), V.int 1)] = [(Sum.inl 0, V.int 1)] from rfl, upd_upd]
          have u3 : Same H16 (upd H16 q3 (.dK [(Sum.inl 0, .int 1)])) := same_new hq3
          have f3 : (upd H16 q3 (.dK [(Sum.inl 0, .int 1)])) q3 = some (.dK [(Sum.inl 0, .int 1)]) := upd_same
          generalize upd H16 q3 (.dK [(Sum.inl 0, .int 1)]) = H17 at u3 f3
          refine ⟨(by show 8 ≤ sizeLine; decide), fun od hod => ?_⟩
          obtain ⟨ox, hox⟩ : ∃ ox, ox = [V.non, V.int 0, V.bl true, V.str (Str.ofString ""), V.str (Str.ofString "12"), V.ref q1, V.ref q2, V.ref q3] := ⟨_, rfl⟩
          rw [← hox]
          have u4 : Same H17 (upd H17 od (.lst ox)) := same_new hod
          have f4 : (upd H17 od (.lst ox)) od = some (.lst ox) := upd_same
          generalize upd H17 od (.lst ox) = H18 at u4 f4
          have k15 := k14.mono u1
          have k16 := k15.mono u2
          have k17 := k16.mono u3
          have k18 := k17.mono u4
          have hid : ∀ {x : Addr} {ob : HO}, H18 x = some ob → x ≠ d → x ≠ c → hide H18 d c x = some ob := fun {x ob} e n1 n2 => by
            unfold hide
            rw [if_neg (by simp [n1, n2])]
            exact e
          have e1 := hid (u4 _ _ (u3 _ _ (u2 _ _ f1))) (k14.src.some_d hq1) (k14.src.some_c hq1)
          have e2 := hid (u4 _ _ (u3 _ _ f2)) (k15.src.some_d hq2) (k15.src.some_c hq2)
          have e3 := hid (u4 _ _ f3) (k16.src.some_d hq3) (k16.src.some_c hq3)
          have e4 := hid f4 (k17.src.some_d hod) (k17.src.some_c hod)
          have sG := know_le k18
          have kk := know k18
          generalize hide H18 d c = G5 at e1 e2 e3 e4 sG kk
          have htG5 := sameT sG htG
          have todd : ∀ y ∈ ox, ∃ ty : String, (ty = "int" ∨ ty = "bool" ∨ ty = "NoneType" ∨ ty = "str" ∨ ty = "dict") ∧ TyX K G5 y (.type ty) := fun y hy => by
            rw [hox] at hy
            simp only [List.mem_cons, List.not_mem_nil, or_false] at hy
            rcases hy with rfl | rfl | rfl | rfl | rfl | rfl | rfl | rfl
            · exact ⟨"NoneType", by simp, .base .non⟩
            · exact ⟨"int", by simp, .base (.int 0)⟩
            · exact ⟨"bool", by simp, .base (.bl true)⟩
            · exact ⟨"str", by simp, .base (.str _)⟩
            · exact ⟨"str", by simp, .base (.str _)⟩
            · exact ⟨"dict", by simp, .base (.dK e1)⟩
            · exact ⟨"dict", by simp, .base (.dK e2)⟩
            · exact ⟨"dict", by simp, .base (.dK e3)⟩
          have fF := shw_j (r := some none) (fun k hk => by cases hk)
          refine ⟨od, rfl, ⟨_, .inl (.inl f4)⟩, for_list (K := K) (a := od) (xs := ox) (fun j σ H' => ∃ v11 : Option V, σ = [some (.ref a), some (.ref d), some (.int (0 + (i : Int))), some (.int (n : Nat)), some (.ref t), some (.ref l), some (.ref l2), v7, v8, v9, v10, v11] ∧ Kn G5 H' d c) ⟨_, rfl, kk⟩ (fun j σ H' _ ⟨_, _, kx⟩ => .inl (.inl (kx.le _ _ e4))) ?_ ?_⟩
          · rintro j y σ H19 hy ⟨v11, rfl, k19⟩
            obtain ⟨ty, hty, hx⟩ := todd y (List.mem_of_getElem? hy)
            refine ⟨.ref t, rfl, y, rfl, t, y, o, some none, rfl, sameT k19.le htG5, by omega, .oth ty hty (tyx_same k19.le hx), fun z H20 s20 hz => ?_⟩
            refine ⟨z, _, rfl, hz, fF.sh, fF.cl, fF.dp, fF.ln, (by show 1 ≤ sizeLine; decide), fun f hf => ?_⟩
            refine ⟨.ref f, dJ (some none), rfl, .tup (.inl (.inl upd_same)) (.cons (.str _) .nil), fF.sh, fF.cl, fF.dp, fF.ln, rfl, _, rfl, ne_no ?_⟩
            exact ⟨_, rfl, (k19.mono s20).mono (same_new hf)⟩
          · rintro σ H19 ⟨v11, rfl, k19⟩
            exact ⟨_, _, _, _, _, _, _, _, _, _, rfl, k19.weak (sH.trans sG)⟩
    · rintro σ H2 ⟨v2, v3, v4, v5, v6, v7, v8, v9, v10, v11, rfl, k2⟩
      have z1 : lvf [] [] 0 = none := by decide +kernel
      have z2 : lvf [0] [.int 1] 0 = some 0 := by decide +kernel
      have z3 : lvf [1, 0] [] 0 = some 0 := by decide +kernel
      refine ⟨Nat.zero_le _, fun t1 h1 => ⟨Nat.zero_le _, fun t2 h2 => ?_⟩⟩
      have u2 := same_new (o := .lst []) h2
      have j1 := JV.seq (K := K) (o := []) (k := true) (a := t2) (xs := []) (ds := []) (H := upd (upd H2 t1 (.tup [])) t2 (.lst [])) (.inl (.inl upd_same)) rfl (fun j x e => by simp at e)
      rw [z1] at j1
      refine ⟨t1, .ref t2, [], none, rfl, .inl (.inl (u2 _ _ upd_same)), by decide, j1, fun x H3 s3 hx => ?_⟩
      cases non_of hx
      refine ⟨rfl, false, by rw [decide_eq_true rfl]; rfl, iteF ?_⟩
      refine ⟨(by show 1 ≤ sizeLine; decide), fun t3 h3 => ⟨(by show 1 ≤ sizeLine; decide), fun t4 h4 => ?_⟩⟩
      have u4 := same_new (o := .lst [.int 1]) h4
      have j2 := JV.seq (K := K) (o := [0]) (k := true) (a := t4) (xs := [.int 1]) (ds := [.int 1]) (H := upd (upd H3 t3 (.tup [.int 0])) t4 (.lst [.int 1])) (.inl (.inl upd_same)) rfl (lf_ints [1])
      rw [z2] at j2
      refine ⟨t3, .ref t4, [0], some (some 0), rfl, .inl (.inl (u4 _ _ upd_same)), by decide, j2, fun x H4 s4 hx => ?_⟩
      refine ⟨(by show 2 ≤ sizeLine; decide), fun t5 h5 => ?_⟩
      have shp : SeqAt.shaped (dJ (some (some 0))) = true := by decide +kernel
      refine ⟨_, dJ (some (some 0)), dp_same (same_new h5) _ _ hx, .tup (.inl (.inl upd_same)) (.cons (.str _) (.cons (.int 0) .nil)), shp, shp, _, rfl, neD_no shp ?_⟩
      refine ⟨(by show 2 ≤ sizeLine; decide), fun t6 h6 => ⟨Nat.zero_le _, fun t7 h7 => ?_⟩⟩
      generalize upd H4 t5 _ = H5 at h6 h7 ⊢
      have u7 := same_new (o := .tup []) h7
      have j3 := JV.seq (K := K) (o := [1, 0]) (k := false) (a := t7) (xs := []) (ds := []) (H := upd (upd H5 t6 (.tup [.int 1, .int 0])) t7 (.tup [])) (.inl (.inl upd_same)) rfl (fun j x e => by simp at e)
      rw [z3] at j3
      refine ⟨t6, .ref t7, [1, 0], some (some 0), rfl, .inl (.inl (u7 _ _ upd_same)), by decide, j3, fun x H6 s6 hx => ?_⟩
      refine ⟨(by show 2 ≤ sizeLine; decide), fun t8 h8 => ?_⟩
      refine ⟨_, dJ (some (some 0)), dp_same (same_new h8) _ _ hx, .tup (.inl (.inl upd_same)) (.cons (.str _) (.cons (.int 0) .nil)), shp, shp, ?_⟩
      rw [eqv_same shp]
      exact q _
end

theorem fin_ok {l : PySem.W.OpenLaw} {w : World} {K : PySem.W.Frag} {mg : Str → Option Value} {fa : Addr} (T : Tx K mg) (hfa : mg "law" = some (.ref fa)) :
    ∃ fd : FuncData, (∀ (s : Shared) (v : Value), BindsTo s fd ⟨[v], []⟩ [("_law_script", v)]) ∧ ∀ base : Heap, K.In base → base.Ns mainGlobals mg → FnG l.prog w K mg base CX0 9 fa fd ["_law_script"] (spLaw K) := by
  have e := hfa.symm.trans T.g_law
  cases e
  refine ⟨T.d_law, fun s v => ?_, fun base _ _ => ok_law T⟩
  obtain ⟨oc, od, kV, doc, pm, an, cdv, ct, osl, ed, lk, hcd⟩ := T.F_law.ex
  rw [ed]
  exact .of_eq rfl
end Lw
open PySem PySem.W PyProof.Rows
set_option maxHeartbeats 0 in
theorem PySem.Challenge.cw_codenests_k45_level_rows_judged_holds : PySem.Challenge.rw_codenests_k45_level_rows_judged.Holds := by
  w_on; o_law; k_head; (case hw => w_witness2)
  k_fill
  refine Lw.walk_G (l := PySem.Challenge.rw_codenests_k45_level_rows_judged) (n := 63) (k := 9) (x := "_law_script") (CX := fun _ => L2.CX0) (sp := fun w => Lw.spLaw _) rfl (by decide) rfl ⟨rfl, by decide, by decide⟩ (fun w h Y => PySem.W.kIn_of Y) ?F (fun _ _ a ns hl hS => ⟨a, ns, rfl, hS, hl, fun _ => rfl⟩) (fun _ _ _ _ _ h => h)
  case F =>
    intro w mg fa h KX G hmg
    refine' Lw.fin_ok (Lw.tx_mk KX G ?a_is_number ?l_is_number ?c_is_number ?k_is_number ?a_sorting_steps ?l_sorting_steps ?c_sorting_steps ?k_sorting_steps ?a_stepped ?l_stepped ?c_stepped ?k_stepped ?a_levels_fault ?l_levels_fault ?c_levels_fault ?k_levels_fault ?a_judge_levels ?l_judge_levels ?c_judge_levels ?k_judge_levels ?a_first_row ?l_first_row ?c_first_row ?k_first_row ?a_l_source ?l_l_source ?c_l_source ?k_l_source ?a_l_pick ?l_l_pick ?c_l_pick ?k_l_pick ?a_l_of ?l_l_of ?c_l_of ?k_l_of ?a_l_mixed ?l_l_mixed ?c_l_mixed ?k_l_mixed ?a_l_any_order ?l_l_any_order ?c_l_any_order ?k_l_any_order ?a_l_stepped ?l_l_stepped ?c_l_stepped ?k_l_stepped ?a_l_steps ?l_l_steps ?c_l_steps ?k_l_steps ?a_l_drawn_row ?l_l_drawn_row ?c_l_drawn_row ?k_l_drawn_row ?a_l_verdict ?l_l_verdict ?c_l_verdict ?k_l_verdict ?a_l_bent_row ?l_l_bent_row ?c_l_bent_row ?k_l_bent_row ?a_l_first ?l_l_first ?c_l_first ?k_l_first ?a_law ?l_law ?c_law ?k_law ?z_len ?z_range ?z_int ?z_bool ?z_tuple ?z_list ?z_isinstance ?z_abs ?z_max ?z_enumerate ?z_repr) hmg
    (case a_is_number => k_is)
    (case l_is_number => k_is)
    (case c_is_number => k_is)
    (case k_is_number => k_is)
    (case a_sorting_steps => k_is)
    (case l_sorting_steps => k_is)
    (case c_sorting_steps => k_is)
    (case k_sorting_steps => k_is)
    (case a_stepped => k_is)
    (case l_stepped => k_is)
    (case c_stepped => k_is)
    (case k_stepped => k_is)
    (case a_levels_fault => k_is)
    (case l_levels_fault => k_is)
    (case c_levels_fault => k_is)
    (case k_levels_fault => k_is)
    (case a_judge_levels => k_is)
    (case l_judge_levels => k_is)
    (case c_judge_levels => k_is)
    (case k_judge_levels => k_is)
    (case a_first_row => k_is)
    (case l_first_row => k_is)
    (case c_first_row => k_is)
    (case k_first_row => k_is)
    (case a_l_source => k_is)
    (case l_l_source => k_is)
    (case c_l_source => k_is)
    (case k_l_source => k_is)
    (case a_l_pick => k_is)
    (case l_l_pick => k_is)
    (case c_l_pick => k_is)
    (case k_l_pick => k_is)
    (case a_l_of => k_is)
    (case l_l_of => k_is)
    (case c_l_of => k_is)
    (case k_l_of => k_is)
    (case a_l_mixed => k_is)
    (case l_l_mixed => k_is)
    (case c_l_mixed => k_is)
    (case k_l_mixed => k_is)
    (case a_l_any_order => k_is)
    (case l_l_any_order => k_is)
    (case c_l_any_order => k_is)
    (case k_l_any_order => k_is)
    (case a_l_stepped => k_is)
    (case l_l_stepped => k_is)
    (case c_l_stepped => k_is)
    (case k_l_stepped => k_is)
    (case a_l_steps => k_is)
    (case l_l_steps => k_is)
    (case c_l_steps => k_is)
    (case k_l_steps => k_is)
    (case a_l_drawn_row => k_is)
    (case l_l_drawn_row => k_is)
    (case c_l_drawn_row => k_is)
    (case k_l_drawn_row => k_is)
    (case a_l_verdict => k_is)
    (case l_l_verdict => k_is)
    (case c_l_verdict => k_is)
    (case k_l_verdict => k_is)
    (case a_l_bent_row => k_is)
    (case l_l_bent_row => k_is)
    (case c_l_bent_row => k_is)
    (case k_l_bent_row => k_is)
    (case a_l_first => k_is)
    (case l_l_first => k_is)
    (case c_l_first => k_is)
    (case k_l_first => k_is)
    (case a_law => k_is)
    (case l_law => k_is)
    (case c_law => k_is)
    (case k_law => k_is)
    (case z_len => k_is)
    (case z_range => k_is)
    (case z_int => k_is)
    (case z_bool => k_is)
    (case z_tuple => k_is)
    (case z_list => k_is)
    (case z_isinstance => k_is)
    (case z_abs => k_is)
    (case z_max => k_is)
    (case z_enumerate => k_is)
    (case z_repr => k_is)
