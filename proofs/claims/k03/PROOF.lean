import PyProof.Rows.All
import Wide.All
import OpenK.AllK
import Wide.FinOn
import HandS.ForMost
import HandS.Style
import HandS.IsInst
import HandS.Exc
import HandS.ExcOwn
import HandS.TryOnly
import HandS.WordsExc
import HandS.TupAny
import HandS.Steps
import HandS.TupMul
import HandS.Small
import HandS.RaiseMore
import HandS.Zip
import KE.GoesEnum
import KE.GoesMore
import KE.GoesZip
import PySem.Challenge.RW_codenests_k03_rows_reckoned
set_option Elab.async false
set_option linter.all false
set_option maxRecDepth 100000
set_option maxHeartbeats 4000000
namespace Lw
open PySem L2
/-! ### the drawn source -/
abbrev ks (x : Str) : Key := Sum.inr x
theorem zCL : ¬ Str.ofString "cells" = Str.ofString "left" := by decide +kernel
theorem zCM : ¬ Str.ofString "cells" = Str.ofString "mixed" := by decide +kernel
theorem zCT : ¬ Str.ofString "cells" = Str.ofString "turn" := by decide +kernel
theorem zLC : ¬ Str.ofString "left" = Str.ofString "cells" := by decide +kernel
theorem zLM : ¬ Str.ofString "left" = Str.ofString "mixed" := by decide +kernel
theorem zLT : ¬ Str.ofString "left" = Str.ofString "turn" := by decide +kernel
theorem zMC : ¬ Str.ofString "mixed" = Str.ofString "cells" := by decide +kernel
theorem zML : ¬ Str.ofString "mixed" = Str.ofString "left" := by decide +kernel
theorem zMT : ¬ Str.ofString "mixed" = Str.ofString "turn" := by decide +kernel
theorem zTC : ¬ Str.ofString "turn" = Str.ofString "cells" := by decide +kernel
theorem zTL : ¬ Str.ofString "turn" = Str.ofString "left" := by decide +kernel
theorem zTM : ¬ Str.ofString "turn" = Str.ofString "mixed" := by decide +kernel
theorem kCL : ¬ ks "cells" = ks "left" := fun h => absurd (Sum.inr.inj h) (by decide +kernel)
theorem kCM : ¬ ks "cells" = ks "mixed" := fun h => absurd (Sum.inr.inj h) (by decide +kernel)
theorem kCT : ¬ ks "cells" = ks "turn" := fun h => absurd (Sum.inr.inj h) (by decide +kernel)
theorem kLM : ¬ ks "left" = ks "mixed" := fun h => absurd (Sum.inr.inj h) (by decide +kernel)
theorem kLT : ¬ ks "left" = ks "turn" := fun h => absurd (Sum.inr.inj h) (by decide +kernel)
theorem kMT : ¬ ks "mixed" = ks "turn" := fun h => absurd (Sum.inr.inj h) (by decide +kernel)
theorem kLC : ¬ ks "left" = ks "cells" := fun h => kCL h.symm
theorem kMC : ¬ ks "mixed" = ks "cells" := fun h => kCM h.symm
theorem kTC : ¬ ks "turn" = ks "cells" := fun h => kCT h.symm
theorem kML : ¬ ks "mixed" = ks "left" := fun h => kLM h.symm
theorem kTL : ¬ ks "turn" = ks "left" := fun h => kLT h.symm
theorem kTM : ¬ ks "turn" = ks "mixed" := fun h => kMT h.symm
def srcK (c : Addr) (l m t : Int) : List (Key × V) := [(ks "cells", .ref c), (ks "left", .int l), (ks "mixed", .int m), (ks "turn", .int t)]
theorem src_cells (c : Addr) (l m t : Int) : valV (srcK c l m t) (ks "cells") = some (.ref c) := valV_pos rfl
theorem src_left (c : Addr) (l m t : Int) : valV (srcK c l m t) (ks "left") = some (.int l) := (valV_neg kCL).trans (valV_pos rfl)
theorem src_mixed (c : Addr) (l m t : Int) : valV (srcK c l m t) (ks "mixed") = some (.int m) := (valV_neg kCM).trans ((valV_neg kLM).trans (valV_pos rfl))
theorem src_turn (c : Addr) (l m t : Int) : valV (srcK c l m t) (ks "turn") = some (.int t) := (valV_neg kCT).trans ((valV_neg kLT).trans ((valV_neg kMT).trans (valV_pos rfl)))
theorem put_left (c : Addr) (l m t z : Int) : putK (srcK c l m t) (ks "left") (.int z) = srcK c z m t := by
  simp [putK, srcK, zCL, zCM, zCT, zLC, zLM, zLT, zMC, zML, zMT, zTC, zTL, zTM]
theorem put_mixed (c : Addr) (l m t z : Int) : putK (srcK c l m t) (ks "mixed") (.int z) = srcK c l z t := by
  simp [putK, srcK, zCL, zCM, zCT, zLC, zLM, zLT, zMC, zML, zMT, zTC, zTL, zTM]
theorem put_turn (c : Addr) (l m t z : Int) : putK (srcK c l m t) (ks "turn") (.int z) = srcK c l m z := by
  simp [putK, srcK, zCL, zCM, zCT, zLC, zLM, zLT, zMC, zML, zMT, zTC, zTL, zTM]
theorem merge_src (c : Addr) (l m t : Int) : mergeK [] (srcK c l m t) = srcK c l m t := by
  simp [mergeK, putK, srcK, zCL, zCM, zCT, zLC, zLM, zLT, zMC, zML, zMT, zTC, zTL, zTM]
theorem get_cells {H : Hp} {d c : Addr} {l m t : Int} (e : H d = some (.dK (srcK c l m t))) : DGet H d (.str "cells") (some (.ref c)) := by
  have h := DGet.k (k := ks "cells") e
  rw [src_cells] at h
  exact h
theorem get_left {H : Hp} {d c : Addr} {l m t : Int} (e : H d = some (.dK (srcK c l m t))) : DGet H d (.str "left") (some (.int l)) := by
  have h := DGet.k (k := ks "left") e
  rw [src_left] at h
  exact h
theorem get_mixed {H : Hp} {d c : Addr} {l m t : Int} (e : H d = some (.dK (srcK c l m t))) : DGet H d (.str "mixed") (some (.int m)) := by
  have h := DGet.k (k := ks "mixed") e
  rw [src_mixed] at h
  exact h
theorem get_turn {H : Hp} {d c : Addr} {l m t : Int} (e : H d = some (.dK (srcK c l m t))) : DGet H d (.str "turn") (some (.int t)) := by
  have h := DGet.k (k := ks "turn") e
  rw [src_turn] at h
  exact h
theorem dput_left {H : Hp} {d c : Addr} {l m t z : Int} (e : H d = some (.dK (srcK c l m t))) : DPut H d (.str "left") (.int z) (upd H d (.dK (srcK c z m t))) := by
  have h := DPut.k (k := ks "left") (v := .int z) e (small1000 (by show 4 ≤ 1000; decide))
  rw [put_left] at h
  exact h
theorem dput_mixed {H : Hp} {d c : Addr} {l m t z : Int} (e : H d = some (.dK (srcK c l m t))) : DPut H d (.str "mixed") (.int z) (upd H d (.dK (srcK c l z t))) := by
  have h := DPut.k (k := ks "mixed") (v := .int z) e (small1000 (by show 4 ≤ 1000; decide))
  rw [put_mixed] at h
  exact h
theorem dput_turn {H : Hp} {d c : Addr} {l m t z : Int} (e : H d = some (.dK (srcK c l m t))) : DPut H d (.str "turn") (.int z) (upd H d (.dK (srcK c l m z))) := by
  have h := DPut.k (k := ks "turn") (v := .int z) e (small1000 (by show 4 ≤ 1000; decide))
  rw [put_turn] at h
  exact h
/-- the drawn source stands at d, its cells at c -/
def Src (H : Hp) (d c : Addr) : Prop := ∃ (xs : List Int) (l m t : Int), H d = some (.dK (srcK c l m t)) ∧ H c = some (.lst (xs.map V.int)) ∧ xs.length ≤ 63 ∧ (∀ x ∈ xs, 0 ≤ x) ∧ 0 ≤ l ∧ 0 ≤ m ∧ m < 2147483647
/-- G is known: it stands in H whatever is drawn; the source itself is apart from it -/
structure Kn (G H : Hp) (d c : Addr) : Prop where
  le : Same G H
  gd : G d = none
  gc : G c = none
  src : Src H d c
section
variable {G H H' : Hp} {d c p : Addr} {o o' : HO}
theorem Src.ne (s : Src H d c) : c ≠ d := by
  obtain ⟨xs, l, m, t, h1, h2, _⟩ := s
  exact ne_of h2 h1 (by intro z; cases z)
theorem Src.some_d (s : Src H d c) (hp : H p = none) : p ≠ d := by
  obtain ⟨xs, l, m, t, h1, h2, _⟩ := s
  exact fun e => by rw [e, h1] at hp; cases hp
theorem Src.some_c (s : Src H d c) (hp : H p = none) : p ≠ c := by
  obtain ⟨xs, l, m, t, h1, h2, _⟩ := s
  exact fun e => by rw [e, h2] at hp; cases hp
theorem Src.same (s : Src H d c) (e : Same H H') : Src H' d c := by
  obtain ⟨xs, l, m, t, h1, h2, r⟩ := s
  exact ⟨xs, l, m, t, e _ _ h1, e _ _ h2, r⟩
theorem Src.off (s : Src H d c) (h1 : p ≠ d) (h2 : p ≠ c) : Src (upd H p o) d c := by
  obtain ⟨xs, l, m, t, e1, e2, r⟩ := s
  exact ⟨xs, l, m, t, by rw [upd_ne h1.symm]; exact e1, by rw [upd_ne h2.symm]; exact e2, r⟩
theorem same_new (h : H p = none) : Same H (upd H p o) := fun b x e => by
  rw [upd_ne (ne_of_none e h)]
  exact e
theorem Kn.mono (k : Kn G H d c) (e : Same H H') : Kn G H' d c := ⟨k.le.trans e, k.gd, k.gc, k.src.same e⟩
/-- a new object, remembered -/
theorem Kn.new (k : Kn G H d c) (hp : H p = none) : Kn (upd G p o) (upd H p o) d c := by
  refine ⟨fun b x e => ?_, ?_, ?_, k.src.same (same_new hp)⟩
  · by_cases hb : b = p
    · subst hb
      rw [upd_same] at e ⊢
      exact e
    · rw [upd_ne hb] at e ⊢
      exact k.le _ _ e
  · rw [upd_ne (k.src.some_d hp).symm]
    exact k.gd
  · rw [upd_ne (k.src.some_c hp).symm]
    exact k.gc
/-- an object made meanwhile, remembered -/
theorem Kn.add (k : Kn G H d c) (e : Same H H') (hp : H p = none) (h : H' p = some o) : Kn (upd G p o) H' d c := by
  refine ⟨fun b x q => ?_, ?_, ?_, k.src.same e⟩
  · by_cases hb : b = p
    · subst hb
      rw [upd_same] at q
      cases q
      exact h
    · rw [upd_ne hb] at q
      exact e _ _ (k.le _ _ q)
  · rw [upd_ne (k.src.some_d hp).symm]
    exact k.gd
  · rw [upd_ne (k.src.some_c hp).symm]
    exact k.gc
theorem Kn.nd (k : Kn G H d c) (h : G p = some o) : p ≠ d := fun e => by
  rw [e, k.gd] at h
  cases h
theorem Kn.nc (k : Kn G H d c) (h : G p = some o) : p ≠ c := fun e => by
  rw [e, k.gc] at h
  cases h
/-- a remembered object changes -/
theorem Kn.set (k : Kn (upd G p o) H d c) : Kn (upd G p o') (upd H p o') d c := by
  have n1 : p ≠ d := k.nd upd_same
  have n2 : p ≠ c := k.nc upd_same
  refine ⟨fun b x e => ?_, ?_, ?_, k.src.off n1 n2⟩
  · by_cases hb : b = p
    · subst hb
      rw [upd_same] at e ⊢
      exact e
    · rw [upd_ne hb] at e ⊢
      refine k.le _ _ ?_
      rw [upd_ne hb]
      exact e
  · have := k.gd
    rw [upd_ne n1.symm] at this ⊢
    exact this
  · have := k.gc
    rw [upd_ne n2.symm] at this ⊢
    exact this
/-- an object that nobody remembers changes -/
theorem Kn.mut (k : Kn G H d c) (g : G p = none) (n1 : p ≠ d) (n2 : p ≠ c) : Kn G (upd H p o) d c :=
  ⟨fun b x e => by rw [upd_ne (ne_of_none e g)]; exact k.le _ _ e, k.gd, k.gc, k.src.off n1 n2⟩
/-- a remembered object becomes another -/
theorem Kn.put (k : Kn G H d c) (g : G p = some o) : Kn (upd G p o') (upd H p o') d c := by
  have n1 : p ≠ d := k.nd g
  have n2 : p ≠ c := k.nc g
  refine ⟨fun b x e => ?_, by rw [upd_ne n1.symm]; exact k.gd, by rw [upd_ne n2.symm]; exact k.gc, k.src.off n1 n2⟩
  by_cases hb : b = p
  · subst hb
    rw [upd_same] at e ⊢
    exact e
  · rw [upd_ne hb] at e ⊢
    exact k.le _ _ e
/-- all that stands but the source is known -/
def hide (H : Hp) (d c : Addr) : Hp := fun b => if b = d ∨ b = c then none else H b
theorem know (k : Kn G H d c) : Kn (hide H d c) H d c :=
  ⟨fun b x e => by
    unfold hide at e
    split at e
    · cases e
    · exact e, by simp [hide], by simp [hide], k.src⟩
theorem know_le (k : Kn G H d c) : Same G (hide H d c) := fun b x e => by
  have h1 : b ≠ d := k.nd e
  have h2 : b ≠ c := k.nc e
  unfold hide
  rw [if_neg (by simp [h1, h2])]
  exact k.le _ _ e
theorem know_t {K : PySem.W.Frag} {t : Addr} {xs : List V} (k : Kn G H d c) (h : SqT K H t xs) : SqT K (hide H d c) t xs := by
  obtain ⟨ys, l, m, z, h1, h2, _⟩ := k.src
  have off : ∀ {o : HO}, H t = some o → (∀ q, o ≠ .dK q) → (∀ q, o ≠ .lst q) → (hide H d c) t = some o := fun {o} e n1 n2 => by
    have a1 : t ≠ d := fun q => by rw [q, h1] at e; exact n1 _ (Option.some.inj e).symm
    have a2 : t ≠ c := fun q => by rw [q, h2] at e; exact n2 _ (Option.some.inj e).symm
    unfold hide
    rw [if_neg (by simp [a1, a2])]
    exact e
  rcases h with (h | ⟨o, h⟩) | h
  · exact .inl (.inl (off h (fun _ q => nomatch q) (fun _ q => nomatch q)))
  · exact .inl (.inr ⟨o, off h (fun _ q => nomatch q) (fun _ q => nomatch q)⟩)
  · exact .inr h
/-- one forgets -/
theorem Kn.weak {G' : Hp} (k : Kn G H d c) (e : Same G' G) : Kn G' H d c := ⟨e.trans k.le, e.free k.gd, e.free k.gc, k.src⟩
theorem Kn.free (k : Kn G H d c) (hp : H p = none) : G p = none := k.le.free hp
end
theorem ints_at {ns : List Int} {i : Nat} {y : V} (h : (ns.map V.int)[i]? = some y) : ∃ z, y = V.int z ∧ ns[i]? = some z := by
  rw [List.getElem?_map] at h
  cases e : ns[i]? with
  | none =>
    rw [e] at h
    cases h
  | some z =>
    rw [e] at h
    exact ⟨z, (Option.some.inj h).symm, rfl⟩
theorem at_lt {α : Type} {l : List α} {i : Nat} {x : α} (h : l[i]? = some x) : i < l.length := (List.getElem?_eq_some_iff.mp h).1
/-! ### values and tests that leave the heap -/
section
variable {σ : L2.St} {H : Hp} {x y z v : V} {ta tb td ty : TE} {d : Addr} {b : Bool}
theorem val_dget (h : Val td σ H (.ref d)) (hy : Val ty σ H y) (g : DGet H d y (some v)) : Val (tDGet td ty) σ H v := fun Q q => by
  refine h _ ?_
  refine hy _ ?_
  exact ⟨d, v, rfl, g, q⟩
theorem val_cb1 {r : List V → Hp → VK → Prop} (h : Val ta σ H x) (hr : ∀ Q : VK, Q z H → r [x] H Q) : Val (tCB r (tCons ta tNil)) σ H z := fun Q q => by
  refine h _ ?_
  exact hr Q q
theorem val_cb2 {r : List V → Hp → VK → Prop} (h : Val ta σ H x) (h2 : Val tb σ H y) (hr : ∀ Q : VK, Q z H → r [x, y] H Q) : Val (tCB r (tCons ta (tCons tb tNil))) σ H z := fun Q q => by
  refine h _ ?_
  refine h2 _ ?_
  exact hr Q q
theorem tyes {A B : Hp → Prop} (h : A H) : tYes σ H (fun b H3 => if b = true then A H3 else B H3) := by
  show (if true = true then A H else B H)
  exact iteT h
theorem ans_or2 {t u : TT} {b1 b2 : Bool} (h1 : Ans t σ H b1) (h2 : Ans u σ H b2) : Ans (tOr t u) σ H (b1 || b2) := by
  cases b1 with
  | true => exact ans_or1 h1
  | false => exact ans_or h1 h2
/-- an expression by two ways, one behind -/
theorem ifx {c : Bool} {te tf : TE} {X : VK} (P : V → Hp → Prop) (h : ∀ v H', P v H' → X v H') (h1 : c = true → ∀ Y : VK, (∀ v H', P v H' → Y v H') → te σ H Y) (h2 : c = false → ∀ Y : VK, (∀ v H', P v H' → Y v H') → tf σ H Y) :
    if c = true then te σ H X else tf σ H X := by
  cases c with
  | true => exact iteT (h1 rfl X h)
  | false => exact iteF (h2 rfl X h)
/-- a statement by two ways, one behind -/
theorem ifs {c : Bool} {tA tB : TS} {D : Ends} (P : L2.St → Hp → Prop) (h : ∀ σ' H', P σ' H' → D.nx σ' H') (h1 : c = true → ∀ N : L2.St → Hp → Prop, (∀ σ' H', P σ' H' → N σ' H') → tA { D with nx := N } σ H) (h2 : c = false → ∀ N : L2.St → Hp → Prop, (∀ σ' H', P σ' H' → N σ' H') → tB { D with nx := N } σ H) :
    if c = true then tA D σ H else tB D σ H := by
  cases c with
  | true => exact iteT (h1 rfl D.nx h)
  | false => exact iteF (h2 rfl D.nx h)
/-- one test, then another, whatever they say -/
theorem ift {c : Bool} {u : TT} {X : Bool → Hp → Prop} (P : Bool → Hp → Prop) (p : P false H) (h : ∀ b H', P b H' → X b H') (h1 : ∀ Y : Bool → Hp → Prop, (∀ b H', P b H' → Y b H') → u σ H Y) :
    if c = true then u σ H X else X false H := by
  cases c with
  | true => exact iteT (h1 X h)
  | false => exact iteF (h _ _ p)
theorem Val.to (h : Val ta σ H x) (e : x = y) : Val ta σ H y := e ▸ h
theorem val_is (h : Val ta σ H x) {Q : VK} (q : Q x H) : ta σ H Q := h Q q
end
end Lw

namespace Lw
open PySem L2 PySem.Spec PyProof.Rows
/-- a tuple of one item, none times -/
theorem tm_none (l : Addr) (items : Array Value) (n : Nat) (dd : Option Addr) (sl : Array (Option Value)) (u : Tok) (he : items.isEmpty = false) :
    Meets (Builtin.«tuple.__mul__» ⟨[.ref l, .int 0 u], []⟩) (fun _ R s => s.heap.get? l = some { cls := .type "tuple", dict := dd, data := .seq items n, slots := sl } ∧
      R (.ok (.ret (Value.ref s.heap.objs.size))) { s with heap := s.heap.push { cls := Value.type "tuple", data := Data.seq #[] }, toks := s.toks }) :=
  .of_wp fun prog w A R s z => by
    obtain ⟨h1, h2, h3, h4, h5⟩ := s
    obtain ⟨hl, z⟩ := z
    have f1 := AutoSeq1.idx_int
    have c1 : (items.isEmpty || (0 : Int) == 1) = false := by rw [he]; rfl
    wp_walk using wpAny_loadPart' hl
    repeat (first
      | (refine wpAny_ite_false (decide_eq_false (by rw [c1]; exact Bool.false_ne_true)) ?_; wp_walk using wpAny_loadPart' hl)
      | (refine wpAny_ite_true (decide_eq_true (by decide)) ?_; wp_walk using wpAny_loadPart' hl)
      | (refine wpAny_ite_false (decide_eq_false (by decide)) ?_; wp_walk using wpAny_loadPart' hl))
    exact ⟨_, rfl, z⟩
/-- a tuple of one item, once: itself -/
theorem tm_once (l : Addr) (items : Array Value) (n : Nat) (dd : Option Addr) (sl : Array (Option Value)) (u : Tok) :
    Meets (Builtin.«tuple.__mul__» ⟨[.ref l, .int 1 u], []⟩) (fun _ R s => s.heap.get? l = some { cls := .type "tuple", dict := dd, data := .seq items n, slots := sl } ∧ ∀ k, R (.ok (.ret (Value.ref l))) { s with toks := k }) :=
  .of_wp fun prog w A R s z => by
    obtain ⟨h1, h2, h3, h4, h5⟩ := s
    obtain ⟨hl, z⟩ := z
    have f1 := AutoSeq1.idx_int
    have c1 : (items.isEmpty || (1 : Int) == 1) = true := by rw [show ((1 : Int) == 1) = true from rfl, Bool.or_true]
    wp_walk using wpAny_loadPart' hl
    repeat (first
      | (refine wpAny_ite_true (decide_eq_true (by rw [c1])) ?_; wp_walk using wpAny_loadPart' hl)
      | (refine wpAny_ite_false (decide_eq_false (by decide)) ?_; wp_walk using wpAny_loadPart' hl))
    exact ⟨_, rfl, z _⟩
/-- (v,) * k -/
def rRep1 (K : PySem.W.Frag) : R2 := fun x y H Q => ∃ l k v, x = .ref l ∧ y = .int k ∧ SqT K H l [v] ∧ 0 ≤ k ∧ k ≤ 1000 ∧ ∀ t H', Same H H' → SqT K H' t (List.replicate k.toNat v) → Q (.ref t) H'
section
variable {X : Cx}
theorem op_rep1 : OpR X (binaryOp .Mult) (rRep1 X.K) := by
  intro pins s σ H x y v u Q I rx ry h
  obtain ⟨l, k, z, rfl, rfl, hT, h0, h1, q⟩ := id h
  by_cases h2 : 2 ≤ k
  · refine op_repT pins s σ H _ _ v u Q I rx ry ⟨l, k, [z], rfl, rfl, hT, by simp, h2, h1, by simp, fun p hp => q p _ (same_new hp) (.inl (.inl ?_))⟩
    rw [upd_same]
    congr 2
    induction k.toNat with
    | zero => rfl
    | succ m ih => rw [List.replicate_succ, List.flatten_cons, ih, List.replicate_succ]; rfl
  · cases rx
    obtain ⟨t, rfl⟩ := ry
    obtain ⟨its, r, ⟨⟨cls, dd, data, sl⟩, ho, hc, n, hd⟩, hs⟩ := I.tuple hT
    simp only at hc hd
    subst hc hd
    have hn : its.toArray.isEmpty = false := by
      cases r with
      | cons _ _ => rfl
    rcases (by omega : k = 0 ∨ k = 1) with rfl | rfl
    · refine wpAny_binaryOp_repeat_ref (T := "tuple") (U := "int") (by decide) ⟨_, ho, rfl⟩ (fun s' => typeIs_int s' 0 t) noFill_tuple_mul F.fills_int_mul F.slot_int_rmul repeat_tuple F.slot_int_index.lookup
        (call_meets F.slot_int_rmul (typeIs_int s 0 t) F.entry_int_rmul (F.args_int_rmul_2 _ _) (int_rmul_tuple 0 t l its.toArray n dd sl)
          ⟨ho, rfl, ⟨_, ho, rfl⟩, call_meets F.slot_tuple_mul ⟨_, ho, rfl⟩ F.entry_tuple_mul (F.args_tuple_mul_2 _ _) (tm_none l its.toArray n dd sl t hn) ⟨ho, ?_⟩⟩)
      have hf := I.hok.fresh (Nat.le_refl s.heap.objs.size)
      refine ⟨.ref s.heap.objs.size, upd H s.heap.objs.size (.tup []), I.laid (t' := s.toks) (o := .tup []) (fun b ob q => Heap.get?_push_of_some _ q) (Nat.le_refl _) ?_, rfl, q _ _ (same_new hf) (.inl (.inl upd_same))⟩
      exact ⟨Nat.zero_le _, [], .nil, IsTup.new _ _⟩
    · refine wpAny_binaryOp_repeat_ref (T := "tuple") (U := "int") (by decide) ⟨_, ho, rfl⟩ (fun s' => typeIs_int s' 1 t) noFill_tuple_mul F.fills_int_mul F.slot_int_rmul repeat_tuple F.slot_int_index.lookup
        (call_meets F.slot_int_rmul (typeIs_int s 1 t) F.entry_int_rmul (F.args_int_rmul_2 _ _) (int_rmul_tuple 1 t l its.toArray n dd sl)
          ⟨ho, rfl, ⟨_, ho, rfl⟩, call_meets F.slot_tuple_mul ⟨_, ho, rfl⟩ F.entry_tuple_mul (F.args_tuple_mul_2 _ _) (tm_once l its.toArray n dd sl t) ⟨ho, fun k => ?_⟩⟩)
      exact ⟨.ref l, H, I.tok k, rfl, q _ _ (Same.refl _) hT⟩
end
end Lw

namespace Lw
open PySem L2
/-! ### rows as data -/
def dR (r : List Int) : PyData := .tuple (r.map .int)
def dRs (rs : List (List Int)) : PyData := .list (rs.map dR)
theorem dp_ints {K : PySem.W.Frag} {H : Hp} : ∀ ns : List Int, DpAll K H (ns.map V.int) (ns.map PyData.int)
  | [] => .nil
  | n :: ns => .cons (.int n) (dp_ints ns)
theorem dp_row {K : PySem.W.Frag} {H : Hp} {t : Addr} {r : List Int} (h : SqT K H t (r.map V.int)) : Dp K H (.ref t) (dR r) := .tup h (dp_ints r)
/-- at ts stand the rows -/
inductive Rows (K : PySem.W.Frag) (H : Hp) : List V → List (List Int) → Prop where
  | nil : Rows K H [] []
  | cons {t : Addr} {ts : List V} {r : List Int} {rs : List (List Int)} : SqT K H t (r.map V.int) → Rows K H ts rs → Rows K H (.ref t :: ts) (r :: rs)
theorem sameT {K : PySem.W.Frag} {H H' : Hp} {a : Addr} {xs : List V} (e : Same H H') (h : SqT K H a xs) : SqT K H' a xs := by
  rcases h with (h | ⟨o, h⟩) | h
  · exact .inl (.inl (e _ _ h))
  · exact .inl (.inr ⟨o, e _ _ h⟩)
  · exact .inr h
theorem Rows.mono {K : PySem.W.Frag} {H H' : Hp} (e : Same H H') : ∀ {ts : List V} {rs : List (List Int)}, Rows K H ts rs → Rows K H' ts rs
  | _, _, .nil => .nil
  | _, _, .cons h t => .cons (sameT e h) (Rows.mono e t)
theorem Rows.append {K : PySem.W.Frag} {H : Hp} : ∀ {ts us : List V} {rs qs : List (List Int)}, Rows K H ts rs → Rows K H us qs → Rows K H (ts ++ us) (rs ++ qs)
  | _, _, _, _, .nil, k => k
  | _, _, _, _, .cons h t, k => .cons h (Rows.append t k)
theorem Rows.one {K : PySem.W.Frag} {H : Hp} {t : Addr} {r : List Int} (h : SqT K H t (r.map V.int)) : Rows K H [.ref t] [r] := .cons h .nil
theorem Rows.len {K : PySem.W.Frag} {H : Hp} : ∀ {ts : List V} {rs : List (List Int)}, Rows K H ts rs → ts.length = rs.length
  | _, _, .nil => rfl
  | _, _, .cons _ t => by rw [List.length_cons, List.length_cons, Rows.len t]
theorem Rows.get {K : PySem.W.Frag} {H : Hp} : ∀ {ts : List V} {rs : List (List Int)} {i : Nat} {x : V}, Rows K H ts rs → ts[i]? = some x → ∃ t r, x = .ref t ∧ rs[i]? = some r ∧ SqT K H t (r.map V.int)
  | _, _, _, _, .nil, e => by simp at e
  | _, _, 0, _, .cons h _, e => by simp at e; exact ⟨_, _, e.symm, rfl, h⟩
  | _, _, i + 1, _, .cons _ t, e => by
    obtain ⟨a, r, h1, h2, h3⟩ := Rows.get (i := i) t (by simpa using e)
    exact ⟨a, r, h1, by simpa using h2, h3⟩
theorem dp_rows {K : PySem.W.Frag} {H : Hp} : ∀ {ts : List V} {rs : List (List Int)}, Rows K H ts rs → DpAll K H ts (rs.map dR)
  | _, _, .nil => .nil
  | _, _, .cons h t => .cons (dp_row h) (dp_rows t)
theorem sqt_off {K : PySem.W.Frag} {H : Hp} {D a : Addr} {xs ys zs : List V} (hD : H D = some (.lst xs)) (h : SqT K H a zs) : SqT K (upd H D (.lst ys)) a zs := by
  rcases h with (h | ⟨o, h⟩) | h
  · exact .inl (.inl (by rw [upd_ne (ne_of h hD (by intro z; cases z))]; exact h))
  · exact .inl (.inr ⟨o, by rw [upd_ne (ne_of h hD (by intro z; cases z))]; exact h⟩)
  · exact .inr h
/-- the rows stand, whatever a list becomes -/
theorem rows_off {K : PySem.W.Frag} {H : Hp} {D : Addr} {xs ys : List V} (hD : H D = some (.lst xs)) : ∀ {ts : List V} {rs : List (List Int)}, Rows K H ts rs → Rows K (upd H D (.lst ys)) ts rs
  | _, _, .nil => .nil
  | _, _, .cons h t => .cons (sqt_off hD h) (rows_off hD t)
theorem small1000' {n : Nat} (h : n ≤ 10000) : n < sizeLine := Nat.lt_of_le_of_lt h (by decide)
theorem can_ints : ∀ ns : List Int, PyData.canLayAll0 (ns.map PyData.int) = true
  | [] => rfl
  | n :: ns => by
    show (PyData.canLay0 (.int n) && PyData.canLayAll0 (ns.map PyData.int)) = true
    rw [can_ints ns]
    rfl
theorem dep_ints : ∀ ns : List Int, PyData.depthAll (ns.map PyData.int) ≤ 1
  | [] => by decide
  | n :: ns => by
    have ih := dep_ints ns
    have h1 : PyData.depth (.int n) ≤ 1 := by simp [PyData.depth]
    simp only [List.map_cons, PyData.depthAll]
    omega
theorem can_rows : ∀ rs : List (List Int), PyData.canLayAll0 (rs.map dR) = true
  | [] => rfl
  | r :: rs => by
    show (PyData.canLay0 (dR r) && PyData.canLayAll0 (rs.map dR)) = true
    rw [can_rows rs, Bool.and_true]
    show PyData.canLayAll0 (r.map PyData.int) = true
    exact can_ints r
theorem dep_row (r : List Int) : PyData.depth (dR r) ≤ 2 := by
  have h := dep_ints r
  unfold dR
  simp only [PyData.depth]
  omega
theorem dep_rows : ∀ rs : List (List Int), PyData.depthAll (rs.map dR) ≤ 2
  | [] => by decide
  | r :: rs => by
    have ih := dep_rows rs
    have h1 := dep_row r
    simp only [List.map_cons, PyData.depthAll]
    omega
theorem shp_row (r : List Int) : SeqAt.shaped (dR r) = true := by
  unfold SeqAt.shaped
  rw [Bool.and_eq_true]
  exact ⟨can_ints r, decide_eq_true (Nat.le_trans (dep_row r) (by decide))⟩
theorem shp_rows (rs : List (List Int)) : SeqAt.shaped (dRs rs) = true := by
  unfold SeqAt.shaped
  rw [Bool.and_eq_true]
  refine ⟨can_rows rs, decide_eq_true ?_⟩
  have h := dep_rows rs
  unfold dRs
  simp only [PyData.depth]
  omega
theorem eqv_same {d : PyData} (h : SeqAt.shaped d = true) : PyData.eqv d d = true := SeqAt.eqv_refl d (SeqAt.canLay_of_shaped h)
theorem neD_no {d : PyData} (h : SeqAt.shaped d = true) {A B : Prop} (b : B) : if (!PyData.eqv d d) = true then A else B := by
  rw [eqv_same h]
  exact iteF b
theorem ne_no {x : V} {A B : Prop} (b : B) : if (!decide (x = x)) = true then A else B := by
  rw [decide_eq_true rfl]
  exact iteF b
theorem know_rows {K : PySem.W.Frag} {G H : Hp} {d c : Addr} (k : Kn G H d c) : ∀ {ts : List V} {rs : List (List Int)}, Rows K H ts rs → Rows K (hide H d c) ts rs
  | _, _, .nil => .nil
  | _, _, .cons h t => .cons (know_t k h) (know_rows k t)
theorem rows_set {K : PySem.W.Frag} {H : Hp} {t : Addr} {r : List Int} : ∀ {ts : List V} {rs : List (List Int)} {i : Nat}, Rows K H ts rs → SqT K H t (r.map V.int) → Rows K H (ts.set i (.ref t)) (rs.set i r)
  | _, _, _, .nil, _ => by simpa using Rows.nil
  | _, _, 0, .cons _ tl, h => by simpa using Rows.cons h tl
  | _, _, i + 1, .cons h0 tl, h => by simpa using Rows.cons h0 (rows_set (i := i) tl h)
theorem s_off {H H' : Hp} {D : Addr} {o : HO} (s : Same H H') (h : H D = none) : Same H (upd H' D o) := fun b x e => by
  rw [upd_ne (ne_of_none e h)]
  exact s _ _ e
theorem at_nat {us : List V} {i : Nat} {x : V} (h : us[i]? = some x) : atI us (i : Int) = some x := atI_nat h
theorem ixN_nat {n i : Nat} (h : i < n) : ixN n (i : Int) = some i := by
  unfold ixN
  rw [if_pos (by omega), if_pos (by omega)]
  simp
theorem rows_take {K : PySem.W.Frag} {H : Hp} : ∀ {ts : List V} {rs : List (List Int)} {j : Nat}, Rows K H ts rs → Rows K H (ts.take j) (rs.take j)
  | _, _, _, .nil => by simpa using Rows.nil
  | _, _, 0, .cons _ _ => .nil
  | _, _, j + 1, .cons h t => .cons h (rows_take t)
theorem six_nat {n d m : Nat} (h : m ≤ n) : HT.sIx n d (some (m : Int)) = m := by
  rw [HT.sIx_nat]
  omega
theorem cut_from (us : List V) (n : Nat) (h : n ≤ us.length) : cutV us (some (n : Int)) none = us.drop n := by
  unfold cutV
  rw [show HT.sIx us.length 0 (some (n : Int)) = n from six_nat h, show HT.sIx us.length us.length none = us.length from rfl]
  exact List.take_of_length_le (by rw [List.length_drop]; exact Nat.le_refl _)
theorem cut_to (us : List V) (x : Int) : ∃ j, cutV us none (some x) = us.take j := by
  unfold cutV
  exact ⟨_, by rw [show HT.sIx us.length 0 none = 0 from rfl, List.drop_zero]⟩
theorem rows_drop {K : PySem.W.Frag} {H : Hp} : ∀ {ts : List V} {rs : List (List Int)} {j : Nat}, Rows K H ts rs → Rows K H (ts.drop j) (rs.drop j)
  | _, _, _, .nil => by simpa using Rows.nil
  | _, _, 0, .cons h t => .cons h t
  | _, _, j + 1, .cons _ t => by simpa using rows_drop (j := j) t
theorem cut_nat (us : List V) (m : Nat) : cutV us none (some (m : Int)) = us.take m := by
  unfold cutV
  rw [show HT.sIx us.length 0 none = 0 from rfl, List.drop_zero, HT.sIx_nat, Nat.sub_zero]
  by_cases h : m ≤ us.length
  · rw [Nat.min_eq_left h]
  · rw [Nat.min_eq_right (by omega), List.take_of_length_le (Nat.le_refl _), List.take_of_length_le (by omega)]
end Lw

namespace Lw
open PySem L2 PySem.Spec PyProof.Rows
/-- X(), X an own exception class without own __init__ -/
theorem pmk_none {X : Cx} {pos : Pos} {C : Addr} {bmB : List Value} {B newId initId : String} {x : Str} {p : Pos} (F : ExcBaseFacts B newId initId bmB) (e : PySem.W.excIn X.K C bmB newId = true) (gC : X.mg x = some (.ref C))
    (kC : PySem.W.keepIn X.K (.ref C) = true) (rs : Raises X (.ref C)) (hg : Gl X x) (hdb : (x == ("__debug__" : Str)) = false := by decide) :
    PMk X (.Call (.Name x p) [] [] pos) (fun _ H Q => Q (.ref C) none H) := by
  intro pins s σ H Q I h
  refine wpAny_Call_Name_kw (ld_glob I hg gC ?_ hdb)
  refine PySem.W.callWith_K0 I.kIn kC ?_
  show wpAny _ _ (call (.ref C) []) _ _ _
  obtain ⟨bm, N, nm, qn, bs, hdct, sn, sub, ab, col, dd, k0, k1, k2, k3, k5, mN, hC, hN, hni, T⟩ := exc_obj I.kIn e
  exact wpAny_call_exc_subT F T hC hN hni (fun h' a hm => mk_of I hm rs h (I.hok.gone hm.new)) (Nat.zero_le _)
/-- what the written part says of an own exception class over ValueError -/
structure OwnX (K : PySem.W.Frag) (mg : Str → Option Value) (x : Str) (C : Addr) : Prop where
  g : mg x = some (.ref C)
  ex : PySem.W.excIn K C [.type "ValueError", .type "Exception", .type "BaseException", .type "object"] "ValueError.__new__" = true
  kp : PySem.W.keepIn K (.ref C) = true
  bE : PySem.W.subIn K (.ref C) (.type "BaseException") = some true
  tE : PySem.W.typeIn K (.ref C) = some (.type "type")
  iE : PySem.W.isClsIn K C = true
  sE : PySem.W.subIn K (.ref C) (.ref C) = some true
theorem OwnX.me {K : PySem.W.Frag} {mg : Str → Option Value} {x : Str} {C : Addr} (o : OwnX K mg x C) : PySem.W.exmOne K (.ref C) (.ref C) = some true := by
  have e1 : (PySem.W.subIn K (.ref C) (.type "BaseException") == some true) = true := by rw [o.bE]; rfl
  have e3 : (PySem.W.clsIn K C).isSome = true := o.iE
  have e2 : ((PySem.W.clsIn K C).isSome && PySem.W.typeIn K (.ref C) == some (.type "type")) = true := by rw [e3, o.tE]; rfl
  show (if _ then (if _ then _ else _) else _) = some true
  rw [if_pos e1, if_pos e2]
  exact o.sE
end Lw

/-! ### defs that may show data: nothing is being shown around them -/
namespace Lw
open PySem L2 PySem.Spec PyProof.Rows
/-- a def's promise where nothing is being shown around it -/
structure FnG (P : Program) (w : World) (K : PySem.W.Frag) (mg : Str → Option Value) (base : Heap) (CX : CXT) (k : Nat) (f : Addr) (fd : FuncData) (ps : List Str) (sp : Sp) : Prop where
  len : ∀ vs H Q E, sp vs H Q E → vs.length = ps.length
  run : ∀ (A : Around) (outer : List Env) (s : Shared) (H : Hp) (args : Args) (us : List Value) (vs : List V) (Q : VK) (E : XK), A.guards = some [] → Room k A → Env0 P w K mg base A outer s H → BindsTo s fd args (ps.zip us) → Vals vs us →
    sp vs H Q E → codeAny (model P w) A (.call (.ref f) args) (CR CX outer P w H s Q E) s
section
variable {P : Program} {w : World} {K : PySem.W.Frag} {mg : Str → Option Value} {base : Heap} {CX : CXT}
theorem FnG.of {k : Nat} {f : Addr} {fd : FuncData} {ps : List Str} {sp : Sp} (F : FnOk P w K mg base CX k f fd ps sp) : FnG P w K mg base CX k f fd ps sp :=
  ⟨F.len, fun A outer s H args us vs Q E _ hr e0 hb r h => F.run A outer s H args us vs Q E hr e0 hb r h⟩
/-- a def by its body, the guards known -/
theorem okG_of {x qual : Str} {st : Stmt} {f : Addr} {fd : FuncData} {N ps : List Str} {k : Nat} {sp : Sp} (F : Fun K x qual st f fd) (S : FnScope N ps (defScope st)) (len : ∀ vs H Q E, sp vs H Q E → vs.length = ps.length)
    (hbody : ∀ (cdv : Value) (A : Around) (outer : List Env) (s : Shared) (H : Hp) (vs : List V) (Q : VK) (E : XK), A.guards = some [] → Room k (A.deeper (envOfC qual (defScope st) s.heap.objs.size f cdv)) → sp vs H Q E →
      ∃ t, PSs (cxOf CX P w K mg base N qual (defScope st) f cdv A outer s H E) (defBody st) t ∧ t { nx := fun _ H' => Q .non H', rt := Q } (start N vs) H) :
    FnG P w K mg base CX (k + 1) f fd ps sp := by
  obtain ⟨oc, od, kV, doc, pm, an, cdv, ct, osl, rfl, lk, hcd⟩ := F.ex
  refine ⟨len, fun A outer s H args us vs Q E hG hR e0 hb r hsp => ?_⟩
  have X1 : K.In s.heap := e0.mod.kin.keeps fun b o e => (e0.bs b o e).1
  have lim : s.heap.NoLimit := e0.mod.nolimit.keeps fun b o e => (e0.bs b o e).1
  have kinds : ∀ y ∈ ps.zip us, (defScope st).names.lookup y.1 = some .local ∨ ((defScope st).names.lookup y.1 = some .cell ∧ ((cellsFrom (s.heap.objs.size + 1) (defScope st).names []).lookup y.1).isSome = true) := by
    rintro ⟨n, v⟩ hy
    cases S.par n (List.of_mem_zip hy).1 with
    | inl q => exact .inl q
    | inr q => exact .inr ⟨q, PySem.W.cellsFrom_some _ _ _ (.inl q)⟩
  refine codeAny_call_function hR.depth (X1 _ _ lk) rfl S.co S.gen rfl (PySem.W.codeRec_of X1 hcd) (hb _ _ _ _ ?_)
  refine wpAny_newFunctionEnv_cells S.kind kinds fun env he s1 ic => ?_
  subst he
  refine ⟨lim.keeps ic.toInCall.keep, codeAny_func ?_⟩
  obtain ⟨t, ht, hq⟩ := hbody cdv A outer s H vs Q E hG (hR.deeper _) hsp
  have I := inv_start (CX := CX) (E := E) S hR.hd e0 (len _ _ _ _ hsp) r ic
  refine wpAny_mono (ht.run [] s1 (start N vs) H _ I hq) (fun fl s' hs => ?_) fun e s' hs => hs
  cases fl with
  | ret u =>
    obtain ⟨v, σ', H', J, rv, q⟩ := hs
    exact ⟨v, H', J.os, J.bare, J.base, J.hok, rv, q⟩
  | next =>
    obtain ⟨σ', H', J, q⟩ := hs
    exact ⟨V.non, H', J.os, J.bare, J.base, J.hok, (rfl : Value.none = Value.none), q⟩
  | brk =>
    obtain ⟨_, _, _, q⟩ := hs
    exact False.elim q
  | cont =>
    obtain ⟨_, _, _, q⟩ := hs
    exact False.elim q
end
section
variable {P : Program} {w : World} {K : PySem.W.Frag} {mg : Str → Option Value} {base : Heap}
/-- the same where nothing is raised -/
theorem okG_nox {x qual : Str} {st : Stmt} {f : Addr} {fd : FuncData} {N ps : List Str} {k : Nat} {sp : Sp} (F : Fun K x qual st f fd) (S : FnScope N ps (defScope st)) (len : ∀ vs H Q E, sp vs H Q E → vs.length = ps.length)
    (hbody : ∀ (cdv : Value) (A : Around) (outer : List Env) (s : Shared) (H : Hp) (vs : List V) (Q : VK) (E : XK), A.guards = some [] → Room k (A.deeper (envOfC qual (defScope st) s.heap.objs.size f cdv)) → sp vs H Q E →
      ∃ t, PSs (cxOf CX0 P w K mg base N qual (defScope st) f cdv A outer s H E).nox (defBody st) t ∧ t { nx := fun _ H' => Q .non H', rt := Q } (start N vs) H) : FnG P w K mg base CX0 (k + 1) f fd ps sp :=
  okG_of F S len fun cdv A outer s H vs Q E hG hr h => by
    obtain ⟨t, ht, q⟩ := hbody cdv A outer s H vs Q E hG hr h
    exact ⟨t, ht.nox, q⟩
end
section
variable {X : Cx} {CX : CXT} {k : Nat} {f : Addr} {fd : FuncData} {ps : List Str} {sp : Sp} {dvs : List V} {ds : List Value} {E : XK} {x : Str} {p pos : Pos} {e : Expr} {es : List Expr} {t : TA}
/-- a call of such a def from a body around which nothing is being shown -/
theorem pe_callG (F : FnG X.prog X.w X.K X.mg X.base CX k f fd ps sp) (hG : X.A.guards = some []) (hr : Room k X.A) (hg : Gl X x) (hm : X.mg x = some (.ref f)) (hk : PySem.W.keepIn X.K (.ref f) = true) (hb : Binds X.K fd ps ds) (hd : Vals dvs ds) (hx : Passes CX X E)
    (ha : PA X (e :: es) t) (hdb : (x == ("__debug__" : Str)) = false := by decide) (he : starEach (e :: es) X.env = (false, eval e X.env) :: starEach es X.env := by rfl) (hpl : (backTo pos (starEach es X.env)).any (·.1) = false := by rfl) :
    PE X (.Call (.Name x p) (e :: es) [] pos) (tCall sp dvs E t) := by
  constructor
  intro pins s σ H Q I h
  refine wpAny_Call_Name_kw (ld_glob I hg hm ?_ hdb)
  refine PySem.W.callWith_K (h₀ := X.base) I.ok.mod.kin hk (thn (ha.run pos pins s σ H _ I h) ?_) he hpl
  rintro us s1 ⟨vs, H1, I1, r, q⟩
  refine ⟨I1.kIn, ?_⟩
  have r2 := r.append hd
  have hl : (us ++ ds).length = ps.length := r2.length.symm.trans (F.len _ _ _ _ q)
  refine wpAny_call (codeAny_mono (F.run X.A X.stack s1 H1 ⟨us, []⟩ _ _ Q E hG hr I1.env0 (hb s1 us I1.kIn hl) r2 q) ?_)
  intro res s' hq
  cases res with
  | error e' => exact hx pins σ H1 s1 e' s' I1 hq
  | ok fl =>
    cases fl with
    | ret u => exact I1.after hq
    | next => cases hq
    | brk => cases hq
    | cont => cases hq
/-- repr of data -/
def rReprD (K : PySem.W.Frag) : List V → Hp → VK → Prop := fun xs H Q => ∃ (v : V) (d : PyData), xs = [v] ∧ Dp K H v d ∧ d.showable = true ∧ d.canLay0 = true ∧ d.depth ≤ 64 ∧ d.shown.length ≤ sizeLine ∧ Q (.str d.shown) H
theorem call_reprD (hG : X.A.guards = some []) (hu : X.A.units + 66 < cLine) : CallR X (.builtin "repr") (rReprD X.K) := by
  intro pins s σ H xs us Q I r h
  obtain ⟨v, d, rfl, hd, hs, hc, hp, hz, q⟩ := h
  obtain ⟨u, rfl, ru⟩ := vals1 r
  cases hd with
  | non =>
    cases (show u = Value.none from ru)
    exact PySem.P.repr_of_none ⟨.str _, H, I.tok _, ⟨_, rfl⟩, q⟩
  | bl b =>
    cases (show u = Value.bool b from ru)
    exact PySem.P.repr_of_bool ⟨.str _, H, I.tok _, ⟨_, rfl⟩, q⟩
  | int i =>
    obtain ⟨t, rfl⟩ := ru
    exact PySem.P.repr_of_int (of_decide_eq_true hs) ⟨.str _, H, I.tok _, ⟨_, rfl⟩, q⟩
  | str x =>
    obtain ⟨t, rfl⟩ := ru
    exact PySem.P.repr_of_str ⟨.str _, H, I.tok _, ⟨_, rfl⟩, q⟩ hz
  | @lst a xs ds h1 h2 =>
    obtain ⟨as, hr⟩ := Dp.reads I _ _ u (.lst h1 h2) ru
    cases (show u = Value.ref a from ru)
    exact repr_of_reads' hr hs (PyData.noDict_hsm (PyData.hasDict_of_canLay _ hc)) hG (by omega) (fun _ _ z => z) (fun h' k tk hk => ⟨.str _, H, I.kept (t' := tk) hk, ⟨_, rfl⟩, q⟩) hz
  | @tup a xs ds h1 h2 =>
    obtain ⟨as, hr⟩ := Dp.reads I _ _ u (.tup h1 h2) ru
    cases (show u = Value.ref a from ru)
    exact repr_of_reads' hr hs (PyData.noDict_hsm (PyData.hasDict_of_canLay _ hc)) hG (by omega) (fun _ _ z => z) (fun h' k tk hk => ⟨.str _, H, I.kept (t' := tk) hk, ⟨_, rfl⟩, q⟩) hz
end
end Lw

/-! ### the end of a law's row, the guards known -/
namespace Lw
open PySem L2 PySem.Spec PyProof.Rows
theorem end_call {P : Program} {w : World} {K : PySem.W.Frag} {mg mb : Str → Option Value} {CX : CXT} {k : Nat} {fa a : Addr} {fd : FuncData} {x : Str} {sp : Sp} {s₁ : Shared} {vs : List Value} {ns : List Int}
    (KX : K.In s₁.heap) (hns : s₁.heap.Ns mainGlobals mg) (hb : s₁.heap.Ns builtinsNs mb) (hbb : ∀ x : Str, x ≠ "__name__" → mb x = bootBuiltins x) (hlim : s₁.heap.NoLimit) (hg : s₁.gens = #[])
    (ha : s₁.heap.get? a = some { cls := .type "list", data := .seq vs.toArray }) (hi : IntsAre vs ns) (hl : ns.length ≤ sizeLine) (hr : Room k callerA)
    (F : ∀ base : Heap, K.In base → base.Ns mainGlobals mg → FnG P w K mg base CX k fa fd [x] sp) (hbind : ∀ (s : Shared) (u : Value), BindsTo s fd ⟨[u], []⟩ [(x, u)])
    (hsp : ∀ H : Hp, SqL K H a (ns.map V.int) → sp [.ref a] H (fun v _ => v = .bl true) fun _ _ _ => False)
    (hCX : ∀ H e s', CX [] H s₁ (fun _ _ _ => False) e s' → False) :
    codeAny (model P w) callerA (.call (.ref fa) ⟨[.ref a], []⟩) (fun r s' => r = .ok (.ret (.bool true)) ∧ OldK s₁.heap s'.heap ∧ s'.os = s₁.os ∧ AllBare s'.gens) s₁ := by
  have rv := vals_ints hi
  have lenV := hi.length
  have core : ∀ H : Hp, Only H → SqL K H a (ns.map V.int) → HOk P w H s₁.heap → (∀ b, H b ≠ none → b = a) → (H a ≠ none → K.lookup a = none) →
      codeAny (model P w) callerA (.call (.ref fa) ⟨[.ref a], []⟩) (fun r s' => r = .ok (.ret (.bool true)) ∧ OldK s₁.heap s'.heap ∧ s'.os = s₁.os ∧ AllBare s'.gens) s₁ := by
    intro H hO hS hok hA hK
    -- a tracked thing is the script
    have isA : ∀ {b : Addr} {u : HO}, H b = some u → b = a := fun {b u} q => hA b (by rw [q]; exact fun z => nomatch z)
    have dictOff : ∀ {b : Addr} {o : Obj} {es : Array DictEntry} {ep : Nat}, s₁.heap.get? b = some o → o.data = .dict es ep → H b = none := fun {b o es ep} e d => by
      cases q : H b with
      | none => rfl
      | some u =>
        have eb := isA q
        rw [eb, ha] at e
        cases e
        exact absurd (show Data.seq vs.toArray _ = Data.dict es ep from d) (fun z => nomatch z)
    have nsOff : ∀ {b : Addr} {m : Str → Option Value}, s₁.heap.Ns b m → (hidT s₁.heap H).Ns b m := fun {b m} z => by
      obtain ⟨o, es, ep, e, d, r⟩ := z
      exact ⟨o, es, ep, hidT_get e (dictOff e d), d, r⟩
    have inOff : K.In (hidT s₁.heap H) := fun b o e => by
      refine hidT_get (KX b o e) ?_
      cases q : H b with
      | none => rfl
      | some u =>
        have eb := isA q
        rw [eb] at e q
        rw [hK (by rw [q]; exact fun z => nomatch z)] at e
        cases e
    have hM : Mod K mg (hidT s₁.heap H) := by
      obtain ⟨mc, h1, h2⟩ := hlim
      exact ⟨inOff, nsOff hns, ⟨mb, nsOff hb, hbb⟩, ⟨mc, nsOff h1, h2⟩⟩
    have e0 : Env0 P w K mg (hidT s₁.heap H) callerA [] s₁ H := by
      refine ⟨rfl, hM, fun b o e => of_hidT e, Nat.le_of_eq (hidT_size _ _), trivial, fun b z => ?_, hok, .of_eq hg⟩
      cases (show b ∈ ([] : List Addr) from z)
    refine codeAny_mono ((F _ inOff (nsOff hns)).run callerA [] s₁ H ⟨[.ref a], []⟩ [.ref a] [.ref a] _ _ rfl hr e0 (hbind s₁ (.ref a)) (.cons rfl .nil) (hsp H hS)) ?_
    intro r s' h
    cases r with
    | error e => exact (hCX H e s' h).elim
    | ok fl =>
      cases fl with
      | next => cases h
      | brk => cases h
      | cont => cases h
      | ret u =>
        obtain ⟨v, H', os, bare, un, hok', r', rfl⟩ := h
        obtain rfl : u = Value.bool true := r'
        refine ⟨rfl, OldK.of_keep fun b o e => ?_, os, bare⟩
        cases q : H b with
        | none => exact un.keep b o e q (fun z => by cases (show b ∈ ([] : List Addr) from z)) (fun z => by cases z)
        | some u =>
          cases hO b with
          | inl z => rw [q] at z; cases z
          | inr z =>
            obtain ⟨ob, xs, z⟩ := z
            obtain ⟨e1, _⟩ := hok b _ z
            obtain ⟨e2, _⟩ := hok' b _ (un.frzs b ob _ z)
            rw [e] at e1
            cases e1
            exact e2
  cases hk : K.lookup a with
  | some o =>
    have e := KX a o hk
    rw [ha] at e
    cases e
    refine core (fun _ => none) (fun _ => .inl rfl) (.inr ⟨_, vs.toArray, _, hk, rfl, rfl, rfl, by rw [List.size_toArray, lenV]; exact hl, by simpa using rv⟩) (fun b u z => nomatch z) (fun b z => absurd rfl z) fun z => absurd rfl z
  | none =>
    refine core (upd (fun _ => none) a (.frz { cls := .type "list", data := .seq vs.toArray } (.lst (ns.map V.int)))) (fun b => ?_) (.inl (.inr ⟨{ cls := .type "list", data := .seq vs.toArray }, upd_same⟩)) (fun b u z => ?_) (fun b z => ?_) fun _ => hk
    · by_cases hba : b = a
      · subst hba
        exact .inr ⟨_, _, upd_same⟩
      · exact .inl (upd_ne hba)
    · by_cases hba : b = a
      · subst hba
        rw [upd_same] at z
        cases z
        exact ⟨ha, by rw [List.length_map]; exact hl, vs, _, rv, ha⟩
      · rw [upd_ne hba] at z
        cases z
    · by_cases hba : b = a
      · exact hba
      · exact absurd (upd_ne hba) z
theorem walk_G {l : PySem.W.OpenLaw} {n k : Nat} {q : Program} {loose : List Str} {XP : (Str → Option Value) → Heap → Prop} {YP : World → Heap → Prop} {d : DefRec} {K : Params → PySem.W.Frag} {CX : World → CXT} {sp : World → Sp} {x : Str}
    (hn : l.most = some n) (hn2 : n ≤ sizeLine) (hdf : d.params.defaults = []) (hr : Room k callerA)
    (hY : ∀ (w : World) (h : Heap), YP w h → (K w.params).In h)
    (F : ∀ (w : World) (mg : Str → Option Value) (fa : Addr) (h : Heap), (K w.params).In h → h.Ns mainGlobals mg → mg d.name = some (.ref fa) →
      ∃ fd : FuncData, (∀ (s : Shared) (u : Value), BindsTo s fd ⟨[u], []⟩ [(x, u)]) ∧
        ∀ base : Heap, (K w.params).In base → base.Ns mainGlobals mg → FnG l.prog w (K w.params) mg base (CX w) k fa fd [x] (sp w))
    (hsp : ∀ (w : World) (H : Hp) (a : Addr) (ns : List Int), ns.length ≤ n → SqL (K w.params) H a (ns.map V.int) → sp w [.ref a] H (fun v _ => v = .bl true) fun _ _ _ => False)
    (hCX : ∀ (w : World) (H : Hp) (s : Shared) (e : Value) (s' : Shared), CX w [] H s (fun _ _ _ => False) e s' → False) :
    PySem.W.WalkO q loose XP YP l.row.toRowW d [] (fun f vs => PySem.call f vs) := by
  refine Att.attach_call hn hdf ?_
  intro w s₀ s₁ mg mb fa o pm cd doc a vs ns G Y ho hd hcd hmg hobj hints hlen hg
  have KX := hY w _ Y
  obtain ⟨fd, hb, hF⟩ := F w mg fa _ KX G.T.g hmg
  exact end_call KX G.T.g G.T.b G.T.builtins G.T.nolimit hg hobj hints (Nat.le_trans hlen hn2) hr hF hb (fun H hS => hsp w H a ns hlen hS) fun H e s' => hCX w H s₁ e s'
end Lw

/-! ### zip of lists and tuples in any mix; enumerate of a tuple -/
namespace Lw
open PySem L2 PySem.Spec PyProof.Rows
/-- a list (true), a tuple (false) -/
def SqK (K : PySem.W.Frag) (k : Bool) (H : Hp) (a : Addr) (xs : List V) : Prop := match k with
  | true => SqL K H a xs
  | false => SqT K H a xs
def ItK (k : Bool) (h : Heap) (it l : Addr) (i : Nat) : Prop := match k with
  | true => h.IsListIter it l i
  | false => h.IsTupleIter it l i
def AtK (k : Bool) (h : Heap) (l : Addr) (its : Array Value) : Prop := match k with
  | true => h.IsList l its
  | false => h.IsTuple l its
theorem SqK.same {K : PySem.W.Frag} {k : Bool} {H H' : Hp} {a : Addr} {xs : List V} (e : Same H H') (h : SqK K k H a xs) : SqK K k H' a xs := by
  cases k with
  | true => exact e.seq h
  | false => exact sameT e h
section
variable {X : Cx} {pins : List (Addr × Obj)} {σ : L2.St} {H : Hp} {s : Shared} {a : Addr} {xs ys : List V} {k : Bool}
theorem sq_at (I : Inv X pins σ H s) (h : SqK X.K k H a xs) : ∃ its : List Value, Vals xs its ∧ AtK k s.heap a its.toArray ∧ a < s.heap.objs.size := by
  cases k with
  | true =>
    obtain ⟨its, rv, p, _⟩ := I.list h
    exact ⟨its, rv, p.isList, p.lt⟩
  | false =>
    obtain ⟨its, rv, p, _⟩ := I.tuple h
    obtain ⟨o, ho, q⟩ := id p
    exact ⟨its, rv, p, Heap.lt_size ho⟩
theorem sq_inj (I : Inv X pins σ H s) (h : SqK X.K k H a xs) (h' : SqK X.K k H a ys) : xs = ys := by
  cases k with
  | true => exact I.list_inj h h'
  | false => exact I.tuple_inj h h'
end
theorem drK {prog : Program} {w : World} {A : Around} (k : Bool) (hh : A.handled = none) (it l : Addr) (hne : l ≠ it) (items : Array Value) :
    Draws prog w A it [it, l] items.size (fun i v => items[i]? = some v) (fun i h => ItK k h it l i ∧ AtK k h l items) := by
  cases k with
  | true => exact Draws.list hh it l hne items
  | false => exact Draws.tuple hh it l hne items
theorem ItK.obj {k : Bool} {h : Heap} {it l : Addr} {i : Nat} (z : ItK k h it l i) : ∃ o, h.get? it = some o ∧ ∀ v, o.data ≠ .cell v := by
  cases k with
  | true =>
    obtain ⟨o, e, _, d⟩ := z
    exact ⟨o, e, fun v q => by rw [d] at q; cases q⟩
  | false =>
    obtain ⟨o, e, _, d⟩ := z
    exact ⟨o, e, fun v q => by rw [d] at q; cases q⟩
theorem ItK.at {k : Bool} {h h' : Heap} {it l : Addr} {i : Nat} (z : ItK k h it l i) (e : ∀ o, h.get? it = some o → h'.get? it = some o) : ItK k h' it l i := by
  cases k with
  | true => exact Heap.IsListIter.at z e
  | false => exact Heap.IsTupleIter.at z e
/-- what zip goes through -/
def ItzM (K : PySem.W.Frag) (k1 k2 : Bool) (a b : Addr) : It :=
  ⟨fun i H => ∃ (xs ys : List V) (x y : V), SqK K k1 H a xs ∧ SqK K k2 H b ys ∧ xs[i]? = some x ∧ ys[i]? = some y,
    fun i H v H' => ∃ T x y, v = .ref T ∧ H T = none ∧ H' = upd H T (.tup [x, y]) ∧ (∀ xs, SqK K k1 H a xs → xs[i]? = some x) ∧ ∀ ys, SqK K k2 H b ys → ys[i]? = some y,
    fun i H => ∃ xs ys : List V, SqK K k1 H a xs ∧ SqK K k2 H b ys ∧ (xs.length = i ∨ ys.length = i) ∧ i ≤ xs.length ∧ i ≤ ys.length⟩
theorem turn_zipM {P : Program} {w : World} {K : PySem.W.Frag} {elts : List Expr} {kk : Nat} {tpos : Pos} {k1 k2 : Bool} {a b z TI TO i1 i2 : Addr} (D : ZipSep2 z TI TO i1 i2 [i1, a] [i2, b]) (n1 : a ≠ i1) (n2 : b ≠ i2) :
    Turn P w K (.Tuple elts kk tpos) (ItzM K k1 k2 a b) [z, TI, TO, i1, i2] z (fun i h => IsZip h z TI TO .none ∧ IsTupOf2 h TI (.ref i1) (.ref i2) ∧ (∃ x y, IsTupOf2 h TO x y) ∧ ItK k1 h i1 a i ∧ ItK k2 h i2 b i) where
  mem := by simp
  obj := fun i h st c hc => by
    obtain ⟨hz, hTI, ⟨x, y, hTO⟩, g1, g2⟩ := st
    simp only [List.mem_cons, List.not_mem_nil, or_false] at hc
    rcases hc with rfl | rfl | rfl | rfl | rfl
    · exact ⟨_, hz, fun v q => nomatch q⟩
    · exact ⟨_, hTI, fun v q => nomatch q⟩
    · exact ⟨_, hTO, fun v q => nomatch q⟩
    · exact g1.obj
    · exact g2.obj
  keep := fun i h h' st k => by
    obtain ⟨hz, hTI, ⟨x, y, hTO⟩, g1, g2⟩ := st
    exact ⟨k z (by simp) _ hz, k TI (by simp) _ hTI, ⟨x, y, k TO (by simp) _ hTO⟩, g1.at (k i1 (by simp)), g2.at (k i2 (by simp))⟩
  item := by
    rintro X rfl rfl rfl hc i pins s σ H E I hf ⟨hz, hTI, ⟨x0, y0, hTO⟩, g1, g2⟩ ⟨xs, ys, x, y, hqx, hqy, hx, hy⟩
    obtain ⟨its, rv, p, _⟩ := sq_at I hqx
    obtain ⟨its2, rv2, p2, _⟩ := sq_at I hqy
    obtain ⟨u, hu, ru⟩ := rv.get hx
    obtain ⟨u2, hu2, ru2⟩ := rv2.get hy
    have hzl : z < s.heap.objs.size := Heap.lt_size hz
    have hh : X.A.in1.handled = none := I.ok.hd hc
    refine wpAny_pyNext_zipD2_item D (drK k1 hh i1 a n1 its.toArray) (drK k2 hh i2 b n2 its2.toArray) hz hTI hTO ⟨g1, p⟩ ⟨g2, p2⟩ (by simpa using (List.getElem?_eq_some_iff.mp hu).1) (by simpa using (List.getElem?_eq_some_iff.mp hu2).1) ?_
    intro v1 v2 h' tk e1 e2 z' TO' st1 st2 hT hsz hk
    have q1 : v1 = u := by rw [show its.toArray[i]? = some u by simpa using hu] at e1; exact (Option.some.inj e1).symm
    have q2 : v2 = u2 := by rw [show its2.toArray[i]? = some u2 by simpa using hu2] at e2; exact (Option.some.inj e2).symm
    subst q1 q2
    refine ⟨_, rfl, wpAny_letOwnedTupleGo_zip (s := { s with heap := h', toks := tk }) z' fun h'' z'' sb => ?_⟩
    have hT2 : h''.get? s.heap.objs.size = some { cls := .type "tuple", data := .seq #[v1, v2] } := (sb.2 _ (Nat.ne_of_gt hzl)).trans hT
    have new : ObjOk X.prog X.w (upd H s.heap.objs.size (.tup [x, y])) h'' s.heap.objs.size (.tup [x, y]) :=
      ⟨by show 2 ≤ sizeLine; decide, [v1, v2], .cons ru (.cons ru2 .nil), ⟨_, hT2, rfl, _, rfl⟩⟩
    have off : ∀ c o, c ∉ [z, TI, TO, i1, i2] → s.heap.get? c = some o → h''.get? c = some o := fun c o hb q => by
      simp only [List.mem_cons, List.not_mem_nil, or_false, not_or] at hb
      exact (sb.2 c hb.1).trans (hk c o hb.1 hb.2.2.1 hb.2.2.2.1 hb.2.2.2.2 q)
    have I1 : Inv X pins σ (upd H s.heap.objs.size (.tup [x, y])) { s with heap := h'', toks := tk } := I.turnedNew (t' := tk) (ch := [z, TI, TO, i1, i2]) off hf (Nat.le_refl _) new
    refine ⟨.ref s.heap.objs.size, _, I1, rfl, ⟨_, x, y, rfl, I.hok.fresh (Nat.le_refl _), rfl, fun l hl => by rw [sq_inj I hl hqx]; exact hx, fun l hl => by rw [sq_inj I hl hqy]; exact hy⟩, ⟨z'', ?_, ⟨v1, v2, ?_⟩, ?_, ?_⟩, fun c hcm => ?_⟩
    · exact (sb.2 _ D.TIz).trans (hk _ _ D.TIz D.TITO D.TIi1 D.TIi2 hTI)
    · exact (sb.2 _ D.TOz).trans TO'
    · exact st1.1.at fun o q => (sb.2 _ (D.zi1).symm).trans q
    · exact st2.1.at fun o q => (sb.2 _ (D.zi2).symm).trans q
    · have hlt : c < s.heap.objs.size := by
        simp only [List.mem_cons, List.not_mem_nil, or_false] at hcm
        rcases hcm with rfl | rfl | rfl | rfl | rfl
        · exact hzl
        · exact Heap.lt_size hTI
        · exact Heap.lt_size hTO
        · obtain ⟨o, e, _⟩ := g1.obj; exact Heap.lt_size e
        · obtain ⟨o, e, _⟩ := g2.obj; exact Heap.lt_size e
      rw [upd_ne (Nat.ne_of_lt hlt)]
      exact (hf c hcm).1
  done := by
    rintro X rfl rfl rfl hc i pins s σ H E I hf ⟨hz, hTI, ⟨x0, y0, hTO⟩, g1, g2⟩ ⟨xs, ys, hqx, hqy, hend, b1, b2⟩
    obtain ⟨its, rv, p, _⟩ := sq_at I hqx
    obtain ⟨its2, rv2, p2, _⟩ := sq_at I hqy
    have l1 := rv.length
    have l2 := rv2.length
    have hh : X.A.in1.handled = none := I.ok.hd hc
    refine wpAny_pyNext_zipD2_end D (drK k1 hh i1 a n1 its.toArray) (drK k2 hh i2 b n2 its2.toArray) hz hTI hTO ⟨g1, p⟩ ⟨g2, p2⟩ (by simp; omega) (by simp; omega) (by simp; omega) ?_
    intro h' tk hk
    refine ⟨rfl, I.turnedL (t' := tk) (ch := [z, TI, TO, i1, i2]) (fun c o hb q => ?_) hf⟩
    simp only [List.mem_cons, List.not_mem_nil, or_false, not_or] at hb
    exact hk c o hb.1 hb.2.2.1 hb.2.2.2.1 hb.2.2.2.2 q
  self := fun A i s Q E st h => wpAny_pyIter_zip st.1 h
def iZipM (K : PySem.W.Frag) (ta : TA) : TI := fun σ H R => ta σ H fun vs H1 => ∃ k1 k2 a b xs ys, vs = [.ref a, .ref b] ∧ SqK K k1 H1 a xs ∧ SqK K k2 H1 b ys ∧ R (ItzM K k1 k2 a b) H1
theorem bgK (k : Bool) (l : Addr) (items : Array Value) : ∃ o, Begins (.ref l) o (fun h => AtK k h l items) ∧ ∀ (h : Heap) (it : Addr), h.get? it = some o → ItK k h it l 0 := by
  cases k with
  | true => exact ⟨_, begins_list l items, fun h it e => ⟨_, e, rfl, rfl⟩⟩
  | false => exact ⟨_, begins_tuple l items, fun h it e => ⟨_, e, rfl, rfl⟩⟩
theorem neA {x y : Nat} (h : ¬ x = y) : @Ne Addr x y := h
theorem niA {x y z : Nat} (h : ¬ x = y) (g : ¬ x = z) : ¬ @List.Mem Addr x [y, z] := fun q => by
  cases q with
  | head => exact h rfl
  | tail _ q =>
    cases q with
    | head => exact g rfl
    | tail _ q => cases q
theorem sepN (N a b : Nat) (la : a < N) (lb : b < N) : ZipSep2 (N + 4) (N + 2) (N + 3) N (N + 1) [N, a] [N + 1, b] where
  TIz := neA (by omega)
  TOz := neA (by omega)
  TITO := neA (by omega)
  TIi1 := neA (by omega)
  mem1 := List.mem_cons_self
  zf1 := niA (by omega) (by omega)
  Tf1 := niA (by omega) (by omega)
  TIi2 := neA (by omega)
  mem2 := List.mem_cons_self
  zf2 := niA (by omega) (by omega)
  Tf2 := niA (by omega) (by omega)
  sep1_2 := niA (by omega) (by omega)
  sep2_1 := niA (by omega) (by omega)
theorem pi_zipM {X : Cx} {e e2 : Expr} {ta : TA} {p pos tpos : Pos} {elts : List Expr} {kk : Nat} (hg : Gl X "zip") (hm : X.mg "zip" = none) (ha : PA X [e, e2] ta)
    (hs : starEach [e, e2] X.env = (false, eval e X.env) :: starEach [e2] X.env := by rfl) (hpl : (backTo pos (starEach [e2] X.env)).any (·.1) = false := by rfl) :
    PI X (.Tuple elts kk tpos) (.Call (.Name "zip" p) [e, e2] [] pos) (iZipM X.K ta) := by
  constructor
  intro pins s σ H R I h
  refine Call_ (ld_blt I hg hm PyProof.Rows.boot_zip (PyProof.Rows.callWith_type1 (thn (ha.run pos pins s σ H _ I h) ?_) hs hpl))
  rintro us s1 ⟨vs, H1, I1, r1, k1, k2, a, b, xs, ys, rfl, hqx, hqy, q⟩
  obtain ⟨u1, u2, rfl, ra, rb⟩ := vals2 r1
  cases (show u1 = Value.ref a from ra)
  cases (show u2 = Value.ref b from rb)
  obtain ⟨its, rv, p1, la⟩ := sq_at I1 hqx
  obtain ⟨its2, rv2, p2, lb⟩ := sq_at I1 hqy
  obtain ⟨o1, B1, j1⟩ := bgK k1 a its.toArray
  obtain ⟨o2, B2, j2⟩ := bgK k2 b its2.toArray
  refine zip_begins2 B1 B2 p1 p2 ?_
  intro h' hz hTI hTO e1 e2 hsz hk
  refine wpAny_pyIter_zip hz ?_
  have I2 : Inv X pins σ H1 { s1 with heap := h' } := I1.kept (t' := s1.toks) hk
  have sep := sepN s1.heap.objs.size a b la lb
  refine ⟨s1.heap.objs.size + 4, [s1.heap.objs.size + 4, s1.heap.objs.size + 2, s1.heap.objs.size + 3, s1.heap.objs.size, s1.heap.objs.size + 1], _, _, H1, rfl, I2, turn_zipM sep (Nat.ne_of_lt la) (Nat.ne_of_lt (Nat.lt_succ_of_lt lb)), ⟨hz, hTI, ⟨_, _, hTO⟩, j1 _ _ e1, j2 _ _ e2⟩, fun c hcm => ?_, q⟩
  have hle : s1.heap.objs.size ≤ c := by
    simp only [List.mem_cons, List.not_mem_nil, or_false] at hcm
    rcases hcm with rfl | rfl | rfl | rfl | rfl <;> first | exact Nat.le_refl _ | exact Nat.le_add_right _ _
  exact I1.fpOk hle (I1.hok.fresh hle)
/-! ### enumerate of a tuple, of a list -/
theorem meets_enumK {v : Value} {o : Obj} {H : Heap → Prop} (B : Begins v o H) :
    Meets (Builtin.«enumerate.__new__» ⟨[.type "enumerate", v], []⟩) (fun _ R s => H s.heap ∧
      R (.ok (.ret (.ref (s.heap.push o).objs.size))) { s with heap := (s.heap.push o).push { cls := .type "enumerate", data := .fields #[.none, .bool false, .ref s.heap.objs.size, rawInt 0, .none, .none] } }) :=
  .of_wp fun prog w A R s z => by
    obtain ⟨g1, g2, g3, g4, g5⟩ := s
    obtain ⟨h1, z⟩ := z
    have hsub := sub_enumerate
    have q1 : ∀ {A' : Around} {E : Value → Shared → Prop} {Q : Value → Shared → Prop}, Q (.ref g1.objs.size) ⟨g1.push o, g2, g3, g4, g5⟩ → wpAny (model prog w) A' (pyIter v) Q E ⟨g1, g2, g3, g4, g5⟩ :=
      fun q => B.iter prog w _ _ ⟨g1, g2, g3, g4, g5⟩ _ h1 q
    wp_walk using q1
    refine wpAny_stack_any fun st => wpAny_pure ?_
    split
    · rename_i c _ _ _ _ _
      cases (c == Value.type "enumerate")
      · wp_walk using q1
        exact ⟨_, rfl, z⟩
      · wp_walk using q1
        exact ⟨_, rfl, z⟩
    · wp_walk using q1
      exact ⟨_, rfl, z⟩
section
variable {prog : Program} {w : World} {A : Around} {E : Value → Shared → Prop} {s : Shared}
theorem enumK_begins {v : Value} {o : Obj} {H : Heap → Prop} {Q : Value → Shared → Prop} (B : Begins v o H) (h1 : H s.heap)
    (h : ∀ h', IsEnum h' (s.heap.objs.size + 1) s.heap.objs.size 0 .none → h'.get? s.heap.objs.size = some o → (∀ b o, s.heap.get? b = some o → h'.get? b = some o) → Q (.ref (s.heap.objs.size + 1)) { s with heap := h' }) :
    wpAny (model prog w) A (call (.type "enumerate") [v]) Q E s := by
  refine callType_new F.called_enumerate (by decide) (F.typeCall_enumerate_1 _) (F.newCall_enumerate_1 _) (fun obj => F.args_object_init_2 obj _) F.entry_enumerate_new (meets_enumK B) ⟨h1, ?_⟩
  have sz : (s.heap.push o).objs.size = s.heap.objs.size + 1 := Heap.size_push ..
  show _ ∧ _
  rw [sz]
  have en : IsEnum ((s.heap.push o).push { cls := .type "enumerate", data := .fields #[.none, .bool false, .ref s.heap.objs.size, rawInt 0, .none, .none] }) (s.heap.objs.size + 1) s.heap.objs.size 0 .none := by
    have q := Heap.get?_push_size (s.heap.push o) (o := { cls := .type "enumerate", data := .fields #[.none, .bool false, .ref s.heap.objs.size, rawInt 0, .none, .none] }) rfl
    rw [sz] at q
    exact q
  exact ⟨⟨_, en, rfl⟩, h _ en (Heap.get?_push_of_some _ (Heap.get?_push_size _ B.free)) fun b o x => Heap.get?_push_of_some _ (Heap.get?_push_of_some _ x)⟩
end
def IteM (K : PySem.W.Frag) (k : Bool) (a : Addr) : It :=
  ⟨fun i H => ∃ (xs : List V) (x : V), SqK K k H a xs ∧ xs[i]? = some x, fun i H v H' => ∃ T x, v = .ref T ∧ H T = none ∧ H' = upd H T (.tup [.int (i : Nat), x]) ∧ ∀ xs, SqK K k H a xs → xs[i]? = some x, fun i H => ∃ xs : List V, SqK K k H a xs ∧ xs.length = i⟩
theorem turn_enumM {P : Program} {w : World} {K : PySem.W.Frag} {elts : List Expr} {kk : Nat} {tpos : Pos} {k : Bool} (a e it : Addr) (n1 : a ≠ it) (hne : e ≠ it) (hea : e ≠ a) :
    Turn P w K (.Tuple elts kk tpos) (IteM K k a) [e, it] e (fun i h => (∃ old, IsEnum h e it ((i : Nat) : Int) old) ∧ ItK k h it a i) where
  mem := by simp
  obj := fun i h st b hb => by
    obtain ⟨⟨old, he⟩, g⟩ := st
    simp only [List.mem_cons, List.not_mem_nil, or_false] at hb
    rcases hb with rfl | rfl
    · exact ⟨_, he, fun v q => nomatch q⟩
    · exact g.obj
  keep := fun i h h' st k => by
    obtain ⟨⟨old, he⟩, g⟩ := st
    exact ⟨⟨old, k e (by simp) _ he⟩, g.at (k it (by simp))⟩
  item := by
    rintro X rfl rfl rfl hc i pins s σ H E I hf ⟨⟨old, he⟩, g⟩ ⟨xs, x, hq, hx⟩
    obtain ⟨its, rv, p, _⟩ := sq_at I hq
    obtain ⟨u, hu, ru⟩ := rv.get hx
    have hel : e < s.heap.objs.size := Heap.lt_size he
    have hh : X.A.in1.handled = none := I.ok.hd hc
    have hef : e ∉ [it, a] := fun q => by
      cases q with
      | head => exact hne rfl
      | tail _ q =>
        cases q with
        | head => exact hea rfl
        | tail _ q => cases q
    refine wpAny_pyNext_enum_itemD (drK k hh it a n1 its.toArray) he ⟨g, p⟩ (by simpa using (List.getElem?_eq_some_iff.mp hu).1) hne hef ?_
    intro v h' tk e1 ho st hT hsz hk
    have q1 : v = u := by rw [show its.toArray[i]? = some u by simpa using hu] at e1; exact (Option.some.inj e1).symm
    subst q1
    refine ⟨_, rfl, wpAny_letOwnedTupleGo_enum (s := { s with heap := h', toks := tk + 1 }) ho fun h'' he' sb => ?_⟩
    have hT2 : h''.get? s.heap.objs.size = some { cls := .type "tuple", data := .seq #[.int i tk, v] } := (sb.2 _ (Nat.ne_of_gt hel)).trans hT
    have new : ObjOk X.prog X.w (upd H s.heap.objs.size (.tup [.int (i : Nat), x])) h'' s.heap.objs.size (.tup [.int (i : Nat), x]) :=
      ⟨by show 2 ≤ sizeLine; decide, [.int i tk, v], .cons ⟨_, rfl⟩ (.cons ru .nil), ⟨_, hT2, rfl, _, rfl⟩⟩
    have I1 : Inv X pins σ (upd H s.heap.objs.size (.tup [.int (i : Nat), x])) { s with heap := h'', toks := tk + 1 } :=
      I.turnedNew (t' := tk + 1) (ch := [e, it]) (fun b ob hb q => by
        simp only [List.mem_cons, List.not_mem_nil, or_false, not_or] at hb
        exact (sb.2 b hb.1).trans (hk b ob hb.1 hb.2 q)) hf (Nat.le_refl _) new
    refine ⟨.ref s.heap.objs.size, _, I1, rfl, ⟨_, x, rfl, I.hok.fresh (Nat.le_refl _), rfl, fun ys hy => by rw [sq_inj I hy hq]; exact hx⟩, ⟨⟨v, ?_⟩, st.1.at fun o q => (sb.2 it (Ne.symm hne)).trans q⟩, fun b hb => ?_⟩
    · have e2 : ((i + 1 : Nat) : Int) = (i : Int) + 1 := by omega
      rw [e2]
      exact he'
    · have hlt : b < s.heap.objs.size := by
        simp only [List.mem_cons, List.not_mem_nil, or_false] at hb
        rcases hb with rfl | rfl
        · exact hel
        · obtain ⟨o, z, _⟩ := g.obj; exact Heap.lt_size z
      rw [upd_ne (Nat.ne_of_lt hlt)]
      exact (hf b hb).1
  done := by
    rintro X rfl rfl rfl hc i pins s σ H E I hf ⟨⟨old, he⟩, g⟩ ⟨xs, hq, hx⟩
    obtain ⟨its, rv, p, _⟩ := sq_at I hq
    have hl := rv.length
    have hh : X.A.in1.handled = none := I.ok.hd hc
    have ei : i = its.toArray.size := by simp; omega
    refine wpAny_pyNext_enum_endD (drK k hh it a n1 its.toArray) he (by rw [← ei]; exact ⟨g, p⟩) ?_
    intro h' eb
    exact ⟨rfl, I.turnedL (t' := s.toks) (ch := [e, it]) (fun b o hb q => by
      simp only [List.mem_cons, List.not_mem_nil, or_false, not_or] at hb
      exact eb b o hb.2 q) hf⟩
  self := fun A i s Q E st h => by
    obtain ⟨⟨_, he⟩, _⟩ := st
    exact wpAny_pyIter_enum he h
def iEnumM (K : PySem.W.Frag) (ta : TA) : TI := fun σ H R => ta σ H fun vs H1 => ∃ k a xs, vs = [.ref a] ∧ SqK K k H1 a xs ∧ R (IteM K k a) H1
theorem pi_enumM {X : Cx} {e : Expr} {ta : TA} {p pos tpos : Pos} {elts : List Expr} {kk : Nat} (hg : Gl X "enumerate") (hm : X.mg "enumerate" = none) (ha : PA X [e] ta) (hs : starEach [e] X.env = [(false, eval e X.env)] := by rfl) :
    PI X (.Tuple elts kk tpos) (.Call (.Name "enumerate" p) [e] [] pos) (iEnumM X.K ta) := by
  constructor
  intro pins s σ H R I h
  refine Call_ (ld_blt I hg hm boot_enumerate (PyProof.Rows.callWith_type1 (thn (ha.run pos pins s σ H _ I h) ?_) hs rfl))
  rintro us s1 ⟨vs, H1, I1, r1, k, a, xs, rfl, hq, q⟩
  obtain ⟨u1, rfl, ra⟩ := vals1 r1
  cases (show u1 = Value.ref a from ra)
  obtain ⟨its, rv, p1, la⟩ := sq_at I1 hq
  obtain ⟨o1, B1, j1⟩ := bgK k a its.toArray
  refine enumK_begins B1 p1 ?_
  intro h' he e1 hk
  refine wpAny_pyIter_enum he ?_
  have I2 : Inv X pins σ H1 { s1 with heap := h' } := I1.kept (t' := s1.toks) hk
  refine ⟨s1.heap.objs.size + 1, [s1.heap.objs.size + 1, s1.heap.objs.size], _, _, H1, rfl, I2, turn_enumM a (s1.heap.objs.size + 1) s1.heap.objs.size (Nat.ne_of_lt la) (Nat.succ_ne_self _) (Nat.ne_of_gt (Nat.lt_succ_of_lt la)), ⟨⟨.none, he⟩, j1 _ _ e1⟩, fun c hcm => ?_, q⟩
  have hle : s1.heap.objs.size ≤ c := by
    simp only [List.mem_cons, List.not_mem_nil, or_false] at hcm
    rcases hcm with rfl | rfl <;> first | exact Nat.le_refl _ | exact Nat.le_add_right _ _
  exact I1.fpOk hle (I1.hok.fresh hle)
/-! ### loops and comprehensions over them -/
theorem for_zipM {K : PySem.W.Frag} {k1 k2 : Bool} {a b : Addr} {xs ys : List V} {g : TG} {tb : TS} {D : Ends} {σ : L2.St} {H : Hp} (hl : xs.length = ys.length) (Pv : Nat → L2.St → Hp → Prop) (h0 : Pv 0 σ H) (hq : ∀ i σ H, Pv i σ H → SqK K k1 H a xs ∧ SqK K k2 H b ys)
    (hs : ∀ (i : Nat) (x y : V) (T : Addr) (σ : L2.St) (H : Hp), xs[i]? = some x → ys[i]? = some y → Pv i σ H → H T = none → g (.ref T) σ (upd H T (.tup [x, y])) fun σ2 H2 => tb { D with nx := Pv (i + 1), ct := Pv (i + 1), bk := D.nx } σ2 H2) (hd : ∀ σ H, Pv xs.length σ H → D.nx σ H) :
    ∃ W : Nat → Nat → L2.St → Hp → Prop, (∃ m, W 0 m σ H) ∧ ∀ i m σ H, W i m σ H →
      ((ItzM K k1 k2 a b).stop i H ∧ D.nx σ H) ∨ ((ItzM K k1 k2 a b).go i H ∧ ∃ N : L2.St → Hp → Prop, (∀ σ' H', N σ' H' → ∃ m', m' < m ∧ W (i + 1) m' σ' H') ∧ ∀ v H', (ItzM K k1 k2 a b).yld i H v H' → g v σ H' fun σ2 H2 => tb { D with nx := N, ct := N, bk := D.nx } σ2 H2) := by
  refine ⟨fun i m σ H => m = xs.length - i ∧ i ≤ xs.length ∧ Pv i σ H, ⟨_, rfl, Nat.zero_le _, h0⟩, ?_⟩
  rintro i m σ H ⟨rfl, hi, p⟩
  obtain ⟨qx, qy⟩ := hq i σ H p
  by_cases hlt : i < xs.length
  · refine .inr ⟨⟨xs, ys, _, _, qx, qy, List.getElem?_eq_getElem hlt, List.getElem?_eq_getElem (hl ▸ hlt)⟩, Pv (i + 1), fun σ' H' p' => ⟨xs.length - (i + 1), by omega, rfl, hlt, p'⟩, ?_⟩
    rintro v H' ⟨T, x', y', rfl, hT, rfl, f1, f2⟩
    exact hs i x' y' T σ H (f1 xs qx) (f2 ys qy) p hT
  · have e : i = xs.length := by omega
    subst e
    exact .inl ⟨⟨xs, ys, qx, qy, .inl rfl, Nat.le_refl _, Nat.le_of_eq hl⟩, hd σ H p⟩
theorem for_enumM {K : PySem.W.Frag} {k : Bool} {a : Addr} {xs : List V} {g : TG} {tb : TS} {D : Ends} {σ : L2.St} {H : Hp} (Pv : Nat → L2.St → Hp → Prop) (h0 : Pv 0 σ H) (hq : ∀ i σ H, Pv i σ H → SqK K k H a xs)
    (hs : ∀ (i : Nat) (x : V) (T : Addr) (σ : L2.St) (H : Hp), xs[i]? = some x → Pv i σ H → H T = none → g (.ref T) σ (upd H T (.tup [.int (i : Nat), x])) fun σ2 H2 => tb { D with nx := Pv (i + 1), ct := Pv (i + 1), bk := D.nx } σ2 H2) (hd : ∀ σ H, Pv xs.length σ H → D.nx σ H) :
    ∃ W : Nat → Nat → L2.St → Hp → Prop, (∃ m, W 0 m σ H) ∧ ∀ i m σ H, W i m σ H →
      ((IteM K k a).stop i H ∧ D.nx σ H) ∨ ((IteM K k a).go i H ∧ ∃ N : L2.St → Hp → Prop, (∀ σ' H', N σ' H' → ∃ m', m' < m ∧ W (i + 1) m' σ' H') ∧ ∀ v H', (IteM K k a).yld i H v H' → g v σ H' fun σ2 H2 => tb { D with nx := N, ct := N, bk := D.nx } σ2 H2) := by
  refine ⟨fun i m σ H => m = xs.length - i ∧ i ≤ xs.length ∧ Pv i σ H, ⟨_, rfl, Nat.zero_le _, h0⟩, ?_⟩
  rintro i m σ H ⟨rfl, hi, p⟩
  have qx := hq i σ H p
  by_cases hlt : i < xs.length
  · refine .inr ⟨⟨xs, _, qx, List.getElem?_eq_getElem hlt⟩, Pv (i + 1), fun σ' H' p' => ⟨xs.length - (i + 1), by omega, rfl, hlt, p'⟩, ?_⟩
    rintro v H' ⟨T, x', rfl, hT, rfl, f1⟩
    exact hs i x' T σ H (f1 xs qx) p hT
  · have e : i = xs.length := by omega
    subst e
    exact .inl ⟨⟨xs, qx, rfl⟩, hd σ H p⟩
theorem lc_zipM {K : PySem.W.Frag} {k1 k2 : Bool} {a b : Addr} {xs ys : List V} {g : TG} {tt : TT} {te : TE} {vs : List Nat} {σ : L2.St} {H1 : Hp} {D : Addr} {Qd : Hp → Prop} (hl : xs.length = ys.length) (Pv : Nat → Hp → Prop) (h0 : Pv 0 (upd H1 D (.lst []))) (hq : ∀ i H, Pv i H → SqK K k1 H a xs ∧ SqK K k2 H b ys)
    (hs : ∀ (i : Nat) (x y : V) (T : Addr) (H : Hp), xs[i]? = some x → ys[i]? = some y → Pv i H → H T = none → g (.ref T) (wipe σ vs) (upd H T (.tup [x, y])) fun σ2 H2 => wipe σ2 vs = wipe σ vs ∧ tt σ2 H2 fun b H3 =>
      if b = true then te σ2 H3 fun y H4 => ∃ acc, H4 D = some (.lst acc) ∧ acc.length < sizeLine ∧ Pv (i + 1) (upd H4 D (.lst (acc ++ [y]))) else Pv (i + 1) H3) (hd : ∀ H, Pv xs.length H → Qd H) :
    ∃ W : Nat → Nat → Hp → Prop, (∃ m, W 0 m (upd H1 D (.lst []))) ∧ ∀ i m H, W i m H →
      ((ItzM K k1 k2 a b).stop i H ∧ Qd H) ∨ ((ItzM K k1 k2 a b).go i H ∧ ∃ Nx : Hp → Prop, (∀ H', Nx H' → ∃ m', m' < m ∧ W (i + 1) m' H') ∧ ∀ x H', (ItzM K k1 k2 a b).yld i H x H' → g x (wipe σ vs) H' fun σ2 H2 => wipe σ2 vs = wipe σ vs ∧ tt σ2 H2 fun b H3 =>
        if b = true then te σ2 H3 fun y H4 => ∃ acc, H4 D = some (.lst acc) ∧ acc.length < sizeLine ∧ Nx (upd H4 D (.lst (acc ++ [y]))) else Nx H3) := by
  refine ⟨fun i m H => m = xs.length - i ∧ i ≤ xs.length ∧ Pv i H, ⟨_, rfl, Nat.zero_le _, h0⟩, ?_⟩
  rintro i m H ⟨rfl, hi, p⟩
  obtain ⟨qx, qy⟩ := hq i H p
  by_cases hlt : i < xs.length
  · refine .inr ⟨⟨xs, ys, _, _, qx, qy, List.getElem?_eq_getElem hlt, List.getElem?_eq_getElem (hl ▸ hlt)⟩, Pv (i + 1), fun H' p' => ⟨xs.length - (i + 1), by omega, rfl, hlt, p'⟩, ?_⟩
    rintro v H' ⟨T, x', y', rfl, hT, rfl, f1, f2⟩
    exact hs i x' y' T H (f1 xs qx) (f2 ys qy) p hT
  · have e : i = xs.length := by omega
    subst e
    exact .inl ⟨⟨xs, ys, qx, qy, .inl rfl, Nat.le_refl _, Nat.le_of_eq hl⟩, hd H p⟩
end Lw

namespace Lw
/-! ### rows of a ground, reckoned -/
def addR (p : Int) (r s : List Int) : List Int := List.zipWith (fun a b => (a + b) % p) r s
def subR (p : Int) (r s : List Int) : List Int := List.zipWith (fun a b => (a - b) % p) r s
def sclR (p : Int) (k : Int) (r : List Int) : List Int := r.map fun a => k * a % p
def mulR (r s : List Int) : List Int := List.zipWith (fun a b => a * b) r s
def plusR (p : Int) (r : List Int) (t : Int) (s : List Int) : List Int := List.zipWith (fun a b => (a + t * b) % p) r s
def zeroR (n : Nat) : List Int := List.replicate n 0
def combR (p : Int) (n : Nat) : List Int → List (List Int) → List Int := fun ks rs => (ks.zip rs).foldl (fun t kr => addR p t (sclR p kr.1 kr.2)) (zeroR n)
def pivR (r : List Int) : Option Nat := r.findIdx? fun a => a != 0
/-- a row of the ground with p and n -/
def IsRow (p : Int) (n : Nat) (r : List Int) : Prop := r.length = n ∧ ∀ x ∈ r, 0 ≤ x ∧ x < p
theorem IsRow.at {p : Int} {n i : Nat} {r : List Int} {x : Int} (h : IsRow p n r) (e : r[i]? = some x) : 0 ≤ x ∧ x < p := h.2 x (List.mem_of_getElem? e)
theorem get_zw {f : Int → Int → Int} {r s : List Int} {i : Nat} {x y : Int} (hx : r[i]? = some x) (hy : s[i]? = some y) : (List.zipWith f r s)[i]? = some (f x y) := by
  rw [List.getElem?_zipWith, hx, hy]
theorem len_zw {f : Int → Int → Int} {r s : List Int} {n : Nat} (h1 : r.length = n) (h2 : s.length = n) : (List.zipWith f r s).length = n := by
  rw [List.length_zipWith, h1, h2, Nat.min_self]
theorem row_zw {p : Int} (hp : 0 < p) {f : Int → Int → Int} {r s : List Int} {n : Nat} (h1 : r.length = n) (h2 : s.length = n) : IsRow p n (List.zipWith (fun a b => f a b % p) r s) := by
  refine ⟨len_zw h1 h2, fun x hx => ?_⟩
  obtain ⟨i, hi, rfl⟩ := List.getElem_of_mem hx
  rw [List.getElem_zipWith]
  exact ⟨Int.emod_nonneg _ (Int.ne_of_gt hp), Int.emod_lt_of_pos _ hp⟩
theorem row_add {p : Int} (hp : 0 < p) {r s : List Int} {n : Nat} (h1 : r.length = n) (h2 : s.length = n) : IsRow p n (addR p r s) := row_zw hp h1 h2
theorem row_sub {p : Int} (hp : 0 < p) {r s : List Int} {n : Nat} (h1 : r.length = n) (h2 : s.length = n) : IsRow p n (subR p r s) := row_zw hp h1 h2
theorem row_plus {p : Int} (hp : 0 < p) {r s : List Int} {t : Int} {n : Nat} (h1 : r.length = n) (h2 : s.length = n) : IsRow p n (plusR p r t s) := row_zw hp h1 h2
theorem row_scl {p : Int} (hp : 0 < p) {k : Int} {r : List Int} {n : Nat} (h1 : r.length = n) : IsRow p n (sclR p k r) := by
  refine ⟨by simp [sclR, h1], fun x hx => ?_⟩
  obtain ⟨a, _, rfl⟩ := List.mem_map.mp hx
  exact ⟨Int.emod_nonneg _ (Int.ne_of_gt hp), Int.emod_lt_of_pos _ hp⟩
theorem row_zero {p : Int} (hp : 0 < p) (n : Nat) : IsRow p n (zeroR n) := by
  refine ⟨by simp [zeroR], fun x hx => ?_⟩
  have := List.eq_of_mem_replicate hx
  omega
theorem zw_congr {f g : Int → Int → Int} : ∀ {r s : List Int}, (∀ (i : Nat) (x y : Int), r[i]? = some x → s[i]? = some y → f x y = g x y) → List.zipWith f r s = List.zipWith g r s
  | [], _, _ => by simp
  | _ :: _, [], _ => by simp
  | a :: r, b :: s, h => by
    rw [List.zipWith_cons_cons, List.zipWith_cons_cons, h 0 a b rfl rfl, zw_congr fun i x y h1 h2 => h (i + 1) x y h1 h2]
theorem add_plus (p : Int) (r s : List Int) : addR p r s = plusR p r 1 s := by
  unfold addR plusR
  exact zw_congr fun i x y _ _ => by rw [Int.one_mul]
theorem sub_plus (p : Int) (r s : List Int) : subR p r s = plusR p r (p - 1) s := by
  unfold subR plusR
  refine zw_congr fun i x y _ _ => ?_
  rw [Int.sub_mul, Int.one_mul, show x + (p * y - y) = (x - y) + p * y by omega, Int.add_mul_emod_self_left]
theorem scl_plus (p k : Int) : ∀ (n : Nat) (r : List Int), r.length = n → sclR p k r = plusR p (zeroR n) k r
  | 0, r, h => by
    have : r = [] := List.eq_nil_of_length_eq_zero h
    subst this
    rfl
  | n + 1, [], h => by cases h
  | n + 1, a :: r, h => by
    have ih := scl_plus p k n r (by simpa using h)
    unfold sclR plusR zeroR at ih ⊢
    rw [List.map_cons, List.replicate_succ, List.zipWith_cons_cons, ih, Int.zero_add]
theorem add_sub {p : Int} {n : Nat} {r s : List Int} (hp : 0 < p) (h1 : IsRow p n r) (h2 : s.length = n) : addR p (subR p r s) s = r := by
  apply List.ext_getElem?
  intro i
  by_cases hi : i < n
  · have hr : i < r.length := by rw [h1.1]; exact hi
    have hs : i < s.length := by rw [h2]; exact hi
    have e1 : (subR p r s)[i]? = some ((r[i] - s[i]) % p) := get_zw (List.getElem?_eq_getElem hr) (List.getElem?_eq_getElem hs)
    have e2 : (addR p (subR p r s) s)[i]? = some (((r[i] - s[i]) % p + s[i]) % p) := get_zw e1 (List.getElem?_eq_getElem hs)
    have b := h1.2 r[i] (List.getElem_mem hr)
    rw [e2, List.getElem?_eq_getElem hr, Int.emod_add_emod, Int.sub_add_cancel, Int.emod_eq_of_lt b.1 b.2]
  · rw [List.getElem?_eq_none_iff.mpr (by rw [(row_add hp (row_sub hp h1.1 h2).1 h2).1]; omega), List.getElem?_eq_none_iff.mpr (by rw [h1.1]; omega)]
theorem comb_snoc (p : Int) (n : Nat) (ks : List Int) (rs : List (List Int)) (k : Int) (r : List Int) (h : ks.length = rs.length) : combR p n (ks ++ [k]) (rs ++ [r]) = addR p (combR p n ks rs) (sclR p k r) := by
  unfold combR
  rw [List.zip_append h, List.foldl_append]
  rfl
theorem add_scl (p : Int) (t : List Int) (k : Int) (r : List Int) : addR p t (sclR p k r) = plusR p t k r := by
  unfold addR sclR plusR
  rw [List.zipWith_map_right]
  exact zw_congr fun i x y _ _ => by rw [Int.add_emod_emod]
theorem row_comb {p : Int} (hp : 0 < p) {n : Nat} {ks : List Int} {rs : List (List Int)} (h : ∀ r ∈ rs, IsRow p n r) : IsRow p n (combR p n ks rs) := by
  unfold combR
  have : ∀ (l : List (Int × List Int)) (t : List Int), IsRow p n t → (∀ kr ∈ l, IsRow p n kr.2) → IsRow p n (l.foldl (fun t kr => addR p t (sclR p kr.1 kr.2)) t) := by
    intro l
    induction l with
    | nil => intro t ht _; exact ht
    | cons a l ih =>
      intro t ht hl
      exact ih _ (row_add hp ht.1 (row_scl hp (hl a (by simp)).1).1) fun kr hk => hl kr (by simp [hk])
  exact this _ _ (row_zero hp n) fun kr hk => h _ (List.of_mem_zip hk).2
/-- the places with an entry -/
def ents (r : List Int) (m : Nat) : List Int := ((List.range m).filter fun k => (r.getD k 0) != 0).map fun k : Nat => (k : Int)
theorem piv_none {r : List Int} (h : pivR r = none) : ents r r.length = [] := by
  unfold ents
  rw [List.map_eq_nil_iff, List.filter_eq_nil_iff]
  intro k hk
  have hk' : k < r.length := List.mem_range.mp hk
  have := (List.findIdx?_eq_none_iff.mp h) r[k] (List.getElem_mem hk')
  simpa [List.getD_eq_getElem?_getD, hk'] using this
theorem piv_some {r : List Int} {k : Nat} (h : pivR r = some k) : ∃ l, ents r r.length = (k : Int) :: l := by
  obtain ⟨hk, hx, hl⟩ := List.findIdx?_eq_some_iff_getElem.mp h
  have e : List.range r.length = List.range k ++ k :: (List.range (r.length - (k + 1))).map (fun x => (k + 1) + x) := by
    rw [show r.length = (k + 1) + (r.length - (k + 1)) by omega, List.range_add, List.range_succ]
    simp
  unfold ents
  rw [e, List.filter_append, List.filter_cons]
  have h1 : (List.range k).filter (fun k => (r.getD k 0) != 0) = [] := by
    rw [List.filter_eq_nil_iff]
    intro j hj
    have hj' : j < k := List.mem_range.mp hj
    have := hl j hj'
    simpa [List.getD_eq_getElem?_getD, show j < r.length by omega] using this
  have h2 : ((r.getD k 0) != 0) = true := by simpa [List.getD_eq_getElem?_getD, hk] using hx
  rw [h1, if_pos h2]
  exact ⟨_, rfl⟩
end Lw

/-! ### data that may be shown -/
namespace Lw
open PySem L2
structure Shw (d : PyData) (k b : Nat) : Prop where
  sh : d.showable = true
  can : d.canLay0 = true
  dp : d.depth ≤ k
  ls : d.leavesShort 13 = true
  bk : d.bulk ≤ b
structure ShwA (ds : List PyData) (k b : Nat) : Prop where
  sh : PyData.showableAll ds = true
  can : PyData.canLayAll0 ds = true
  dp : PyData.depthAll ds ≤ k
  ls : PyData.leavesShortAll 13 ds = true
  bk : PyData.bulkAll ds ≤ b
theorem Shw.fits {d : PyData} {k b : Nat} (h : Shw d k b) (hb : b ≤ 2 ^ 20) : d.shown.length ≤ sizeLine := PyData.shown_fits_bulk (B := 13) (by decide) (by decide) h.ls (Nat.le_trans h.bk hb)
theorem ShwA.nil : ShwA [] 0 0 := ⟨rfl, rfl, by simp [PyData.depthAll], rfl, by simp [PyData.bulkAll]⟩
theorem ShwA.cons {d : PyData} {ds : List PyData} {k k' b b' : Nat} (h : Shw d k b) (t : ShwA ds k' b') : ShwA (d :: ds) (max k k') (b + 1 + b') := by
  refine ⟨?_, ?_, ?_, ?_, ?_⟩
  · simp only [PyData.showableAll, h.sh, t.sh, Bool.and_self]
  · simp only [PyData.canLayAll0, h.can, t.can, Bool.and_self]
  · have h1 := h.dp; have h2 := t.dp
    simp only [PyData.depthAll]
    omega
  · simp only [PyData.leavesShortAll, h.ls, t.ls, Bool.and_self]
  · have h1 := h.bk; have h2 := t.bk
    simp only [PyData.bulkAll]
    omega
theorem ShwA.mono {ds : List PyData} {k k' b b' : Nat} (t : ShwA ds k b) (h1 : k ≤ k') (h2 : b ≤ b') : ShwA ds k' b' := ⟨t.sh, t.can, Nat.le_trans t.dp h1, t.ls, Nat.le_trans t.bk h2⟩
theorem Shw.mono {d : PyData} {k k' b b' : Nat} (t : Shw d k b) (h1 : k ≤ k') (h2 : b ≤ b') : Shw d k' b' := ⟨t.sh, t.can, Nat.le_trans t.dp h1, t.ls, Nat.le_trans t.bk h2⟩
theorem ShwA.lst {ds : List PyData} {k b : Nat} (t : ShwA ds k b) : Shw (.list ds) (k + 1) b := by
  refine ⟨?_, ?_, ?_, ?_, ?_⟩
  · simpa only [PyData.showable] using t.sh
  · simpa only [PyData.canLay0] using t.can
  · have := t.dp
    simp only [PyData.depth]
    omega
  · simpa only [PyData.leavesShort] using t.ls
  · simpa only [PyData.bulk] using t.bk
theorem ShwA.tup {ds : List PyData} {k b : Nat} (t : ShwA ds k b) : Shw (.tuple ds) (k + 1) b := by
  refine ⟨?_, ?_, ?_, ?_, ?_⟩
  · simpa only [PyData.showable] using t.sh
  · simpa only [PyData.canLay0] using t.can
  · have := t.dp
    simp only [PyData.depth]
    omega
  · simpa only [PyData.leavesShort] using t.ls
  · simpa only [PyData.bulk] using t.bk
theorem shw_int {i : Int} (h0 : 0 ≤ i) (h : i < 1000000) : Shw (.int i) 1 0 := by
  refine ⟨?_, rfl, by simp [PyData.depth], ?_, by simp [PyData.bulk]⟩
  · simp only [PyData.showable, decide_eq_true_eq]
    have h1 : i.natAbs < 2 ^ 20 := by omega
    by_cases hz : i.natAbs = 0
    · rw [hz]; decide
    · have := (Nat.log2_lt hz).mpr h1
      omega
  · simp only [PyData.leavesShort, decide_eq_true_eq]
    rw [PyData.shown_int]
    exact Nat.le_trans (PyProof.Rows.toString_length_le h0 (by decide : 0 < 6) h) (by decide)
theorem shw_ints : ∀ {ns : List Int}, (∀ x ∈ ns, 0 ≤ x ∧ x < 1000000) → ShwA (ns.map PyData.int) 1 ns.length
  | [], _ => ShwA.nil.mono (by decide) (Nat.le_refl _)
  | n :: ns, h => by
    have hn := h n (by simp)
    have t := shw_ints (ns := ns) fun x hx => h x (by simp [hx])
    exact ((ShwA.cons (shw_int hn.1 hn.2) t)).mono (by decide) (by rw [List.length_cons]; omega)
theorem shw_row {r : List Int} (h : ∀ x ∈ r, 0 ≤ x ∧ x < 1000000) : Shw (dR r) 2 r.length := (shw_ints h).tup
theorem shw_rows {n : Nat} : ∀ {rs : List (List Int)}, (∀ r ∈ rs, r.length ≤ n ∧ ∀ x ∈ r, 0 ≤ x ∧ x < 1000000) → ShwA (rs.map dR) 2 (rs.length * (n + 1))
  | [], _ => ShwA.nil.mono (by decide) (Nat.zero_le _)
  | r :: rs, h => by
    have hr := h r (by simp)
    have t := shw_rows (rs := rs) fun x hx => h x (by simp [hx])
    refine (ShwA.cons (shw_row hr.2) t).mono (by decide) ?_
    rw [List.length_cons, Nat.succ_mul]
    omega
/-- the text of data, where it may be shown -/
theorem repr_ok {K : PySem.W.Frag} {H : Hp} {v : V} {d : PyData} {k b : Nat} {Q : VK} (h : Dp K H v d) (s : Shw d k b) (hk : k ≤ 64) (hb : b ≤ 2 ^ 20) (q : Q (.str d.shown) H) : rReprD K [v] H Q :=
  ⟨v, d, rfl, h, s.sh, s.can, Nat.le_trans s.dp hk, s.fits hb, q⟩
theorem nil_i {σ : L2.St} {H : Hp} {Q : List V → Hp → Prop} (h : Q [] H) : tNil σ H Q := h
theorem np_i {σ : L2.St} {H : Hp} {Q : Option Int → Hp → Prop} (h : Q none H) : tNoPart σ H Q := h
end Lw

namespace Lw
open PySem L2
def topS (i : Nat) : Stmt := PySem.Challenge.pw_codenests_k03_rows_reckoned.main.body.getD i (.Pass ⟨0, 0, 0, 0⟩)
abbrev s_wall : Stmt := topS 0
abbrev s_BadGround_init : Stmt := inClass (topS 3) 0
abbrev s_is_number : Stmt := topS 5
abbrev s_added : Stmt := topS 7
abbrev s_subtracted : Stmt := topS 8
abbrev s_scaled : Stmt := topS 9
abbrev s_dot : Stmt := topS 10
abbrev s_combined : Stmt := topS 11
abbrev s_pivot : Stmt := topS 12
abbrev s_is_prime : Stmt := topS 14
abbrev s_Ground_init : Stmt := inClass (topS 15) 0
abbrev s_Ground_p : Stmt := inClass (topS 15) 1
abbrev s_Ground_n : Stmt := inClass (topS 15) 2
abbrev s_Ground_zero : Stmt := inClass (topS 15) 3
abbrev s_Ground_units : Stmt := inClass (topS 15) 4
abbrev s_Ground_inverse_of : Stmt := inClass (topS 15) 5
abbrev s_Ground_eq : Stmt := inClass (topS 15) 6
abbrev s_l_source : Stmt := topS 17
abbrev s_l_pick : Stmt := topS 18
abbrev s_l_of : Stmt := topS 19
abbrev s_l_wide : Stmt := topS 20
abbrev s_l_row : Stmt := topS 21
abbrev s_l_plus : Stmt := topS 22
abbrev s_l_pivot : Stmt := topS 23
abbrev s_l_rows : Stmt := topS 24
abbrev s_l_given : Stmt := topS 25
abbrev s_law : Stmt := topS 26
theorem sc_wall : FnScope ["k"] ["k"] (defScope s_wall) := ⟨rfl, rfl, rfl, by decide +kernel, rfl, by decide +kernel, by decide +kernel⟩
theorem sc_BadGround_init : FnScope ["self", "path"] ["self", "path"] (defScope s_BadGround_init) := ⟨rfl, rfl, rfl, by decide +kernel, rfl, by decide +kernel, by decide +kernel⟩
theorem sc_is_number : FnScope ["value"] ["value"] (defScope s_is_number) := ⟨rfl, rfl, rfl, by decide +kernel, rfl, by decide +kernel, by decide +kernel⟩
theorem sc_added : FnScope ["ground", "one", "other", "p", "entry", "more"] ["ground", "one", "other"] (defScope s_added) := ⟨rfl, rfl, rfl, by decide +kernel, rfl, by decide +kernel, by decide +kernel⟩
theorem sc_subtracted : FnScope ["ground", "one", "other", "p", "entry", "less"] ["ground", "one", "other"] (defScope s_subtracted) := ⟨rfl, rfl, rfl, by decide +kernel, rfl, by decide +kernel, by decide +kernel⟩
theorem sc_scaled : FnScope ["ground", "number", "row", "p", "entry"] ["ground", "number", "row"] (defScope s_scaled) := ⟨rfl, rfl, rfl, by decide +kernel, rfl, by decide +kernel, by decide +kernel⟩
theorem sc_dot : FnScope ["ground", "one", "other", "entry", "factor"] ["ground", "one", "other"] (defScope s_dot) := ⟨rfl, rfl, rfl, by decide +kernel, rfl, by decide +kernel, by decide +kernel⟩
theorem sc_combined : FnScope ["ground", "numbers", "rows", "total", "number", "row"] ["ground", "numbers", "rows"] (defScope s_combined) := ⟨rfl, rfl, rfl, by decide +kernel, rfl, by decide +kernel, by decide +kernel⟩
theorem sc_pivot : FnScope ["row", "column", "entry"] ["row"] (defScope s_pivot) := ⟨rfl, rfl, rfl, by decide +kernel, rfl, by decide +kernel, by decide +kernel⟩
theorem sc_is_prime : FnScope ["value", "divisor"] ["value"] (defScope s_is_prime) := ⟨rfl, rfl, rfl, by decide +kernel, rfl, by decide +kernel, by decide +kernel⟩
theorem sc_Ground_init : FnScope ["self", "p", "n"] ["self", "p", "n"] (defScope s_Ground_init) := ⟨rfl, rfl, rfl, by decide +kernel, rfl, by decide +kernel, by decide +kernel⟩
theorem sc_Ground_p : FnScope ["self"] ["self"] (defScope s_Ground_p) := ⟨rfl, rfl, rfl, by decide +kernel, rfl, by decide +kernel, by decide +kernel⟩
theorem sc_Ground_n : FnScope ["self"] ["self"] (defScope s_Ground_n) := ⟨rfl, rfl, rfl, by decide +kernel, rfl, by decide +kernel, by decide +kernel⟩
theorem sc_Ground_zero : FnScope ["self"] ["self"] (defScope s_Ground_zero) := ⟨rfl, rfl, rfl, by decide +kernel, rfl, by decide +kernel, by decide +kernel⟩
theorem sc_Ground_units : FnScope ["self"] ["self"] (defScope s_Ground_units) := ⟨rfl, rfl, rfl, by decide +kernel, rfl, by decide +kernel, by decide +kernel⟩
theorem sc_Ground_inverse_of : FnScope ["self", "number"] ["self", "number"] (defScope s_Ground_inverse_of) := ⟨rfl, rfl, rfl, by decide +kernel, rfl, by decide +kernel, by decide +kernel⟩
theorem sc_Ground_eq : FnScope ["self", "other"] ["self", "other"] (defScope s_Ground_eq) := ⟨rfl, rfl, rfl, by decide +kernel, rfl, by decide +kernel, by decide +kernel⟩
theorem sc_l_source : FnScope ["_law_script", "_law_mixed", "_law_cell"] ["_law_script"] (defScope s_l_source) := ⟨rfl, rfl, rfl, by decide +kernel, rfl, by decide +kernel, by decide +kernel⟩
theorem sc_l_pick : FnScope ["_law_source_here", "_law_many", "_law_left", "_law_mixed"] ["_law_source_here", "_law_many"] (defScope s_l_pick) := ⟨rfl, rfl, rfl, by decide +kernel, rfl, by decide +kernel, by decide +kernel⟩
theorem sc_l_of : FnScope ["_law_source_here", "_law_some"] ["_law_source_here", "_law_some"] (defScope s_l_of) := ⟨rfl, rfl, rfl, by decide +kernel, rfl, by decide +kernel, by decide +kernel⟩
theorem sc_l_wide : FnScope ["_law_source_here", "_law_least", "_law_most", "_law_p", "_law_n"] ["_law_source_here", "_law_least", "_law_most"] (defScope s_l_wide) := ⟨rfl, rfl, rfl, by decide +kernel, rfl, by decide +kernel, by decide +kernel⟩
theorem sc_l_row : FnScope ["_law_source_here", "_law_ground", "_law_k"] ["_law_source_here", "_law_ground"] (defScope s_l_row) := ⟨rfl, rfl, rfl, by decide +kernel, rfl, by decide +kernel, by decide +kernel⟩
theorem sc_l_plus : FnScope ["_law_p", "_law_one", "_law_times", "_law_other", "_law_k"] ["_law_p", "_law_one", "_law_times", "_law_other"] (defScope s_l_plus) := ⟨rfl, rfl, rfl, by decide +kernel, rfl, by decide +kernel, by decide +kernel⟩
theorem sc_l_pivot : FnScope ["_law_row_here", "_law_found", "_law_k"] ["_law_row_here"] (defScope s_l_pivot) := ⟨rfl, rfl, rfl, by decide +kernel, rfl, by decide +kernel, by decide +kernel⟩
theorem sc_l_rows : FnScope ["_law_source_here", "_law_ground", "_law_many", "_law_rows_here", "_law_p", "_law_lap", "_law_row_here", "_law_way"] ["_law_source_here", "_law_ground", "_law_many"] (defScope s_l_rows) := ⟨rfl, rfl, rfl, by decide +kernel, rfl, by decide +kernel, by decide +kernel⟩
theorem sc_l_given : FnScope ["_law_source_here", "_law_rows_here"] ["_law_source_here", "_law_rows_here"] (defScope s_l_given) := ⟨rfl, rfl, rfl, by decide +kernel, rfl, by decide +kernel, by decide +kernel⟩
theorem sc_law : FnScope ["_law_script", "_law_source_here", "_law_lap", "_law_ground", "_law_made", "_law_p", "_law_n", "_law_one", "_law_other", "_law_number", "_law_k", "_law_rows_here", "_law_due", "_law_numbers", "_law_row_here", "_law_kept"] ["_law_script"] (defScope s_law) := ⟨rfl, rfl, rfl, by decide +kernel, rfl, by decide +kernel, by decide +kernel⟩
structure Tx (K : PySem.W.Frag) (mg : Str → Option Value) : Type where
  C_Ground : Addr
  cl_Ground : Cls K C_Ground
  g_Ground : mg "Ground" = some (.ref C_Ground)
  n_Ground_p : NoAttr K C_Ground "_p"
  n_Ground_n : NoAttr K C_Ground "_n"
  f_is_number : Addr
  d_is_number : FuncData
  F_is_number : Fun K "is_number" "is_number" s_is_number f_is_number d_is_number
  b_is_number : Binds K d_is_number ["value"] []
  g_is_number : mg "is_number" = some (.ref f_is_number)
  f_added : Addr
  d_added : FuncData
  F_added : Fun K "added" "added" s_added f_added d_added
  b_added : Binds K d_added ["ground", "one", "other"] []
  g_added : mg "added" = some (.ref f_added)
  f_subtracted : Addr
  d_subtracted : FuncData
  F_subtracted : Fun K "subtracted" "subtracted" s_subtracted f_subtracted d_subtracted
  b_subtracted : Binds K d_subtracted ["ground", "one", "other"] []
  g_subtracted : mg "subtracted" = some (.ref f_subtracted)
  f_scaled : Addr
  d_scaled : FuncData
  F_scaled : Fun K "scaled" "scaled" s_scaled f_scaled d_scaled
  b_scaled : Binds K d_scaled ["ground", "number", "row"] []
  g_scaled : mg "scaled" = some (.ref f_scaled)
  f_dot : Addr
  d_dot : FuncData
  F_dot : Fun K "dot" "dot" s_dot f_dot d_dot
  b_dot : Binds K d_dot ["ground", "one", "other"] []
  g_dot : mg "dot" = some (.ref f_dot)
  f_combined : Addr
  d_combined : FuncData
  F_combined : Fun K "combined" "combined" s_combined f_combined d_combined
  b_combined : Binds K d_combined ["ground", "numbers", "rows"] []
  g_combined : mg "combined" = some (.ref f_combined)
  f_pivot : Addr
  d_pivot : FuncData
  F_pivot : Fun K "pivot" "pivot" s_pivot f_pivot d_pivot
  b_pivot : Binds K d_pivot ["row"] []
  g_pivot : mg "pivot" = some (.ref f_pivot)
  f_is_prime : Addr
  d_is_prime : FuncData
  F_is_prime : Fun K "is_prime" "is_prime" s_is_prime f_is_prime d_is_prime
  b_is_prime : Binds K d_is_prime ["value"] []
  g_is_prime : mg "is_prime" = some (.ref f_is_prime)
  f_Ground_init : Addr
  d_Ground_init : FuncData
  F_Ground_init : Fun K "__init__" "Ground.__init__" s_Ground_init f_Ground_init d_Ground_init
  b_Ground_init : Binds K d_Ground_init ["self", "p", "n"] []
  M_Ground : Mk K C_Ground f_Ground_init
  f_Ground_p : Addr
  d_Ground_p : FuncData
  F_Ground_p : Fun K "p" "Ground.p" s_Ground_p f_Ground_p d_Ground_p
  b_Ground_p : Binds K d_Ground_p ["self"] []
  m_Ground_p : Meth K C_Ground "p" f_Ground_p
  f_Ground_n : Addr
  d_Ground_n : FuncData
  F_Ground_n : Fun K "n" "Ground.n" s_Ground_n f_Ground_n d_Ground_n
  b_Ground_n : Binds K d_Ground_n ["self"] []
  m_Ground_n : Meth K C_Ground "n" f_Ground_n
  f_Ground_zero : Addr
  d_Ground_zero : FuncData
  F_Ground_zero : Fun K "zero" "Ground.zero" s_Ground_zero f_Ground_zero d_Ground_zero
  b_Ground_zero : Binds K d_Ground_zero ["self"] []
  m_Ground_zero : Meth K C_Ground "zero" f_Ground_zero
  f_l_source : Addr
  d_l_source : FuncData
  F_l_source : Fun K "_law_source" "_law_source" s_l_source f_l_source d_l_source
  b_l_source : Binds K d_l_source ["_law_script"] []
  g_l_source : mg "_law_source" = some (.ref f_l_source)
  f_l_pick : Addr
  d_l_pick : FuncData
  F_l_pick : Fun K "_law_pick" "_law_pick" s_l_pick f_l_pick d_l_pick
  b_l_pick : Binds K d_l_pick ["_law_source_here", "_law_many"] []
  g_l_pick : mg "_law_pick" = some (.ref f_l_pick)
  f_l_of : Addr
  d_l_of : FuncData
  F_l_of : Fun K "_law_of" "_law_of" s_l_of f_l_of d_l_of
  b_l_of : Binds K d_l_of ["_law_source_here", "_law_some"] []
  g_l_of : mg "_law_of" = some (.ref f_l_of)
  f_l_wide : Addr
  d_l_wide : FuncData
  F_l_wide : Fun K "_law_wide" "_law_wide" s_l_wide f_l_wide d_l_wide
  b_l_wide : Binds K d_l_wide ["_law_source_here", "_law_least", "_law_most"] []
  g_l_wide : mg "_law_wide" = some (.ref f_l_wide)
  f_l_row : Addr
  d_l_row : FuncData
  F_l_row : Fun K "_law_row" "_law_row" s_l_row f_l_row d_l_row
  b_l_row : Binds K d_l_row ["_law_source_here", "_law_ground"] []
  g_l_row : mg "_law_row" = some (.ref f_l_row)
  f_l_plus : Addr
  d_l_plus : FuncData
  F_l_plus : Fun K "_law_plus" "_law_plus" s_l_plus f_l_plus d_l_plus
  b_l_plus : Binds K d_l_plus ["_law_p", "_law_one", "_law_times", "_law_other"] []
  g_l_plus : mg "_law_plus" = some (.ref f_l_plus)
  f_l_pivot : Addr
  d_l_pivot : FuncData
  F_l_pivot : Fun K "_law_pivot" "_law_pivot" s_l_pivot f_l_pivot d_l_pivot
  b_l_pivot : Binds K d_l_pivot ["_law_row_here"] []
  g_l_pivot : mg "_law_pivot" = some (.ref f_l_pivot)
  f_l_rows : Addr
  d_l_rows : FuncData
  F_l_rows : Fun K "_law_rows" "_law_rows" s_l_rows f_l_rows d_l_rows
  b_l_rows : Binds K d_l_rows ["_law_source_here", "_law_ground", "_law_many"] []
  g_l_rows : mg "_law_rows" = some (.ref f_l_rows)
  f_l_given : Addr
  d_l_given : FuncData
  F_l_given : Fun K "_law_given" "_law_given" s_l_given f_l_given d_l_given
  b_l_given : Binds K d_l_given ["_law_source_here", "_law_rows_here"] []
  g_l_given : mg "_law_given" = some (.ref f_l_given)
  f_law : Addr
  d_law : FuncData
  F_law : Fun K "law" "law" s_law f_law d_law
  b_law : Binds K d_law ["_law_script"] []
  g_law : mg "law" = some (.ref f_law)
  z_len : mg "len" = none
  z_range : mg "range" = none
  z_int : mg "int" = none
  z_bool : mg "bool" = none
  z_tuple : mg "tuple" = none
  z_isinstance : mg "isinstance" = none
  z_abs : mg "abs" = none
  z_max : mg "max" = none
  z_zip : mg "zip" = none
  z_enumerate : mg "enumerate" = none
  z_sum : mg "sum" = none
  z_repr : mg "repr" = none
def tx_mk {K : PySem.W.Frag} {h : Heap} {mg : Str → Option Value} (X : K.In h) (G : h.Ns mainGlobals mg)
    {C_Ground f_is_number f_added f_subtracted f_scaled f_dot f_combined f_pivot f_is_prime f_Ground_init f_Ground_p f_Ground_n f_Ground_zero f_l_source f_l_pick f_l_of f_l_wide f_l_row f_l_plus f_l_pivot f_l_rows f_l_given f_law : Addr} {oc1 kV1 dc1 pm1 cd1 ct1 oc2 kV2 dc2 pm2 cd2 ct2 oc3 kV3 dc3 pm3 cd3 ct3 oc4 kV4 dc4 pm4 cd4 ct4 oc5 kV5 dc5 pm5 cd5 ct5 oc6 kV6 dc6 pm6 cd6 ct6 oc7 kV7 dc7 pm7 cd7 ct7 oc8 kV8 dc8 pm8 cd8 ct8 oc9 kV9 dc9 pm9 cd9 ct9 oc10 kV10 dc10 pm10 cd10 ct10 oc11 kV11 dc11 pm11 cd11 ct11 oc12 kV12 dc12 pm12 cd12 ct12 oc13 kV13 dc13 pm13 cd13 ct13 oc14 kV14 dc14 pm14 cd14 ct14 oc15 kV15 dc15 pm15 cd15 ct15 oc16 kV16 dc16 pm16 cd16 ct16 oc17 kV17 dc17 pm17 cd17 ct17 oc18 kV18 dc18 pm18 cd18 ct18 oc19 kV19 dc19 pm19 cd19 ct19 oc20 kV20 dc20 pm20 cd20 ct20 oc21 kV21 dc21 pm21 cd21 ct21 oc22 kV22 dc22 pm22 cd22 ct22 : Value} {od1 an1 : Option Addr} {sl1 : Array (Option Value)} {od2 an2 : Option Addr} {sl2 : Array (Option Value)} {od3 an3 : Option Addr} {sl3 : Array (Option Value)} {od4 an4 : Option Addr} {sl4 : Array (Option Value)} {od5 an5 : Option Addr} {sl5 : Array (Option Value)} {od6 an6 : Option Addr} {sl6 : Array (Option Value)} {od7 an7 : Option Addr} {sl7 : Array (Option Value)} {od8 an8 : Option Addr} {sl8 : Array (Option Value)} {od9 an9 : Option Addr} {sl9 : Array (Option Value)} {od10 an10 : Option Addr} {sl10 : Array (Option Value)} {od11 an11 : Option Addr} {sl11 : Array (Option Value)} {od12 an12 : Option Addr} {sl12 : Array (Option Value)} {od13 an13 : Option Addr} {sl13 : Array (Option Value)} {od14 an14 : Option Addr} {sl14 : Array (Option Value)} {od15 an15 : Option Addr} {sl15 : Array (Option Value)} {od16 an16 : Option Addr} {sl16 : Array (Option Value)} {od17 an17 : Option Addr} {sl17 : Array (Option Value)} {od18 an18 : Option Addr} {sl18 : Array (Option Value)} {od19 an19 : Option Addr} {sl19 : Array (Option Value)} {od20 an20 : Option Addr} {sl20 : Array (Option Value)} {od21 an21 : Option Addr} {sl21 : Array (Option Value)} {od22 an22 : Option Addr} {sl22 : Array (Option Value)} 
    (a_Ground : PySem.W.nsIn K mainGlobals "Ground" = some (some (.ref C_Ground)))
    (pg_Ground : PySem.W.plainGet K C_Ground Str.empty = true)
    (hd_Ground : PySem.W.hasDictIn K C_Ground = true)
    (po_Ground : PySem.W.plainOver K C_Ground = true)
    (sa_Ground : PySem.W.findIn K (.ref C_Ground) "__setattr__" = some (some (.builtin "object.__setattr__")))
    (mk_Ground : PySem.W.makesIn K C_Ground = true)
    (kc_Ground : PySem.W.keepIn K (.ref C_Ground) = true)
    (n_Ground_p : PySem.W.findIn K (.ref C_Ground) "_p" = some none)
    (n_Ground_n : PySem.W.findIn K (.ref C_Ground) "_n" = some none)
    (a_is_number : PySem.W.nsIn K mainGlobals "is_number" = some (some (.ref f_is_number)))
    (l_is_number : K.lookup f_is_number = some ⟨oc1, od1, .func (PySem.W.fnOf "is_number" "is_number" (defArgs s_is_number) (defBody s_is_number) (defScope s_is_number) .none kV1 dc1 pm1 an1 cd1 ct1), sl1⟩)
    (c_is_number : PySem.W.codeIn K cd1 "is_number" = true)
    (k_is_number : PySem.W.keepIn K (.ref f_is_number) = true)
    (a_added : PySem.W.nsIn K mainGlobals "added" = some (some (.ref f_added)))
    (l_added : K.lookup f_added = some ⟨oc2, od2, .func (PySem.W.fnOf "added" "added" (defArgs s_added) (defBody s_added) (defScope s_added) .none kV2 dc2 pm2 an2 cd2 ct2), sl2⟩)
    (c_added : PySem.W.codeIn K cd2 "added" = true)
    (k_added : PySem.W.keepIn K (.ref f_added) = true)
    (a_subtracted : PySem.W.nsIn K mainGlobals "subtracted" = some (some (.ref f_subtracted)))
    (l_subtracted : K.lookup f_subtracted = some ⟨oc3, od3, .func (PySem.W.fnOf "subtracted" "subtracted" (defArgs s_subtracted) (defBody s_subtracted) (defScope s_subtracted) .none kV3 dc3 pm3 an3 cd3 ct3), sl3⟩)
    (c_subtracted : PySem.W.codeIn K cd3 "subtracted" = true)
    (k_subtracted : PySem.W.keepIn K (.ref f_subtracted) = true)
    (a_scaled : PySem.W.nsIn K mainGlobals "scaled" = some (some (.ref f_scaled)))
    (l_scaled : K.lookup f_scaled = some ⟨oc4, od4, .func (PySem.W.fnOf "scaled" "scaled" (defArgs s_scaled) (defBody s_scaled) (defScope s_scaled) .none kV4 dc4 pm4 an4 cd4 ct4), sl4⟩)
    (c_scaled : PySem.W.codeIn K cd4 "scaled" = true)
    (k_scaled : PySem.W.keepIn K (.ref f_scaled) = true)
    (a_dot : PySem.W.nsIn K mainGlobals "dot" = some (some (.ref f_dot)))
    (l_dot : K.lookup f_dot = some ⟨oc5, od5, .func (PySem.W.fnOf "dot" "dot" (defArgs s_dot) (defBody s_dot) (defScope s_dot) .none kV5 dc5 pm5 an5 cd5 ct5), sl5⟩)
    (c_dot : PySem.W.codeIn K cd5 "dot" = true)
    (k_dot : PySem.W.keepIn K (.ref f_dot) = true)
    (a_combined : PySem.W.nsIn K mainGlobals "combined" = some (some (.ref f_combined)))
    (l_combined : K.lookup f_combined = some ⟨oc6, od6, .func (PySem.W.fnOf "combined" "combined" (defArgs s_combined) (defBody s_combined) (defScope s_combined) .none kV6 dc6 pm6 an6 cd6 ct6), sl6⟩)
    (c_combined : PySem.W.codeIn K cd6 "combined" = true)
    (k_combined : PySem.W.keepIn K (.ref f_combined) = true)
    (a_pivot : PySem.W.nsIn K mainGlobals "pivot" = some (some (.ref f_pivot)))
    (l_pivot : K.lookup f_pivot = some ⟨oc7, od7, .func (PySem.W.fnOf "pivot" "pivot" (defArgs s_pivot) (defBody s_pivot) (defScope s_pivot) .none kV7 dc7 pm7 an7 cd7 ct7), sl7⟩)
    (c_pivot : PySem.W.codeIn K cd7 "pivot" = true)
    (k_pivot : PySem.W.keepIn K (.ref f_pivot) = true)
    (a_is_prime : PySem.W.nsIn K mainGlobals "is_prime" = some (some (.ref f_is_prime)))
    (l_is_prime : K.lookup f_is_prime = some ⟨oc8, od8, .func (PySem.W.fnOf "is_prime" "is_prime" (defArgs s_is_prime) (defBody s_is_prime) (defScope s_is_prime) .none kV8 dc8 pm8 an8 cd8 ct8), sl8⟩)
    (c_is_prime : PySem.W.codeIn K cd8 "is_prime" = true)
    (k_is_prime : PySem.W.keepIn K (.ref f_is_prime) = true)
    (a_Ground_init : PySem.W.findIn K (.ref C_Ground) "__init__" = some (some (.ref f_Ground_init)))
    (i_Ground_init : PySem.W.isFn K (.ref f_Ground_init) = true)
    (l_Ground_init : K.lookup f_Ground_init = some ⟨oc9, od9, .func (PySem.W.fnOf "__init__" "Ground.__init__" (defArgs s_Ground_init) (defBody s_Ground_init) (defScope s_Ground_init) .none kV9 dc9 pm9 an9 cd9 ct9), sl9⟩)
    (c_Ground_init : PySem.W.codeIn K cd9 "Ground.__init__" = true)
    (k_Ground_init : PySem.W.keepIn K (.ref f_Ground_init) = true)
    (a_Ground_p : PySem.W.findIn K (.ref C_Ground) "p" = some (some (.ref f_Ground_p)))
    (i_Ground_p : PySem.W.isFn K (.ref f_Ground_p) = true)
    (l_Ground_p : K.lookup f_Ground_p = some ⟨oc10, od10, .func (PySem.W.fnOf "p" "Ground.p" (defArgs s_Ground_p) (defBody s_Ground_p) (defScope s_Ground_p) .none kV10 dc10 pm10 an10 cd10 ct10), sl10⟩)
    (c_Ground_p : PySem.W.codeIn K cd10 "Ground.p" = true)
    (k_Ground_p : PySem.W.keepIn K (.ref f_Ground_p) = true)
    (a_Ground_n : PySem.W.findIn K (.ref C_Ground) "n" = some (some (.ref f_Ground_n)))
    (i_Ground_n : PySem.W.isFn K (.ref f_Ground_n) = true)
    (l_Ground_n : K.lookup f_Ground_n = some ⟨oc11, od11, .func (PySem.W.fnOf "n" "Ground.n" (defArgs s_Ground_n) (defBody s_Ground_n) (defScope s_Ground_n) .none kV11 dc11 pm11 an11 cd11 ct11), sl11⟩)
    (c_Ground_n : PySem.W.codeIn K cd11 "Ground.n" = true)
    (k_Ground_n : PySem.W.keepIn K (.ref f_Ground_n) = true)
    (a_Ground_zero : PySem.W.findIn K (.ref C_Ground) "zero" = some (some (.ref f_Ground_zero)))
    (i_Ground_zero : PySem.W.isFn K (.ref f_Ground_zero) = true)
    (l_Ground_zero : K.lookup f_Ground_zero = some ⟨oc12, od12, .func (PySem.W.fnOf "zero" "Ground.zero" (defArgs s_Ground_zero) (defBody s_Ground_zero) (defScope s_Ground_zero) .none kV12 dc12 pm12 an12 cd12 ct12), sl12⟩)
    (c_Ground_zero : PySem.W.codeIn K cd12 "Ground.zero" = true)
    (k_Ground_zero : PySem.W.keepIn K (.ref f_Ground_zero) = true)
    (a_l_source : PySem.W.nsIn K mainGlobals "_law_source" = some (some (.ref f_l_source)))
    (l_l_source : K.lookup f_l_source = some ⟨oc13, od13, .func (PySem.W.fnOf "_law_source" "_law_source" (defArgs s_l_source) (defBody s_l_source) (defScope s_l_source) .none kV13 dc13 pm13 an13 cd13 ct13), sl13⟩)
    (c_l_source : PySem.W.codeIn K cd13 "_law_source" = true)
    (k_l_source : PySem.W.keepIn K (.ref f_l_source) = true)
    (a_l_pick : PySem.W.nsIn K mainGlobals "_law_pick" = some (some (.ref f_l_pick)))
    (l_l_pick : K.lookup f_l_pick = some ⟨oc14, od14, .func (PySem.W.fnOf "_law_pick" "_law_pick" (defArgs s_l_pick) (defBody s_l_pick) (defScope s_l_pick) .none kV14 dc14 pm14 an14 cd14 ct14), sl14⟩)
    (c_l_pick : PySem.W.codeIn K cd14 "_law_pick" = true)
    (k_l_pick : PySem.W.keepIn K (.ref f_l_pick) = true)
    (a_l_of : PySem.W.nsIn K mainGlobals "_law_of" = some (some (.ref f_l_of)))
    (l_l_of : K.lookup f_l_of = some ⟨oc15, od15, .func (PySem.W.fnOf "_law_of" "_law_of" (defArgs s_l_of) (defBody s_l_of) (defScope s_l_of) .none kV15 dc15 pm15 an15 cd15 ct15), sl15⟩)
    (c_l_of : PySem.W.codeIn K cd15 "_law_of" = true)
    (k_l_of : PySem.W.keepIn K (.ref f_l_of) = true)
    (a_l_wide : PySem.W.nsIn K mainGlobals "_law_wide" = some (some (.ref f_l_wide)))
    (l_l_wide : K.lookup f_l_wide = some ⟨oc16, od16, .func (PySem.W.fnOf "_law_wide" "_law_wide" (defArgs s_l_wide) (defBody s_l_wide) (defScope s_l_wide) .none kV16 dc16 pm16 an16 cd16 ct16), sl16⟩)
    (c_l_wide : PySem.W.codeIn K cd16 "_law_wide" = true)
    (k_l_wide : PySem.W.keepIn K (.ref f_l_wide) = true)
    (a_l_row : PySem.W.nsIn K mainGlobals "_law_row" = some (some (.ref f_l_row)))
    (l_l_row : K.lookup f_l_row = some ⟨oc17, od17, .func (PySem.W.fnOf "_law_row" "_law_row" (defArgs s_l_row) (defBody s_l_row) (defScope s_l_row) .none kV17 dc17 pm17 an17 cd17 ct17), sl17⟩)
    (c_l_row : PySem.W.codeIn K cd17 "_law_row" = true)
    (k_l_row : PySem.W.keepIn K (.ref f_l_row) = true)
    (a_l_plus : PySem.W.nsIn K mainGlobals "_law_plus" = some (some (.ref f_l_plus)))
    (l_l_plus : K.lookup f_l_plus = some ⟨oc18, od18, .func (PySem.W.fnOf "_law_plus" "_law_plus" (defArgs s_l_plus) (defBody s_l_plus) (defScope s_l_plus) .none kV18 dc18 pm18 an18 cd18 ct18), sl18⟩)
    (c_l_plus : PySem.W.codeIn K cd18 "_law_plus" = true)
    (k_l_plus : PySem.W.keepIn K (.ref f_l_plus) = true)
    (a_l_pivot : PySem.W.nsIn K mainGlobals "_law_pivot" = some (some (.ref f_l_pivot)))
    (l_l_pivot : K.lookup f_l_pivot = some ⟨oc19, od19, .func (PySem.W.fnOf "_law_pivot" "_law_pivot" (defArgs s_l_pivot) (defBody s_l_pivot) (defScope s_l_pivot) .none kV19 dc19 pm19 an19 cd19 ct19), sl19⟩)
    (c_l_pivot : PySem.W.codeIn K cd19 "_law_pivot" = true)
    (k_l_pivot : PySem.W.keepIn K (.ref f_l_pivot) = true)
    (a_l_rows : PySem.W.nsIn K mainGlobals "_law_rows" = some (some (.ref f_l_rows)))
    (l_l_rows : K.lookup f_l_rows = some ⟨oc20, od20, .func (PySem.W.fnOf "_law_rows" "_law_rows" (defArgs s_l_rows) (defBody s_l_rows) (defScope s_l_rows) .none kV20 dc20 pm20 an20 cd20 ct20), sl20⟩)
    (c_l_rows : PySem.W.codeIn K cd20 "_law_rows" = true)
    (k_l_rows : PySem.W.keepIn K (.ref f_l_rows) = true)
    (a_l_given : PySem.W.nsIn K mainGlobals "_law_given" = some (some (.ref f_l_given)))
    (l_l_given : K.lookup f_l_given = some ⟨oc21, od21, .func (PySem.W.fnOf "_law_given" "_law_given" (defArgs s_l_given) (defBody s_l_given) (defScope s_l_given) .none kV21 dc21 pm21 an21 cd21 ct21), sl21⟩)
    (c_l_given : PySem.W.codeIn K cd21 "_law_given" = true)
    (k_l_given : PySem.W.keepIn K (.ref f_l_given) = true)
    (a_law : PySem.W.nsIn K mainGlobals "law" = some (some (.ref f_law)))
    (l_law : K.lookup f_law = some ⟨oc22, od22, .func (PySem.W.fnOf "law" "law" (defArgs s_law) (defBody s_law) (defScope s_law) .none kV22 dc22 pm22 an22 cd22 ct22), sl22⟩)
    (c_law : PySem.W.codeIn K cd22 "law" = true)
    (k_law : PySem.W.keepIn K (.ref f_law) = true)
    (z_len : PySem.W.nsIn K mainGlobals "len" = some none)
    (z_range : PySem.W.nsIn K mainGlobals "range" = some none)
    (z_int : PySem.W.nsIn K mainGlobals "int" = some none)
    (z_bool : PySem.W.nsIn K mainGlobals "bool" = some none)
    (z_tuple : PySem.W.nsIn K mainGlobals "tuple" = some none)
    (z_isinstance : PySem.W.nsIn K mainGlobals "isinstance" = some none)
    (z_abs : PySem.W.nsIn K mainGlobals "abs" = some none)
    (z_max : PySem.W.nsIn K mainGlobals "max" = some none)
    (z_zip : PySem.W.nsIn K mainGlobals "zip" = some none)
    (z_enumerate : PySem.W.nsIn K mainGlobals "enumerate" = some none)
    (z_sum : PySem.W.nsIn K mainGlobals "sum" = some none)
    (z_repr : PySem.W.nsIn K mainGlobals "repr" = some none) : Tx K mg where
  C_Ground := C_Ground
  cl_Ground := ⟨pg_Ground, hd_Ground, po_Ground, sa_Ground⟩
  g_Ground := PySem.W.mg_of X G a_Ground
  n_Ground_p := n_Ground_p
  n_Ground_n := n_Ground_n
  f_is_number := f_is_number
  d_is_number := PySem.W.fnOf "is_number" "is_number" (defArgs s_is_number) (defBody s_is_number) (defScope s_is_number) .none kV1 dc1 pm1 an1 cd1 ct1
  F_is_number := fun_mk (st := s_is_number) l_is_number c_is_number k_is_number
  b_is_number := (fun_mk (st := s_is_number) l_is_number c_is_number k_is_number).binds (ps := ["value"]) fun _ _ _ _ _ _ us hl => match us, hl with | [_], _ => rfl
  g_is_number := PySem.W.mg_of X G a_is_number
  f_added := f_added
  d_added := PySem.W.fnOf "added" "added" (defArgs s_added) (defBody s_added) (defScope s_added) .none kV2 dc2 pm2 an2 cd2 ct2
  F_added := fun_mk (st := s_added) l_added c_added k_added
  b_added := (fun_mk (st := s_added) l_added c_added k_added).binds (ps := ["ground", "one", "other"]) fun _ _ _ _ _ _ us hl => match us, hl with | [_, _, _], _ => rfl
  g_added := PySem.W.mg_of X G a_added
  f_subtracted := f_subtracted
  d_subtracted := PySem.W.fnOf "subtracted" "subtracted" (defArgs s_subtracted) (defBody s_subtracted) (defScope s_subtracted) .none kV3 dc3 pm3 an3 cd3 ct3
  F_subtracted := fun_mk (st := s_subtracted) l_subtracted c_subtracted k_subtracted
  b_subtracted := (fun_mk (st := s_subtracted) l_subtracted c_subtracted k_subtracted).binds (ps := ["ground", "one", "other"]) fun _ _ _ _ _ _ us hl => match us, hl with | [_, _, _], _ => rfl
  g_subtracted := PySem.W.mg_of X G a_subtracted
  f_scaled := f_scaled
  d_scaled := PySem.W.fnOf "scaled" "scaled" (defArgs s_scaled) (defBody s_scaled) (defScope s_scaled) .none kV4 dc4 pm4 an4 cd4 ct4
  F_scaled := fun_mk (st := s_scaled) l_scaled c_scaled k_scaled
  b_scaled := (fun_mk (st := s_scaled) l_scaled c_scaled k_scaled).binds (ps := ["ground", "number", "row"]) fun _ _ _ _ _ _ us hl => match us, hl with | [_, _, _], _ => rfl
  g_scaled := PySem.W.mg_of X G a_scaled
  f_dot := f_dot
  d_dot := PySem.W.fnOf "dot" "dot" (defArgs s_dot) (defBody s_dot) (defScope s_dot) .none kV5 dc5 pm5 an5 cd5 ct5
  F_dot := fun_mk (st := s_dot) l_dot c_dot k_dot
  b_dot := (fun_mk (st := s_dot) l_dot c_dot k_dot).binds (ps := ["ground", "one", "other"]) fun _ _ _ _ _ _ us hl => match us, hl with | [_, _, _], _ => rfl
  g_dot := PySem.W.mg_of X G a_dot
  f_combined := f_combined
  d_combined := PySem.W.fnOf "combined" "combined" (defArgs s_combined) (defBody s_combined) (defScope s_combined) .none kV6 dc6 pm6 an6 cd6 ct6
  F_combined := fun_mk (st := s_combined) l_combined c_combined k_combined
  b_combined := (fun_mk (st := s_combined) l_combined c_combined k_combined).binds (ps := ["ground", "numbers", "rows"]) fun _ _ _ _ _ _ us hl => match us, hl with | [_, _, _], _ => rfl
  g_combined := PySem.W.mg_of X G a_combined
  f_pivot := f_pivot
  d_pivot := PySem.W.fnOf "pivot" "pivot" (defArgs s_pivot) (defBody s_pivot) (defScope s_pivot) .none kV7 dc7 pm7 an7 cd7 ct7
  F_pivot := fun_mk (st := s_pivot) l_pivot c_pivot k_pivot
  b_pivot := (fun_mk (st := s_pivot) l_pivot c_pivot k_pivot).binds (ps := ["row"]) fun _ _ _ _ _ _ us hl => match us, hl with | [_], _ => rfl
  g_pivot := PySem.W.mg_of X G a_pivot
  f_is_prime := f_is_prime
  d_is_prime := PySem.W.fnOf "is_prime" "is_prime" (defArgs s_is_prime) (defBody s_is_prime) (defScope s_is_prime) .none kV8 dc8 pm8 an8 cd8 ct8
  F_is_prime := fun_mk (st := s_is_prime) l_is_prime c_is_prime k_is_prime
  b_is_prime := (fun_mk (st := s_is_prime) l_is_prime c_is_prime k_is_prime).binds (ps := ["value"]) fun _ _ _ _ _ _ us hl => match us, hl with | [_], _ => rfl
  g_is_prime := PySem.W.mg_of X G a_is_prime
  f_Ground_init := f_Ground_init
  d_Ground_init := PySem.W.fnOf "__init__" "Ground.__init__" (defArgs s_Ground_init) (defBody s_Ground_init) (defScope s_Ground_init) .none kV9 dc9 pm9 an9 cd9 ct9
  F_Ground_init := fun_mk (st := s_Ground_init) l_Ground_init c_Ground_init k_Ground_init
  b_Ground_init := (fun_mk (st := s_Ground_init) l_Ground_init c_Ground_init k_Ground_init).binds (ps := ["self", "p", "n"]) fun _ _ _ _ _ _ us hl => match us, hl with | [_, _, _], _ => rfl
  M_Ground := ⟨mk_Ground, a_Ground_init, i_Ground_init, kc_Ground⟩
  f_Ground_p := f_Ground_p
  d_Ground_p := PySem.W.fnOf "p" "Ground.p" (defArgs s_Ground_p) (defBody s_Ground_p) (defScope s_Ground_p) .none kV10 dc10 pm10 an10 cd10 ct10
  F_Ground_p := fun_mk (st := s_Ground_p) l_Ground_p c_Ground_p k_Ground_p
  b_Ground_p := (fun_mk (st := s_Ground_p) l_Ground_p c_Ground_p k_Ground_p).binds (ps := ["self"]) fun _ _ _ _ _ _ us hl => match us, hl with | [_], _ => rfl
  m_Ground_p := ⟨a_Ground_p, i_Ground_p, k_Ground_p⟩
  f_Ground_n := f_Ground_n
  d_Ground_n := PySem.W.fnOf "n" "Ground.n" (defArgs s_Ground_n) (defBody s_Ground_n) (defScope s_Ground_n) .none kV11 dc11 pm11 an11 cd11 ct11
  F_Ground_n := fun_mk (st := s_Ground_n) l_Ground_n c_Ground_n k_Ground_n
  b_Ground_n := (fun_mk (st := s_Ground_n) l_Ground_n c_Ground_n k_Ground_n).binds (ps := ["self"]) fun _ _ _ _ _ _ us hl => match us, hl with | [_], _ => rfl
  m_Ground_n := ⟨a_Ground_n, i_Ground_n, k_Ground_n⟩
  f_Ground_zero := f_Ground_zero
  d_Ground_zero := PySem.W.fnOf "zero" "Ground.zero" (defArgs s_Ground_zero) (defBody s_Ground_zero) (defScope s_Ground_zero) .none kV12 dc12 pm12 an12 cd12 ct12
  F_Ground_zero := fun_mk (st := s_Ground_zero) l_Ground_zero c_Ground_zero k_Ground_zero
  b_Ground_zero := (fun_mk (st := s_Ground_zero) l_Ground_zero c_Ground_zero k_Ground_zero).binds (ps := ["self"]) fun _ _ _ _ _ _ us hl => match us, hl with | [_], _ => rfl
  m_Ground_zero := ⟨a_Ground_zero, i_Ground_zero, k_Ground_zero⟩
  f_l_source := f_l_source
  d_l_source := PySem.W.fnOf "_law_source" "_law_source" (defArgs s_l_source) (defBody s_l_source) (defScope s_l_source) .none kV13 dc13 pm13 an13 cd13 ct13
  F_l_source := fun_mk (st := s_l_source) l_l_source c_l_source k_l_source
  b_l_source := (fun_mk (st := s_l_source) l_l_source c_l_source k_l_source).binds (ps := ["_law_script"]) fun _ _ _ _ _ _ us hl => match us, hl with | [_], _ => rfl
  g_l_source := PySem.W.mg_of X G a_l_source
  f_l_pick := f_l_pick
  d_l_pick := PySem.W.fnOf "_law_pick" "_law_pick" (defArgs s_l_pick) (defBody s_l_pick) (defScope s_l_pick) .none kV14 dc14 pm14 an14 cd14 ct14
  F_l_pick := fun_mk (st := s_l_pick) l_l_pick c_l_pick k_l_pick
  b_l_pick := (fun_mk (st := s_l_pick) l_l_pick c_l_pick k_l_pick).binds (ps := ["_law_source_here", "_law_many"]) fun _ _ _ _ _ _ us hl => match us, hl with | [_, _], _ => rfl
  g_l_pick := PySem.W.mg_of X G a_l_pick
  f_l_of := f_l_of
  d_l_of := PySem.W.fnOf "_law_of" "_law_of" (defArgs s_l_of) (defBody s_l_of) (defScope s_l_of) .none kV15 dc15 pm15 an15 cd15 ct15
  F_l_of := fun_mk (st := s_l_of) l_l_of c_l_of k_l_of
  b_l_of := (fun_mk (st := s_l_of) l_l_of c_l_of k_l_of).binds (ps := ["_law_source_here", "_law_some"]) fun _ _ _ _ _ _ us hl => match us, hl with | [_, _], _ => rfl
  g_l_of := PySem.W.mg_of X G a_l_of
  f_l_wide := f_l_wide
  d_l_wide := PySem.W.fnOf "_law_wide" "_law_wide" (defArgs s_l_wide) (defBody s_l_wide) (defScope s_l_wide) .none kV16 dc16 pm16 an16 cd16 ct16
  F_l_wide := fun_mk (st := s_l_wide) l_l_wide c_l_wide k_l_wide
  b_l_wide := (fun_mk (st := s_l_wide) l_l_wide c_l_wide k_l_wide).binds (ps := ["_law_source_here", "_law_least", "_law_most"]) fun _ _ _ _ _ _ us hl => match us, hl with | [_, _, _], _ => rfl
  g_l_wide := PySem.W.mg_of X G a_l_wide
  f_l_row := f_l_row
  d_l_row := PySem.W.fnOf "_law_row" "_law_row" (defArgs s_l_row) (defBody s_l_row) (defScope s_l_row) .none kV17 dc17 pm17 an17 cd17 ct17
  F_l_row := fun_mk (st := s_l_row) l_l_row c_l_row k_l_row
  b_l_row := (fun_mk (st := s_l_row) l_l_row c_l_row k_l_row).binds (ps := ["_law_source_here", "_law_ground"]) fun _ _ _ _ _ _ us hl => match us, hl with | [_, _], _ => rfl
  g_l_row := PySem.W.mg_of X G a_l_row
  f_l_plus := f_l_plus
  d_l_plus := PySem.W.fnOf "_law_plus" "_law_plus" (defArgs s_l_plus) (defBody s_l_plus) (defScope s_l_plus) .none kV18 dc18 pm18 an18 cd18 ct18
  F_l_plus := fun_mk (st := s_l_plus) l_l_plus c_l_plus k_l_plus
  b_l_plus := (fun_mk (st := s_l_plus) l_l_plus c_l_plus k_l_plus).binds (ps := ["_law_p", "_law_one", "_law_times", "_law_other"]) fun _ _ _ _ _ _ us hl => match us, hl with | [_, _, _, _], _ => rfl
  g_l_plus := PySem.W.mg_of X G a_l_plus
  f_l_pivot := f_l_pivot
  d_l_pivot := PySem.W.fnOf "_law_pivot" "_law_pivot" (defArgs s_l_pivot) (defBody s_l_pivot) (defScope s_l_pivot) .none kV19 dc19 pm19 an19 cd19 ct19
  F_l_pivot := fun_mk (st := s_l_pivot) l_l_pivot c_l_pivot k_l_pivot
  b_l_pivot := (fun_mk (st := s_l_pivot) l_l_pivot c_l_pivot k_l_pivot).binds (ps := ["_law_row_here"]) fun _ _ _ _ _ _ us hl => match us, hl with | [_], _ => rfl
  g_l_pivot := PySem.W.mg_of X G a_l_pivot
  f_l_rows := f_l_rows
  d_l_rows := PySem.W.fnOf "_law_rows" "_law_rows" (defArgs s_l_rows) (defBody s_l_rows) (defScope s_l_rows) .none kV20 dc20 pm20 an20 cd20 ct20
  F_l_rows := fun_mk (st := s_l_rows) l_l_rows c_l_rows k_l_rows
  b_l_rows := (fun_mk (st := s_l_rows) l_l_rows c_l_rows k_l_rows).binds (ps := ["_law_source_here", "_law_ground", "_law_many"]) fun _ _ _ _ _ _ us hl => match us, hl with | [_, _, _], _ => rfl
  g_l_rows := PySem.W.mg_of X G a_l_rows
  f_l_given := f_l_given
  d_l_given := PySem.W.fnOf "_law_given" "_law_given" (defArgs s_l_given) (defBody s_l_given) (defScope s_l_given) .none kV21 dc21 pm21 an21 cd21 ct21
  F_l_given := fun_mk (st := s_l_given) l_l_given c_l_given k_l_given
  b_l_given := (fun_mk (st := s_l_given) l_l_given c_l_given k_l_given).binds (ps := ["_law_source_here", "_law_rows_here"]) fun _ _ _ _ _ _ us hl => match us, hl with | [_, _], _ => rfl
  g_l_given := PySem.W.mg_of X G a_l_given
  f_law := f_law
  d_law := PySem.W.fnOf "law" "law" (defArgs s_law) (defBody s_law) (defScope s_law) .none kV22 dc22 pm22 an22 cd22 ct22
  F_law := fun_mk (st := s_law) l_law c_law k_law
  b_law := (fun_mk (st := s_law) l_law c_law k_law).binds (ps := ["_law_script"]) fun _ _ _ _ _ _ us hl => match us, hl with | [_], _ => rfl
  g_law := PySem.W.mg_of X G a_law
  z_len := PySem.W.mg_none_of X G z_len
  z_range := PySem.W.mg_none_of X G z_range
  z_int := PySem.W.mg_none_of X G z_int
  z_bool := PySem.W.mg_none_of X G z_bool
  z_tuple := PySem.W.mg_none_of X G z_tuple
  z_isinstance := PySem.W.mg_none_of X G z_isinstance
  z_abs := PySem.W.mg_none_of X G z_abs
  z_max := PySem.W.mg_none_of X G z_max
  z_zip := PySem.W.mg_none_of X G z_zip
  z_enumerate := PySem.W.mg_none_of X G z_enumerate
  z_sum := PySem.W.mg_none_of X G z_sum
  z_repr := PySem.W.mg_none_of X G z_repr

section
variable {P : Program} {w : World} {K : PySem.W.Frag} {mg : Str → Option Value} {base : Heap}
/-- a drawn number below many -/
def spPick : Sp := fun vs H Q _ => ∃ (G : Hp) (d c : Addr) (many : Int), vs = [.ref d, .int many] ∧ Kn G H d c ∧ many < 1073741824 ∧
  ∀ (r : Int) (H' : Hp), Kn G H' d c → 0 ≤ r → (r < many ∨ (r = 0 ∧ many ≤ 1)) → Q (.int r) H'
theorem ok_pick (T : Tx K mg) : FnOk P w K mg base CX0 1 T.f_l_pick T.d_l_pick ["_law_source_here", "_law_many"] spPick := by
  refine T.F_l_pick.ok sc_l_pick (fun vs H Q E h => ?_) (fun cdv A outer s H vs Q E hr h => ?_)
  · obtain ⟨G, d, c, many, rfl, _⟩ := h
    rfl
  · obtain ⟨G, d, c, many, rfl, k, hm, q⟩ := h
    have hu := hu_of hr
    refine ⟨_, (pss_cons (ps_while PassesOwn.never (PW.pt (pw_and (pt_cmpR op_gt (pv 1) pe_int (nomark _)) (pw_and (pt_cmpR op_lt (pe_dget hu (pv 0) pe_str (fun _ _ => rfl)) pe_int (nomark _)) (pw_and1 (pt_cmpR op_gt (pe_callB call_len_seq (by rfl) T.z_len PySem.boot_len (pa_cons (pe_dget hu (pv 0) pe_str (fun _ _ => rfl)) pa_nil)) pe_int (nomark _)))))) (pss_one (ps_dput hu (pv 0) pe_str (pe_bm0 PySem.F.plainAttrs_list PySem.F.slot_list_pop PySem.F.type_list_pop mt_pop (pe_dget hu (pv 0) pe_str (fun _ _ => rfl))) rfl)))
    (pss_cons (ps_set (i := 2) sc_l_pick.nd rfl (Or.inl rfl) (pe_dget hu (pv 0) pe_str (fun _ _ => rfl)))
    (pss_cons (ps_if (PW.pt (pw_or (pt_cmpR op_lt (pv 1) pe_int (nomark _)) (pw_or1 (pt_cmpR op_gt (pv 2) pe_int (nomark _))))) (pss_cons (ps_dput hu (pv 0) pe_str (pe_op op_fdiv (pv 2) (pe_callB (call_max2 rfl) (by rfl) T.z_max (by decide +kernel) (pa_cons pe_int (pa_cons (pv 1) pa_nil)))) rfl)
    (pss_one (ps_ret (pe_op op_mod (pe_callTy call_int1 (by rfl) T.z_int (by decide +kernel) (pa_cons (pv 2) pa_nil)) (pe_callB (call_max2 rfl) (by rfl) T.z_max (by decide +kernel) (pa_cons pe_int (pa_cons (pv 1) pa_nil))))))) pss_nil)
    (pss_cons (ps_dput hu (pv 0) pe_str (pe_op op_add (pe_dget hu (pv 0) pe_str (fun _ _ => rfl)) pe_int) rfl)
    (pss_cons (ps_set (i := 3) sc_l_pick.nd rfl (Or.inl rfl) (pe_op op_mod (pe_callTy call_int1 (by rfl) T.z_int (by decide +kernel) (pa_cons (pe_op op_add (pe_dget hu (pv 0) pe_str (fun _ _ => rfl)) (pe_op op_mul (pe_dget hu (pv 0) pe_str (fun _ _ => rfl)) pe_int)) pa_nil)) pe_int))
    (pss_cons (ps_set (i := 3) sc_l_pick.nd rfl (Or.inl rfl) (pe_op op_mod (pe_callTy call_int1 (by rfl) T.z_int (by decide +kernel) (pa_cons (pe_op op_add (pe_op op_mul (pv 3) (pv 3)) (pe_op op_mul (pe_dget hu (pv 0) pe_str (fun _ _ => rfl)) pe_int)) pa_nil)) pe_int))
    (pss_cons (ps_dput hu (pv 0) pe_str (pv 3) rfl)
    (pss_one (ps_ret (pe_op op_mod (pe_callTy call_int1 (by rfl) T.z_int (by decide +kernel) (pa_cons (pe_op op_fdiv (pv 3) pe_int) pa_nil)) (pv 1))))))))))), ?_⟩
    obtain ⟨xs, l, m, t, e1, e2, e3, e4, e5, e6, e7⟩ := id k.src
    refine ⟨fun n σ H' => ∃ (xs : List Int) (l m t : Int), σ = [some (.ref d), some (.int many), none, none] ∧ n = xs.length ∧ Kn G H' d c ∧ H' d = some (.dK (srcK c l m t)) ∧ H' c = some (.lst (xs.map V.int)) ∧ xs.length ≤ 63 ∧ (∀ x ∈ xs, 0 ≤ x) ∧ 0 ≤ l ∧ 0 ≤ m ∧ m < 2147483647,
      ⟨xs.length, xs, l, m, t, rfl, rfl, k, e1, e2, e3, e4, e5, e6, e7⟩, fun n σ H' hW => ?_⟩
    obtain ⟨xs, l, m, t, rfl, rfl, k, e1, e2, e3, e4, e5, e6, e7⟩ := hW
    have ncd : c ≠ d := k.src.ne
    have vd : ∀ (a b : Option V), Val (tVar 0) [some (.ref d), some (.int many), a, b] H' (.ref d) := fun a b => val_var rfl
    -- while many > 1 and left < 2 and len(cells) > 0
    refine ans_and2 (b1 := decide (1 < many)) (b2 := decide (l < 2) && decide (0 < (xs.length : Int))) (ans_cmp (val_var rfl) val_c fun Q q => ⟨_, _, rfl, rfl, q⟩)
      (ans_and2 (ans_cmp (x := .int l) (val_dget (vd _ _) val_c (get_left e1)) val_c fun Q q => ⟨_, _, rfl, rfl, q⟩)
        (ans_cmp (x := .int (xs.length : Int)) (val_cb1 (val_dget (vd _ _) val_c (get_cells e1)) fun Q q => ⟨c, _, rfl, .inl (SqL.of e2), by rw [List.length_map]; exact q⟩) val_c fun Q q => ⟨_, _, rfl, rfl, q⟩)) _ ?_
    refine ite2 (fun hb => ?_) (fun hb => ?_)
    · -- a cell is taken
      have hlen : 0 < xs.length := by
        simp only [Bool.and_eq_true, decide_eq_true_eq] at hb
        omega
      obtain ⟨ys, y, rfl⟩ : ∃ ys y, xs = ys ++ [y] := ⟨xs.dropLast, xs.getLast (List.ne_nil_of_length_pos hlen), (List.dropLast_concat_getLast _).symm⟩
      have hy : 0 ≤ y := e4 y (by simp)
      refine ⟨fun σ H2 => ∃ (xs : List Int) (l m t : Int), σ = [some (.ref d), some (.int many), none, none] ∧ xs.length < (ys ++ [y]).length ∧ Kn G H2 d c ∧ H2 d = some (.dK (srcK c l m t)) ∧ H2 c = some (.lst (xs.map V.int)) ∧ xs.length ≤ 63 ∧ (∀ x ∈ xs, 0 ≤ x) ∧ 0 ≤ l ∧ 0 ≤ m ∧ m < 2147483647, fun σ2 H2 hN => ?_, ?_⟩
      · obtain ⟨zs, l', m', t', rfl, h1, h2⟩ := hN
        exact ⟨zs.length, h1, zs, l', m', t', rfl, rfl, h2⟩
      · refine ⟨.ref d, rfl, d, .ref c, rfl, get_cells e1, .inl ⟨rfl, _, SqL.of e2⟩, c, (ys ++ [y]).map V.int, .int y, rfl, rfl, e2, ?_, ?_⟩
        · rw [List.length_map, List.length_append, List.map_append]
          simp
        · have e2' : ((ys ++ [y]).map V.int).dropLast = ys.map V.int := by simp
          rw [e2']
          have f1 : (upd H' c (.lst (ys.map V.int))) d = some (.dK (srcK c l m t)) := by rw [upd_ne ncd.symm]; exact e1
          refine ⟨.ref d, rfl, d, _, rfl, dput_left f1, ?_⟩
          have g1 : (upd (upd H' c (.lst (ys.map V.int))) d (.dK (srcK c y m t))) d = some (.dK (srcK c y m t)) := upd_same
          have g2 : (upd (upd H' c (.lst (ys.map V.int))) d (.dK (srcK c y m t))) c = some (.lst (ys.map V.int)) := by rw [upd_ne ncd, upd_same]
          have hl : ys.length ≤ 63 := by simp at e3; omega
          have hn : ∀ x ∈ ys, 0 ≤ x := fun x hx => e4 x (by simp [hx])
          refine ⟨ys, y, m, t, rfl, by simp, ⟨fun b o e => ?_, k.gd, k.gc, ⟨ys, y, m, t, g1, g2, hl, hn, hy, e6, e7⟩⟩, g1, g2, hl, hn, hy, e6, e7⟩
          have nb1 : b ≠ d := fun z => by rw [z, k.gd] at e; cases e
          have nb2 : b ≠ c := fun z => by rw [z, k.gc] at e; cases e
          rw [upd_ne nb1, upd_ne nb2]
          exact k.le _ _ e
    · -- behind the loop
      have setk : ∀ (l' m' t' : Int), 0 ≤ l' → 0 ≤ m' → m' < 2147483647 → ∀ H2, (∀ b, b ≠ d → H2 b = H' b) → H2 d = some (.dK (srcK c l' m' t')) → Kn G H2 d c := fun l' m' t' h1 h2 h3 H2 hH hd =>
        ⟨fun b o e => by rw [hH b (fun z => by rw [z, k.gd] at e; cases e)]; exact k.le _ _ e, k.gd, k.gc, ⟨xs, l', m', t', hd, by rw [hH c ncd]; exact e2, e3, e4, h1, h2, h3⟩⟩
      have hmx : 0 < (if many > 1 then many else 1) := by split <;> omega
      have hmx2 : (if many > 1 then many else 1) < 1073741824 := by split <;> omega
      -- left = source["left"]; if many < 2 or left > 1
      refine ⟨.ref d, rfl, d, _, rfl, get_left e1, ?_⟩
      refine ans_or2 (b1 := decide (many < 2)) (b2 := decide (1 < l)) (ans_cmp (val_var rfl) val_c fun Q q => ⟨_, _, rfl, rfl, q⟩) (ans_cmp (val_var rfl) val_c fun Q q => ⟨_, _, rfl, rfl, q⟩) _ ?_
      refine ite2 (fun hb => ?_) (fun hb => ?_)
      · -- a digit of what is left
        refine ⟨.int l, rfl, .int many, rfl, 1, many, rfl, l, _, rfl, rfl, ⟨hmx, hmx2⟩, .ref d, rfl, d, _, rfl, dput_left e1, ?_⟩
        refine ⟨.int l, rfl, .inl ⟨_, rfl, .int many, rfl, 1, many, rfl, l, _, rfl, rfl, hmx, ?_⟩⟩
        refine q _ _ (setk _ _ _ (Int.ediv_nonneg e5 (Int.le_of_lt hmx)) e6 e7 _ (fun b hb => upd_ne hb) upd_same) (Int.emod_nonneg _ (Int.ne_of_gt hmx)) ?_
        have hlt := Int.emod_lt_of_pos l hmx
        by_cases h : many > 1
        · rw [if_pos h] at hlt ⊢
          exact .inl hlt
        · rw [if_neg h] at hlt ⊢
          exact .inr ⟨by omega, by omega⟩
      · -- mixed anew
        have hb1 : ¬ many < 2 := fun h => hb (by simp [h])
        refine ⟨.ref d, rfl, d, _, rfl, get_turn e1, t, 1, rfl, rfl, .ref d, rfl, d, _, rfl, dput_turn e1, ?_⟩
        have f1 : (upd H' d (.dK (srcK c l m (t + 1)))) d = some (.dK (srcK c l m (t + 1))) := upd_same
        refine ⟨.ref d, rfl, d, _, rfl, get_mixed f1, .ref d, rfl, d, _, rfl, get_turn f1, t + 1, 104729, rfl, rfl, .inr ⟨by decide, by decide⟩, m, _, rfl, rfl, .inl ⟨_, rfl, _, _, rfl, rfl, (by show (0 : Int) < 998244353; decide), ?_⟩⟩
        have b0 : 0 ≤ (m + (t + 1) * 104729) % 998244353 := Int.emod_nonneg _ (by decide)
        have b1 : (m + (t + 1) * 104729) % 998244353 < 998244353 := Int.emod_lt_of_pos _ (by decide)
        refine ⟨_, rfl, _, rfl, (m + (t + 1) * 104729) % 998244353, (m + (t + 1) * 104729) % 998244353, rfl, rfl, .inl ⟨by omega, by omega⟩, .ref d, rfl, d, _, rfl, get_turn f1, t + 1, 17, rfl, rfl, .inr ⟨by decide, by decide⟩, _, _, rfl, rfl, .inl ⟨_, rfl, _, _, rfl, rfl, (by show (0 : Int) < 2147483647; decide), ?_⟩⟩
        have b2 : 0 ≤ ((m + (t + 1) * 104729) % 998244353 * ((m + (t + 1) * 104729) % 998244353) + (t + 1) * 17) % 2147483647 := Int.emod_nonneg _ (by decide)
        have b3 : ((m + (t + 1) * 104729) % 998244353 * ((m + (t + 1) * 104729) % 998244353) + (t + 1) * 17) % 2147483647 < 2147483647 := Int.emod_lt_of_pos _ (by decide)
        refine ⟨_, rfl, .ref d, rfl, d, _, rfl, dput_mixed f1, ?_⟩
        refine ⟨_, rfl, _, 16, rfl, rfl, ⟨by decide, by decide⟩, .inl ⟨_, rfl, .int many, rfl, _, _, rfl, rfl, (by show (0 : Int) < many; omega), ?_⟩⟩
        exact q _ _ (setk l _ (t + 1) e5 b2 b3 _ (fun b hb => by rw [upd_ne hb, upd_ne hb]) upd_same) (Int.emod_nonneg _ (by omega)) (.inl (Int.emod_lt_of_pos _ (by omega)))
end

section
variable {P : Program} {w : World} {K : PySem.W.Frag} {mg : Str → Option Value} {base : Heap}
def absI (z : Int) : Int := if z < 0 then -z else z
def spSource (K : PySem.W.Frag) : Sp := fun vs H Q _ => ∃ (a : Addr) (ns : List Int), vs = [.ref a] ∧ SqL K H a (ns.map V.int) ∧ ns.length ≤ 63 ∧ ∀ (d c : Addr) (H' : Hp), Kn H H' d c → Q (.ref d) H'
theorem ok_source (T : Tx K mg) : FnOk P w K mg base CX0 1 T.f_l_source T.d_l_source ["_law_script"] (spSource K) := by
  refine T.F_l_source.ok sc_l_source (fun vs H Q E h => ?_) (fun cdv A outer s H vs Q E hr h => ?_)
  · obtain ⟨a, ns, rfl, _⟩ := h
    rfl
  · obtain ⟨a, ns, rfl, hS, hlen, q⟩ := h
    have hu := hu_of hr
    refine ⟨_, (pss_cons (ps_set (i := 1) sc_l_source.nd rfl (Or.inl rfl) pe_int)
    (pss_cons (ps_for PassesOwn.never rfl (pi_list (pv 0)) (pg_name (i := 2) sc_l_source.nd rfl (Or.inl rfl))
    (pss_one (ps_set (i := 1) sc_l_source.nd rfl (Or.inl rfl) (pe_op op_mod (pe_callTy call_int1 (by rfl) T.z_int (by decide +kernel) (pa_cons (pe_op op_add (pe_op op_add (pe_op op_mul (pv 1) pe_int) (pe_op op_mul (pv 2) pe_int)) pe_int) pa_nil)) pe_int))))
    (pss_one (ps_ret (pe_disp (pps_cons pe_str (pe_revL (pe_lc (own := [("_law_cell", 2)]) (g := gName 2) rfl sc_l_source.nd (pi_list (pv 0)) (blkOk_by (own := [("_law_cell", 2)]) (N := ["_law_script", "_law_mixed", "_law_cell"]) (sc := defScope s_l_source) (by decide +kernel)) (fun _ _ _ _ _ => (pg_name (i := 2) sc_l_source.nd rfl (Or.inl rfl))) (fun _ _ _ _ _ => pts_nil) (fun _ _ _ _ _ => (pe_callB call_abs (by rfl) T.z_abs (by decide +kernel) (pa_cons (pv 2) pa_nil))))) (pps_cons pe_str pe_int (pps_cons pe_str (pv 1) (pps_cons pe_str pe_int pps_nil)))) (by rfl) (by rfl) (fun z => by cases z) (by decide)))))), ?_⟩
    refine ⟨.ref a, rfl, a, rfl, ⟨_, hS⟩, for_list (K := K) (a := a) (xs := ns.map V.int) (fun i σ H' => ∃ (m : Int) (v : Option V), σ = [some (.ref a), some (.int m), v] ∧ H' = H ∧ 0 ≤ m ∧ m < 2147483647)
      ⟨11, none, rfl, rfl, by decide, by decide⟩ (fun i σ H' _ ⟨_, _, _, e, _⟩ => e ▸ hS) ?_ ?_⟩
    · rintro i y σ H' hi ⟨m, v, rfl, rfl, m0, m1⟩
      obtain ⟨z, rfl, hz⟩ := ints_at hi
      refine ⟨.int m, rfl, m, 69069, rfl, rfl, .inl ⟨by omega, by omega⟩, .int z, rfl, z, 31, rfl, rfl, .inr ⟨by decide, by decide⟩, _, _, rfl, rfl, _, _, rfl, rfl, .inl ⟨_, rfl, _, _, rfl, rfl, (by show (0 : Int) < 2147483629; decide), ?_⟩⟩
      exact ⟨_, _, rfl, rfl, Int.emod_nonneg _ (by decide), Int.lt_trans (Int.emod_lt_of_pos _ (by decide)) (by decide : (2147483629 : Int) < 2147483647)⟩
    · rintro σ H' ⟨m, v, rfl, rfl, m0, m1⟩
      intro d hd
      have sd : Same H' (upd H' d (.dK [])) := same_new hd
      refine ⟨.ref a, rfl, a, rfl, ⟨_, sd.seq hS⟩, fun D hD => ?_⟩
      have hDd : d ≠ D := fun e => by rw [← e, upd_same] at hD; cases hD
      have hD0 : H' D = none := sd.free hD
      have sD : Same (upd H' d (.dK [])) (upd (upd H' d (.dK [])) D (.lst [])) := same_new hD
      refine lc_list (K := K) (a := a) (xs := ns.map V.int) (fun i H2 => H2 = upd (upd H' d (.dK [])) D (.lst (((ns.take i).map absI).map V.int))) rfl (fun i H2 _ e => ?_) ?_ ?_
      · subst e
        exact (sd.trans (same_new hD)).seq hS
      · rintro i y H2 hi rfl
        obtain ⟨z, rfl, hz⟩ := ints_at hi
        refine ⟨rfl, tyes ?_⟩
        refine ⟨.int z, rfl, z, rfl, _, upd_same, ?_, ?_⟩
        · rw [List.length_map, List.length_map, List.length_take]
          exact Nat.lt_of_le_of_lt (Nat.min_le_right _ _) (small1000 (by omega))
        · show upd (upd (upd H' d (.dK [])) D _) D _ = _
          rw [upd_upd, List.take_add_one, hz, List.map_append, List.map_append]
          rfl
      · rintro H2 rfl
        rw [List.length_map, List.take_length]
        refine ⟨D, _, rfl, .inl (.inl upd_same), fun c hc => ?_⟩
        have hcd : c ≠ d := fun e => by rw [e, upd_ne hDd, upd_same] at hc; cases hc
        have hcD : c ≠ D := fun e => by rw [e, upd_same] at hc; cases hc
        have hc0 : H' c = none := by rw [upd_ne hcD, upd_ne hcd] at hc; exact hc
        refine ⟨_, rfl, ?_⟩
        refine ⟨by rw [upd_ne hcd.symm, upd_ne hDd]; exact upd_same, srcK c 1 m 0, rfl, by show 4 ≤ 15; decide, ?_⟩
        rw [merge_src]
        refine q d c _ ⟨fun b o e => ?_, hd, hc0, ⟨((ns.map absI).reverse), 1, m, 0, upd_same, ?_, ?_, ?_, by decide, m0, m1⟩⟩
        · rw [upd_ne (ne_of_none e hd), upd_ne (ne_of_none e hc0), upd_ne (ne_of_none e hD0), upd_ne (ne_of_none e hd)]
          exact e
        · rw [upd_ne hcd, upd_same, List.map_reverse]
        · rw [List.length_reverse, List.length_map]
          exact hlen
        · intro x hx
          rw [List.mem_reverse, List.mem_map] at hx
          obtain ⟨z, _, rfl⟩ := hx
          unfold absI
          split <;> omega
end

section
variable {P : Program} {w : World} {K : PySem.W.Frag} {mg : Str → Option Value} {base : Heap}
/-- a drawn member of a list -/
def spOf (K : PySem.W.Frag) : Sp := fun vs H Q _ => ∃ (G : Hp) (d c a : Addr) (xs : List V), vs = [.ref d, .ref a] ∧ Kn G H d c ∧ SqL K G a xs ∧ 0 < xs.length ∧ xs.length ≤ 100000 ∧
  ∀ (x : V) (H' : Hp), Kn G H' d c → x ∈ xs → Q x H'
theorem ok_of (T : Tx K mg) : FnOk P w K mg base CX0 2 T.f_l_of T.d_l_of ["_law_source_here", "_law_some"] (spOf K) := by
  have G_l_pick := ok_pick (P := P) (w := w) (base := base) T
  refine T.F_l_of.ok sc_l_of (fun vs H Q E h => ?_) (fun cdv A outer s H vs Q E hr h => ?_)
  · obtain ⟨G, d, c, a, xs, rfl, _⟩ := h
    rfl
  · obtain ⟨G, d, c, a, xs, rfl, k, hS, h0, h1, q⟩ := h
    refine ⟨_, (pss_one (ps_ret (pe_ix ix_list (pv 1) (pe_call G_l_pick (hr.mono (by decide)) (by rfl) T.g_l_pick T.F_l_pick.kp T.b_l_pick .nil pass0 (pa_cons (pv 0) (pa_cons (pe_callB call_len_seq (by rfl) T.z_len PySem.boot_len (pa_cons (pv 1) pa_nil)) pa_nil))) (fun _ _ => rfl)))), ?_⟩
    refine ⟨.ref a, rfl, .ref d, rfl, .ref a, rfl, a, xs, rfl, .inl (k.le.seq hS), G, d, c, xs.length, rfl, k, by omega, fun r H' k' r0 r1 => ?_⟩
    obtain ⟨j, rfl⟩ : ∃ j : Nat, r = j := ⟨r.toNat, by omega⟩
    have hj : j < xs.length := by omega
    refine ⟨a, xs, (j : Int), xs[j], rfl, rfl, k'.le.seq hS, atI_nat (List.getElem?_eq_getElem hj), ?_⟩
    exact q _ _ k' (List.getElem_mem hj)
end

section
variable {P : Program} {w : World} {K : PySem.W.Frag} {mg : Str → Option Value} {base : Heap}
theorem pn_ : ¬ (("_p" : Str) = "_n") := by decide +kernel
/-- the attributes of a Ground -/
def gf (p n : Int) : List (Str × V) := putF "_n" (.int n) (putF "_p" (.int p) [])
theorem gf_p (p n : Int) : (gf p n).lookup ("_p" : Str) = some (.int p) := by
  unfold gf
  rw [lookup_putF, if_neg pn_, lookup_putF, if_pos rfl]
theorem gf_n (p n : Int) : (gf p n).lookup ("_n" : Str) = some (.int n) := by
  unfold gf
  rw [lookup_putF, if_pos rfl]
theorem gf_no (p n : Int) {m : Str} (h1 : ¬ m = "_n") (h2 : ¬ m = "_p") : (gf p n).lookup m = none := by
  unfold gf
  rw [lookup_putF, if_neg h1, lookup_putF, if_neg h2]
  all_goals rfl
theorem no_p (p n : Int) : (gf p n).lookup ("p" : Str) = none := gf_no p n (by decide +kernel) (by decide +kernel)
theorem no_n (p n : Int) : (gf p n).lookup ("n" : Str) = none := gf_no p n (by decide +kernel) (by decide +kernel)
/-- a Ground of p and n stands at g -/
def Gd (C : Addr) (H : Hp) (g : Addr) (p n : Int) : Prop := ∃ dx, H g = some (.ins C dx (gf p n))
theorem Gd.mono {C : Addr} {H H' : Hp} {g : Addr} {p n : Int} (h : Gd C H g p n) (e : Same H H') : Gd C H' g p n := let ⟨dx, q⟩ := h; ⟨dx, e _ _ q⟩
/-- a number's own sentence -/
def Prm (p : Int) : Prop := 2 ≤ p ∧ p < 1073741824 ∧ ∀ d : Int, 2 ≤ d → d * d ≤ p → p % d ≠ 0
def spIsNum : Sp := fun vs H Q _ => ∃ n : Int, vs = [.int n] ∧ Q (.bl (decide (0 ≤ n))) H
theorem ok_is_number (T : Tx K mg) : FnOk P w K mg base CX0 1 T.f_is_number T.d_is_number ["value"] spIsNum := by
  refine T.F_is_number.ok sc_is_number (fun vs H Q E h => ?_) (fun cdv A outer s H vs Q E hr h => ?_)
  · obtain ⟨n, rfl, _⟩ := h
    rfl
  · obtain ⟨n, rfl, q⟩ := h
    refine ⟨_, (pss_one (ps_ret (pe_and (pe_callB call_isi (by rfl) T.z_isinstance (by decide +kernel) (pa_cons (pv 0) (pa_cons (pe_bltn (v := .ty "int") (by rfl) T.z_int (by decide +kernel) rfl) pa_nil))) (pe_and (pe_not (pe_callB call_isi (by rfl) T.z_isinstance (by decide +kernel) (pa_cons (pv 0) (pa_cons (pe_bltn (v := .ty "bool") (by rfl) T.z_bool (by decide +kernel) rfl) pa_nil)))) (pe_one (pe_cmpR op_ge (pv 0) pe_int (nomark _))))))), ?_⟩
    refine ⟨.int n, rfl, .int n, .ty "int", _, _, true, rfl, .ty _, .base (.int n), kit_ty (by decide +kernel), true, rfl, iteT ?_⟩
    refine ⟨.int n, rfl, .int n, .ty "bool", _, _, false, rfl, .ty _, .base (.int n), kit_ty (by decide +kernel), false, rfl, true, rfl, iteT ?_⟩
    exact ⟨.int n, rfl, _, _, rfl, rfl, q⟩
def spIsPrime : Sp := fun vs H Q _ => ∃ p : Int, vs = [.int p] ∧ Prm p ∧ Q (.bl true) H
theorem ok_is_prime (T : Tx K mg) : FnOk P w K mg base CX0 2 T.f_is_prime T.d_is_prime ["value"] spIsPrime := by
  have G_is_number := ok_is_number (P := P) (w := w) (base := base) T
  refine T.F_is_prime.ok sc_is_prime (fun vs H Q E h => ?_) (fun cdv A outer s H vs Q E hr h => ?_)
  · obtain ⟨p, rfl, _⟩ := h
    rfl
  · obtain ⟨p, rfl, ⟨p2, p3, hp⟩, q⟩ := h
    refine ⟨_, (pss_cons (ps_if (PW.pt (pw_or (pt_not (pt_val (pe_call G_is_number (hr.mono (by decide)) (by rfl) T.g_is_number T.F_is_number.kp T.b_is_number .nil pass0 (pa_cons (pv 0) pa_nil)))) (pw_or1 (pt_cmpR op_lt (pv 0) pe_int (nomark _))))) (pss_one (ps_ret pe_bl)) pss_nil)
    (pss_cons (ps_set (i := 1) sc_is_prime.nd rfl (Or.inl rfl) pe_int)
    (pss_cons (ps_while PassesOwn.never (pt_cmpR op_le (pe_op op_mul (pv 1) (pv 1)) (pv 0) (nomark _)) (pss_cons (ps_if (pt_cmpR op_eq (pe_op op_mod (pv 0) (pv 1)) pe_int (nomark _)) (pss_one (ps_ret pe_bl)) pss_nil)
    (pss_one (ps_aug (i := 1) sc_is_prime.nd rfl (Or.inl rfl) pe_int ip_add))))
    (pss_one (ps_ret pe_bl))))), ?_⟩
    refine ⟨.int p, rfl, p, rfl, true, by rw [decide_eq_true (by omega)], iteF ?_⟩
    refine ⟨.int p, rfl, p, 2, rfl, rfl, _, rfl, ?_⟩
    rw [decide_eq_false (by omega : ¬ p < 2)]
    refine iteF ?_
    refine ⟨fun m σ H' => ∃ d : Int, σ = [some (.int p), some (.int d)] ∧ m = (p + 1 - d).toNat ∧ H' = H ∧ 2 ≤ d ∧ d ≤ p, ⟨_, 2, rfl, rfl, rfl, by decide, p2⟩, fun m σ H' hW => ?_⟩
    obtain ⟨d, rfl, rfl, rfl, d2, d3⟩ := hW
    refine ⟨.int d, rfl, .int d, rfl, d, d, rfl, rfl, .inl ⟨by omega, by omega⟩, .int p, rfl, _, _, rfl, rfl, _, rfl, ?_⟩
    refine ite2 (fun hb => ?_) (fun hb => ?_)
    · have hb' : d * d ≤ p := of_decide_eq_true hb
      have hlt : d < p := by
        have h2 : 2 * d ≤ d * d := Int.mul_le_mul_of_nonneg_right d2 (by omega)
        omega
      refine ⟨fun σ H2 => ∃ e : Int, σ = [some (.int p), some (.int e)] ∧ (p + 1 - e).toNat < (p + 1 - d).toNat ∧ H2 = H' ∧ 2 ≤ e ∧ e ≤ p, fun σ2 H2 hN => ?_, ?_⟩
      · obtain ⟨e, rfl, h1, rfl, h2, h3⟩ := hN
        exact ⟨_, h1, e, rfl, rfl, rfl, h2, h3⟩
      · refine ⟨.int p, rfl, .int d, rfl, p, d, rfl, rfl, (by show (0 : Int) < d; omega), rfl, _, rfl, ?_⟩
        have hne : ¬ (V.int (p % d) = V.int 0) := fun z => hp d d2 hb' (V.int.inj z)
        show (if decide (V.int (p % d) = V.int 0) = true then _ else _)
        rw [decide_eq_false hne]
        refine iteF ?_
        exact ⟨_, rfl, d, 1, rfl, rfl, d + 1, rfl, by omega, rfl, by omega, by omega⟩
    · exact q
/-- Ground.__init__ of a prime and a number -/
def spInit (C : Addr) : Sp := fun vs H Q _ => ∃ (x dx : Addr) (p n : Int), vs = [.ref x, .int p, .int n] ∧ H x = some (.ins C dx []) ∧ Prm p ∧ 0 ≤ n ∧ ∀ H' : Hp, H' x = some (.ins C dx (gf p n)) → (∀ b, b ≠ x → H' b = H b) → Q .non H'
theorem ok_init (T : Tx K mg) : FnOk P w K mg base CX0 3 T.f_Ground_init T.d_Ground_init ["self", "p", "n"] (spInit T.C_Ground) := by
  have G_is_number := ok_is_number (P := P) (w := w) (base := base) T
  have G_is_prime := ok_is_prime (P := P) (w := w) (base := base) T
  refine T.F_Ground_init.ok sc_Ground_init (fun vs H Q E h => ?_) (fun cdv A outer s H vs Q E hr h => ?_)
  · obtain ⟨x, dx, p, n, rfl, _⟩ := h
    rfl
  · obtain ⟨x, dx, p, n, rfl, hx, hp, hn, q⟩ := h
    refine ⟨_, (pss_cons (ps_if (pt_not (pt_val (pe_call G_is_prime (hr.mono (by decide)) (by rfl) T.g_is_prime T.F_is_prime.kp T.b_is_prime .nil pass0 (pa_cons (pv 1) pa_nil)))) (pss_one ps_never) pss_nil)
    (pss_cons (ps_if (pt_not (pt_val (pe_call G_is_number (hr.mono (by decide)) (by rfl) T.g_is_number T.F_is_number.kp T.b_is_number .nil pass0 (pa_cons (pv 2) pa_nil)))) (pss_one ps_never) pss_nil)
    (pss_cons (ps_fld (pv 0) (pv 1) rfl)
    (pss_one (ps_fld (pv 0) (pv 2) rfl))))), ?_⟩
    refine ⟨.int p, rfl, p, rfl, hp, true, rfl, iteF ?_⟩
    refine ⟨.int n, rfl, n, rfl, true, by rw [decide_eq_true hn], iteF ?_⟩
    refine ⟨.int p, rfl, .ref x, rfl, x, T.C_Ground, dx, [], rfl, hx, T.cl_Ground, T.n_Ground_p, (by show 0 < 1000; decide), ?_⟩
    refine ⟨.int n, rfl, .ref x, rfl, x, T.C_Ground, dx, _, rfl, upd_same, T.cl_Ground, T.n_Ground_n, (by show 1 < 1000; decide), ?_⟩
    exact q _ upd_same fun b hb => by rw [upd_ne hb, upd_ne hb]
def spP (C : Addr) : Sp := fun vs H Q _ => ∃ (g : Addr) (p n : Int), vs = [.ref g] ∧ Gd C H g p n ∧ Q (.int p) H
theorem ok_p (T : Tx K mg) : FnOk P w K mg base CX0 1 T.f_Ground_p T.d_Ground_p ["self"] (spP T.C_Ground) := by
  refine T.F_Ground_p.ok sc_Ground_p (fun vs H Q E h => ?_) (fun cdv A outer s H vs Q E hr h => ?_)
  · obtain ⟨g, p, n, rfl, _⟩ := h
    rfl
  · obtain ⟨g, p, n, rfl, ⟨dx, hg⟩, q⟩ := h
    refine ⟨_, (pss_one (ps_ret (pe_fld (pv 0) rfl))), ?_⟩
    exact ⟨.ref g, rfl, g, T.C_Ground, dx, _, _, rfl, hg, T.cl_Ground, T.n_Ground_p, gf_p p n, q⟩
def spN (C : Addr) : Sp := fun vs H Q _ => ∃ (g : Addr) (p n : Int), vs = [.ref g] ∧ Gd C H g p n ∧ Q (.int n) H
theorem ok_n (T : Tx K mg) : FnOk P w K mg base CX0 1 T.f_Ground_n T.d_Ground_n ["self"] (spN T.C_Ground) := by
  refine T.F_Ground_n.ok sc_Ground_n (fun vs H Q E h => ?_) (fun cdv A outer s H vs Q E hr h => ?_)
  · obtain ⟨g, p, n, rfl, _⟩ := h
    rfl
  · obtain ⟨g, p, n, rfl, ⟨dx, hg⟩, q⟩ := h
    refine ⟨_, (pss_one (ps_ret (pe_fld (pv 0) rfl))), ?_⟩
    exact ⟨.ref g, rfl, g, T.C_Ground, dx, _, _, rfl, hg, T.cl_Ground, T.n_Ground_n, gf_n p n, q⟩
/-- a new Ground, all else as it was -/
theorem made_same {C x dx : Addr} {H H1 : Hp} {p n : Int} (nx : H x = none) (nd : H dx = none) (ne : dx ≠ x) (hx : H1 x = some (.ins C dx (gf p n))) (k : ∀ b, b ≠ x → H1 b = (upd (upd H dx (.own x)) x (.ins C dx [])) b) : Same H H1 := fun b o e => by
  have h1 : b ≠ x := ne_of_none e nx
  rw [k b h1, upd_ne h1, upd_ne (ne_of_none e nd)]
  exact e
end

section
variable {P : Program} {w : World} {K : PySem.W.Frag} {mg : Str → Option Value} {base : Heap}
def primes8 : List Int := [2, 2, 3, 3, 5, 7, 11, 13]
def IsP (p : Int) : Prop := p = 2 ∨ p = 3 ∨ p = 5 ∨ p = 7 ∨ p = 11 ∨ p = 13
theorem IsP.prm {p : Int} (h : IsP p) : Prm p := by
  refine ⟨?_, ?_, fun d d2 hd => ?_⟩
  · rcases h with rfl | rfl | rfl | rfl | rfl | rfl <;> decide
  · rcases h with rfl | rfl | rfl | rfl | rfl | rfl <;> decide
  · have d4 : d < 4 := by
      by_cases h4 : d < 4
      · exact h4
      · have h1 : 4 * d ≤ d * d := Int.mul_le_mul_of_nonneg_right (by omega) (by omega)
        have h2 : p ≤ 13 := by rcases h with rfl | rfl | rfl | rfl | rfl | rfl <;> decide
        omega
    rcases (by omega : d = 2 ∨ d = 3) with rfl | rfl
    · rcases h with rfl | rfl | rfl | rfl | rfl | rfl <;> first | decide | (exfalso; revert hd; decide)
    · rcases h with rfl | rfl | rfl | rfl | rfl | rfl <;> first | decide | (exfalso; revert hd; decide)
theorem IsP.lo {p : Int} (h : IsP p) : 2 ≤ p := h.prm.1
theorem IsP.hi {p : Int} (h : IsP p) : p ≤ 13 := by rcases h with rfl | rfl | rfl | rfl | rfl | rfl <;> decide
theorem IsP.of {x : V} (h : x ∈ primes8.map V.int) : ∃ p, x = .int p ∧ IsP p := by
  obtain ⟨p, hp, rfl⟩ := List.mem_map.mp h
  refine ⟨p, rfl, ?_⟩
  simp [primes8] at hp
  unfold IsP
  omega
/-- what _law_wide tells of a ground -/
def grK (g : Addr) (p n : Int) : List (Key × V) := [(ks "p", .int p), (ks "n", .int n), (ks "made", .ref g)]
theorem zpn : ¬ Str.ofString "p" = Str.ofString "n" := by decide +kernel
theorem zpm : ¬ Str.ofString "p" = Str.ofString "made" := by decide +kernel
theorem znm : ¬ Str.ofString "n" = Str.ofString "made" := by decide +kernel
theorem znp : ¬ Str.ofString "n" = Str.ofString "p" := by decide +kernel
theorem zmp : ¬ Str.ofString "made" = Str.ofString "p" := by decide +kernel
theorem zmn : ¬ Str.ofString "made" = Str.ofString "n" := by decide +kernel
theorem merge_gr (g : Addr) (p n : Int) : mergeK [] (grK g p n) = grK g p n := by
  simp [mergeK, putK, grK, zpn, zpm, znm, znp, zmp, zmn]
theorem gr_p {H : Hp} {d g : Addr} {p n : Int} (e : H d = some (.dK (grK g p n))) : DGet H d (.str "p") (some (.int p)) := by
  have h := DGet.k (k := ks "p") e
  rwa [show valV (grK g p n) (ks "p") = some (.int p) by simp [valV, grK, zpn, zpm, znm, znp, zmp, zmn]] at h
theorem gr_n {H : Hp} {d g : Addr} {p n : Int} (e : H d = some (.dK (grK g p n))) : DGet H d (.str "n") (some (.int n)) := by
  have h := DGet.k (k := ks "n") e
  rwa [show valV (grK g p n) (ks "n") = some (.int n) by simp [valV, grK, zpn, zpm, znm, znp, zmp, zmn]] at h
theorem gr_made {H : Hp} {d g : Addr} {p n : Int} (e : H d = some (.dK (grK g p n))) : DGet H d (.str "made") (some (.ref g)) := by
  have h := DGet.k (k := ks "made") e
  rwa [show valV (grK g p n) (ks "made") = some (.ref g) by simp [valV, grK, zpn, zpm, znm, znp, zmp, zmn]] at h
/-- a drawn ground is told at a: p, n and the Ground at g -/
structure Gr (C : Addr) (H : Hp) (a g : Addr) (p n : Int) : Prop where
  dk : H a = some (.dK (grK g p n))
  gd : Gd C H g p n
  ip : IsP p
theorem Gr.mono {C : Addr} {H H' : Hp} {a g : Addr} {p n : Int} (h : Gr C H a g p n) (e : Same H H') : Gr C H' a g p n := ⟨e _ _ h.dk, h.gd.mono e, h.ip⟩
def spWide (C : Addr) : Sp := fun vs H Q _ => ∃ (G : Hp) (d c : Addr) (lo hi : Int), vs = [.ref d, .int lo, .int hi] ∧ Kn G H d c ∧ 0 ≤ lo ∧ lo ≤ hi ∧ hi ≤ 1000 ∧
  ∀ (a g : Addr) (p n : Int) (G' H' : Hp), Same G G' → Kn G' H' d c → Gr C G' a g p n → lo ≤ n → n ≤ hi → Q (.ref a) H'
theorem ok_wide (T : Tx K mg) : FnOk P w K mg base CX0 5 T.f_l_wide T.d_l_wide ["_law_source_here", "_law_least", "_law_most"] (spWide T.C_Ground) := by
  have G_l_pick := ok_pick (P := P) (w := w) (base := base) T
  have G_l_of := ok_of (P := P) (w := w) (base := base) T
  have G_Ground_init := ok_init (P := P) (w := w) (base := base) T
  refine T.F_l_wide.ok sc_l_wide (fun vs H Q E h => ?_) (fun cdv A outer s H vs Q E hr h => ?_)
  · obtain ⟨G, d, c, lo, hi, rfl, _⟩ := h
    rfl
  · obtain ⟨G, d, c, lo, hi, rfl, k, h0, h1, h2, q⟩ := h
    have hu := hu_of hr
    refine ⟨_, (pss_cons (ps_par (i := 3) (j := 4) (by rfl) sc_l_wide.nd rfl rfl (by decide) rfl rfl (pa_cons (pe_call G_l_of (hr.mono (by decide)) (by rfl) T.g_l_of T.F_l_of.kp T.b_l_of .nil pass0 (pa_cons (pv 0) (pa_cons (pe_lst (pa_cons pe_int (pa_cons pe_int (pa_cons pe_int (pa_cons pe_int (pa_cons pe_int (pa_cons pe_int (pa_cons pe_int (pa_cons pe_int pa_nil))))))))) pa_nil))) (pa_cons (pe_op op_add (pv 1) (pe_call G_l_pick (hr.mono (by decide)) (by rfl) T.g_l_pick T.F_l_pick.kp T.b_l_pick .nil pass0 (pa_cons (pv 0) (pa_cons (pe_op op_sub (pe_op op_add (pv 2) pe_int) (pv 1)) pa_nil)))) pa_nil)) (by rfl))
    (pss_one (ps_ret (pe_disp (pps_cons pe_str (pv 3) (pps_cons pe_str (pv 4) (pps_cons pe_str (pe_make T.M_Ground G_Ground_init (hr.mono (by decide)) rfl T.g_Ground T.b_Ground_init .nil pass0 (pa_cons (pv 3) (pa_cons (pv 4) pa_nil))) pps_nil))) (by rfl) (by rfl) (fun z => by cases z) (by decide))))), ?_⟩
    -- _law_of(source, [2, 2, ..])
    refine ⟨.ref d, rfl, (by show 8 ≤ sizeLine; decide), fun t ht => ?_⟩
    refine ⟨upd G t (.lst (primes8.map V.int)), d, c, t, primes8.map V.int, rfl, k.new ht, .inl (.inl upd_same), by decide, by decide, fun x H1 k1 hx => ?_⟩
    obtain ⟨p, rfl, ip⟩ := IsP.of hx
    have k1 : Kn G H1 d c := k1.weak (same_new (k.free ht))
    -- least + _law_pick(..)
    refine ⟨.int lo, rfl, .ref d, rfl, .int hi, rfl, hi, 1, rfl, rfl, .int lo, rfl, hi + 1, lo, rfl, rfl, G, d, c, hi + 1 - lo, rfl, k1, by omega, fun r H2 k2 r0 r1 => ?_⟩
    refine ⟨lo, r, rfl, rfl, .int p, .int (lo + r), rfl, ?_⟩
    -- {"p": .., "n": .., "made": Ground(p, n)}
    intro a ha
    refine ⟨.int p, rfl, .int (lo + r), rfl, .int p, rfl, .int (lo + r), rfl, fun x dx nx ndx hne => ?_⟩
    have ax : a ≠ x := fun e => by rw [← e, upd_same] at nx; cases nx
    have adx : a ≠ dx := fun e => by rw [← e, upd_same] at ndx; cases ndx
    refine ⟨x, dx, p, lo + r, rfl, upd_same, ip.prm, by omega, fun H3 hx3 hk3 => ⟨rfl, ?_⟩⟩
    have sm : Same (upd H2 a (.dK [])) H3 := made_same nx ndx hne hx3 hk3
    refine ⟨sm _ _ upd_same, grK x p (lo + r), rfl, (by show 3 ≤ 15; decide), ?_⟩
    rw [merge_gr]
    have x0 : H2 x = none := by rw [upd_ne ax.symm] at nx; exact nx
    have s23 : Same H2 H3 := (same_new ha).trans sm
    have k3 : Kn (upd G x (.ins T.C_Ground dx (gf p (lo + r)))) H3 d c := k2.add s23 x0 hx3
    have ga : G a = none := k2.free ha
    have k4 : Kn (upd (upd G x (.ins T.C_Ground dx (gf p (lo + r)))) a (.dK (grK x p (lo + r)))) (upd H3 a (.dK (grK x p (lo + r)))) d c := by
      have n1 : a ≠ d := k2.src.some_d ha
      have n2 : a ≠ c := k2.src.some_c ha
      refine ⟨fun b o e => ?_, by rw [upd_ne n1.symm]; exact k3.gd, by rw [upd_ne n2.symm]; exact k3.gc, k3.src.off n1 n2⟩
      by_cases hb : b = a
      · subst hb
        rw [upd_same] at e ⊢
        exact e
      · rw [upd_ne hb] at e ⊢
        exact k3.le _ _ e
    refine q a x p (lo + r) _ _ ?_ k4 ⟨upd_same, ⟨dx, by rw [upd_ne ax.symm, upd_same]⟩, ip⟩ (by omega) (by omega)
    exact (same_new (k2.free x0)).trans (same_new (by rw [upd_ne ax]; exact ga))
/-- a drawn row -/
def Row (p : Int) (r : List Int) : Prop := ∀ x ∈ r, 0 ≤ x ∧ x < p
def spRow (C : Addr) : Sp := fun vs H Q _ => ∃ (G : Hp) (d c a g : Addr) (p n : Int), vs = [.ref d, .ref a] ∧ Kn G H d c ∧ Gr C G a g p n ∧ 0 ≤ n ∧ n ≤ 1000 ∧
  ∀ (t : Addr) (r : List Int) (G' H' : Hp), Same G G' → Kn G' H' d c → G' t = some (.tup (r.map V.int)) → (r.length : Int) = n → Row p r → Q (.ref t) H'
theorem ok_row (T : Tx K mg) : FnOk P w K mg base CX0 2 T.f_l_row T.d_l_row ["_law_source_here", "_law_ground"] (spRow T.C_Ground) := by
  have G_l_pick := ok_pick (P := P) (w := w) (base := base) T
  refine T.F_l_row.ok sc_l_row (fun vs H Q E h => ?_) (fun cdv A outer s H vs Q E hr h => ?_)
  · obtain ⟨G, d, c, a, g, p, n, rfl, _⟩ := h
    rfl
  · obtain ⟨G, d, c, a, g, p, n, rfl, k, gr, n0, n1, q⟩ := h
    have hu := hu_of hr
    refine ⟨_, (pss_one (ps_ret (pe_callTy call_tuple_of (by rfl) T.z_tuple (by decide +kernel) (pa_cons (pe_lc (own := [("_law_k", 2)]) (g := gName 2) rfl sc_l_row.nd (pi_range1 rfl T.z_range (pa_cons (pe_dget hu (pv 1) pe_str (fun _ _ => rfl)) pa_nil)) (blkOk_by (own := [("_law_k", 2)]) (N := ["_law_source_here", "_law_ground", "_law_k"]) (sc := defScope s_l_row) (by decide +kernel)) (fun _ _ _ _ _ => (pg_name (i := 2) sc_l_row.nd rfl (Or.inl rfl))) (fun _ _ _ _ _ => pts_nil) (fun _ _ _ _ _ => (pe_call G_l_pick (hr.mono (by decide)) (by rfl) T.g_l_pick T.F_l_pick.kp T.b_l_pick .nil pass0 (pa_cons (pv 0) (pa_cons (pe_dget hu (pv 1) pe_str (fun _ _ => rfl)) pa_nil))))) pa_nil)))), ?_⟩
    refine ⟨.ref a, rfl, a, _, rfl, gr_n (k.le _ _ gr.dk), n, rfl, by omega, by omega, fun D hD => ?_⟩
    refine lc_range (lo := 0) (n := n.toNat) (fun i H' => ∃ r : List Int, Kn (upd G D (.lst (r.map V.int))) H' d c ∧ r.length = i ∧ Row p r) ⟨[], k.new hD, rfl, fun x hx => by cases hx⟩ ?_ ?_
    · rintro i H1 hi ⟨r, k1, hl, hrow⟩
      have gr1 : Gr T.C_Ground (upd G D (.lst (r.map V.int))) a g p n := gr.mono (same_new (k.free hD))
      refine ⟨rfl, tyes ?_⟩
      refine ⟨.ref d, rfl, .ref a, rfl, a, _, rfl, gr_p (k1.le _ _ gr1.dk), _, d, c, p, rfl, k1, by have := gr.ip.hi; omega, fun z H2 k2 z0 z1 => ?_⟩
      have zp : z < p := by have := gr.ip.lo; omega
      refine ⟨_, k2.le _ _ upd_same, ?_, r ++ [z], ?_, by rw [List.length_append, hl]; rfl, fun x hx => ?_⟩
      · rw [List.length_map, hl]
        exact small1000 (by omega)
      · rw [List.map_append]
        exact k2.set
      · rcases List.mem_append.mp hx with hx | hx
        · exact hrow x hx
        · rw [List.mem_singleton] at hx
          subst hx
          exact ⟨z0, zp⟩
    · rintro H1 ⟨r, k1, hl, hrow⟩
      refine ⟨D, _, rfl, .inl ⟨SqL.of (k1.le _ _ upd_same), fun t ht => ?_⟩⟩
      have sG : Same G (upd G D (.lst (r.map V.int))) := same_new (k.free hD)
      refine q t r (upd (upd G D (.lst (r.map V.int))) t (.tup (r.map V.int))) _ (sG.trans (same_new (k1.free ht))) (k1.new ht) upd_same ?_ hrow
      rw [hl]
      omega
end

/-- a new tuple of the ints is handed back -/
def NewT (H : Hp) (Q : VK) (r : List Int) : Prop := ∀ (t : Addr) (H' : Hp), Same H H' → H t = none → H' t = some (.tup (r.map V.int)) → Q (.ref t) H'
/-- a pivot as a value -/
def pvV : Option Nat → V
  | none => .non
  | some k => .int (k : Nat)

section
variable {P : Program} {w : World} {K : PySem.W.Frag} {mg : Str → Option Value} {base : Heap}
def spAdd (K : PySem.W.Frag) (C : Addr) : Sp := fun vs H Q _ => ∃ (g a b : Addr) (p n : Int) (r s : List Int), vs = [.ref g, .ref a, .ref b] ∧ Gd C H g p n ∧ 0 < p ∧ SqT K H a (r.map V.int) ∧ SqT K H b (s.map V.int) ∧ r.length = s.length ∧ r.length ≤ 1000 ∧ NewT H Q (addR p r s)
theorem ok_added (T : Tx K mg) : FnOk P w K mg base CX0 2 T.f_added T.d_added ["ground", "one", "other"] (spAdd K T.C_Ground) := by
  have G_Ground_p := ok_p (P := P) (w := w) (base := base) T
  refine T.F_added.ok sc_added (fun vs H Q E h => ?_) (fun cdv A outer s H vs Q E hr h => ?_)
  · obtain ⟨g, a, b, p, n, r, s, rfl, _⟩ := h
    rfl
  · obtain ⟨g, a, b, p, n, r, s, rfl, hg, p0, hA, hB, hl, hz, q⟩ := h
    obtain ⟨dx, hi⟩ := id hg
    refine ⟨_, (pss_cons (ps_set (i := 3) sc_added.nd rfl (Or.inr rfl) (pe_meth0 (pv 0) T.cl_Ground T.m_Ground_p G_Ground_p (hr.mono (by decide)) T.b_Ground_p .nil pass0))
    (pss_one (ps_ret (pe_callTy call_tuple_of (by rfl) T.z_tuple (by decide +kernel) (pa_cons (pe_lc (own := [("entry", 4), ("more", 5)]) (g := gTup K 2 (gCons (gName 4) (gCons (gName 5) gNil))) rfl sc_added.nd (pi_zipM (by rfl) T.z_zip (pa_cons (pv 1) (pa_cons (pv 2) pa_nil))) (blkOk_by (own := [("entry", 4), ("more", 5)]) (N := ["ground", "one", "other", "p", "entry", "more"]) (sc := defScope s_added) (by decide +kernel)) (fun _ _ _ _ _ => (show PG _ _ (gTup K 2 (gCons (gName 4) (gCons (gName 5) gNil))) from (pg_tup rfl (pgs_cons (pg_name (i := 4) sc_added.nd rfl (Or.inl rfl)) (pgs_cons (pg_name (i := 5) sc_added.nd rfl (Or.inl rfl)) pgs_nil))))) (fun _ _ _ _ _ => pts_nil) (fun _ _ _ _ _ => (pe_op op_mod (pe_op op_add (pv 4) (pv 5)) (pv 3)))) pa_nil))))), ?_⟩
    refine ⟨.ref g, rfl, g, dx, _, rfl, hi, no_p _ _, g, p, n, rfl, hg, ?_⟩
    refine ⟨.ref a, rfl, .ref b, rfl, false, false, a, b, r.map V.int, s.map V.int, rfl, hA, hB, fun D hD => ?_⟩
    refine lc_zipM (K := K) (k1 := false) (k2 := false) (a := a) (b := b) (xs := r.map V.int) (ys := s.map V.int) (by simp [hl]) (fun i H' => (∀ b o, H b = some o → H' b = some o) ∧ H' D = some (.lst (((addR p r s).take i).map V.int))) ⟨same_new hD, upd_same⟩ (fun i H' ⟨sm, _⟩ => ⟨sameT sm hA, sameT sm hB⟩) ?_ ?_
    · rintro i x y Z H1 hx hy ⟨sm, hL⟩ hZ
      obtain ⟨x, rfl, hx'⟩ := ints_at hx
      obtain ⟨y, rfl, hy'⟩ := ints_at hy
      refine ⟨Z, [.int x, .int y], rfl, .inl (.inl upd_same), rfl, .int x, [.int y], rfl, .int y, [], rfl, rfl, rfl, tyes ?_⟩
      have dz : D ≠ Z := ne_of_none hL hZ
      refine ⟨.int x, rfl, .int y, rfl, x, y, rfl, rfl, .int p, rfl, _, p, rfl, rfl, p0, _, by rw [upd_ne dz]; exact hL, ?_, fun c o e => ?_, ?_⟩
      · rw [List.length_map, List.length_take]
        exact Nat.lt_of_le_of_lt (Nat.min_le_left _ _) (small1000 (Nat.le_trans (Nat.le_of_lt (at_lt hx')) hz))
      · rw [upd_ne (ne_of_none e hD), upd_ne (ne_of_none (sm _ _ e) hZ)]
        exact sm _ _ e
      · have ge : (addR p r s)[i]? = some ((x + y) % p) := get_zw hx' hy'
        rw [upd_same, List.take_add_one, ge, List.map_append]
        rfl
    · rintro H1 ⟨sm, hL⟩
      rw [List.length_map, List.take_of_length_le (Nat.le_of_eq (show (addR p r s).length = r.length from len_zw rfl hl.symm))] at hL
      refine ⟨D, _, rfl, .inl ⟨.inl (.inl hL), fun t ht => ?_⟩⟩
      exact q t _ (Same.trans sm (same_new ht)) (Same.free sm ht) upd_same
end

section
variable {P : Program} {w : World} {K : PySem.W.Frag} {mg : Str → Option Value} {base : Heap}
def spSub (K : PySem.W.Frag) (C : Addr) : Sp := fun vs H Q _ => ∃ (g a b : Addr) (p n : Int) (r s : List Int), vs = [.ref g, .ref a, .ref b] ∧ Gd C H g p n ∧ 0 < p ∧ SqT K H a (r.map V.int) ∧ SqT K H b (s.map V.int) ∧ r.length = s.length ∧ r.length ≤ 1000 ∧ NewT H Q (subR p r s)
theorem ok_subtracted (T : Tx K mg) : FnOk P w K mg base CX0 2 T.f_subtracted T.d_subtracted ["ground", "one", "other"] (spSub K T.C_Ground) := by
  have G_Ground_p := ok_p (P := P) (w := w) (base := base) T
  refine T.F_subtracted.ok sc_subtracted (fun vs H Q E h => ?_) (fun cdv A outer s H vs Q E hr h => ?_)
  · obtain ⟨g, a, b, p, n, r, s, rfl, _⟩ := h
    rfl
  · obtain ⟨g, a, b, p, n, r, s, rfl, hg, p0, hA, hB, hl, hz, q⟩ := h
    obtain ⟨dx, hi⟩ := id hg
    refine ⟨_, (pss_cons (ps_set (i := 3) sc_subtracted.nd rfl (Or.inr rfl) (pe_meth0 (pv 0) T.cl_Ground T.m_Ground_p G_Ground_p (hr.mono (by decide)) T.b_Ground_p .nil pass0))
    (pss_one (ps_ret (pe_callTy call_tuple_of (by rfl) T.z_tuple (by decide +kernel) (pa_cons (pe_lc (own := [("entry", 4), ("less", 5)]) (g := gTup K 2 (gCons (gName 4) (gCons (gName 5) gNil))) rfl sc_subtracted.nd (pi_zipM (by rfl) T.z_zip (pa_cons (pv 1) (pa_cons (pv 2) pa_nil))) (blkOk_by (own := [("entry", 4), ("less", 5)]) (N := ["ground", "one", "other", "p", "entry", "less"]) (sc := defScope s_subtracted) (by decide +kernel)) (fun _ _ _ _ _ => (show PG _ _ (gTup K 2 (gCons (gName 4) (gCons (gName 5) gNil))) from (pg_tup rfl (pgs_cons (pg_name (i := 4) sc_subtracted.nd rfl (Or.inl rfl)) (pgs_cons (pg_name (i := 5) sc_subtracted.nd rfl (Or.inl rfl)) pgs_nil))))) (fun _ _ _ _ _ => pts_nil) (fun _ _ _ _ _ => (pe_op op_mod (pe_op op_sub (pv 4) (pv 5)) (pv 3)))) pa_nil))))), ?_⟩
    refine ⟨.ref g, rfl, g, dx, _, rfl, hi, no_p _ _, g, p, n, rfl, hg, ?_⟩
    refine ⟨.ref a, rfl, .ref b, rfl, false, false, a, b, r.map V.int, s.map V.int, rfl, hA, hB, fun D hD => ?_⟩
    refine lc_zipM (K := K) (k1 := false) (k2 := false) (a := a) (b := b) (xs := r.map V.int) (ys := s.map V.int) (by simp [hl]) (fun i H' => (∀ b o, H b = some o → H' b = some o) ∧ H' D = some (.lst (((subR p r s).take i).map V.int))) ⟨same_new hD, upd_same⟩ (fun i H' ⟨sm, _⟩ => ⟨sameT sm hA, sameT sm hB⟩) ?_ ?_
    · rintro i x y Z H1 hx hy ⟨sm, hL⟩ hZ
      obtain ⟨x, rfl, hx'⟩ := ints_at hx
      obtain ⟨y, rfl, hy'⟩ := ints_at hy
      refine ⟨Z, [.int x, .int y], rfl, .inl (.inl upd_same), rfl, .int x, [.int y], rfl, .int y, [], rfl, rfl, rfl, tyes ?_⟩
      have dz : D ≠ Z := ne_of_none hL hZ
      refine ⟨.int x, rfl, .int y, rfl, x, y, rfl, rfl, .int p, rfl, _, p, rfl, rfl, p0, _, by rw [upd_ne dz]; exact hL, ?_, fun c o e => ?_, ?_⟩
      · rw [List.length_map, List.length_take]
        exact Nat.lt_of_le_of_lt (Nat.min_le_left _ _) (small1000 (Nat.le_trans (Nat.le_of_lt (at_lt hx')) hz))
      · rw [upd_ne (ne_of_none e hD), upd_ne (ne_of_none (sm _ _ e) hZ)]
        exact sm _ _ e
      · have ge : (subR p r s)[i]? = some ((x - y) % p) := get_zw hx' hy'
        rw [upd_same, List.take_add_one, ge, List.map_append]
        rfl
    · rintro H1 ⟨sm, hL⟩
      rw [List.length_map, List.take_of_length_le (Nat.le_of_eq (show (subR p r s).length = r.length from len_zw rfl hl.symm))] at hL
      refine ⟨D, _, rfl, .inl ⟨.inl (.inl hL), fun t ht => ?_⟩⟩
      exact q t _ (Same.trans sm (same_new ht)) (Same.free sm ht) upd_same
end

section
variable {P : Program} {w : World} {K : PySem.W.Frag} {mg : Str → Option Value} {base : Heap}
def spScl (K : PySem.W.Frag) (C : Addr) : Sp := fun vs H Q _ => ∃ (g a : Addr) (p n k : Int) (r : List Int), vs = [.ref g, .int k, .ref a] ∧ Gd C H g p n ∧ 0 < p ∧ -1000000 < k ∧ k < 1000000 ∧ SqT K H a (r.map V.int) ∧ r.length ≤ 1000 ∧ NewT H Q (sclR p k r)
theorem ok_scaled (T : Tx K mg) : FnOk P w K mg base CX0 2 T.f_scaled T.d_scaled ["ground", "number", "row"] (spScl K T.C_Ground) := by
  have G_Ground_p := ok_p (P := P) (w := w) (base := base) T
  refine T.F_scaled.ok sc_scaled (fun vs H Q E h => ?_) (fun cdv A outer s H vs Q E hr h => ?_)
  · obtain ⟨g, a, p, n, k, r, rfl, _⟩ := h
    rfl
  · obtain ⟨g, a, p, n, k, r, rfl, hg, p0, k0, k1, hA, hz, q⟩ := h
    obtain ⟨dx, hi⟩ := id hg
    refine ⟨_, (pss_cons (ps_set (i := 3) sc_scaled.nd rfl (Or.inr rfl) (pe_meth0 (pv 0) T.cl_Ground T.m_Ground_p G_Ground_p (hr.mono (by decide)) T.b_Ground_p .nil pass0))
    (pss_one (ps_ret (pe_callTy call_tuple_of (by rfl) T.z_tuple (by decide +kernel) (pa_cons (pe_lc (own := [("entry", 4)]) (g := gName 4) rfl sc_scaled.nd (pi_tup (pv 2)) (blkOk_by (own := [("entry", 4)]) (N := ["ground", "number", "row", "p", "entry"]) (sc := defScope s_scaled) (by decide +kernel)) (fun _ _ _ _ _ => (pg_name (i := 4) sc_scaled.nd rfl (Or.inl rfl))) (fun _ _ _ _ _ => pts_nil) (fun _ _ _ _ _ => (pe_op op_mod (pe_op op_mul (pv 1) (pv 4)) (pv 3)))) pa_nil))))), ?_⟩
    refine ⟨.ref g, rfl, g, dx, _, rfl, hi, no_p _ _, g, p, n, rfl, hg, ?_⟩
    refine ⟨.ref a, rfl, a, rfl, ⟨_, hA⟩, fun D hD => ?_⟩
    refine lc_tup (K := K) (a := a) (xs := r.map V.int) (fun i H' => (∀ b o, H b = some o → H' b = some o) ∧ H' D = some (.lst (((sclR p k r).take i).map V.int))) ⟨same_new hD, upd_same⟩ (fun i H' _ ⟨sm, _⟩ => sameT sm hA) ?_ ?_
    · rintro i x H1 hx ⟨sm, hL⟩
      obtain ⟨x, rfl, hx'⟩ := ints_at hx
      refine ⟨rfl, tyes ?_⟩
      refine ⟨.int k, rfl, .int x, rfl, k, x, rfl, rfl, .inl ⟨by omega, by omega⟩, .int p, rfl, _, p, rfl, rfl, p0, _, hL, ?_, fun c o e => ?_, ?_⟩
      · rw [List.length_map, List.length_take]
        exact Nat.lt_of_le_of_lt (Nat.min_le_left _ _) (small1000 (Nat.le_trans (Nat.le_of_lt (at_lt hx')) hz))
      · rw [upd_ne (ne_of_none e hD)]
        exact sm _ _ e
      · have ge : (sclR p k r)[i]? = some (k * x % p) := by
          unfold sclR
          rw [List.getElem?_map, hx']
          rfl
        rw [upd_same, List.take_add_one, ge, List.map_append]
        rfl
    · rintro H1 ⟨sm, hL⟩
      rw [List.length_map, List.take_of_length_le (by simp [sclR])] at hL
      refine ⟨D, _, rfl, .inl ⟨.inl (.inl hL), fun t ht => ?_⟩⟩
      exact q t _ (Same.trans sm (same_new ht)) (Same.free sm ht) upd_same
end

section
variable {P : Program} {w : World} {K : PySem.W.Frag} {mg : Str → Option Value} {base : Heap}
def spZero (C : Addr) : Sp := fun vs H Q _ => ∃ (g : Addr) (p n : Int), vs = [.ref g] ∧ Gd C H g p n ∧ 0 ≤ n ∧ n ≤ 1000 ∧ ∀ (t : Addr) (H' : Hp), Same H H' → SqT K H' t ((zeroR n.toNat).map V.int) → Q (.ref t) H'
theorem ok_zero (T : Tx K mg) : FnOk P w K mg base CX0 1 T.f_Ground_zero T.d_Ground_zero ["self"] (spZero (K := K) T.C_Ground) := by
  refine T.F_Ground_zero.ok sc_Ground_zero (fun vs H Q E h => ?_) (fun cdv A outer s H vs Q E hr h => ?_)
  · obtain ⟨g, p, n, rfl, _⟩ := h
    rfl
  · obtain ⟨g, p, n, rfl, ⟨dx, hg⟩, n0, n1, q⟩ := h
    refine ⟨_, (pss_one (ps_ret (pe_op op_rep1 (pe_tup (pa_cons pe_int pa_nil)) (pe_fld (pv 0) rfl)))), ?_⟩
    refine ⟨(by show 1 ≤ sizeLine; decide), fun u hu => ?_⟩
    refine ⟨.ref g, rfl, g, T.C_Ground, dx, _, _, rfl, same_new hu _ _ hg, T.cl_Ground, T.n_Ground_n, gf_n p n, u, n, .int 0, rfl, rfl, .inl (.inl upd_same), n0, n1, fun t H' sm ht => q t H' ((same_new hu).trans sm) ?_⟩
    unfold zeroR
    rw [List.map_replicate]
    exact ht
end

section
variable {P : Program} {w : World} {K : PySem.W.Frag} {mg : Str → Option Value} {base : Heap}
def spDot (K : PySem.W.Frag) (C : Addr) : Sp := fun vs H Q _ => ∃ (g a b : Addr) (p n : Int) (r s : List Int), vs = [.ref g, .ref a, .ref b] ∧ Gd C H g p n ∧ 0 < p ∧ SqT K H a (r.map V.int) ∧ SqT K H b (s.map V.int) ∧ r.length = s.length ∧ r.length ≤ 1000 ∧ (∀ x ∈ r, 0 ≤ x ∧ x < 1000000) ∧ ∀ H', Same H H' → Q (.int ((mulR r s).sum % p)) H'
theorem ok_dot (T : Tx K mg) : FnOk P w K mg base CX0 2 T.f_dot T.d_dot ["ground", "one", "other"] (spDot K T.C_Ground) := by
  have G_Ground_p := ok_p (P := P) (w := w) (base := base) T
  refine T.F_dot.ok sc_dot (fun vs H Q E h => ?_) (fun cdv A outer s H vs Q E hr h => ?_)
  · obtain ⟨g, a, b, p, n, r, s, rfl, _⟩ := h
    rfl
  · obtain ⟨g, a, b, p, n, r, s, rfl, hg, p0, hA, hB, hl, hz, hx0, q⟩ := h
    refine ⟨_, (pss_one (ps_ret (pe_op op_mod (pe_callB (cr_sum rfl) (by rfl) T.z_sum (by decide +kernel) (pa_cons (pe_lc (own := [("entry", 3), ("factor", 4)]) (g := gTup K 2 (gCons (gName 3) (gCons (gName 4) gNil))) rfl sc_dot.nd (pi_zipM (by rfl) T.z_zip (pa_cons (pv 1) (pa_cons (pv 2) pa_nil))) (blkOk_by (own := [("entry", 3), ("factor", 4)]) (N := ["ground", "one", "other", "entry", "factor"]) (sc := defScope s_dot) (by decide +kernel)) (fun _ _ _ _ _ => (show PG _ _ (gTup K 2 (gCons (gName 3) (gCons (gName 4) gNil))) from (pg_tup rfl (pgs_cons (pg_name (i := 3) sc_dot.nd rfl (Or.inl rfl)) (pgs_cons (pg_name (i := 4) sc_dot.nd rfl (Or.inl rfl)) pgs_nil))))) (fun _ _ _ _ _ => pts_nil) (fun _ _ _ _ _ => (pe_op op_mul (pv 3) (pv 4)))) pa_nil)) (pe_meth0 (pv 0) T.cl_Ground T.m_Ground_p G_Ground_p (hr.mono (by decide)) T.b_Ground_p .nil pass0)))), ?_⟩
    refine ⟨.ref a, rfl, .ref b, rfl, false, false, a, b, r.map V.int, s.map V.int, rfl, hA, hB, fun D hD => ?_⟩
    refine lc_zipM (K := K) (k1 := false) (k2 := false) (a := a) (b := b) (xs := r.map V.int) (ys := s.map V.int) (by simp [hl]) (fun i H' => (∀ b o, H b = some o → H' b = some o) ∧ H' D = some (.lst (((mulR r s).take i).map V.int))) ⟨same_new hD, upd_same⟩ (fun i H' ⟨sm, _⟩ => ⟨sameT sm hA, sameT sm hB⟩) ?_ ?_
    · rintro i x y Z H1 hx hy ⟨sm, hL⟩ hZ
      obtain ⟨x, rfl, hx'⟩ := ints_at hx
      obtain ⟨y, rfl, hy'⟩ := ints_at hy
      have bx := hx0 x (List.mem_of_getElem? hx')
      refine ⟨Z, [.int x, .int y], rfl, .inl (.inl upd_same), rfl, .int x, [.int y], rfl, .int y, [], rfl, rfl, rfl, tyes ?_⟩
      have dz : D ≠ Z := ne_of_none hL hZ
      refine ⟨.int x, rfl, .int y, rfl, x, y, rfl, rfl, .inl ⟨by omega, by omega⟩, _, by rw [upd_ne dz]; exact hL, ?_, fun c o e => ?_, ?_⟩
      · rw [List.length_map, List.length_take]
        exact Nat.lt_of_le_of_lt (Nat.min_le_left _ _) (small1000 (Nat.le_trans (Nat.le_of_lt (at_lt hx')) hz))
      · rw [upd_ne (ne_of_none e hD), upd_ne (ne_of_none (sm _ _ e) hZ)]
        exact sm _ _ e
      · have ge : (mulR r s)[i]? = some (x * y) := get_zw hx' hy'
        rw [upd_same, List.take_add_one, ge, List.map_append]
        rfl
    · rintro H1 ⟨sm, hL⟩
      rw [List.length_map, List.take_of_length_le (Nat.le_of_eq (show (mulR r s).length = r.length from len_zw rfl hl.symm))] at hL
      have hg1 := hg.mono sm
      obtain ⟨dx, hi⟩ := id hg1
      exact ⟨D, _, rfl, .inl (.inl hL), .ref g, rfl, g, dx, _, rfl, hi, no_p _ _, g, p, n, rfl, hg1, _, p, rfl, rfl, p0, q _ sm⟩
end

section
variable {P : Program} {w : World} {K : PySem.W.Frag} {mg : Str → Option Value} {base : Heap}
/-- a combination -/
def spComb (K : PySem.W.Frag) (C : Addr) : Sp := fun vs H Q _ => ∃ (g a b : Addr) (p n : Int) (k1 k2 : Bool) (ks : List Int) (ts : List V) (rs : List (List Int)), vs = [.ref g, .ref a, .ref b] ∧ Gd C H g p n ∧ 0 < p ∧ 0 ≤ n ∧ n ≤ 1000 ∧ SqK K k1 H a (ks.map V.int) ∧ SqK K k2 H b ts ∧ Rows K H ts rs ∧ ks.length = rs.length ∧
  (∀ k ∈ ks, -1000000 < k ∧ k < 1000000) ∧ (∀ r ∈ rs, r.length = n.toNat) ∧ ∀ (t : Addr) (H' : Hp), Same H H' → SqT K H' t ((combR p n.toNat ks rs).map V.int) → Q (.ref t) H'
theorem comb_len {p : Int} {n : Nat} : ∀ (l : List (Int × List Int)) (t : List Int), t.length = n → (∀ kr ∈ l, kr.2.length = n) → (l.foldl (fun t kr => addR p t (sclR p kr.1 kr.2)) t).length = n
  | [], t, h, _ => h
  | kr :: l, t, h, hl => comb_len l _ (len_zw h (by simp [sclR, hl kr (by simp)])) fun kr hk => hl kr (by simp [hk])
theorem ok_combined (T : Tx K mg) : FnOk P w K mg base CX0 3 T.f_combined T.d_combined ["ground", "numbers", "rows"] (spComb K T.C_Ground) := by
  have G_Ground_zero := ok_zero (P := P) (w := w) (base := base) T
  have G_added := ok_added (P := P) (w := w) (base := base) T
  have G_scaled := ok_scaled (P := P) (w := w) (base := base) T
  refine T.F_combined.ok sc_combined (fun vs H Q E h => ?_) (fun cdv A outer s H vs Q E hr h => ?_)
  · obtain ⟨g, a, b, p, n, k1, k2, ks, ts, rs, rfl, _⟩ := h
    rfl
  · obtain ⟨g, a, b, p, n, k1, k2, ks, ts, rs, rfl, hg, p0, n0, n1, hA, hB, hR, hl, hk, hrl, q⟩ := h
    obtain ⟨dx, hi⟩ := id hg
    refine ⟨_, (pss_cons (ps_set (i := 3) sc_combined.nd rfl (Or.inl rfl) (pe_meth0 (pv 0) T.cl_Ground T.m_Ground_zero G_Ground_zero (hr.mono (by decide)) T.b_Ground_zero .nil pass0))
    (pss_cons (ps_for PassesOwn.never rfl (pi_zipM (by rfl) T.z_zip (pa_cons (pv 1) (pa_cons (pv 2) pa_nil))) (pg_tup rfl (pgs_cons (pg_name (i := 4) sc_combined.nd rfl (Or.inl rfl)) (pgs_cons (pg_name (i := 5) sc_combined.nd rfl (Or.inl rfl)) pgs_nil)))
    (pss_one (ps_set (i := 3) sc_combined.nd rfl (Or.inl rfl) (pe_call G_added (hr.mono (by decide)) (by rfl) T.g_added T.F_added.kp T.b_added .nil pass0 (pa_cons (pv 0) (pa_cons (pv 3) (pa_cons (pe_call G_scaled (hr.mono (by decide)) (by rfl) T.g_scaled T.F_scaled.kp T.b_scaled .nil pass0 (pa_cons (pv 0) (pa_cons (pv 4) (pa_cons (pv 5) pa_nil)))) pa_nil)))))))
    (pss_one (ps_ret (pv 3))))), ?_⟩
    refine ⟨.ref g, rfl, g, dx, _, rfl, hi, gf_no _ _ (by decide +kernel) (by decide +kernel), g, p, n, rfl, hg, n0, n1, fun t0 H0 s0 ht0 => ?_⟩
    have hlen : (ks.map V.int).length = ts.length := by rw [List.length_map, hl, hR.len]
    refine ⟨.ref a, rfl, .ref b, rfl, k1, k2, a, b, ks.map V.int, ts, rfl, hA.same s0, hB.same s0, for_zipM (K := K) (k1 := k1) (k2 := k2) (a := a) (b := b) (xs := ks.map V.int) (ys := ts) hlen (fun i σ H' => ∃ (t : Addr) (v4 v5 : Option V), σ = [some (.ref g), some (.ref a), some (.ref b), some (.ref t), v4, v5] ∧ Same H H' ∧ SqT K H' t ((combR p n.toNat (ks.take i) (rs.take i)).map V.int)) ⟨t0, none, none, rfl, s0, ht0⟩ (fun i σ H' ⟨_, _, _, _, sm, _⟩ => ⟨hA.same sm, hB.same sm⟩) ?_ ?_⟩
    · rintro i x y Z σ H1 hx hy ⟨t, v4, v5, rfl, sm, hT⟩ hZ
      obtain ⟨k, rfl, hk'⟩ := ints_at hx
      obtain ⟨c, r, rfl, hr', hC⟩ := hR.get hy
      have sZ : Same H1 (upd H1 Z (.tup [.int k, .ref c])) := same_new hZ
      have sH := sm.trans sZ
      have hgZ := hg.mono sH
      have bk := hk k (List.mem_of_getElem? hk')
      have rl := hrl r (List.mem_of_getElem? hr')
      refine ⟨Z, [.int k, .ref c], rfl, .inl (.inl upd_same), rfl, .int k, [.ref c], rfl, .ref c, [], rfl, rfl, ?_⟩
      refine ⟨.ref g, rfl, .ref t, rfl, .ref g, rfl, .int k, rfl, .ref c, rfl, g, c, p, n, k, r, rfl, hgZ, p0, bk.1, bk.2, sameT sH hC, by omega, fun u H2 s2 u0 hU => ?_⟩
      have cl : (combR p n.toNat (ks.take i) (rs.take i)).length = n.toNat := comb_len _ _ (by simp [zeroR]) fun kr hm => hrl _ (List.mem_of_mem_take (List.of_mem_zip hm).2)
      refine ⟨g, t, u, p, n, _, _, rfl, hgZ.mono s2, p0, sameT (sZ.trans s2) hT, .inl (.inl hU), by rw [cl]; simp [sclR, rl], by rw [cl]; omega, fun t2 H3 s3 _ hT3 => ?_⟩
      refine ⟨t2, _, _, rfl, (sH.trans s2).trans s3, ?_⟩
      rw [List.take_add_one, List.take_add_one, hk', hr']
      have e := comb_snoc p n.toNat (ks.take i) (rs.take i) k r (by rw [List.length_take, List.length_take, hl])
      show SqT K H3 t2 ((combR p n.toNat (ks.take i ++ [k]) (rs.take i ++ [r])).map V.int)
      rw [e]
      exact .inl (.inl hT3)
    · rintro σ H1 ⟨t, v4, v5, rfl, sm, hT⟩
      rw [List.length_map, List.take_length, hl, List.take_length] at hT
      exact ⟨.ref t, rfl, q t H1 sm hT⟩
end

section
variable {P : Program} {w : World} {K : PySem.W.Frag} {mg : Str → Option Value} {base : Heap}
def spPiv (K : PySem.W.Frag) : Sp := fun vs H Q _ => ∃ (a : Addr) (k : Bool) (r : List Int), vs = [.ref a] ∧ SqK K k H a (r.map V.int) ∧ ∀ H', Same H H' → Q (pvV (pivR r)) H'
theorem ok_pivot (T : Tx K mg) : FnOk P w K mg base CX0 1 T.f_pivot T.d_pivot ["row"] (spPiv K) := by
  refine T.F_pivot.ok sc_pivot (fun vs H Q E h => ?_) (fun cdv A outer s H vs Q E hr h => ?_)
  · obtain ⟨a, k, r, rfl, _⟩ := h
    rfl
  · obtain ⟨a, k, r, rfl, hA, q⟩ := h
    refine ⟨_, (pss_cons (ps_for PassesOwn.never rfl (pi_enumM (by rfl) T.z_enumerate (pa_cons (pv 0) pa_nil)) (pg_tup rfl (pgs_cons (pg_name (i := 1) sc_pivot.nd rfl (Or.inl rfl)) (pgs_cons (pg_name (i := 2) sc_pivot.nd rfl (Or.inl rfl)) pgs_nil)))
    (pss_one (ps_if (pt_cmpR op_ne (pv 2) pe_int (nomark _)) (pss_one (ps_ret (pv 1))) pss_nil)))
    (pss_one (ps_ret pe_non))), ?_⟩
    refine ⟨.ref a, rfl, k, a, r.map V.int, rfl, hA, for_enumM (K := K) (k := k) (a := a) (xs := r.map V.int) (fun i σ H' => ∃ v1 v2 : Option V, σ = [some (.ref a), v1, v2] ∧ Same H H' ∧ ∀ j, j < i → (r.getD j 0 != 0) = false) ⟨none, none, rfl, Same.refl H, fun j hj => absurd hj (Nat.not_lt_zero j)⟩ (fun i σ H' ⟨_, _, _, sm, _⟩ => hA.same sm) ?_ ?_⟩
    · rintro i x Z σ H1 hx ⟨v1, v2, rfl, sm, hj⟩ hZ
      obtain ⟨x, rfl, hx'⟩ := ints_at hx
      have sZ : Same H1 (upd H1 Z (.tup [.int (i : Nat), .int x])) := same_new hZ
      refine ⟨Z, [.int (i : Nat), .int x], rfl, .inl (.inl upd_same), rfl, .int (i : Nat), [.int x], rfl, .int x, [], rfl, rfl, ?_⟩
      have gd : r.getD i 0 = x := by rw [List.getD_eq_getElem?_getD, hx']; rfl
      refine ⟨.int x, rfl, rfl, _, rfl, ite2 (fun hb => ?_) (fun hb => ?_)⟩
      · have hne : x ≠ 0 := fun z => by rw [z] at hb; exact absurd hb (by decide)
        have e : pivR r = some i := by
          unfold pivR
          obtain ⟨hi', hxe⟩ := List.getElem?_eq_some_iff.mp hx'
          refine List.findIdx?_eq_some_iff_getElem.mpr ⟨hi', by rw [hxe]; simpa using hne, fun j hji => ?_⟩
          have := hj j hji
          rw [List.getD_eq_getElem?_getD, List.getElem?_eq_getElem (by omega : j < r.length)] at this
          simpa using this
        refine ⟨_, rfl, ?_⟩
        have := q _ (sm.trans sZ)
        rw [e] at this
        exact this
      · refine ⟨_, _, rfl, sm.trans sZ, fun j hji => ?_⟩
        by_cases hji' : j < i
        · exact hj j hji'
        · have : j = i := by omega
          subst this
          rw [gd]
          have hx0 : x = 0 := by
            by_cases hz : x = 0
            · exact hz
            · exfalso
              apply hb
              rw [decide_eq_false (fun z => hz (V.int.inj z))]
              rfl
          rw [hx0]
          rfl
    · rintro σ H1 ⟨v1, v2, rfl, sm, hj⟩
      rw [List.length_map] at hj
      have e : pivR r = none := by
        unfold pivR
        rw [List.findIdx?_eq_none_iff]
        intro x hx
        obtain ⟨i, hi, rfl⟩ := List.getElem_of_mem hx
        have := hj i hi
        rwa [List.getD_eq_getElem?_getD, List.getElem?_eq_getElem hi] at this
      have := q _ sm
      rw [e] at this
      exact this
end

section
variable {P : Program} {w : World} {K : PySem.W.Frag} {mg : Str → Option Value} {base : Heap}
def spPlus (K : PySem.W.Frag) : Sp := fun vs H Q _ => ∃ (a b : Addr) (p t : Int) (r s : List Int), vs = [.int p, .ref a, .int t, .ref b] ∧ 0 < p ∧ -1000000 < t ∧ t < 1000000 ∧ SqT K H a (r.map V.int) ∧ SqT K H b (s.map V.int) ∧ r.length = s.length ∧ r.length ≤ 1000 ∧ NewT H Q (plusR p r t s)
theorem ok_plus (T : Tx K mg) : FnOk P w K mg base CX0 1 T.f_l_plus T.d_l_plus ["_law_p", "_law_one", "_law_times", "_law_other"] (spPlus K) := by
  refine T.F_l_plus.ok sc_l_plus (fun vs H Q E h => ?_) (fun cdv A outer s H vs Q E hr h => ?_)
  · obtain ⟨a, b, p, t, r, s, rfl, _⟩ := h
    rfl
  · obtain ⟨a, b, p, t, r, s, rfl, p0, t0, t1, hA, hB, hl, hz, q⟩ := h
    refine ⟨_, (pss_one (ps_ret (pe_callTy call_tuple_of (by rfl) T.z_tuple (by decide +kernel) (pa_cons (pe_lc (own := [("_law_k", 4)]) (g := gName 4) rfl sc_l_plus.nd (pi_range1 rfl T.z_range (pa_cons (pe_callB call_len_seq (by rfl) T.z_len PySem.boot_len (pa_cons (pv 1) pa_nil)) pa_nil)) (blkOk_by (own := [("_law_k", 4)]) (N := ["_law_p", "_law_one", "_law_times", "_law_other", "_law_k"]) (sc := defScope s_l_plus) (by decide +kernel)) (fun _ _ _ _ _ => (pg_name (i := 4) sc_l_plus.nd rfl (Or.inl rfl))) (fun _ _ _ _ _ => pts_nil) (fun _ _ _ _ _ => (pe_op op_mod (pe_callTy call_int1 (by rfl) T.z_int (by decide +kernel) (pa_cons (pe_op op_add (pe_ix (show IxR _ (rIxT K) from ix_tup) (pv 1) (pv 4) (fun _ _ => rfl)) (pe_op op_mul (pv 2) (pe_ix (show IxR _ (rIxT K) from ix_tup) (pv 3) (pv 4) (fun _ _ => rfl)))) pa_nil)) (pv 0)))) pa_nil)))), ?_⟩
    refine ⟨.ref a, rfl, a, _, rfl, .inr hA, r.length, by rw [List.length_map], by omega, by omega, fun D hD => ?_⟩
    refine lc_range (lo := 0) (n := (r.length : Int).toNat) (fun i H' => (∀ b o, H b = some o → H' b = some o) ∧ H' D = some (.lst (((plusR p r t s).take i).map V.int))) ⟨same_new hD, upd_same⟩ ?_ ?_
    · rintro i H1 hi ⟨sm, hL⟩
      have hi' : i < r.length := by omega
      have hx : r[i]? = some r[i] := List.getElem?_eq_getElem hi'
      have hy : s[i]? = some (s[i]'(hl ▸ hi')) := List.getElem?_eq_getElem (hl ▸ hi')
      have gx : atI (r.map V.int) (0 + (i : Int)) = some (.int r[i]) := by
        rw [Int.zero_add]
        exact atI_nat (by rw [List.getElem?_map, hx]; rfl)
      have gy : atI (s.map V.int) (0 + (i : Int)) = some (.int (s[i]'(hl ▸ hi'))) := by
        rw [Int.zero_add]
        exact atI_nat (by rw [List.getElem?_map, hy]; rfl)
      refine ⟨rfl, tyes ?_⟩
      refine ⟨.ref a, rfl, .int (0 + (i : Int)), rfl, a, _, _, _, rfl, rfl, sameT sm hA, gx, .int t, rfl, .ref b, rfl, .int (0 + (i : Int)), rfl, b, _, _, _, rfl, rfl, sameT sm hB, gy, t, _, rfl, rfl, .inl ⟨by omega, by omega⟩, _, _, rfl, rfl, .inl ⟨_, rfl, .int p, rfl, _, p, rfl, rfl, p0, _, hL, ?_, fun c o e => ?_, ?_⟩⟩
      · rw [List.length_map, List.length_take]
        exact Nat.lt_of_le_of_lt (Nat.min_le_left _ _) (small1000 (by omega))
      · rw [upd_ne (ne_of_none e hD)]
        exact sm _ _ e
      · have ge : (plusR p r t s)[i]? = some ((r[i] + t * s[i]'(hl ▸ hi')) % p) := get_zw hx hy
        rw [upd_same, List.take_add_one, ge, List.map_append]
        rfl
    · rintro H1 ⟨sm, hL⟩
      rw [List.take_of_length_le (by rw [show (plusR p r t s).length = r.length from len_zw rfl hl.symm]; omega)] at hL
      refine ⟨D, _, rfl, .inl ⟨.inl (.inl hL), fun u hu => ?_⟩⟩
      exact q u _ (Same.trans sm (same_new hu)) (Same.free sm hu) upd_same
theorem dp_intl {K : PySem.W.Frag} {H : Hp} {t : Addr} {r : List Int} (h : SqL K H t (r.map V.int)) : Dp K H (.ref t) (.list (r.map .int)) := .lst h (dp_ints r)
theorem shp_intl (r : List Int) : SeqAt.shaped (.list (r.map .int)) = true := by
  have h := shp_row r
  unfold SeqAt.shaped dR at *
  simpa [PyData.canLay0, PyData.depth] using h
theorem eqv_nil (ds : List PyData) : PyData.eqv (.list ds) (.list []) = ds.isEmpty := by
  cases ds <;> simp [PyData.eqv, PyData.eqvAll]
def spLPiv (K : PySem.W.Frag) : Sp := fun vs H Q _ => ∃ (a : Addr) (r : List Int), vs = [.ref a] ∧ SqT K H a (r.map V.int) ∧ r.length ≤ 1000 ∧ ∀ H', Same H H' → Q (pvV (pivR r)) H'
theorem ok_lpivot (T : Tx K mg) : FnOk P w K mg base CX0 1 T.f_l_pivot T.d_l_pivot ["_law_row_here"] (spLPiv K) := by
  refine T.F_l_pivot.ok sc_l_pivot (fun vs H Q E h => ?_) (fun cdv A outer s H vs Q E hr h => ?_)
  · obtain ⟨a, r, rfl, _⟩ := h
    rfl
  · obtain ⟨a, r, rfl, hA, hz, q⟩ := h
    refine ⟨_, (pss_cons (ps_setLc (i := 1) (own := [("_law_k", 2)]) (g := gName 2) rfl sc_l_pivot.nd rfl rfl (sw_true rfl rfl rfl (by decide +kernel)) (pi_range1 rfl T.z_range (pa_cons (pe_callB call_len_seq (by rfl) T.z_len PySem.boot_len (pa_cons (pv 0) pa_nil)) pa_nil)) (blkOk_by (own := [("_law_k", 2)]) (N := ["_law_row_here", "_law_found", "_law_k"]) (sc := defScope s_l_pivot) (by decide +kernel)) (fun _ _ _ _ _ => (pg_name (i := 2) sc_l_pivot.nd rfl (Or.inl rfl))) (fun _ _ _ _ _ => (pts_one (pt_cmpR op_ne (pe_ix (show IxR _ (rIxT K) from ix_tup) (pv 0) (pv 2) (fun _ _ => rfl)) pe_int (nomark _)))) (fun _ _ _ _ _ => (pv 2)))
    (pss_one (ps_ret (pe_ifExp (pt_cmpR (op_neD hr.units) (pv 1) (pe_lst pa_nil) (nomark _)) (pe_ix ix_list (pv 1) pe_int (fun _ _ => rfl)) pe_non)))), ?_⟩
    refine ⟨.ref a, rfl, a, _, rfl, .inr hA, r.length, by rw [List.length_map], by omega, by omega, fun D hD => ?_⟩
    refine lc_range (lo := 0) (n := (r.length : Int).toNat) (fun i H' => (∀ b o, H b = some o → H' b = some o) ∧ H' D = some (.lst ((ents r i).map V.int))) ⟨same_new hD, upd_same⟩ ?_ ?_
    · rintro i H1 hi ⟨sm, hL⟩
      have hi' : i < r.length := by omega
      have hx : r[i]? = some r[i] := List.getElem?_eq_getElem hi'
      have gx : atI (r.map V.int) (0 + (i : Int)) = some (.int r[i]) := by
        rw [Int.zero_add]
        exact atI_nat (by rw [List.getElem?_map, hx]; rfl)
      have gd : r.getD i 0 = r[i] := by rw [List.getD_eq_getElem?_getD, hx]; rfl
      have es : ents r (i + 1) = ents r i ++ (if (r[i] != 0) = true then [(i : Int)] else []) := by
        unfold ents
        rw [List.range_succ, List.filter_append, List.map_append, List.filter_cons, List.filter_nil, gd]
        split <;> rfl
      refine ⟨rfl, .ref a, rfl, .int (0 + (i : Int)), rfl, a, _, _, _, rfl, rfl, sameT sm hA, gx, rfl, _, rfl, ?_⟩
      have eb : (!decide (V.int r[i] = V.int 0)) = (r[i] != 0) := by
        rw [dec_int]
        rfl
      show (if (!decide (V.int r[i] = V.int 0)) = true then _ else _)
      rw [eb]
      refine ite2 (fun hb => ?_) (fun hb => ?_)
      · refine ⟨_, rfl, _, hL, ?_, fun c o e => ?_, ?_⟩
        · rw [List.length_map]
          have : (ents r i).length ≤ i := by
            unfold ents
            rw [List.length_map]
            exact Nat.le_trans (List.length_filter_le _ _) (by simp)
          exact small1000 (by omega)
        · rw [upd_ne (ne_of_none e hD)]
          exact sm _ _ e
        · rw [upd_same, es, if_pos hb, List.map_append, Int.zero_add]
          rfl
      · refine ⟨sm, ?_⟩
        rw [hL, es, if_neg hb, List.append_nil]
    · rintro H1 ⟨sm, hL⟩
      have el : (r.length : Int).toNat = r.length := by omega
      rw [el] at hL
      refine ⟨.ref D, rfl, Nat.zero_le _, fun e he => ?_⟩
      have sE : Same H1 (upd H1 e (.lst [])) := same_new he
      refine ⟨.list ((ents r r.length).map .int), .list [], dp_intl (.inl (.inl (sE _ _ hL))), .lst (.inl (.inl upd_same)) .nil, shp_intl _, by decide +kernel, _, rfl, ?_⟩
      rw [eqv_nil]
      cases hp : pivR r with
      | none =>
        rw [piv_none hp]
        refine iteF ?_
        have := q _ (Same.trans sm sE)
        rw [hp] at this
        exact this
      | some k =>
        obtain ⟨l, hl⟩ := piv_some hp
        rw [hl] at hL ⊢
        refine iteT ?_
        refine ⟨.ref D, rfl, D, _, 0, .int (k : Int), rfl, rfl, .inl (.inl (sE _ _ hL)), atI_nat (j := 0) rfl, ?_⟩
        have := q _ (Same.trans sm sE)
        rw [hp] at this
        exact this
/-- drawn rows, at l -/
structure RowsAt (K : PySem.W.Frag) (H : Hp) (l : Addr) (p : Int) (n : Nat) (rs : List (List Int)) : Prop where
  ex : ∃ ts, H l = some (.lst ts) ∧ Rows K H ts rs
  row : ∀ r ∈ rs, IsRow p n r
theorem RowsAt.mono {K : PySem.W.Frag} {H H' : Hp} {l : Addr} {p : Int} {n : Nat} {rs : List (List Int)} (h : RowsAt K H l p n rs) (e : Same H H') : RowsAt K H' l p n rs := by
  obtain ⟨⟨ts, h1, h2⟩, h3⟩ := h
  exact ⟨⟨ts, e _ _ h1, h2.mono e⟩, h3⟩
theorem rows_mem {K : PySem.W.Frag} {H : Hp} {ts : List V} {rs : List (List Int)} {x : V} (h : Rows K H ts rs) (hx : x ∈ ts) : ∃ t r, x = .ref t ∧ r ∈ rs ∧ SqT K H t (r.map V.int) := by
  obtain ⟨i, hi, e⟩ := List.getElem_of_mem hx
  obtain ⟨t, r, h1, h2, h3⟩ := h.get (i := i) (x := x) (by rw [List.getElem?_eq_getElem hi, e])
  exact ⟨t, r, h1, List.mem_of_getElem? h2, h3⟩
def spRows (K : PySem.W.Frag) (C : Addr) : Sp := fun vs H Q _ => ∃ (G : Hp) (d c a g : Addr) (p n m : Int), vs = [.ref d, .ref a, .int m] ∧ Kn G H d c ∧ Gr C G a g p n ∧ 0 ≤ n ∧ n ≤ 1000 ∧ 0 ≤ m ∧ m ≤ 1000 ∧
  ∀ (l : Addr) (rs : List (List Int)) (G' H' : Hp), Same G G' → Kn G' H' d c → G l = none → RowsAt K G' l p n.toNat rs → rs.length = m.toNat → Q (.ref l) H'
theorem dp_rowl {K : PySem.W.Frag} {H : Hp} {l : Addr} {ts : List V} {rs : List (List Int)} (h : SqL K H l ts) (hR : Rows K H ts rs) : Dp K H (.ref l) (dRs rs) := .lst h (dp_rows hR)
theorem ok_rows (T : Tx K mg) : FnOk P w K mg base CX0 3 T.f_l_rows T.d_l_rows ["_law_source_here", "_law_ground", "_law_many"] (spRows K T.C_Ground) := by
  have G_l_pick := ok_pick (P := P) (w := w) (base := base) T
  have G_l_of := ok_of (P := P) (w := w) (base := base) T
  have G_l_row := ok_row (P := P) (w := w) (base := base) T
  have G_l_plus := ok_plus (P := P) (w := w) (base := base) T
  refine T.F_l_rows.ok sc_l_rows (fun vs H Q E h => ?_) (fun cdv A outer s H vs Q E hr h => ?_)
  · obtain ⟨G, d, c, a, g, p, n, m, rfl, _⟩ := h
    rfl
  · obtain ⟨G, d, c, a, g, p, n, m, rfl, k, gr, n0, n1, m0, m1, q⟩ := h
    have hu := hu_of hr
    refine ⟨_, (pss_cons (ps_par (i := 3) (j := 4) (by rfl) sc_l_rows.nd rfl rfl (by decide) rfl rfl (pa_cons (pe_lst pa_nil) (pa_cons (pe_dget hu (pv 1) pe_str (fun _ _ => rfl)) pa_nil)) (by rfl))
    (pss_cons (ps_for PassesOwn.never rfl (pi_range1 rfl T.z_range (pa_cons (pv 2) pa_nil)) (pg_name (i := 5) sc_l_rows.nd rfl (Or.inl rfl))
    (pss_cons (ps_set (i := 6) sc_l_rows.nd rfl (Or.inl rfl) (pe_call G_l_row (hr.mono (by decide)) (by rfl) T.g_l_row T.F_l_row.kp T.b_l_row .nil pass0 (pa_cons (pv 0) (pa_cons (pv 1) pa_nil))))
    (pss_cons (ps_set (i := 7) sc_l_rows.nd rfl (Or.inl rfl) (pe_ifExp (pt_cmpR (op_neD hr.units) (pv 3) (pe_lst pa_nil) (nomark _)) (pe_call G_l_pick (hr.mono (by decide)) (by rfl) T.g_l_pick T.F_l_pick.kp T.b_l_pick .nil pass0 (pa_cons (pv 0) (pa_cons pe_int pa_nil))) pe_int))
    (pss_cons (ps_if (pt_cmpR op_eq (pv 7) pe_int (nomark _)) (pss_one (ps_set (i := 6) sc_l_rows.nd rfl (Or.inl rfl) (pe_call G_l_plus (hr.mono (by decide)) (by rfl) T.g_l_plus T.F_l_plus.kp T.b_l_plus .nil pass0 (pa_cons (pv 4) (pa_cons (pe_call G_l_of (hr.mono (by decide)) (by rfl) T.g_l_of T.F_l_of.kp T.b_l_of .nil pass0 (pa_cons (pv 0) (pa_cons (pv 3) pa_nil))) (pa_cons (pe_call G_l_pick (hr.mono (by decide)) (by rfl) T.g_l_pick T.F_l_pick.kp T.b_l_pick .nil pass0 (pa_cons (pv 0) (pa_cons (pv 4) pa_nil))) (pa_cons (pe_call G_l_of (hr.mono (by decide)) (by rfl) T.g_l_of T.F_l_of.kp T.b_l_of .nil pass0 (pa_cons (pv 0) (pa_cons (pv 3) pa_nil))) pa_nil))))))) pss_nil)
    (pss_cons (ps_if (PW.pt (pw_and (pt_cmpR op_eq (pv 7) pe_int (nomark _)) (pw_and1 (pt_cmpR op_eq (pe_call G_l_pick (hr.mono (by decide)) (by rfl) T.g_l_pick T.F_l_pick.kp T.b_l_pick .nil pass0 (pa_cons (pv 0) (pa_cons pe_int pa_nil))) pe_int (nomark _))))) (pss_one (ps_set (i := 6) sc_l_rows.nd rfl (Or.inl rfl) (pe_op op_rep1 (pe_tup (pa_cons pe_int pa_nil)) (pe_dget hu (pv 1) pe_str (fun _ _ => rfl))))) pss_nil)
    (pss_one (ps_expr (pe_bm PySem.F.plainAttrs_list PySem.F.slot_list_append PySem.F.type_list_append mt_append (pv 3) (pa_cons (pv 6) pa_nil)))))))))
    (pss_one (ps_ret (pv 3))))), ?_⟩
    obtain ⟨nn, rfl⟩ : ∃ nn : Nat, n = (nn : Int) := ⟨n.toNat, by omega⟩
    have tn : (nn : Int).toNat = nn := by omega
    have plo := gr.ip.lo
    have phi := gr.ip.hi
    have p0 : 0 < p := by omega
    -- rows, p = [], ground["p"]
    refine ⟨Nat.zero_le _, fun L hL => ?_⟩
    have k1 : Kn (upd G L (.lst [])) (upd H L (.lst [])) d c := k.new hL
    have gL : G L = none := k.free hL
    have s1 : Same G (upd G L (.lst [])) := same_new gL
    have dkH := k1.le _ _ (gr.mono s1).dk
    refine ⟨.ref a, rfl, a, _, rfl, gr_p dkH, _, _, rfl, ?_⟩
    refine ⟨.int m, rfl, m, rfl, by omega, by omega, for_range (lo := 0) (n := m.toNat) (fun i σ H' => ∃ (v5 v6 v7 : Option V) (G1 : Hp) (ts : List V) (rs : List (List Int)), σ = [some (.ref d), some (.ref a), some (.int m), some (.ref L), some (.int p), v5, v6, v7] ∧ Same G G1 ∧ Kn G1 H' d c ∧ G1 L = some (.lst ts) ∧ Rows K G1 ts rs ∧ (∀ r ∈ rs, IsRow p nn r) ∧ rs.length = i) ⟨none, none, none, _, [], [], rfl, s1, k1, upd_same, .nil, (fun r h => nomatch h), rfl⟩ ?_ ?_⟩
    · rintro i σ H1 hi ⟨v5, v6, v7, G1, ts, rs, rfl, sG, k2, hLt, hR, hrow, hlen⟩
      have gr1 := gr.mono sG
      -- row = _law_row(source, ground)
      refine ⟨.ref d, rfl, .ref a, rfl, G1, d, c, a, g, p, nn, rfl, k2, gr1, n0, n1, fun t r G2 H2 s2 k3 hT hrl hr2 => ?_⟩
      have hL2 := s2 _ _ hLt
      have hR2 := hR.mono s2
      have gr2 := gr1.mono s2
      have isr : IsRow p nn r := ⟨by omega, hr2⟩
      have hlts : ts.length = i := by rw [hR.len]; exact hlen
      -- the rest of a turn: a row at t is put to the list
      have fin : ∀ (t : Addr) (r : List Int) (G3 H3 : Hp), Same G2 G3 → Kn G3 H3 d c → SqT K G3 t (r.map V.int) → IsRow p nn r → ∀ (v5 v7 : Option V),
          ∃ (v5' v6' v7' : Option V) (G1 : Hp) (ts' : List V) (rs' : List (List Int)), [some (V.ref d), some (.ref a), some (.int m), some (.ref L), some (.int p), v5, some (.ref t), v7] = [some (.ref d), some (.ref a), some (.int m), some (.ref L), some (.int p), v5', v6', v7'] ∧ Same G G1 ∧ Kn G1 (upd H3 L (.lst (ts ++ [.ref t]))) d c ∧ G1 L = some (.lst ts') ∧ Rows K G1 ts' rs' ∧ (∀ r ∈ rs', IsRow p nn r) ∧ rs'.length = i + 1 := by
        intro t r G3 H3 s3 k4 hT3 isr3 v5 v7
        have hL3 := s3 _ _ hL2
        refine ⟨v5, _, v7, upd G3 L (.lst (ts ++ [.ref t])), ts ++ [.ref t], rs ++ [r], rfl, fun b o e => ?_, k4.put hL3, upd_same, (rows_off hL3 (hR2.mono s3)).append (.one (sqt_off hL3 hT3)), fun r' hr' => ?_, by rw [List.length_append, hlen]; rfl⟩
        · rw [upd_ne (ne_of_none e gL)]
          exact s3 _ _ (s2 _ _ (sG _ _ e))
        · rcases List.mem_append.mp hr' with z | z
          · exact hrow _ z
          · rw [List.mem_singleton] at z
            subst z
            exact isr3
      -- way = _law_pick(source, 5) if rows != [] else 1
      refine ⟨.ref L, rfl, Nat.zero_le _, fun e he => ?_⟩
      have sE : Same H2 (upd H2 e (.lst [])) := same_new he
      have k3E := k3.mono sE
      refine ⟨dRs rs, .list [], dp_rowl (.inl (.inl (k3E.le _ _ hL2))) (hR2.mono k3E.le), .lst (.inl (.inl upd_same)) .nil, shp_rows rs, by decide +kernel, _, rfl, ?_⟩
      rw [show PyData.eqv (dRs rs) (.list []) = (rs.map dR).isEmpty from eqv_nil _]
      refine ifx (fun v H3 => ∃ z : Int, v = .int z ∧ Kn G2 H3 d c ∧ (z = 0 → rs ≠ [])) ?_ (fun hc Y hY => ?_) (fun hc Y hY => ?_)
      rotate_left
      · refine ⟨.ref d, rfl, G2, d, c, 5, rfl, k3E, by decide, fun z H3 k4 _ _ => hY _ _ ⟨z, rfl, k4, fun _ e => ?_⟩⟩
        rw [e] at hc
        exact absurd hc (by decide)
      · exact hY _ _ ⟨1, rfl, k3E, fun z => absurd z (by decide)⟩
      rintro v H3 ⟨z, rfl, k4, hz⟩
      -- if way == 0
      refine ⟨.int z, rfl, rfl, _, rfl, ?_⟩
      refine ifs (fun σ' H4 => ∃ (t : Addr) (r : List Int) (G4 : Hp), σ' = [some (.ref d), some (.ref a), some (.int m), some (.ref L), some (.int p), some (.int (0 + (i : Int))), some (.ref t), some (.int z)] ∧ Same G2 G4 ∧ Kn G4 H4 d c ∧ SqT K G4 t (r.map V.int) ∧ IsRow p nn r) ?_ (fun hc N hN => ?_) (fun hc N hN => ?_)
      rotate_left
      · have hz0 : z = 0 := V.int.inj (of_decide_eq_true hc)
        have hne : rs ≠ [] := hz hz0
        have htl : 0 < ts.length := by
          rw [hR.len]
          exact List.length_pos_iff.mpr hne
        have lts : ts.length ≤ 100000 := by rw [hlts]; omega
        refine ⟨.int p, rfl, .ref d, rfl, .ref L, rfl, G2, d, c, L, ts, rfl, k4, .inl (.inl hL2), htl, lts, fun x H4 k5 hx => ?_⟩
        obtain ⟨t1, r1, rfl, hr1, hT1⟩ := rows_mem hR2 hx
        refine ⟨.ref d, rfl, .int p, rfl, G2, d, c, p, rfl, k5, by omega, fun y H5 k6 y0 y1 => ?_⟩
        refine ⟨.ref d, rfl, .ref L, rfl, G2, d, c, L, ts, rfl, k6, .inl (.inl hL2), htl, lts, fun x' H6 k7 hx' => ?_⟩
        obtain ⟨t2, r2, rfl, hr2', hT2⟩ := rows_mem hR2 hx'
        have i1 := hrow _ hr1
        have i2 := hrow _ hr2'
        refine ⟨t1, t2, p, y, r1, r2, rfl, p0, by omega, by omega, sameT k7.le hT1, sameT k7.le hT2, by rw [i1.1, i2.1], by rw [i1.1]; omega, fun t3 H7 s7 t30 ht3 => ?_⟩
        refine hN _ _ ⟨t3, plusR p r1 y r2, upd G2 t3 (.tup ((plusR p r1 y r2).map V.int)), rfl, same_new (k7.free t30), k7.add s7 t30 ht3, .inl (.inl upd_same), row_plus p0 i1.1 i2.1⟩
      · exact hN _ _ ⟨t, r, G2, rfl, Same.refl _, k4, .inl (.inl hT), isr⟩
      rintro σ' H4 ⟨t4, r4, G4, rfl, s4, k5, hT4, isr4⟩
      -- if way == 2 and _law_pick(source, 2) == 0
      refine ⟨.int z, rfl, rfl, _, rfl, ?_⟩
      refine ift (fun b' H' => Kn G4 H' d c) k5 ?_ (fun Y hY => ?_)
      rotate_left
      · refine ⟨.ref d, rfl, G4, d, c, 2, rfl, k5, by decide, fun y H5 k6 _ _ => ⟨rfl, _, rfl, hY _ _ k6⟩⟩
      intro b' H5 k6
      refine ifs (fun σ' H6 => ∃ (t : Addr) (r : List Int) (G6 : Hp), σ' = [some (.ref d), some (.ref a), some (.int m), some (.ref L), some (.int p), some (.int (0 + (i : Int))), some (.ref t), some (.int z)] ∧ Same G2 G6 ∧ Kn G6 H6 d c ∧ SqT K G6 t (r.map V.int) ∧ IsRow p nn r) ?_ (fun hc N hN => ?_) (fun hc N hN => ?_)
      rotate_left
      · refine ⟨(by show 1 ≤ sizeLine; decide), fun u hu5 => ?_⟩
        have su : Same H5 (upd H5 u (.tup [.int 0])) := same_new hu5
        have k7 := k6.mono su
        have gr4 := gr2.mono s4
        refine ⟨.ref a, rfl, a, _, rfl, gr_n (k7.le _ _ gr4.dk), u, nn, .int 0, rfl, rfl, .inl (.inl upd_same), n0, n1, fun t6 H6 s6 ht6 => ?_⟩
        rw [tn] at ht6
        have k8 := k7.mono s6
        have er : (List.replicate nn (V.int 0)) = (zeroR nn).map V.int := by rw [zeroR, List.map_replicate]
        rw [er] at ht6
        exact hN _ _ ⟨t6, zeroR nn, _, rfl, s4.trans (know_le k8), know k8, know_t k8 ht6, row_zero p0 nn⟩
      · exact hN _ _ ⟨t4, r4, G4, rfl, s4, k6, hT4, isr4⟩
      rintro σ' H6 ⟨t6, r6, G6, rfl, s6, k7, hT6, isr6⟩
      -- rows.append(row)
      have hL6 := k7.le _ _ (s6 _ _ hL2)
      refine ⟨.ref L, rfl, .inl ⟨rfl, _, .inl (.inl hL6)⟩, .ref t6, rfl, L, ts, _, rfl, rfl, hL6, by rw [hlts]; exact small1000 (by omega), ?_⟩
      exact fin t6 r6 G6 H6 s6 k7 hT6 isr6 _ _
    · rintro σ H1 ⟨v5, v6, v7, G1, ts, rs, rfl, sG, k2, hLt, hR, hrow, hlen⟩
      exact ⟨.ref L, rfl, q L rs G1 H1 sG k2 gL ⟨⟨ts, hLt, hR⟩, by rw [tn]; exact hrow⟩ hlen⟩
end

section
variable {P : Program} {w : World} {K : PySem.W.Frag} {mg : Str → Option Value} {base : Heap}
/-- a list, or a tuple of the same -/
def spGiven (K : PySem.W.Frag) : Sp := fun vs H Q _ => ∃ (G : Hp) (d c a : Addr) (xs : List V), vs = [.ref d, .ref a] ∧ Kn G H d c ∧ SqL K G a xs ∧ ∀ (b : Addr) (k : Bool) (G' H' : Hp), Same G G' → Kn G' H' d c → SqK K k G' b xs → Q (.ref b) H'
theorem ok_given (T : Tx K mg) : FnOk P w K mg base CX0 2 T.f_l_given T.d_l_given ["_law_source_here", "_law_rows_here"] (spGiven K) := by
  have G_l_pick := ok_pick (P := P) (w := w) (base := base) T
  refine T.F_l_given.ok sc_l_given (fun vs H Q E h => ?_) (fun cdv A outer s H vs Q E hr h => ?_)
  · obtain ⟨G, d, c, a, xs, rfl, _⟩ := h
    rfl
  · obtain ⟨G, d, c, a, xs, rfl, k, hS, q⟩ := h
    refine ⟨_, (pss_one (ps_ret (pe_ifExp (pt_cmpR op_eq (pe_call G_l_pick (hr.mono (by decide)) (by rfl) T.g_l_pick T.F_l_pick.kp T.b_l_pick .nil pass0 (pa_cons (pv 0) (pa_cons pe_int pa_nil))) pe_int (nomark _)) (pv 1) (pe_callTy call_tuple_of (by rfl) T.z_tuple (by decide +kernel) (pa_cons (pv 1) pa_nil))))), ?_⟩
    refine ⟨.ref d, rfl, G, d, c, 2, rfl, k, by decide, fun z H1 k1 _ _ => ⟨rfl, _, rfl, ite2 (fun _ => ?_) (fun _ => ?_)⟩⟩
    · exact ⟨.ref a, rfl, q a true G H1 (Same.refl _) k1 hS⟩
    · refine ⟨.ref a, rfl, a, xs, rfl, .inl ⟨k1.le.seq hS, fun b hb => ?_⟩⟩
      exact q b false (upd G b (.tup xs)) _ (same_new (k1.free hb)) (k1.new hb) (.inl (.inl upd_same))
end

section
variable {P : Program} {w : World} {K : PySem.W.Frag} {mg : Str → Option Value} {base : Heap}
def spLaw (K : PySem.W.Frag) : Sp := fun vs H Q _ => ∃ (a : Addr) (ns : List Int), vs = [.ref a] ∧ SqL K H a (ns.map V.int) ∧ ns.length ≤ 63 ∧ ∀ H', Q (.bl true) H'
theorem piv_zero (n : Nat) : pivR (zeroR n) = none := by
  unfold pivR
  rw [List.findIdx?_eq_none_iff]
  intro x hx
  rw [List.eq_of_mem_replicate hx]
  rfl
theorem ok_law (T : Tx K mg) : FnG P w K mg base CX0 7 T.f_law T.d_law ["_law_script"] (spLaw K) := by
  have G_l_source := ok_source (P := P) (w := w) (base := base) T
  have G_l_wide := ok_wide (P := P) (w := w) (base := base) T
  have G_l_row := ok_row (P := P) (w := w) (base := base) T
  have G_l_pick := ok_pick (P := P) (w := w) (base := base) T
  have G_l_of := ok_of (P := P) (w := w) (base := base) T
  have G_l_plus := ok_plus (P := P) (w := w) (base := base) T
  have G_l_pivot := ok_lpivot (P := P) (w := w) (base := base) T
  have G_l_rows := ok_rows (P := P) (w := w) (base := base) T
  have G_l_given := ok_given (P := P) (w := w) (base := base) T
  have G_added := ok_added (P := P) (w := w) (base := base) T
  have G_subtracted := ok_subtracted (P := P) (w := w) (base := base) T
  have G_scaled := ok_scaled (P := P) (w := w) (base := base) T
  have G_dot := ok_dot (P := P) (w := w) (base := base) T
  have G_combined := ok_combined (P := P) (w := w) (base := base) T
  have G_pivot := ok_pivot (P := P) (w := w) (base := base) T
  refine okG_nox T.F_law sc_law (fun vs H Q E h => ?_) (fun cdv A outer s H vs Q E hgd hr h => ?_)
  · obtain ⟨a, ns, rfl, _⟩ := h
    rfl
  · obtain ⟨a, ns, rfl, hS, hlen, q⟩ := h
    have hu := hu_of hr
    have hu66 : (A.deeper (PyProof.Rows.envOfC "law" (defScope s_law) s.heap.objs.size T.f_law cdv)).units + 66 < cLine := by have := hr.un; omega
    refine ⟨_, (pss_cons (ps_set (i := 1) sc_law.nd rfl (Or.inr rfl) (pe_call G_l_source (hr.mono (by decide)) (by rfl) T.g_l_source T.F_l_source.kp T.b_l_source .nil pass0 (pa_cons (pv 0) pa_nil)))
    (pss_cons (ps_for PassesOwn.never rfl (pi_range1 rfl T.z_range (pa_cons pe_int pa_nil)) (pg_name (i := 2) sc_law.nd rfl (Or.inl rfl))
    (pss_cons (ps_set (i := 3) sc_law.nd rfl (Or.inl rfl) (pe_call G_l_wide (hr.mono (by decide)) (by rfl) T.g_l_wide T.F_l_wide.kp T.b_l_wide .nil pass0 (pa_cons (pv 1) (pa_cons pe_int (pa_cons pe_int pa_nil)))))
    (pss_cons (ps_asg (pe_tup (pa_cons (pe_dget hu (pv 3) pe_str (fun _ _ => rfl)) (pa_cons (pe_dget hu (pv 3) pe_str (fun _ _ => rfl)) (pa_cons (pe_dget hu (pv 3) pe_str (fun _ _ => rfl)) pa_nil)))) (pg_tup rfl (pgs_cons (pg_name (i := 4) sc_law.nd rfl (Or.inl rfl)) (pgs_cons (pg_name (i := 5) sc_law.nd rfl (Or.inr rfl)) (pgs_cons (pg_name (i := 6) sc_law.nd rfl (Or.inl rfl)) pgs_nil)))))
    (pss_cons (ps_asg (pe_tup (pa_cons (pe_call G_l_row (hr.mono (by decide)) (by rfl) T.g_l_row T.F_l_row.kp T.b_l_row .nil pass0 (pa_cons (pv 1) (pa_cons (pv 3) pa_nil))) (pa_cons (pe_call G_l_row (hr.mono (by decide)) (by rfl) T.g_l_row T.F_l_row.kp T.b_l_row .nil pass0 (pa_cons (pv 1) (pa_cons (pv 3) pa_nil))) (pa_cons (pe_call G_l_pick (hr.mono (by decide)) (by rfl) T.g_l_pick T.F_l_pick.kp T.b_l_pick .nil pass0 (pa_cons (pv 1) (pa_cons (pv 5) pa_nil))) pa_nil)))) (pg_tup rfl (pgs_cons (pg_name (i := 7) sc_law.nd rfl (Or.inr rfl)) (pgs_cons (pg_name (i := 8) sc_law.nd rfl (Or.inr rfl)) (pgs_cons (pg_name (i := 9) sc_law.nd rfl (Or.inl rfl)) pgs_nil)))))
    (pss_cons (ps_if (PW.pt (pw_or (pt_cmpR (op_neD hr.units) (pe_call G_added (hr.mono (by decide)) (by rfl) T.g_added T.F_added.kp T.b_added .nil pass0 (pa_cons (pv 4) (pa_cons (pv 7) (pa_cons (pv 8) pa_nil)))) (pe_call G_l_plus (hr.mono (by decide)) (by rfl) T.g_l_plus T.F_l_plus.kp T.b_l_plus .nil pass0 (pa_cons (pv 5) (pa_cons (pv 7) (pa_cons pe_int (pa_cons (pv 8) pa_nil))))) (nomark _)) (pw_or1 (pt_cmpR (op_neD hr.units) (pe_call G_subtracted (hr.mono (by decide)) (by rfl) T.g_subtracted T.F_subtracted.kp T.b_subtracted .nil pass0 (pa_cons (pv 4) (pa_cons (pv 7) (pa_cons (pv 8) pa_nil)))) (pe_call G_l_plus (hr.mono (by decide)) (by rfl) T.g_l_plus T.F_l_plus.kp T.b_l_plus .nil pass0 (pa_cons (pv 5) (pa_cons (pv 7) (pa_cons (pe_op op_sub (pv 5) pe_int) (pa_cons (pv 8) pa_nil))))) (nomark _))))) (pss_one (ps_ret pe_bl)) pss_nil)
    (pss_cons (ps_if (pt_cmpR (op_neD hr.units) (pe_call G_scaled (hr.mono (by decide)) (by rfl) T.g_scaled T.F_scaled.kp T.b_scaled .nil pass0 (pa_cons (pv 4) (pa_cons (pv 9) (pa_cons (pv 7) pa_nil)))) (pe_call G_l_plus (hr.mono (by decide)) (by rfl) T.g_l_plus T.F_l_plus.kp T.b_l_plus .nil pass0 (pa_cons (pv 5) (pa_cons (pe_op op_rep1 (pe_tup (pa_cons pe_int pa_nil)) (pv 6)) (pa_cons (pv 9) (pa_cons (pv 7) pa_nil))))) (nomark _)) (pss_one (ps_ret pe_bl)) pss_nil)
    (pss_cons (ps_if (PW.pt (pw_or (pt_cmpR op_ne (pe_call G_dot (hr.mono (by decide)) (by rfl) T.g_dot T.F_dot.kp T.b_dot .nil pass0 (pa_cons (pv 4) (pa_cons (pv 7) (pa_cons (pv 8) pa_nil)))) (pe_op op_mod (pe_callTy call_int1 (by rfl) T.z_int (by decide +kernel) (pa_cons (pe_callB (cr_sum rfl) (by rfl) T.z_sum (by decide +kernel) (pa_cons (pe_lc (own := [("_law_k", 10)]) (g := gName 10) rfl sc_law.nd (pi_range1 rfl T.z_range (pa_cons (pv 6) pa_nil)) (blkOk_by (own := [("_law_k", 10)]) (N := ["_law_script", "_law_source_here", "_law_lap", "_law_ground", "_law_made", "_law_p", "_law_n", "_law_one", "_law_other", "_law_number", "_law_k", "_law_rows_here", "_law_due", "_law_numbers", "_law_row_here", "_law_kept"]) (sc := defScope s_law) (by decide +kernel)) (fun _ _ _ _ _ => (pg_name (i := 10) sc_law.nd rfl (Or.inl rfl))) (fun _ _ _ _ _ => pts_nil) (fun _ _ _ _ _ => (pe_op op_mul (pe_ix (show IxR _ (rIxT K) from ix_tup) (pv 7) (pv 10) (fun _ _ => rfl)) (pe_ix (show IxR _ (rIxT K) from ix_tup) (pv 8) (pv 10) (fun _ _ => rfl))))) pa_nil)) pa_nil)) (pv 5)) (nomark _)) (pw_or1 (pt_cmpR op_ne (pe_call G_pivot (hr.mono (by decide)) (by rfl) T.g_pivot T.F_pivot.kp T.b_pivot .nil pass0 (pa_cons (pv 7) pa_nil)) (pe_call G_l_pivot (hr.mono (by decide)) (by rfl) T.g_l_pivot T.F_l_pivot.kp T.b_l_pivot .nil pass0 (pa_cons (pv 7) pa_nil)) (nomark _))))) (pss_one (ps_ret pe_bl)) pss_nil)
    (pss_cons (ps_if (PW.pt (pw_or (pt_cmpR op_notN (pe_call G_pivot (hr.mono (by decide)) (by rfl) T.g_pivot T.F_pivot.kp T.b_pivot .nil pass0 (pa_cons (pe_op op_rep1 (pe_tup (pa_cons pe_int pa_nil)) (pv 6)) pa_nil)) pe_non (nomark _)) (pw_or1 (pt_cmpR (op_neD hr.units) (pe_call G_added (hr.mono (by decide)) (by rfl) T.g_added T.F_added.kp T.b_added .nil pass0 (pa_cons (pv 4) (pa_cons (pe_call G_subtracted (hr.mono (by decide)) (by rfl) T.g_subtracted T.F_subtracted.kp T.b_subtracted .nil pass0 (pa_cons (pv 4) (pa_cons (pv 7) (pa_cons (pv 8) pa_nil)))) (pa_cons (pv 8) pa_nil)))) (pv 7) (nomark _))))) (pss_one (ps_ret pe_bl)) pss_nil)
    (pss_cons (ps_par (i := 11) (j := 12) (by rfl) sc_law.nd rfl rfl (by decide) rfl rfl (pa_cons (pe_call G_l_rows (hr.mono (by decide)) (by rfl) T.g_l_rows T.F_l_rows.kp T.b_l_rows .nil pass0 (pa_cons (pv 1) (pa_cons (pv 3) (pa_cons (pe_call G_l_of (hr.mono (by decide)) (by rfl) T.g_l_of T.F_l_of.kp T.b_l_of .nil pass0 (pa_cons (pv 1) (pa_cons (pe_lst (pa_cons (pe_call G_l_pick (hr.mono (by decide)) (by rfl) T.g_l_pick T.F_l_pick.kp T.b_l_pick .nil pass0 (pa_cons (pv 1) (pa_cons pe_int pa_nil))) (pa_cons pe_int pa_nil))) pa_nil))) pa_nil)))) (pa_cons (pe_op op_rep1 (pe_tup (pa_cons pe_int pa_nil)) (pv 6)) pa_nil)) (by rfl))
    (pss_cons (ps_setLc (i := 13) (own := [("_law_row_here", 14)]) (g := gName 14) rfl sc_law.nd rfl rfl (sw_true rfl rfl rfl (by decide +kernel)) (pi_list (pv 11)) (blkOk_by (own := [("_law_row_here", 14)]) (N := ["_law_script", "_law_source_here", "_law_lap", "_law_ground", "_law_made", "_law_p", "_law_n", "_law_one", "_law_other", "_law_number", "_law_k", "_law_rows_here", "_law_due", "_law_numbers", "_law_row_here", "_law_kept"]) (sc := defScope s_law) (by decide +kernel)) (fun _ _ _ _ _ => (pg_name (i := 14) sc_law.nd rfl (Or.inl rfl))) (fun _ _ _ _ _ => pts_nil) (fun _ _ _ _ _ => (pe_call G_l_pick (hr.mono (by decide)) (by rfl) T.g_l_pick T.F_l_pick.kp T.b_l_pick .nil pass0 (pa_cons (pv 1) (pa_cons (pv 5) pa_nil)))))
    (pss_cons (ps_for PassesOwn.never rfl (pi_range1 rfl T.z_range (pa_cons (pe_callB call_len_seq (by rfl) T.z_len PySem.boot_len (pa_cons (pv 11) pa_nil)) pa_nil)) (pg_name (i := 10) sc_law.nd rfl (Or.inl rfl))
    (pss_one (ps_set (i := 12) sc_law.nd rfl (Or.inl rfl) (pe_call G_l_plus (hr.mono (by decide)) (by rfl) T.g_l_plus T.F_l_plus.kp T.b_l_plus .nil pass0 (pa_cons (pv 5) (pa_cons (pv 12) (pa_cons (pe_ix ix_list (pv 13) (pv 10) (fun _ _ => rfl)) (pa_cons (pe_ix ix_list (pv 11) (pv 10) (fun _ _ => rfl)) pa_nil))))))))
    (pss_cons (ps_set (i := 15) sc_law.nd rfl (Or.inl rfl) (pe_callB (call_reprD hgd hu66) (by rfl) T.z_repr (by decide +kernel) (pa_cons (pe_lst (pa_cons (pv 11) (pa_cons (pv 13) pa_nil))) pa_nil)))
    (pss_one (ps_if (PW.pt (pw_or (pt_cmpR (op_neD hr.units) (pe_call G_combined (hr.mono (by decide)) (by rfl) T.g_combined T.F_combined.kp T.b_combined .nil pass0 (pa_cons (pv 4) (pa_cons (pe_call G_l_given (hr.mono (by decide)) (by rfl) T.g_l_given T.F_l_given.kp T.b_l_given .nil pass0 (pa_cons (pv 1) (pa_cons (pv 13) pa_nil))) (pa_cons (pe_call G_l_given (hr.mono (by decide)) (by rfl) T.g_l_given T.F_l_given.kp T.b_l_given .nil pass0 (pa_cons (pv 1) (pa_cons (pv 11) pa_nil))) pa_nil)))) (pv 12) (nomark _)) (pw_or1 (pt_cmpR op_ne (pe_callB (call_reprD hgd hu66) (by rfl) T.z_repr (by decide +kernel) (pa_cons (pe_lst (pa_cons (pv 11) (pa_cons (pv 13) pa_nil))) pa_nil)) (pv 15) (nomark _))))) (pss_one (ps_ret pe_bl)) pss_nil))))))))))))))
    (pss_one (ps_ret pe_bl)))), ?_⟩
    refine ⟨.ref a, rfl, a, ns, rfl, hS, hlen, fun d c H1 k1 => ?_⟩
    refine ⟨5, rfl, by decide, by decide, for_range (lo := 0) (n := 5) (fun i σ H' => ∃ v2 v3 v4 v5 v6 v7 v8 v9 v10 v11 v12 v13 v14 v15 : Option V, σ = [some (.ref a), some (.ref d), v2, v3, v4, v5, v6, v7, v8, v9, v10, v11, v12, v13, v14, v15] ∧ Kn H H' d c) ⟨_, _, _, _, _, _, _, _, _, _, _, _, _, _, rfl, k1⟩ ?_ ?_⟩
    · rintro i σ H2 hi ⟨v2, v3, v4, v5, v6, v7, v8, v9, v10, v11, v12, v13, v14, v15, rfl, k2⟩
      refine ⟨.ref d, rfl, H, d, c, 0, 6, rfl, k2, by decide, by decide, by decide, fun aG g p n G1 H3 s1 k3 gr n0 n6 => ?_⟩
      obtain ⟨nn, rfl⟩ : ∃ nn : Nat, n = (nn : Int) := ⟨n.toNat, by omega⟩
      have tn : (nn : Int).toNat = nn := by omega
      have plo := gr.ip.lo
      have phi := gr.ip.hi
      have p0 : 0 < p := by omega
      have dk3 := k3.le _ _ gr.dk
      -- made, p, n
      refine ⟨.ref aG, rfl, aG, _, rfl, gr_made dk3, .ref aG, rfl, aG, _, rfl, gr_p dk3, .ref aG, rfl, aG, _, rfl, gr_n dk3, (by show 3 ≤ sizeLine; decide), fun u hu3 => ?_⟩
      refine ⟨u, _, rfl, .inl (.inl upd_same), rfl, _, _, rfl, _, _, rfl, _, [], rfl, rfl, ?_⟩
      have k4 := k3.mono (same_new (o := .tup [.ref g, .int p, .int nn]) hu3)
      -- one, other, number
      refine ⟨.ref d, rfl, .ref aG, rfl, G1, d, c, aG, g, p, nn, rfl, k4, gr, n0, by omega, fun t1 r1 G2 H5 s2 k5 ht1 hl1 hr1 => ?_⟩
      refine ⟨.ref d, rfl, .ref aG, rfl, G2, d, c, aG, g, p, nn, rfl, k5, gr.mono s2, n0, by omega, fun t2 r2 G3 H6 s3 k6 ht2 hl2 hr2 => ?_⟩
      refine ⟨.ref d, rfl, .int p, rfl, G3, d, c, p, rfl, k6, by omega, fun z H7 k7 z0 z1 => ?_⟩
      refine ⟨(by show 3 ≤ sizeLine; decide), fun u2 hu7 => ?_⟩
      refine ⟨u2, _, rfl, .inl (.inl upd_same), rfl, _, _, rfl, _, _, rfl, _, [], rfl, rfl, ?_⟩
      have k8 := k7.mono (same_new (o := .tup [.ref t1, .ref t2, .int z]) hu7)
      generalize upd H7 u2 (.tup [.ref t1, .ref t2, .int z]) = H8 at k8
      have gr3 := (gr.mono s2).mono s3
      have i1 : IsRow p nn r1 := ⟨by omega, hr1⟩
      have i2 : IsRow p nn r2 := ⟨by omega, hr2⟩
      have hT1 : SqT K G3 t1 (r1.map V.int) := .inl (.inl (s3 _ _ ht1))
      have hT2 : SqT K G3 t2 (r2.map V.int) := .inl (.inl ht2)
      have e12 : r1.length = r2.length := by rw [i1.1, i2.1]
      have b1 : r1.length ≤ 1000 := by rw [i1.1]; omega
      -- sums
      refine ⟨.ref g, rfl, .ref t1, rfl, .ref t2, rfl, g, t1, t2, p, nn, r1, r2, rfl, gr3.gd.mono k8.le, p0, sameT k8.le hT1, sameT k8.le hT2, e12, b1, fun ta H9 s9 _ hta => ?_⟩
      have k9 := k8.mono s9
      refine ⟨.int p, rfl, .ref t1, rfl, .ref t2, rfl, t1, t2, p, 1, r1, r2, rfl, p0, by decide, by decide, sameT k9.le hT1, sameT k9.le hT2, e12, b1, fun tb H10 s10 _ htb => ?_⟩
      rw [add_plus] at hta
      refine ⟨dR _, dR _, dp_row (.inl (.inl (s10 _ _ hta))), dp_row (.inl (.inl htb)), shp_row _, shp_row _, _, rfl, neD_no (shp_row _) ?_⟩
      have k10 := k9.mono s10
      refine ⟨.ref g, rfl, .ref t1, rfl, .ref t2, rfl, g, t1, t2, p, nn, r1, r2, rfl, gr3.gd.mono k10.le, p0, sameT k10.le hT1, sameT k10.le hT2, e12, b1, fun tc H11 s11 _ htc => ?_⟩
      have k11 := k10.mono s11
      refine ⟨.int p, rfl, .ref t1, rfl, .int p, rfl, p, 1, rfl, rfl, .ref t2, rfl, t1, t2, p, p - 1, r1, r2, rfl, p0, by omega, by omega, sameT k11.le hT1, sameT k11.le hT2, e12, b1, fun td H12 s12 _ htd => ?_⟩
      rw [sub_plus] at htc
      refine ⟨dR _, dR _, dp_row (.inl (.inl (s12 _ _ htc))), dp_row (.inl (.inl htd)), shp_row _, shp_row _, _, rfl, neD_no (shp_row _) ?_⟩
      have k12 := k11.mono s12
      -- multiples
      have zz : z < 1000000 := by omega
      refine ⟨.ref g, rfl, .int z, rfl, .ref t1, rfl, g, t1, p, nn, z, r1, rfl, gr3.gd.mono k12.le, p0, by omega, zz, sameT k12.le hT1, b1, fun te H13 s13 _ hte => ?_⟩
      have k13 := k12.mono s13
      refine ⟨.int p, rfl, (by show 1 ≤ sizeLine; decide), fun u3 hu13 => ?_⟩
      have su3 : Same H13 (upd H13 u3 (.tup [.int 0])) := same_new hu13
      refine ⟨.int nn, rfl, u3, nn, .int 0, rfl, rfl, .inl (.inl upd_same), n0, by omega, fun tz H14 s14 htz => ?_⟩
      have er : ∀ m : Nat, (List.replicate m (V.int 0)) = (zeroR m).map V.int := fun m => by rw [zeroR, List.map_replicate]
      rw [tn, er] at htz
      have k14 := (k13.mono su3).mono s14
      refine ⟨.int z, rfl, .ref t1, rfl, tz, t1, p, z, zeroR nn, r1, rfl, p0, by omega, zz, htz, sameT k14.le hT1, by simp [zeroR, i1.1], by simp [zeroR]; omega, fun tf H15 s15 _ htf => ?_⟩
      rw [scl_plus p z nn r1 i1.1] at hte
      refine ⟨dR _, dR _, dp_row (.inl (.inl (s15 _ _ (s14 _ _ (su3 _ _ hte))))), dp_row (.inl (.inl htf)), shp_row _, shp_row _, _, rfl, neD_no (shp_row _) ?_⟩
      have k15 := k14.mono s15
      -- the product of the rows
      have bx : ∀ x ∈ r1, 0 ≤ x ∧ x < 1000000 := fun x hx => ⟨(i1.2 x hx).1, by have := (i1.2 x hx).2; omega⟩
      refine ⟨.ref g, rfl, .ref t1, rfl, .ref t2, rfl, g, t1, t2, p, nn, r1, r2, rfl, gr3.gd.mono k15.le, p0, sameT k15.le hT1, sameT k15.le hT2, e12, b1, bx, fun H16 s16 => ?_⟩
      have k16 := k15.mono s16
      refine ⟨.int nn, rfl, nn, rfl, by omega, by omega, fun D hD => ?_⟩
      refine lc_range (lo := 0) (n := (nn : Int).toNat) (fun i H' => Same H16 H' ∧ H' D = some (.lst (((mulR r1 r2).take i).map V.int))) ⟨same_new hD, upd_same⟩ ?_ ?_
      · rintro j H17 hj ⟨sm, hL⟩
        rw [tn] at hj
        have hj1 : j < r1.length := by rw [i1.1]; exact hj
        have hj2 : j < r2.length := by rw [i2.1]; exact hj
        have g1 : r1[j]? = some r1[j] := List.getElem?_eq_getElem hj1
        have g2 : r2[j]? = some r2[j] := List.getElem?_eq_getElem hj2
        have a1 : atI (r1.map V.int) (0 + (j : Int)) = some (.int r1[j]) := by
          rw [Int.zero_add]
          exact atI_nat (by rw [List.getElem?_map, g1]; rfl)
        have a2 : atI (r2.map V.int) (0 + (j : Int)) = some (.int r2[j]) := by
          rw [Int.zero_add]
          exact atI_nat (by rw [List.getElem?_map, g2]; rfl)
        have k17 := k16.mono sm
        have bj := bx _ (List.getElem_mem hj1)
        refine ⟨rfl, tyes ?_⟩
        refine ⟨.ref t1, rfl, .int (0 + (j : Int)), rfl, t1, _, _, _, rfl, rfl, sameT k17.le hT1, a1, .ref t2, rfl, .int (0 + (j : Int)), rfl, t2, _, _, _, rfl, rfl, sameT k17.le hT2, a2, _, _, rfl, rfl, .inl ⟨by omega, by omega⟩, _, hL, ?_, fun b o e => ?_, ?_⟩
        · rw [List.length_map, List.length_take]
          exact Nat.lt_of_le_of_lt (Nat.min_le_left _ _) (small1000 (by omega))
        · rw [upd_ne (ne_of_none e hD)]
          exact sm _ _ e
        · have ge : (mulR r1 r2)[j]? = some (r1[j] * r2[j]) := get_zw g1 g2
          rw [upd_same, List.take_add_one, ge, List.map_append]
          rfl
      · rintro H17 ⟨sm, hL⟩
        have k17 := k16.mono sm
        rw [tn, List.take_of_length_le (by rw [show (mulR r1 r2).length = nn from len_zw i1.1 i2.1]; omega)] at hL
        refine ⟨D, _, rfl, .inl (.inl hL), .inl ⟨_, rfl, .int p, rfl, _, p, rfl, rfl, p0, rfl, _, rfl, ne_no ?_⟩⟩
        -- pivots
        refine ⟨.ref t1, rfl, t1, false, r1, rfl, sameT k17.le hT1, fun H18 s18 => ?_⟩
        have k18 := k17.mono s18
        refine ⟨.ref t1, rfl, t1, r1, rfl, sameT k18.le hT1, b1, fun H19 s19 => ⟨by cases pivR r1 <;> rfl, _, rfl, ne_no ?_⟩⟩
        have k19 := k18.mono s19
        refine ⟨(by show 1 ≤ sizeLine; decide), fun u4 hu19 => ?_⟩
        have su4 : Same H19 (upd H19 u4 (.tup [.int 0])) := same_new hu19
        refine ⟨.int nn, rfl, u4, nn, .int 0, rfl, rfl, .inl (.inl upd_same), n0, by omega, fun ty H20 s20 hty => ?_⟩
        rw [tn, er] at hty
        have k20 := (k19.mono su4).mono s20
        refine ⟨ty, false, zeroR nn, rfl, hty, fun H21 s21 => ?_⟩
        rw [piv_zero]
        refine ⟨rfl, _, rfl, iteF ?_⟩
        have k21 := k20.mono s21
        refine ⟨.ref g, rfl, .ref g, rfl, .ref t1, rfl, .ref t2, rfl, g, t1, t2, p, nn, r1, r2, rfl, gr3.gd.mono k21.le, p0, sameT k21.le hT1, sameT k21.le hT2, e12, b1, fun tg H22 s22 _ htg => ?_⟩
        have k22 := k21.mono s22
        have lsub : (subR p r1 r2).length = nn := (row_sub p0 i1.1 i2.1).1
        refine ⟨.ref t2, rfl, g, tg, t2, p, nn, subR p r1 r2, r2, rfl, gr3.gd.mono k22.le, p0, .inl (.inl htg), sameT k22.le hT2, by rw [lsub, i2.1], by rw [lsub]; omega, fun th H23 s23 _ hth => ?_⟩
        rw [add_sub p0 i1 i2.1] at hth
        have k23 := k22.mono s23
        refine ⟨.ref t1, rfl, dR r1, dR r1, dp_row (.inl (.inl hth)), dp_row (sameT k23.le hT1), shp_row _, shp_row _, _, rfl, neD_no (shp_row _) ?_⟩
        -- rows, due = _law_rows(source, ground, _law_of(source, [.., 30])), (0,) * n
        refine ⟨.ref d, rfl, .ref aG, rfl, .ref d, rfl, .ref d, rfl, G3, d, c, 6, rfl, k23, by decide, fun y H24 k24 y0 y1 => ?_⟩
        refine ⟨(by show 2 ≤ sizeLine; decide), fun l24 hl24 => ?_⟩
        refine ⟨upd G3 l24 (.lst [.int y, .int 30]), d, c, l24, [.int y, .int 30], rfl, k24.new hl24, .inl (.inl upd_same), (by show 0 < 2; decide), (by show 2 ≤ 100000; decide), fun x H25 k25 hx => ?_⟩
        obtain ⟨m, rfl, m0, m30⟩ : ∃ m : Int, x = .int m ∧ 0 ≤ m ∧ m ≤ 30 := by
          rcases List.mem_cons.mp hx with e | hx
          · exact ⟨y, e, y0, by omega⟩
          · exact ⟨30, List.mem_singleton.mp hx, by decide, by decide⟩
        have k25 : Kn G3 H25 d c := k25.weak (same_new (k24.free hl24))
        refine ⟨G3, d, c, aG, g, p, nn, m, rfl, k25, gr3, n0, by omega, m0, by omega, fun lr rs G4 H26 s26 k26 _ hRA hrsl => ?_⟩
        rw [tn] at hRA
        obtain ⟨⟨ts, hlr, hR⟩, hrow⟩ := hRA
        have gr4 := gr3.mono s26
        refine ⟨(by show 1 ≤ sizeLine; decide), fun u5 hu26 => ?_⟩
        have su5 : Same H26 (upd H26 u5 (.tup [.int 0])) := same_new hu26
        refine ⟨.int nn, rfl, u5, nn, .int 0, rfl, rfl, .inl (.inl upd_same), n0, by omega, fun t0 H28 s28 ht0 => ⟨_, _, rfl, ?_⟩⟩
        rw [tn, er] at ht0
        have k28 := (k26.mono su5).mono s28
        have q5 := know_le k28
        have k5 := know k28
        have hT0 := know_t k28 ht0
        generalize hide H28 d c = G5 at q5 k5 hT0
        have gr5 := gr4.mono q5
        have hlr5 := q5 _ _ hlr
        have hR5 := hR.mono q5
        have hts : ts.length = rs.length := hR.len
        -- numbers = [_law_pick(source, p) for row in rows]
        refine ⟨.ref lr, rfl, lr, rfl, ⟨ts, .inl (.inl (k5.le _ _ hlr5))⟩, fun D2 hD2 => ?_⟩
        have gD : G5 D2 = none := k5.free hD2
        refine lc_list (K := K) (a := lr) (xs := ts) (fun i H' => ∃ ks : List Int, Kn (upd G5 D2 (.lst (ks.map V.int))) H' d c ∧ ks.length = i ∧ ∀ x ∈ ks, 0 ≤ x ∧ x < p) ⟨[], k5.new hD2, rfl, fun x hx => nomatch hx⟩ (fun i H' _ ⟨ks, k, _⟩ => .inl (.inl (k.le _ _ (same_new gD _ _ hlr5)))) ?_ ?_
        · rintro j w H29 hj ⟨ks, k29, kl, kb⟩
          have hj30 : j < 31 := by
            have := at_lt hj
            omega
          refine ⟨rfl, tyes ?_⟩
          refine ⟨.ref d, rfl, .int p, rfl, _, d, c, p, rfl, k29, by omega, fun z' H30 k30 w0 w1 => ?_⟩
          refine ⟨_, k30.le _ _ upd_same, by rw [List.length_map, kl]; exact small1000 (by omega), ks ++ [z'], ?_, by rw [List.length_append, kl]; rfl, fun x hx => ?_⟩
          · rw [List.map_append]
            exact k30.set
          · rcases List.mem_append.mp hx with hx | hx
            · exact kb x hx
            · rw [List.mem_singleton] at hx
              subst hx
              exact ⟨w0, by omega⟩
        · rintro H29 ⟨ks, k29, kl, kb⟩
          have q6 : Same G5 (upd G5 D2 (.lst (ks.map V.int))) := same_new gD
          have hD6 : (upd G5 D2 (.lst (ks.map V.int))) D2 = some (.lst (ks.map V.int)) := upd_same
          generalize upd G5 D2 (.lst (ks.map V.int)) = G6 at k29 q6 hD6
          have gr6 := gr5.mono q6
          have hlr6 := q6 _ _ hlr5
          have hR6 := hR5.mono q6
          have klr : ks.length = rs.length := by rw [kl, hts]
          -- due, row by row
          refine ⟨.ref lr, rfl, lr, ts, rfl, .inl (.inl (.inl (k29.le _ _ hlr6))), ts.length, rfl, by omega, by omega, for_range (lo := 0) (n := (ts.length : Int).toNat) (fun i σ H' => ∃ (v10 v15 : Option V) (t : Addr), σ = [some (.ref a), some (.ref d), _, some (.ref aG), some (.ref g), some (.int p), some (.int nn), some (.ref t1), some (.ref t2), some (.int z), v10, some (.ref lr), some (.ref t), some (.ref D2), v14, v15] ∧ Kn G6 H' d c ∧ SqT K H' t ((combR p nn (ks.take i) (rs.take i)).map V.int)) ⟨_, _, t0, rfl, k29, sameT (q6.trans k29.le) hT0⟩ ?_ ?_⟩
          · rintro j σ H30 hj ⟨w10, w15, t, rfl, k30, hT⟩
            have hj' : j < rs.length := by omega
            have hjk : j < ks.length := by omega
            have hjt : j < ts.length := by omega
            have gk : ks[j]? = some ks[j] := List.getElem?_eq_getElem hjk
            obtain ⟨tr, r, e1, hr', hTr⟩ := hR6.get (List.getElem?_eq_getElem hjt)
            have bk := kb _ (List.getElem_mem hjk)
            have ir := hrow r (List.mem_of_getElem? hr')
            have cr : IsRow p nn (combR p nn (ks.take j) (rs.take j)) := row_comb p0 fun r hr => hrow r (List.mem_of_mem_take hr)
            have a1 : atI (ks.map V.int) (0 + (j : Int)) = some (.int ks[j]) := by
              rw [Int.zero_add]
              exact atI_nat (by rw [List.getElem?_map, gk]; rfl)
            have a2 : atI ts (0 + (j : Int)) = some (.ref tr) := by
              rw [Int.zero_add]
              exact atI_nat (by rw [List.getElem?_eq_getElem hjt, e1])
            refine ⟨.int p, rfl, .ref t, rfl, .ref D2, rfl, .int (0 + (j : Int)), rfl, D2, _, _, _, rfl, rfl, .inl (.inl (k30.le _ _ hD6)), a1, .ref lr, rfl, .int (0 + (j : Int)), rfl, lr, _, _, _, rfl, rfl, .inl (.inl (k30.le _ _ hlr6)), a2, ?_⟩
            refine ⟨t, tr, p, ks[j], _, r, rfl, p0, by omega, by omega, hT, sameT k30.le hTr, by rw [cr.1, ir.1], by rw [cr.1]; omega, fun tn2 H31 s31 _ htn => ?_⟩
            refine ⟨_, _, tn2, rfl, k30.mono s31, ?_⟩
            rw [List.take_add_one, List.take_add_one, gk, hr']
            have e := comb_snoc p nn (ks.take j) (rs.take j) ks[j] r (by rw [List.length_take, List.length_take, klr])
            show SqT K H31 tn2 ((combR p nn (ks.take j ++ [ks[j]]) (rs.take j ++ [r])).map V.int)
            rw [e, add_scl]
            exact .inl (.inl htn)
          · rintro σ H30 ⟨w10, w15, t, rfl, k30, hT⟩
            have et : (ts.length : Int).toNat = ts.length := by omega
            rw [et, hts, ← klr, List.take_length, klr, List.take_length] at hT
            have q7 := know_le k30
            have k7' := know k30
            have hT7 := know_t k30 hT
            generalize hide H30 d c = G7 at q7 k7' hT7
            have gr7 := gr6.mono q7
            have hlr7 := q7 _ _ hlr6
            have hR7 := hR6.mono q7
            have hD7 := q7 _ _ hD6
            have shw : Shw (.list [dRs rs, .list (ks.map PyData.int)]) 5 10000 := by
              have a1 : ShwA (rs.map dR) 2 (rs.length * (6 + 1)) := shw_rows fun r hr => ⟨by have := (hrow r hr).1; omega, fun x hx => ⟨((hrow r hr).2 x hx).1, by have := ((hrow r hr).2 x hx).2; omega⟩⟩
              have a2 : ShwA (ks.map PyData.int) 1 ks.length := shw_ints fun x hx => ⟨(kb x hx).1, by have := (kb x hx).2; omega⟩
              exact (ShwA.cons a1.lst (ShwA.cons a2.lst ShwA.nil)).lst.mono (by decide) (by omega)
            have shows : ∀ (H' : Hp) (l : Addr) (W : VK), H' lr = some (.lst ts) → H' D2 = some (.lst (ks.map V.int)) → Rows K H' ts rs → H' l = some (.lst [.ref lr, .ref D2]) → W (.str (PyData.list [dRs rs, .list (ks.map PyData.int)]).shown) H' → rReprD K [.ref l] H' W := fun H' l W h1 h2 h3 h4 q' =>
              repr_ok (.lst (.inl (.inl h4)) (.cons (dp_rowl (.inl (.inl h1)) h3) (.cons (dp_intl (.inl (.inl h2))) .nil))) shw (by decide) (by decide) q'
            -- kept = repr([rows, numbers])
            refine ⟨.ref lr, rfl, .ref D2, rfl, (by show 2 ≤ sizeLine; decide), fun l31 hl31 => ?_⟩
            have k31 := k7'.mono (same_new (o := .lst [.ref lr, .ref D2]) hl31)
            refine nil_i ?_
            refine shows _ l31 _ (k31.le _ _ hlr7) (k31.le _ _ hD7) (hR7.mono k31.le) upd_same ?_
            -- combined(..) != due
            refine ⟨.ref g, rfl, .ref d, rfl, .ref D2, rfl, G7, d, c, D2, _, rfl, k31, .inl (.inl hD7), fun b1' kk1 G8 H32 s32 k32 hk1 => ?_⟩
            have q8 := q7.trans s32
            refine ⟨.ref d, rfl, .ref lr, rfl, G8, d, c, lr, _, rfl, k32, .inl (.inl (q8 _ _ hlr6)), fun b2' kk2 G9 H33 s33 k33 hk2 => ?_⟩
            have hR9 := (hR6.mono q8).mono s33
            refine ⟨g, b1', b2', p, nn, kk1, kk2, ks, ts, rs, rfl, (((gr7.gd.mono s32).mono s33).mono k33.le), p0, n0, by omega, (hk1.same s33).same k33.le, hk2.same k33.le, hR9.mono k33.le, klr, fun x hx => ⟨by have := (kb x hx).1; omega, by have := (kb x hx).2; omega⟩, fun r hr => by rw [tn]; exact (hrow r hr).1, fun t9 H34 s34 hT9 => ?_⟩
            rw [tn] at hT9
            have k34 := k33.mono s34
            refine ⟨.ref t, rfl, dR _, dR _, dp_row hT9, dp_row (sameT ((s32.trans s33).trans k34.le) hT7), shp_row _, shp_row _, _, rfl, neD_no (shp_row _) ?_⟩
            -- repr([rows, numbers]) != kept
            refine ⟨.ref lr, rfl, .ref D2, rfl, (by show 2 ≤ sizeLine; decide), fun l35 hl35 => ?_⟩
            have k35 := k34.mono (same_new (o := .lst [.ref lr, .ref D2]) hl35)
            have q9 := (s32.trans s33)
            refine nil_i ?_
            refine shows _ l35 _ (k35.le _ _ (q9 _ _ hlr7)) (k35.le _ _ (q9 _ _ hD7)) ((hR7.mono q9).mono k35.le) upd_same ?_
            refine ⟨_, rfl, rfl, _, rfl, ne_no ?_⟩
            have qAll : Same H G9 := ((((((s1.trans s2).trans s3).trans s26).trans q5).trans q6).trans q7).trans q9
            exact ⟨_, _, _, _, _, _, _, _, _, _, _, _, _, _, rfl, k35.weak qAll⟩
    · rintro σ H2 ⟨v2, v3, v4, v5, v6, v7, v8, v9, v10, v11, v12, v13, v14, v15, rfl, k2⟩
      exact q _
end

theorem fin_ok {l : PySem.W.OpenLaw} {w : World} {K : PySem.W.Frag} {mg : Str → Option Value} {fa : Addr} (T : Tx K mg) (hfa : mg "law" = some (.ref fa)) :
    ∃ fd : FuncData, (∀ (s : Shared) (v : Value), BindsTo s fd ⟨[v], []⟩ [("_law_script", v)]) ∧ ∀ base : Heap, K.In base → base.Ns mainGlobals mg → FnG l.prog w K mg base CX0 7 fa fd ["_law_script"] (spLaw K) := by
  have e := hfa.symm.trans T.g_law
  cases e
  refine ⟨T.d_law, fun s v => ?_, fun base _ _ => ok_law T⟩
  obtain ⟨oc, od, kV, doc, pm, an, cdv, ct, osl, ed, lk, hcd⟩ := T.F_law.ex
  rw [ed]
  exact .of_eq rfl
end Lw
open PySem PySem.W PyProof.Rows
set_option maxHeartbeats 0 in
theorem PySem.Challenge.cw_codenests_k03_rows_reckoned_holds : PySem.Challenge.rw_codenests_k03_rows_reckoned.Holds := by
  w_on; o_law; k_head; (case hw => w_witness2)
  k_fill
  refine Lw.walk_G (l := PySem.Challenge.rw_codenests_k03_rows_reckoned) (n := 63) (k := 7) (x := "_law_script") (CX := fun _ => L2.CX0) (sp := fun w => Lw.spLaw _) rfl (by decide) rfl ⟨rfl, by decide, by decide⟩ (fun w h Y => PySem.W.kIn_of Y) ?F (fun _ _ a ns hl hS => ⟨a, ns, rfl, hS, hl, fun _ => rfl⟩) (fun _ _ _ _ _ h => h)
  case F =>
    intro w mg fa h KX G hmg
    refine' Lw.fin_ok (Lw.tx_mk KX G ?a_Ground ?pg_Ground ?hd_Ground ?po_Ground ?sa_Ground ?mk_Ground ?kc_Ground ?n_Ground_p ?n_Ground_n ?a_is_number ?l_is_number ?c_is_number ?k_is_number ?a_added ?l_added ?c_added ?k_added ?a_subtracted ?l_subtracted ?c_subtracted ?k_subtracted ?a_scaled ?l_scaled ?c_scaled ?k_scaled ?a_dot ?l_dot ?c_dot ?k_dot ?a_combined ?l_combined ?c_combined ?k_combined ?a_pivot ?l_pivot ?c_pivot ?k_pivot ?a_is_prime ?l_is_prime ?c_is_prime ?k_is_prime ?a_Ground_init ?i_Ground_init ?l_Ground_init ?c_Ground_init ?k_Ground_init ?a_Ground_p ?i_Ground_p ?l_Ground_p ?c_Ground_p ?k_Ground_p ?a_Ground_n ?i_Ground_n ?l_Ground_n ?c_Ground_n ?k_Ground_n ?a_Ground_zero ?i_Ground_zero ?l_Ground_zero ?c_Ground_zero ?k_Ground_zero ?a_l_source ?l_l_source ?c_l_source ?k_l_source ?a_l_pick ?l_l_pick ?c_l_pick ?k_l_pick ?a_l_of ?l_l_of ?c_l_of ?k_l_of ?a_l_wide ?l_l_wide ?c_l_wide ?k_l_wide ?a_l_row ?l_l_row ?c_l_row ?k_l_row ?a_l_plus ?l_l_plus ?c_l_plus ?k_l_plus ?a_l_pivot ?l_l_pivot ?c_l_pivot ?k_l_pivot ?a_l_rows ?l_l_rows ?c_l_rows ?k_l_rows ?a_l_given ?l_l_given ?c_l_given ?k_l_given ?a_law ?l_law ?c_law ?k_law ?z_len ?z_range ?z_int ?z_bool ?z_tuple ?z_isinstance ?z_abs ?z_max ?z_zip ?z_enumerate ?z_sum ?z_repr) hmg
    (case a_Ground => k_is)
    (case pg_Ground => k_is)
    (case hd_Ground => k_is)
    (case po_Ground => k_is)
    (case sa_Ground => k_is)
    (case mk_Ground => k_is)
    (case kc_Ground => k_is)
    (case n_Ground_p => k_is)
    (case n_Ground_n => k_is)
    (case a_is_number => k_is)
    (case l_is_number => k_is)
    (case c_is_number => k_is)
    (case k_is_number => k_is)
    (case a_added => k_is)
    (case l_added => k_is)
    (case c_added => k_is)
    (case k_added => k_is)
    (case a_subtracted => k_is)
    (case l_subtracted => k_is)
    (case c_subtracted => k_is)
    (case k_subtracted => k_is)
    (case a_scaled => k_is)
    (case l_scaled => k_is)
    (case c_scaled => k_is)
    (case k_scaled => k_is)
    (case a_dot => k_is)
    (case l_dot => k_is)
    (case c_dot => k_is)
    (case k_dot => k_is)
    (case a_combined => k_is)
    (case l_combined => k_is)
    (case c_combined => k_is)
    (case k_combined => k_is)
    (case a_pivot => k_is)
    (case l_pivot => k_is)
    (case c_pivot => k_is)
    (case k_pivot => k_is)
    (case a_is_prime => k_is)
    (case l_is_prime => k_is)
    (case c_is_prime => k_is)
    (case k_is_prime => k_is)
    (case a_Ground_init => k_is)
    (case i_Ground_init => k_is)
    (case l_Ground_init => k_is)
    (case c_Ground_init => k_is)
    (case k_Ground_init => k_is)
    (case a_Ground_p => k_is)
    (case i_Ground_p => k_is)
    (case l_Ground_p => k_is)
    (case c_Ground_p => k_is)
    (case k_Ground_p => k_is)
    (case a_Ground_n => k_is)
    (case i_Ground_n => k_is)
    (case l_Ground_n => k_is)
    (case c_Ground_n => k_is)
    (case k_Ground_n => k_is)
    (case a_Ground_zero => k_is)
    (case i_Ground_zero => k_is)
    (case l_Ground_zero => k_is)
    (case c_Ground_zero => k_is)
    (case k_Ground_zero => k_is)
    (case a_l_source => k_is)
    (case l_l_source => k_is)
    (case c_l_source => k_is)
    (case k_l_source => k_is)
    (case a_l_pick => k_is)
    (case l_l_pick => k_is)
    (case c_l_pick => k_is)
    (case k_l_pick => k_is)
    (case a_l_of => k_is)
    (case l_l_of => k_is)
    (case c_l_of => k_is)
    (case k_l_of => k_is)
    (case a_l_wide => k_is)
    (case l_l_wide => k_is)
    (case c_l_wide => k_is)
    (case k_l_wide => k_is)
    (case a_l_row => k_is)
    (case l_l_row => k_is)
    (case c_l_row => k_is)
    (case k_l_row => k_is)
    (case a_l_plus => k_is)
    (case l_l_plus => k_is)
    (case c_l_plus => k_is)
    (case k_l_plus => k_is)
    (case a_l_pivot => k_is)
    (case l_l_pivot => k_is)
    (case c_l_pivot => k_is)
    (case k_l_pivot => k_is)
    (case a_l_rows => k_is)
    (case l_l_rows => k_is)
    (case c_l_rows => k_is)
    (case k_l_rows => k_is)
    (case a_l_given => k_is)
    (case l_l_given => k_is)
    (case c_l_given => k_is)
    (case k_l_given => k_is)
    (case a_law => k_is)
    (case l_law => k_is)
    (case c_law => k_is)
    (case k_law => k_is)
    (case z_len => k_is)
    (case z_range => k_is)
    (case z_int => k_is)
    (case z_bool => k_is)
    (case z_tuple => k_is)
    (case z_isinstance => k_is)
    (case z_abs => k_is)
    (case z_max => k_is)
    (case z_zip => k_is)
    (case z_enumerate => k_is)
    (case z_sum => k_is)
    (case z_repr => k_is)
