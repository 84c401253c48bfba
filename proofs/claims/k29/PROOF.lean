import PyProof.Rows.All
import Wide.All
import OpenK.AllK
import Wide.FinOn
import HandS.ForMost
import HandS.Style
import HandS.IsInst
import HandS.Exc
import HandS.ExcOwn
import HandS.TryOnly
import HandS.WordsExc
import HandS.TupAny
import HandS.Steps
import HandS.TupMul
import HandS.Small
import HandS.RaiseMore
import HandS.Lambda
import HandS.Zip
import KE.GoesEnum
import KE.GoesMore
import KE.GoesZip
import HandS.ExcInit
import HandS.ExcField
import KE.KExcInit
import KE.KExcLine
import HandS.Sort
import HandS.TupSets
import HandS.SortOrd
import HandS.SortRule
import HandS.Conv
import PyProof.ListRange
import PyProof.EqAt
import PyProof.EqKinds
import PyProof.TupleCall
import HandS.Base
import HandS.Call
import HandS.List
import HandS.Dict
import HandS.Iter
import HandS.RepeatKit
import HandS.Strs
import KE.KRevSl
import HandS.Deep
import PySem.Challenge.RW_codenests_k29_orders_asked
set_option Elab.async false
set_option linter.all false
set_option maxRecDepth 100000
set_option maxHeartbeats 4000000
namespace Lw
open PySem L2
/-! ### the drawn source -/
abbrev ks (x : Str) : Key := Sum.inr x
theorem zCL : ¬ Str.ofString "cells" = Str.ofString "left" := by decide +kernel
theorem zCM : ¬ Str.ofString "cells" = Str.ofString "mixed" := by decide +kernel
theorem zCT : ¬ Str.ofString "cells" = Str.ofString "turn" := by decide +kernel
theorem zLC : ¬ Str.ofString "left" = Str.ofString "cells" := by decide +kernel
theorem zLM : ¬ Str.ofString "left" = Str.ofString "mixed" := by decide +kernel
theorem zLT : ¬ Str.ofString "left" = Str.ofString "turn" := by decide +kernel
theorem zMC : ¬ Str.ofString "mixed" = Str.ofString "cells" := by decide +kernel
theorem zML : ¬ Str.ofString "mixed" = Str.ofString "left" := by decide +kernel
theorem zMT : ¬ Str.ofString "mixed" = Str.ofString "turn" := by decide +kernel
theorem zTC : ¬ Str.ofString "turn" = Str.ofString "cells" := by decide +kernel
theorem zTL : ¬ Str.ofString "turn" = Str.ofString "left" := by decide +kernel
theorem zTM : ¬ Str.ofString "turn" = Str.ofString "mixed" := by decide +kernel
theorem kCL : ¬ ks "cells" = ks "left" := fun h => absurd (Sum.inr.inj h) (by decide +kernel)
theorem kCM : ¬ ks "cells" = ks "mixed" := fun h => absurd (Sum.inr.inj h) (by decide +kernel)
theorem kCT : ¬ ks "cells" = ks "turn" := fun h => absurd (Sum.inr.inj h) (by decide +kernel)
theorem kLM : ¬ ks "left" = ks "mixed" := fun h => absurd (Sum.inr.inj h) (by decide +kernel)
theorem kLT : ¬ ks "left" = ks "turn" := fun h => absurd (Sum.inr.inj h) (by decide +kernel)
theorem kMT : ¬ ks "mixed" = ks "turn" := fun h => absurd (Sum.inr.inj h) (by decide +kernel)
theorem kLC : ¬ ks "left" = ks "cells" := fun h => kCL h.symm
theorem kMC : ¬ ks "mixed" = ks "cells" := fun h => kCM h.symm
theorem kTC : ¬ ks "turn" = ks "cells" := fun h => kCT h.symm
theorem kML : ¬ ks "mixed" = ks "left" := fun h => kLM h.symm
theorem kTL : ¬ ks "turn" = ks "left" := fun h => kLT h.symm
theorem kTM : ¬ ks "turn" = ks "mixed" := fun h => kMT h.symm
def srcK (c : Addr) (l m t : Int) : List (Key × V) := [(ks "cells", .ref c), (ks "left", .int l), (ks "mixed", .int m), (ks "turn", .int t)]
theorem src_cells (c : Addr) (l m t : Int) : valV (srcK c l m t) (ks "cells") = some (.ref c) := valV_pos rfl
theorem src_left (c : Addr) (l m t : Int) : valV (srcK c l m t) (ks "left") = some (.int l) := (valV_neg kCL).trans (valV_pos rfl)
theorem src_mixed (c : Addr) (l m t : Int) : valV (srcK c l m t) (ks "mixed") = some (.int m) := (valV_neg kCM).trans ((valV_neg kLM).trans (valV_pos rfl))
theorem src_turn (c : Addr) (l m t : Int) : valV (srcK c l m t) (ks "turn") = some (.int t) := (valV_neg kCT).trans ((valV_neg kLT).trans ((valV_neg kMT).trans (valV_pos rfl)))
theorem put_left (c : Addr) (l m t z : Int) : putK (srcK c l m t) (ks "left") (.int z) = srcK c z m t := by
  simp [putK, srcK, zCL, zCM, zCT, zLC, zLM, zLT, zMC, zML, zMT, zTC, zTL, zTM]
theorem put_mixed (c : Addr) (l m t z : Int) : putK (srcK c l m t) (ks "mixed") (.int z) = srcK c l z t := by
  simp [putK, srcK, zCL, zCM, zCT, zLC, zLM, zLT, zMC, zML, zMT, zTC, zTL, zTM]
theorem put_turn (c : Addr) (l m t z : Int) : putK (srcK c l m t) (ks "turn") (.int z) = srcK c l m z := by
  simp [putK, srcK, zCL, zCM, zCT, zLC, zLM, zLT, zMC, zML, zMT, zTC, zTL, zTM]
theorem merge_src (c : Addr) (l m t : Int) : mergeK [] (srcK c l m t) = srcK c l m t := by
  simp [mergeK, putK, srcK, zCL, zCM, zCT, zLC, zLM, zLT, zMC, zML, zMT, zTC, zTL, zTM]
theorem get_cells {H : Hp} {d c : Addr} {l m t : Int} (e : H d = some (.dK (srcK c l m t))) : DGet H d (.str "cells") (some (.ref c)) := by
  have h := DGet.k (k := ks "cells") e
  rw [src_cells] at h
  exact h
theorem get_left {H : Hp} {d c : Addr} {l m t : Int} (e : H d = some (.dK (srcK c l m t))) : DGet H d (.str "left") (some (.int l)) := by
  have h := DGet.k (k := ks "left") e
  rw [src_left] at h
  exact h
theorem get_mixed {H : Hp} {d c : Addr} {l m t : Int} (e : H d = some (.dK (srcK c l m t))) : DGet H d (.str "mixed") (some (.int m)) := by
  have h := DGet.k (k := ks "mixed") e
  rw [src_mixed] at h
  exact h
theorem get_turn {H : Hp} {d c : Addr} {l m t : Int} (e : H d = some (.dK (srcK c l m t))) : DGet H d (.str "turn") (some (.int t)) := by
  have h := DGet.k (k := ks "turn") e
  rw [src_turn] at h
  exact h
theorem dput_left {H : Hp} {d c : Addr} {l m t z : Int} (e : H d = some (.dK (srcK c l m t))) : DPut H d (.str "left") (.int z) (upd H d (.dK (srcK c z m t))) := by
  have h := DPut.k (k := ks "left") (v := .int z) e (small1000 (by show 4 ≤ 1000; decide))
  rw [put_left] at h
  exact h
theorem dput_mixed {H : Hp} {d c : Addr} {l m t z : Int} (e : H d = some (.dK (srcK c l m t))) : DPut H d (.str "mixed") (.int z) (upd H d (.dK (srcK c l z t))) := by
  have h := DPut.k (k := ks "mixed") (v := .int z) e (small1000 (by show 4 ≤ 1000; decide))
  rw [put_mixed] at h
  exact h
theorem dput_turn {H : Hp} {d c : Addr} {l m t z : Int} (e : H d = some (.dK (srcK c l m t))) : DPut H d (.str "turn") (.int z) (upd H d (.dK (srcK c l m z))) := by
  have h := DPut.k (k := ks "turn") (v := .int z) e (small1000 (by show 4 ≤ 1000; decide))
  rw [put_turn] at h
  exact h
/-- the drawn source stands at d, its cells at c -/
def Src (H : Hp) (d c : Addr) : Prop := ∃ (xs : List Int) (l m t : Int), H d = some (.dK (srcK c l m t)) ∧ H c = some (.lst (xs.map V.int)) ∧ xs.length ≤ 63 ∧ (∀ x ∈ xs, 0 ≤ x) ∧ 0 ≤ l ∧ 0 ≤ m ∧ m < 2147483647
/-- G is known: it stands in H whatever is drawn; the source itself is apart from it -/
structure Kn (G H : Hp) (d c : Addr) : Prop where
  le : Same G H
  gd : G d = none
  gc : G c = none
  src : Src H d c
section
variable {G H H' : Hp} {d c p : Addr} {o o' : HO}
theorem Src.ne (s : Src H d c) : c ≠ d := by
  obtain ⟨xs, l, m, t, h1, h2, _⟩ := s
  exact ne_of h2 h1 (by intro z; cases z)
theorem Src.some_d (s : Src H d c) (hp : H p = none) : p ≠ d := by
  obtain ⟨xs, l, m, t, h1, h2, _⟩ := s
  exact fun e => by rw [e, h1] at hp; cases hp
theorem Src.some_c (s : Src H d c) (hp : H p = none) : p ≠ c := by
  obtain ⟨xs, l, m, t, h1, h2, _⟩ := s
  exact fun e => by rw [e, h2] at hp; cases hp
theorem Src.same (s : Src H d c) (e : Same H H') : Src H' d c := by
  obtain ⟨xs, l, m, t, h1, h2, r⟩ := s
  exact ⟨xs, l, m, t, e _ _ h1, e _ _ h2, r⟩
theorem Src.off (s : Src H d c) (h1 : p ≠ d) (h2 : p ≠ c) : Src (upd H p o) d c := by
  obtain ⟨xs, l, m, t, e1, e2, r⟩ := s
  exact ⟨xs, l, m, t, by rw [upd_ne h1.symm]; exact e1, by rw [upd_ne h2.symm]; exact e2, r⟩
theorem same_new (h : H p = none) : Same H (upd H p o) := fun b x e => by
  rw [upd_ne (ne_of_none e h)]
  exact e
theorem Kn.mono (k : Kn G H d c) (e : Same H H') : Kn G H' d c := ⟨k.le.trans e, k.gd, k.gc, k.src.same e⟩
/-- a new object, remembered -/
theorem Kn.new (k : Kn G H d c) (hp : H p = none) : Kn (upd G p o) (upd H p o) d c := by
  refine ⟨fun b x e => ?_, ?_, ?_, k.src.same (same_new hp)⟩
  · by_cases hb : b = p
    · subst hb
      rw [upd_same] at e ⊢
      exact e
    · rw [upd_ne hb] at e ⊢
      exact k.le _ _ e
  · rw [upd_ne (k.src.some_d hp).symm]
    exact k.gd
  · rw [upd_ne (k.src.some_c hp).symm]
    exact k.gc
/-- an object made meanwhile, remembered -/
theorem Kn.add (k : Kn G H d c) (e : Same H H') (hp : H p = none) (h : H' p = some o) : Kn (upd G p o) H' d c := by
  refine ⟨fun b x q => ?_, ?_, ?_, k.src.same e⟩
  · by_cases hb : b = p
    · subst hb
      rw [upd_same] at q
      cases q
      exact h
    · rw [upd_ne hb] at q
      exact e _ _ (k.le _ _ q)
  · rw [upd_ne (k.src.some_d hp).symm]
    exact k.gd
  · rw [upd_ne (k.src.some_c hp).symm]
    exact k.gc
theorem Kn.nd (k : Kn G H d c) (h : G p = some o) : p ≠ d := fun e => by
  rw [e, k.gd] at h
  cases h
theorem Kn.nc (k : Kn G H d c) (h : G p = some o) : p ≠ c := fun e => by
  rw [e, k.gc] at h
  cases h
/-- a remembered object changes -/
theorem Kn.set (k : Kn (upd G p o) H d c) : Kn (upd G p o') (upd H p o') d c := by
  have n1 : p ≠ d := k.nd upd_same
  have n2 : p ≠ c := k.nc upd_same
  refine ⟨fun b x e => ?_, ?_, ?_, k.src.off n1 n2⟩
  · by_cases hb : b = p
    · subst hb
      rw [upd_same] at e ⊢
      exact e
    · rw [upd_ne hb] at e ⊢
      refine k.le _ _ ?_
      rw [upd_ne hb]
      exact e
  · have := k.gd
    rw [upd_ne n1.symm] at this ⊢
    exact this
  · have := k.gc
    rw [upd_ne n2.symm] at this ⊢
    exact this
/-- an object that nobody remembers changes -/
theorem Kn.mut (k : Kn G H d c) (g : G p = none) (n1 : p ≠ d) (n2 : p ≠ c) : Kn G (upd H p o) d c :=
  ⟨fun b x e => by rw [upd_ne (ne_of_none e g)]; exact k.le _ _ e, k.gd, k.gc, k.src.off n1 n2⟩
/-- a remembered object becomes another -/
theorem Kn.put (k : Kn G H d c) (g : G p = some o) : Kn (upd G p o') (upd H p o') d c := by
  have n1 : p ≠ d := k.nd g
  have n2 : p ≠ c := k.nc g
  refine ⟨fun b x e => ?_, by rw [upd_ne n1.symm]; exact k.gd, by rw [upd_ne n2.symm]; exact k.gc, k.src.off n1 n2⟩
  by_cases hb : b = p
  · subst hb
    rw [upd_same] at e ⊢
    exact e
  · rw [upd_ne hb] at e ⊢
    exact k.le _ _ e
/-- all that stands but the source is known -/
def hide (H : Hp) (d c : Addr) : Hp := fun b => if b = d ∨ b = c then none else H b
theorem know (k : Kn G H d c) : Kn (hide H d c) H d c :=
  ⟨fun b x e => by
    unfold hide at e
    split at e
    · cases e
    · exact e, by simp [hide], by simp [hide], k.src⟩
theorem know_le (k : Kn G H d c) : Same G (hide H d c) := fun b x e => by
  have h1 : b ≠ d := k.nd e
  have h2 : b ≠ c := k.nc e
  unfold hide
  rw [if_neg (by simp [h1, h2])]
  exact k.le _ _ e
theorem know_t {K : PySem.W.Frag} {t : Addr} {xs : List V} (k : Kn G H d c) (h : SqT K H t xs) : SqT K (hide H d c) t xs := by
  obtain ⟨ys, l, m, z, h1, h2, _⟩ := k.src
  have off : ∀ {o : HO}, H t = some o → (∀ q, o ≠ .dK q) → (∀ q, o ≠ .lst q) → (hide H d c) t = some o := fun {o} e n1 n2 => by
    have a1 : t ≠ d := fun q => by rw [q, h1] at e; exact n1 _ (Option.some.inj e).symm
    have a2 : t ≠ c := fun q => by rw [q, h2] at e; exact n2 _ (Option.some.inj e).symm
    unfold hide
    rw [if_neg (by simp [a1, a2])]
    exact e
  rcases h with (h | ⟨o, h⟩) | h
  · exact .inl (.inl (off h (fun _ q => nomatch q) (fun _ q => nomatch q)))
  · exact .inl (.inr ⟨o, off h (fun _ q => nomatch q) (fun _ q => nomatch q)⟩)
  · exact .inr h
/-- one forgets -/
theorem Kn.weak {G' : Hp} (k : Kn G H d c) (e : Same G' G) : Kn G' H d c := ⟨e.trans k.le, e.free k.gd, e.free k.gc, k.src⟩
theorem Kn.free (k : Kn G H d c) (hp : H p = none) : G p = none := k.le.free hp
end
theorem ints_at {ns : List Int} {i : Nat} {y : V} (h : (ns.map V.int)[i]? = some y) : ∃ z, y = V.int z ∧ ns[i]? = some z := by
  rw [List.getElem?_map] at h
  cases e : ns[i]? with
  | none =>
    rw [e] at h
    cases h
  | some z =>
    rw [e] at h
    exact ⟨z, (Option.some.inj h).symm, rfl⟩
theorem at_lt {α : Type} {l : List α} {i : Nat} {x : α} (h : l[i]? = some x) : i < l.length := (List.getElem?_eq_some_iff.mp h).1
/-! ### values and tests that leave the heap -/
section
variable {σ : L2.St} {H : Hp} {x y z v : V} {ta tb td ty : TE} {d : Addr} {b : Bool}
theorem val_dget (h : Val td σ H (.ref d)) (hy : Val ty σ H y) (g : DGet H d y (some v)) : Val (tDGet td ty) σ H v := fun Q q => by
  refine h _ ?_
  refine hy _ ?_
  exact ⟨d, v, rfl, g, q⟩
theorem val_cb1 {r : List V → Hp → VK → Prop} (h : Val ta σ H x) (hr : ∀ Q : VK, Q z H → r [x] H Q) : Val (tCB r (tCons ta tNil)) σ H z := fun Q q => by
  refine h _ ?_
  exact hr Q q
theorem val_cb2 {r : List V → Hp → VK → Prop} (h : Val ta σ H x) (h2 : Val tb σ H y) (hr : ∀ Q : VK, Q z H → r [x, y] H Q) : Val (tCB r (tCons ta (tCons tb tNil))) σ H z := fun Q q => by
  refine h _ ?_
  refine h2 _ ?_
  exact hr Q q
theorem tyes {A B : Hp → Prop} (h : A H) : tYes σ H (fun b H3 => if b = true then A H3 else B H3) := by
  show (if true = true then A H else B H)
  exact iteT h
theorem ans_or2 {t u : TT} {b1 b2 : Bool} (h1 : Ans t σ H b1) (h2 : Ans u σ H b2) : Ans (tOr t u) σ H (b1 || b2) := by
  cases b1 with
  | true => exact ans_or1 h1
  | false => exact ans_or h1 h2
/-- an expression by two ways, one behind -/
theorem ifx {c : Bool} {te tf : TE} {X : VK} (P : V → Hp → Prop) (h : ∀ v H', P v H' → X v H') (h1 : c = true → ∀ Y : VK, (∀ v H', P v H' → Y v H') → te σ H Y) (h2 : c = false → ∀ Y : VK, (∀ v H', P v H' → Y v H') → tf σ H Y) :
    if c = true then te σ H X else tf σ H X := by
  cases c with
  | true => exact iteT (h1 rfl X h)
  | false => exact iteF (h2 rfl X h)
/-- a statement by two ways, one behind -/
theorem ifs {c : Bool} {tA tB : TS} {D : Ends} (P : L2.St → Hp → Prop) (h : ∀ σ' H', P σ' H' → D.nx σ' H') (h1 : c = true → ∀ N : L2.St → Hp → Prop, (∀ σ' H', P σ' H' → N σ' H') → tA { D with nx := N } σ H) (h2 : c = false → ∀ N : L2.St → Hp → Prop, (∀ σ' H', P σ' H' → N σ' H') → tB { D with nx := N } σ H) :
    if c = true then tA D σ H else tB D σ H := by
  cases c with
  | true => exact iteT (h1 rfl D.nx h)
  | false => exact iteF (h2 rfl D.nx h)
/-- one test, then another, whatever they say -/
theorem ift {c : Bool} {u : TT} {X : Bool → Hp → Prop} (P : Bool → Hp → Prop) (p : P false H) (h : ∀ b H', P b H' → X b H') (h1 : ∀ Y : Bool → Hp → Prop, (∀ b H', P b H' → Y b H') → u σ H Y) :
    if c = true then u σ H X else X false H := by
  cases c with
  | true => exact iteT (h1 X h)
  | false => exact iteF (h _ _ p)
theorem Val.to (h : Val ta σ H x) (e : x = y) : Val ta σ H y := e ▸ h
theorem val_is (h : Val ta σ H x) {Q : VK} (q : Q x H) : ta σ H Q := h Q q
end
end Lw

namespace Lw
open PySem L2 PySem.Spec PyProof.Rows
/-- a tuple of one item, none times -/
theorem tm_none (l : Addr) (items : Array Value) (n : Nat) (dd : Option Addr) (sl : Array (Option Value)) (u : Tok) (he : items.isEmpty = false) :
    Meets (Builtin.«tuple.__mul__» ⟨[.ref l, .int 0 u], []⟩) (fun _ R s => s.heap.get? l = some { cls := .type "tuple", dict := dd, data := .seq items n, slots := sl } ∧
      R (.ok (.ret (Value.ref s.heap.objs.size))) { s with heap := s.heap.push { cls := Value.type "tuple", data := Data.seq #[] }, toks := s.toks }) :=
  .of_wp fun prog w A R s z => by
    obtain ⟨h1, h2, h3, h4, h5⟩ := s
    obtain ⟨hl, z⟩ := z
    have f1 := AutoSeq1.idx_int
    have c1 : (items.isEmpty || (0 : Int) == 1) = false := by rw [he]; rfl
    wp_walk using wpAny_loadPart' hl
    repeat (first
      | (refine wpAny_ite_false (decide_eq_false (by rw [c1]; exact Bool.false_ne_true)) ?_; wp_walk using wpAny_loadPart' hl)
      | (refine wpAny_ite_true (decide_eq_true (by decide)) ?_; wp_walk using wpAny_loadPart' hl)
      | (refine wpAny_ite_false (decide_eq_false (by decide)) ?_; wp_walk using wpAny_loadPart' hl))
    exact ⟨_, rfl, z⟩
/-- a tuple of one item, once: itself -/
theorem tm_once (l : Addr) (items : Array Value) (n : Nat) (dd : Option Addr) (sl : Array (Option Value)) (u : Tok) :
    Meets (Builtin.«tuple.__mul__» ⟨[.ref l, .int 1 u], []⟩) (fun _ R s => s.heap.get? l = some { cls := .type "tuple", dict := dd, data := .seq items n, slots := sl } ∧ ∀ k, R (.ok (.ret (Value.ref l))) { s with toks := k }) :=
  .of_wp fun prog w A R s z => by
    obtain ⟨h1, h2, h3, h4, h5⟩ := s
    obtain ⟨hl, z⟩ := z
    have f1 := AutoSeq1.idx_int
    have c1 : (items.isEmpty || (1 : Int) == 1) = true := by rw [show ((1 : Int) == 1) = true from rfl, Bool.or_true]
    wp_walk using wpAny_loadPart' hl
    repeat (first
      | (refine wpAny_ite_true (decide_eq_true (by rw [c1])) ?_; wp_walk using wpAny_loadPart' hl)
      | (refine wpAny_ite_false (decide_eq_false (by decide)) ?_; wp_walk using wpAny_loadPart' hl))
    exact ⟨_, rfl, z _⟩
/-- (v,) * k -/
def rRep1 (K : PySem.W.Frag) : R2 := fun x y H Q => ∃ l k v, x = .ref l ∧ y = .int k ∧ SqT K H l [v] ∧ 0 ≤ k ∧ k ≤ 1000 ∧ ∀ t H', Same H H' → SqT K H' t (List.replicate k.toNat v) → Q (.ref t) H'
section
variable {X : Cx}
theorem op_rep1 : OpR X (binaryOp .Mult) (rRep1 X.K) := by
  intro pins s σ H x y v u Q I rx ry h
  obtain ⟨l, k, z, rfl, rfl, hT, h0, h1, q⟩ := id h
  by_cases h2 : 2 ≤ k
  · refine op_repT pins s σ H _ _ v u Q I rx ry ⟨l, k, [z], rfl, rfl, hT, by simp, h2, h1, by simp, fun p hp => q p _ (same_new hp) (.inl (.inl ?_))⟩
    rw [upd_same]
    congr 2
    induction k.toNat with
    | zero => rfl
    | succ m ih => rw [List.replicate_succ, List.flatten_cons, ih, List.replicate_succ]; rfl
  · cases rx
    obtain ⟨t, rfl⟩ := ry
    obtain ⟨its, r, ⟨⟨cls, dd, data, sl⟩, ho, hc, n, hd⟩, hs⟩ := I.tuple hT
    simp only at hc hd
    subst hc hd
    have hn : its.toArray.isEmpty = false := by
      cases r with
      | cons _ _ => rfl
    rcases (by omega : k = 0 ∨ k = 1) with rfl | rfl
    · refine wpAny_binaryOp_repeat_ref (T := "tuple") (U := "int") (by decide) ⟨_, ho, rfl⟩ (fun s' => typeIs_int s' 0 t) noFill_tuple_mul F.fills_int_mul F.slot_int_rmul repeat_tuple F.slot_int_index.lookup
        (call_meets F.slot_int_rmul (typeIs_int s 0 t) F.entry_int_rmul (F.args_int_rmul_2 _ _) (int_rmul_tuple 0 t l its.toArray n dd sl)
          ⟨ho, rfl, ⟨_, ho, rfl⟩, call_meets F.slot_tuple_mul ⟨_, ho, rfl⟩ F.entry_tuple_mul (F.args_tuple_mul_2 _ _) (tm_none l its.toArray n dd sl t hn) ⟨ho, ?_⟩⟩)
      have hf := I.hok.fresh (Nat.le_refl s.heap.objs.size)
      refine ⟨.ref s.heap.objs.size, upd H s.heap.objs.size (.tup []), I.laid (t' := s.toks) (o := .tup []) (fun b ob q => Heap.get?_push_of_some _ q) (Nat.le_refl _) ?_, rfl, q _ _ (same_new hf) (.inl (.inl upd_same))⟩
      exact ⟨Nat.zero_le _, [], .nil, IsTup.new _ _⟩
    · refine wpAny_binaryOp_repeat_ref (T := "tuple") (U := "int") (by decide) ⟨_, ho, rfl⟩ (fun s' => typeIs_int s' 1 t) noFill_tuple_mul F.fills_int_mul F.slot_int_rmul repeat_tuple F.slot_int_index.lookup
        (call_meets F.slot_int_rmul (typeIs_int s 1 t) F.entry_int_rmul (F.args_int_rmul_2 _ _) (int_rmul_tuple 1 t l its.toArray n dd sl)
          ⟨ho, rfl, ⟨_, ho, rfl⟩, call_meets F.slot_tuple_mul ⟨_, ho, rfl⟩ F.entry_tuple_mul (F.args_tuple_mul_2 _ _) (tm_once l its.toArray n dd sl t) ⟨ho, fun k => ?_⟩⟩)
      exact ⟨.ref l, H, I.tok k, rfl, q _ _ (Same.refl _) hT⟩
end
end Lw

namespace Lw
open PySem L2
/-! ### rows as data -/
def dR (r : List Int) : PyData := .tuple (r.map .int)
def dRs (rs : List (List Int)) : PyData := .list (rs.map dR)
theorem dp_ints {K : PySem.W.Frag} {H : Hp} : ∀ ns : List Int, DpAll K H (ns.map V.int) (ns.map PyData.int)
  | [] => .nil
  | n :: ns => .cons (.int n) (dp_ints ns)
theorem dp_row {K : PySem.W.Frag} {H : Hp} {t : Addr} {r : List Int} (h : SqT K H t (r.map V.int)) : Dp K H (.ref t) (dR r) := .tup h (dp_ints r)
/-- at ts stand the rows -/
inductive Rows (K : PySem.W.Frag) (H : Hp) : List V → List (List Int) → Prop where
  | nil : Rows K H [] []
  | cons {t : Addr} {ts : List V} {r : List Int} {rs : List (List Int)} : SqT K H t (r.map V.int) → Rows K H ts rs → Rows K H (.ref t :: ts) (r :: rs)
theorem sameT {K : PySem.W.Frag} {H H' : Hp} {a : Addr} {xs : List V} (e : Same H H') (h : SqT K H a xs) : SqT K H' a xs := by
  rcases h with (h | ⟨o, h⟩) | h
  · exact .inl (.inl (e _ _ h))
  · exact .inl (.inr ⟨o, e _ _ h⟩)
  · exact .inr h
theorem Rows.mono {K : PySem.W.Frag} {H H' : Hp} (e : Same H H') : ∀ {ts : List V} {rs : List (List Int)}, Rows K H ts rs → Rows K H' ts rs
  | _, _, .nil => .nil
  | _, _, .cons h t => .cons (sameT e h) (Rows.mono e t)
theorem Rows.append {K : PySem.W.Frag} {H : Hp} : ∀ {ts us : List V} {rs qs : List (List Int)}, Rows K H ts rs → Rows K H us qs → Rows K H (ts ++ us) (rs ++ qs)
  | _, _, _, _, .nil, k => k
  | _, _, _, _, .cons h t, k => .cons h (Rows.append t k)
theorem Rows.one {K : PySem.W.Frag} {H : Hp} {t : Addr} {r : List Int} (h : SqT K H t (r.map V.int)) : Rows K H [.ref t] [r] := .cons h .nil
theorem Rows.len {K : PySem.W.Frag} {H : Hp} : ∀ {ts : List V} {rs : List (List Int)}, Rows K H ts rs → ts.length = rs.length
  | _, _, .nil => rfl
  | _, _, .cons _ t => by rw [List.length_cons, List.length_cons, Rows.len t]
theorem Rows.get {K : PySem.W.Frag} {H : Hp} : ∀ {ts : List V} {rs : List (List Int)} {i : Nat} {x : V}, Rows K H ts rs → ts[i]? = some x → ∃ t r, x = .ref t ∧ rs[i]? = some r ∧ SqT K H t (r.map V.int)
  | _, _, _, _, .nil, e => by simp at e
  | _, _, 0, _, .cons h _, e => by simp at e; exact ⟨_, _, e.symm, rfl, h⟩
  | _, _, i + 1, _, .cons _ t, e => by
    obtain ⟨a, r, h1, h2, h3⟩ := Rows.get (i := i) t (by simpa using e)
    exact ⟨a, r, h1, by simpa using h2, h3⟩
theorem dp_rows {K : PySem.W.Frag} {H : Hp} : ∀ {ts : List V} {rs : List (List Int)}, Rows K H ts rs → DpAll K H ts (rs.map dR)
  | _, _, .nil => .nil
  | _, _, .cons h t => .cons (dp_row h) (dp_rows t)
theorem sqt_off {K : PySem.W.Frag} {H : Hp} {D a : Addr} {xs ys zs : List V} (hD : H D = some (.lst xs)) (h : SqT K H a zs) : SqT K (upd H D (.lst ys)) a zs := by
  rcases h with (h | ⟨o, h⟩) | h
  · exact .inl (.inl (by rw [upd_ne (ne_of h hD (by intro z; cases z))]; exact h))
  · exact .inl (.inr ⟨o, by rw [upd_ne (ne_of h hD (by intro z; cases z))]; exact h⟩)
  · exact .inr h
/-- the rows stand, whatever a list becomes -/
theorem rows_off {K : PySem.W.Frag} {H : Hp} {D : Addr} {xs ys : List V} (hD : H D = some (.lst xs)) : ∀ {ts : List V} {rs : List (List Int)}, Rows K H ts rs → Rows K (upd H D (.lst ys)) ts rs
  | _, _, .nil => .nil
  | _, _, .cons h t => .cons (sqt_off hD h) (rows_off hD t)
theorem small1000' {n : Nat} (h : n ≤ 10000) : n < sizeLine := Nat.lt_of_le_of_lt h (by decide)
theorem can_ints : ∀ ns : List Int, PyData.canLayAll0 (ns.map PyData.int) = true
  | [] => rfl
  | n :: ns => by
    show (PyData.canLay0 (.int n) && PyData.canLayAll0 (ns.map PyData.int)) = true
    rw [can_ints ns]
    rfl
theorem dep_ints : ∀ ns : List Int, PyData.depthAll (ns.map PyData.int) ≤ 1
  | [] => by decide
  | n :: ns => by
    have ih := dep_ints ns
    have h1 : PyData.depth (.int n) ≤ 1 := by simp [PyData.depth]
    simp only [List.map_cons, PyData.depthAll]
    omega
theorem can_rows : ∀ rs : List (List Int), PyData.canLayAll0 (rs.map dR) = true
  | [] => rfl
  | r :: rs => by
    show (PyData.canLay0 (dR r) && PyData.canLayAll0 (rs.map dR)) = true
    rw [can_rows rs, Bool.and_true]
    show PyData.canLayAll0 (r.map PyData.int) = true
    exact can_ints r
theorem dep_row (r : List Int) : PyData.depth (dR r) ≤ 2 := by
  have h := dep_ints r
  unfold dR
  simp only [PyData.depth]
  omega
theorem dep_rows : ∀ rs : List (List Int), PyData.depthAll (rs.map dR) ≤ 2
  | [] => by decide
  | r :: rs => by
    have ih := dep_rows rs
    have h1 := dep_row r
    simp only [List.map_cons, PyData.depthAll]
    omega
theorem shp_row (r : List Int) : SeqAt.shaped (dR r) = true := by
  unfold SeqAt.shaped
  rw [Bool.and_eq_true]
  exact ⟨can_ints r, decide_eq_true (Nat.le_trans (dep_row r) (by decide))⟩
theorem shp_rows (rs : List (List Int)) : SeqAt.shaped (dRs rs) = true := by
  unfold SeqAt.shaped
  rw [Bool.and_eq_true]
  refine ⟨can_rows rs, decide_eq_true ?_⟩
  have h := dep_rows rs
  unfold dRs
  simp only [PyData.depth]
  omega
theorem eqv_same {d : PyData} (h : SeqAt.shaped d = true) : PyData.eqv d d = true := SeqAt.eqv_refl d (SeqAt.canLay_of_shaped h)
theorem neD_no {d : PyData} (h : SeqAt.shaped d = true) {A B : Prop} (b : B) : if (!PyData.eqv d d) = true then A else B := by
  rw [eqv_same h]
  exact iteF b
theorem ne_no {x : V} {A B : Prop} (b : B) : if (!decide (x = x)) = true then A else B := by
  rw [decide_eq_true rfl]
  exact iteF b
theorem know_rows {K : PySem.W.Frag} {G H : Hp} {d c : Addr} (k : Kn G H d c) : ∀ {ts : List V} {rs : List (List Int)}, Rows K H ts rs → Rows K (hide H d c) ts rs
  | _, _, .nil => .nil
  | _, _, .cons h t => .cons (know_t k h) (know_rows k t)
theorem rows_set {K : PySem.W.Frag} {H : Hp} {t : Addr} {r : List Int} : ∀ {ts : List V} {rs : List (List Int)} {i : Nat}, Rows K H ts rs → SqT K H t (r.map V.int) → Rows K H (ts.set i (.ref t)) (rs.set i r)
  | _, _, _, .nil, _ => by simpa using Rows.nil
  | _, _, 0, .cons _ tl, h => by simpa using Rows.cons h tl
  | _, _, i + 1, .cons h0 tl, h => by simpa using Rows.cons h0 (rows_set (i := i) tl h)
theorem s_off {H H' : Hp} {D : Addr} {o : HO} (s : Same H H') (h : H D = none) : Same H (upd H' D o) := fun b x e => by
  rw [upd_ne (ne_of_none e h)]
  exact s _ _ e
theorem at_nat {us : List V} {i : Nat} {x : V} (h : us[i]? = some x) : atI us (i : Int) = some x := atI_nat h
theorem ixN_nat {n i : Nat} (h : i < n) : ixN n (i : Int) = some i := by
  unfold ixN
  rw [if_pos (by omega), if_pos (by omega)]
  simp
theorem rows_take {K : PySem.W.Frag} {H : Hp} : ∀ {ts : List V} {rs : List (List Int)} {j : Nat}, Rows K H ts rs → Rows K H (ts.take j) (rs.take j)
  | _, _, _, .nil => by simpa using Rows.nil
  | _, _, 0, .cons _ _ => .nil
  | _, _, j + 1, .cons h t => .cons h (rows_take t)
theorem six_nat {n d m : Nat} (h : m ≤ n) : HT.sIx n d (some (m : Int)) = m := by
  rw [HT.sIx_nat]
  omega
theorem cut_from (us : List V) (n : Nat) (h : n ≤ us.length) : cutV us (some (n : Int)) none = us.drop n := by
  unfold cutV
  rw [show HT.sIx us.length 0 (some (n : Int)) = n from six_nat h, show HT.sIx us.length us.length none = us.length from rfl]
  exact List.take_of_length_le (by rw [List.length_drop]; exact Nat.le_refl _)
theorem cut_to (us : List V) (x : Int) : ∃ j, cutV us none (some x) = us.take j := by
  unfold cutV
  exact ⟨_, by rw [show HT.sIx us.length 0 none = 0 from rfl, List.drop_zero]⟩
theorem rows_drop {K : PySem.W.Frag} {H : Hp} : ∀ {ts : List V} {rs : List (List Int)} {j : Nat}, Rows K H ts rs → Rows K H (ts.drop j) (rs.drop j)
  | _, _, _, .nil => by simpa using Rows.nil
  | _, _, 0, .cons h t => .cons h t
  | _, _, j + 1, .cons _ t => by simpa using rows_drop (j := j) t
theorem cut_nat (us : List V) (m : Nat) : cutV us none (some (m : Int)) = us.take m := by
  unfold cutV
  rw [show HT.sIx us.length 0 none = 0 from rfl, List.drop_zero, HT.sIx_nat, Nat.sub_zero]
  by_cases h : m ≤ us.length
  · rw [Nat.min_eq_left h]
  · rw [Nat.min_eq_right (by omega), List.take_of_length_le (Nat.le_refl _), List.take_of_length_le (by omega)]
end Lw

namespace Lw
open PySem L2 PySem.Spec PyProof.Rows
/-- X(), X an own exception class without own __init__ -/
theorem pmk_none {X : Cx} {pos : Pos} {C : Addr} {bmB : List Value} {B newId initId : String} {x : Str} {p : Pos} (F : ExcBaseFacts B newId initId bmB) (e : PySem.W.excIn X.K C bmB newId = true) (gC : X.mg x = some (.ref C))
    (kC : PySem.W.keepIn X.K (.ref C) = true) (rs : Raises X (.ref C)) (hg : Gl X x) (hdb : (x == ("__debug__" : Str)) = false := by decide) :
    PMk X (.Call (.Name x p) [] [] pos) (fun _ H Q => Q (.ref C) none H) := by
  intro pins s σ H Q I h
  refine wpAny_Call_Name_kw (ld_glob I hg gC ?_ hdb)
  refine PySem.W.callWith_K0 I.kIn kC ?_
  show wpAny _ _ (call (.ref C) []) _ _ _
  obtain ⟨bm, N, nm, qn, bs, hdct, sn, sub, ab, col, dd, k0, k1, k2, k3, k5, mN, hC, hN, hni, T⟩ := exc_obj I.kIn e
  exact wpAny_call_exc_subT F T hC hN hni (fun h' a hm => mk_of I hm rs h (I.hok.gone hm.new)) (Nat.zero_le _)
/-- what the written part says of an own exception class over ValueError -/
structure OwnX (K : PySem.W.Frag) (mg : Str → Option Value) (x : Str) (C : Addr) : Prop where
  g : mg x = some (.ref C)
  ex : PySem.W.excIn K C [.type "ValueError", .type "Exception", .type "BaseException", .type "object"] "ValueError.__new__" = true
  kp : PySem.W.keepIn K (.ref C) = true
  bE : PySem.W.subIn K (.ref C) (.type "BaseException") = some true
  tE : PySem.W.typeIn K (.ref C) = some (.type "type")
  iE : PySem.W.isClsIn K C = true
  sE : PySem.W.subIn K (.ref C) (.ref C) = some true
theorem OwnX.me {K : PySem.W.Frag} {mg : Str → Option Value} {x : Str} {C : Addr} (o : OwnX K mg x C) : PySem.W.exmOne K (.ref C) (.ref C) = some true := by
  have e1 : (PySem.W.subIn K (.ref C) (.type "BaseException") == some true) = true := by rw [o.bE]; rfl
  have e3 : (PySem.W.clsIn K C).isSome = true := o.iE
  have e2 : ((PySem.W.clsIn K C).isSome && PySem.W.typeIn K (.ref C) == some (.type "type")) = true := by rw [e3, o.tE]; rfl
  show (if _ then (if _ then _ else _) else _) = some true
  rw [if_pos e1, if_pos e2]
  exact o.sE
end Lw

/-! ### defs that may show data: nothing is being shown around them -/
namespace Lw
open PySem L2 PySem.Spec PyProof.Rows
/-- a def's promise where nothing is being shown around it -/
structure FnG (P : Program) (w : World) (K : PySem.W.Frag) (mg : Str → Option Value) (base : Heap) (CX : CXT) (k : Nat) (f : Addr) (fd : FuncData) (ps : List Str) (sp : Sp) : Prop where
  len : ∀ vs H Q E, sp vs H Q E → vs.length = ps.length
  run : ∀ (A : Around) (outer : List Env) (s : Shared) (H : Hp) (args : Args) (us : List Value) (vs : List V) (Q : VK) (E : XK), A.guards = some [] → Room k A → Env0 P w K mg base A outer s H → BindsTo s fd args (ps.zip us) → Vals vs us →
    sp vs H Q E → codeAny (model P w) A (.call (.ref f) args) (CR CX outer P w H s Q E) s
section
variable {P : Program} {w : World} {K : PySem.W.Frag} {mg : Str → Option Value} {base : Heap} {CX : CXT}
theorem FnG.of {k : Nat} {f : Addr} {fd : FuncData} {ps : List Str} {sp : Sp} (F : FnOk P w K mg base CX k f fd ps sp) : FnG P w K mg base CX k f fd ps sp :=
  ⟨F.len, fun A outer s H args us vs Q E _ hr e0 hb r h => F.run A outer s H args us vs Q E hr e0 hb r h⟩
/-- a def by its body, the guards known -/
theorem okG_of {x qual : Str} {st : Stmt} {f : Addr} {fd : FuncData} {N ps : List Str} {k : Nat} {sp : Sp} (F : Fun K x qual st f fd) (S : FnScope N ps (defScope st)) (len : ∀ vs H Q E, sp vs H Q E → vs.length = ps.length)
    (hbody : ∀ (cdv : Value) (A : Around) (outer : List Env) (s : Shared) (H : Hp) (vs : List V) (Q : VK) (E : XK), A.guards = some [] → Room k (A.deeper (envOfC qual (defScope st) s.heap.objs.size f cdv)) → sp vs H Q E →
      ∃ t, PSs (cxOf CX P w K mg base N qual (defScope st) f cdv A outer s H E) (defBody st) t ∧ t { nx := fun _ H' => Q .non H', rt := Q } (start N vs) H) :
    FnG P w K mg base CX (k + 1) f fd ps sp := by
  obtain ⟨oc, od, kV, doc, pm, an, cdv, ct, osl, rfl, lk, hcd⟩ := F.ex
  refine ⟨len, fun A outer s H args us vs Q E hG hR e0 hb r hsp => ?_⟩
  have X1 : K.In s.heap := e0.mod.kin.keeps fun b o e => (e0.bs b o e).1
  have lim : s.heap.NoLimit := e0.mod.nolimit.keeps fun b o e => (e0.bs b o e).1
  have kinds : ∀ y ∈ ps.zip us, (defScope st).names.lookup y.1 = some .local ∨ ((defScope st).names.lookup y.1 = some .cell ∧ ((cellsFrom (s.heap.objs.size + 1) (defScope st).names []).lookup y.1).isSome = true) := by
    rintro ⟨n, v⟩ hy
    cases S.par n (List.of_mem_zip hy).1 with
    | inl q => exact .inl q
    | inr q => exact .inr ⟨q, PySem.W.cellsFrom_some _ _ _ (.inl q)⟩
  refine codeAny_call_function hR.depth (X1 _ _ lk) rfl S.co S.gen rfl (PySem.W.codeRec_of X1 hcd) (hb _ _ _ _ ?_)
  refine wpAny_newFunctionEnv_cells S.kind kinds fun env he s1 ic => ?_
  subst he
  refine ⟨lim.keeps ic.toInCall.keep, codeAny_func ?_⟩
  obtain ⟨t, ht, hq⟩ := hbody cdv A outer s H vs Q E hG (hR.deeper _) hsp
  have I := inv_start (CX := CX) (E := E) S hR.hd e0 (len _ _ _ _ hsp) r ic
  refine wpAny_mono (ht.run [] s1 (start N vs) H _ I hq) (fun fl s' hs => ?_) fun e s' hs => hs
  cases fl with
  | ret u =>
    obtain ⟨v, σ', H', J, rv, q⟩ := hs
    exact ⟨v, H', J.os, J.bare, J.base, J.hok, rv, q⟩
  | next =>
    obtain ⟨σ', H', J, q⟩ := hs
    exact ⟨V.non, H', J.os, J.bare, J.base, J.hok, (rfl : Value.none = Value.none), q⟩
  | brk =>
    obtain ⟨_, _, _, q⟩ := hs
    exact False.elim q
  | cont =>
    obtain ⟨_, _, _, q⟩ := hs
    exact False.elim q
end
section
variable {P : Program} {w : World} {K : PySem.W.Frag} {mg : Str → Option Value} {base : Heap}
/-- the same where nothing is raised -/
theorem okG_nox {x qual : Str} {st : Stmt} {f : Addr} {fd : FuncData} {N ps : List Str} {k : Nat} {sp : Sp} (F : Fun K x qual st f fd) (S : FnScope N ps (defScope st)) (len : ∀ vs H Q E, sp vs H Q E → vs.length = ps.length)
    (hbody : ∀ (cdv : Value) (A : Around) (outer : List Env) (s : Shared) (H : Hp) (vs : List V) (Q : VK) (E : XK), A.guards = some [] → Room k (A.deeper (envOfC qual (defScope st) s.heap.objs.size f cdv)) → sp vs H Q E →
      ∃ t, PSs (cxOf CX0 P w K mg base N qual (defScope st) f cdv A outer s H E).nox (defBody st) t ∧ t { nx := fun _ H' => Q .non H', rt := Q } (start N vs) H) : FnG P w K mg base CX0 (k + 1) f fd ps sp :=
  okG_of F S len fun cdv A outer s H vs Q E hG hr h => by
    obtain ⟨t, ht, q⟩ := hbody cdv A outer s H vs Q E hG hr h
    exact ⟨t, ht.nox, q⟩
end
section
variable {X : Cx} {CX : CXT} {k : Nat} {f : Addr} {fd : FuncData} {ps : List Str} {sp : Sp} {dvs : List V} {ds : List Value} {E : XK} {x : Str} {p pos : Pos} {e : Expr} {es : List Expr} {t : TA}
/-- a call of such a def from a body around which nothing is being shown -/
theorem pe_callG (F : FnG X.prog X.w X.K X.mg X.base CX k f fd ps sp) (hG : X.A.guards = some []) (hr : Room k X.A) (hg : Gl X x) (hm : X.mg x = some (.ref f)) (hk : PySem.W.keepIn X.K (.ref f) = true) (hb : Binds X.K fd ps ds) (hd : Vals dvs ds) (hx : Passes CX X E)
    (ha : PA X (e :: es) t) (hdb : (x == ("__debug__" : Str)) = false := by decide) (he : starEach (e :: es) X.env = (false, eval e X.env) :: starEach es X.env := by rfl) (hpl : (backTo pos (starEach es X.env)).any (·.1) = false := by rfl) :
    PE X (.Call (.Name x p) (e :: es) [] pos) (tCall sp dvs E t) := by
  constructor
  intro pins s σ H Q I h
  refine wpAny_Call_Name_kw (ld_glob I hg hm ?_ hdb)
  refine PySem.W.callWith_K (h₀ := X.base) I.ok.mod.kin hk (thn (ha.run pos pins s σ H _ I h) ?_) he hpl
  rintro us s1 ⟨vs, H1, I1, r, q⟩
  refine ⟨I1.kIn, ?_⟩
  have r2 := r.append hd
  have hl : (us ++ ds).length = ps.length := r2.length.symm.trans (F.len _ _ _ _ q)
  refine wpAny_call (codeAny_mono (F.run X.A X.stack s1 H1 ⟨us, []⟩ _ _ Q E hG hr I1.env0 (hb s1 us I1.kIn hl) r2 q) ?_)
  intro res s' hq
  cases res with
  | error e' => exact hx pins σ H1 s1 e' s' I1 hq
  | ok fl =>
    cases fl with
    | ret u => exact I1.after hq
    | next => cases hq
    | brk => cases hq
    | cont => cases hq
/-- repr of data -/
def rReprD (K : PySem.W.Frag) : List V → Hp → VK → Prop := fun xs H Q => ∃ (v : V) (d : PyData), xs = [v] ∧ Dp K H v d ∧ d.showable = true ∧ d.canLay0 = true ∧ d.depth ≤ 64 ∧ d.shown.length ≤ sizeLine ∧ Q (.str d.shown) H
theorem call_reprD (hG : X.A.guards = some []) (hu : X.A.units + 66 < cLine) : CallR X (.builtin "repr") (rReprD X.K) := by
  intro pins s σ H xs us Q I r h
  obtain ⟨v, d, rfl, hd, hs, hc, hp, hz, q⟩ := h
  obtain ⟨u, rfl, ru⟩ := vals1 r
  cases hd with
  | non =>
    cases (show u = Value.none from ru)
    exact PySem.P.repr_of_none ⟨.str _, H, I.tok _, ⟨_, rfl⟩, q⟩
  | bl b =>
    cases (show u = Value.bool b from ru)
    exact PySem.P.repr_of_bool ⟨.str _, H, I.tok _, ⟨_, rfl⟩, q⟩
  | int i =>
    obtain ⟨t, rfl⟩ := ru
    exact PySem.P.repr_of_int (of_decide_eq_true hs) ⟨.str _, H, I.tok _, ⟨_, rfl⟩, q⟩
  | str x =>
    obtain ⟨t, rfl⟩ := ru
    exact PySem.P.repr_of_str ⟨.str _, H, I.tok _, ⟨_, rfl⟩, q⟩ hz
  | @lst a xs ds h1 h2 =>
    obtain ⟨as, hr⟩ := Dp.reads I _ _ u (.lst h1 h2) ru
    cases (show u = Value.ref a from ru)
    exact repr_of_reads' hr hs (PyData.noDict_hsm (PyData.hasDict_of_canLay _ hc)) hG (by omega) (fun _ _ z => z) (fun h' k tk hk => ⟨.str _, H, I.kept (t' := tk) hk, ⟨_, rfl⟩, q⟩) hz
  | @tup a xs ds h1 h2 =>
    obtain ⟨as, hr⟩ := Dp.reads I _ _ u (.tup h1 h2) ru
    cases (show u = Value.ref a from ru)
    exact repr_of_reads' hr hs (PyData.noDict_hsm (PyData.hasDict_of_canLay _ hc)) hG (by omega) (fun _ _ z => z) (fun h' k tk hk => ⟨.str _, H, I.kept (t' := tk) hk, ⟨_, rfl⟩, q⟩) hz
end
end Lw

/-! ### the end of a law's row, the guards known -/
namespace Lw
open PySem L2 PySem.Spec PyProof.Rows
theorem end_call {P : Program} {w : World} {K : PySem.W.Frag} {mg mb : Str → Option Value} {CX : CXT} {k : Nat} {fa a : Addr} {fd : FuncData} {x : Str} {sp : Sp} {s₁ : Shared} {vs : List Value} {ns : List Int}
    (KX : K.In s₁.heap) (hns : s₁.heap.Ns mainGlobals mg) (hb : s₁.heap.Ns builtinsNs mb) (hbb : ∀ x : Str, x ≠ "__name__" → mb x = bootBuiltins x) (hlim : s₁.heap.NoLimit) (hg : s₁.gens = #[])
    (ha : s₁.heap.get? a = some { cls := .type "list", data := .seq vs.toArray }) (hi : IntsAre vs ns) (hl : ns.length ≤ sizeLine) (hr : Room k callerA)
    (F : ∀ base : Heap, K.In base → base.Ns mainGlobals mg → FnG P w K mg base CX k fa fd [x] sp) (hbind : ∀ (s : Shared) (u : Value), BindsTo s fd ⟨[u], []⟩ [(x, u)])
    (hsp : ∀ H : Hp, SqL K H a (ns.map V.int) → sp [.ref a] H (fun v _ => v = .bl true) fun _ _ _ => False)
    (hCX : ∀ H e s', CX [] H s₁ (fun _ _ _ => False) e s' → False) :
    codeAny (model P w) callerA (.call (.ref fa) ⟨[.ref a], []⟩) (fun r s' => r = .ok (.ret (.bool true)) ∧ OldK s₁.heap s'.heap ∧ s'.os = s₁.os ∧ AllBare s'.gens) s₁ := by
  have rv := vals_ints hi
  have lenV := hi.length
  have core : ∀ H : Hp, Only H → SqL K H a (ns.map V.int) → HOk P w H s₁.heap → (∀ b, H b ≠ none → b = a) → (H a ≠ none → K.lookup a = none) →
      codeAny (model P w) callerA (.call (.ref fa) ⟨[.ref a], []⟩) (fun r s' => r = .ok (.ret (.bool true)) ∧ OldK s₁.heap s'.heap ∧ s'.os = s₁.os ∧ AllBare s'.gens) s₁ := by
    intro H hO hS hok hA hK
    -- a tracked thing is the script
    have isA : ∀ {b : Addr} {u : HO}, H b = some u → b = a := fun {b u} q => hA b (by rw [q]; exact fun z => nomatch z)
    have dictOff : ∀ {b : Addr} {o : Obj} {es : Array DictEntry} {ep : Nat}, s₁.heap.get? b = some o → o.data = .dict es ep → H b = none := fun {b o es ep} e d => by
      cases q : H b with
      | none => rfl
      | some u =>
        have eb := isA q
        rw [eb, ha] at e
        cases e
        exact absurd (show Data.seq vs.toArray _ = Data.dict es ep from d) (fun z => nomatch z)
    have nsOff : ∀ {b : Addr} {m : Str → Option Value}, s₁.heap.Ns b m → (hidT s₁.heap H).Ns b m := fun {b m} z => by
      obtain ⟨o, es, ep, e, d, r⟩ := z
      exact ⟨o, es, ep, hidT_get e (dictOff e d), d, r⟩
    have inOff : K.In (hidT s₁.heap H) := fun b o e => by
      refine hidT_get (KX b o e) ?_
      cases q : H b with
      | none => rfl
      | some u =>
        have eb := isA q
        rw [eb] at e q
        rw [hK (by rw [q]; exact fun z => nomatch z)] at e
        cases e
    have hM : Mod K mg (hidT s₁.heap H) := by
      obtain ⟨mc, h1, h2⟩ := hlim
      exact ⟨inOff, nsOff hns, ⟨mb, nsOff hb, hbb⟩, ⟨mc, nsOff h1, h2⟩⟩
    have e0 : Env0 P w K mg (hidT s₁.heap H) callerA [] s₁ H := by
      refine ⟨rfl, hM, fun b o e => of_hidT e, Nat.le_of_eq (hidT_size _ _), trivial, fun b z => ?_, hok, .of_eq hg⟩
      cases (show b ∈ ([] : List Addr) from z)
    refine codeAny_mono ((F _ inOff (nsOff hns)).run callerA [] s₁ H ⟨[.ref a], []⟩ [.ref a] [.ref a] _ _ rfl hr e0 (hbind s₁ (.ref a)) (.cons rfl .nil) (hsp H hS)) ?_
    intro r s' h
    cases r with
    | error e => exact (hCX H e s' h).elim
    | ok fl =>
      cases fl with
      | next => cases h
      | brk => cases h
      | cont => cases h
      | ret u =>
        obtain ⟨v, H', os, bare, un, hok', r', rfl⟩ := h
        obtain rfl : u = Value.bool true := r'
        refine ⟨rfl, OldK.of_keep fun b o e => ?_, os, bare⟩
        cases q : H b with
        | none => exact un.keep b o e q (fun z => by cases (show b ∈ ([] : List Addr) from z)) (fun z => by cases z)
        | some u =>
          cases hO b with
          | inl z => rw [q] at z; cases z
          | inr z =>
            obtain ⟨ob, xs, z⟩ := z
            obtain ⟨e1, _⟩ := hok b _ z
            obtain ⟨e2, _⟩ := hok' b _ (un.frzs b ob _ z)
            rw [e] at e1
            cases e1
            exact e2
  cases hk : K.lookup a with
  | some o =>
    have e := KX a o hk
    rw [ha] at e
    cases e
    refine core (fun _ => none) (fun _ => .inl rfl) (.inr ⟨_, vs.toArray, _, hk, rfl, rfl, rfl, by rw [List.size_toArray, lenV]; exact hl, by simpa using rv⟩) (fun b u z => nomatch z) (fun b z => absurd rfl z) fun z => absurd rfl z
  | none =>
    refine core (upd (fun _ => none) a (.frz { cls := .type "list", data := .seq vs.toArray } (.lst (ns.map V.int)))) (fun b => ?_) (.inl (.inr ⟨{ cls := .type "list", data := .seq vs.toArray }, upd_same⟩)) (fun b u z => ?_) (fun b z => ?_) fun _ => hk
    · by_cases hba : b = a
      · subst hba
        exact .inr ⟨_, _, upd_same⟩
      · exact .inl (upd_ne hba)
    · by_cases hba : b = a
      · subst hba
        rw [upd_same] at z
        cases z
        exact ⟨ha, by rw [List.length_map]; exact hl, vs, _, rv, ha⟩
      · rw [upd_ne hba] at z
        cases z
    · by_cases hba : b = a
      · exact hba
      · exact absurd (upd_ne hba) z
theorem walk_G {l : PySem.W.OpenLaw} {n k : Nat} {q : Program} {loose : List Str} {XP : (Str → Option Value) → Heap → Prop} {YP : World → Heap → Prop} {d : DefRec} {K : Params → PySem.W.Frag} {CX : World → CXT} {sp : World → Sp} {x : Str}
    (hn : l.most = some n) (hn2 : n ≤ sizeLine) (hdf : d.params.defaults = []) (hr : Room k callerA)
    (hY : ∀ (w : World) (h : Heap), YP w h → (K w.params).In h)
    (F : ∀ (w : World) (mg : Str → Option Value) (fa : Addr) (h : Heap), (K w.params).In h → h.Ns mainGlobals mg → mg d.name = some (.ref fa) →
      ∃ fd : FuncData, (∀ (s : Shared) (u : Value), BindsTo s fd ⟨[u], []⟩ [(x, u)]) ∧
        ∀ base : Heap, (K w.params).In base → base.Ns mainGlobals mg → FnG l.prog w (K w.params) mg base (CX w) k fa fd [x] (sp w))
    (hsp : ∀ (w : World) (H : Hp) (a : Addr) (ns : List Int), ns.length ≤ n → SqL (K w.params) H a (ns.map V.int) → sp w [.ref a] H (fun v _ => v = .bl true) fun _ _ _ => False)
    (hCX : ∀ (w : World) (H : Hp) (s : Shared) (e : Value) (s' : Shared), CX w [] H s (fun _ _ _ => False) e s' → False) :
    PySem.W.WalkO q loose XP YP l.row.toRowW d [] (fun f vs => PySem.call f vs) := by
  refine Att.attach_call hn hdf ?_
  intro w s₀ s₁ mg mb fa o pm cd doc a vs ns G Y ho hd hcd hmg hobj hints hlen hg
  have KX := hY w _ Y
  obtain ⟨fd, hb, hF⟩ := F w mg fa _ KX G.T.g hmg
  exact end_call KX G.T.g G.T.b G.T.builtins G.T.nolimit hg hobj hints (Nat.le_trans hlen hn2) hr hF hb (fun H hS => hsp w H a ns hlen hS) fun H e s' => hCX w H s₁ e s'
end Lw

/-! ### lambdas handed to a def: a law's row whose defs make them; the tables of their code objects -/
namespace Lw
open PySem L2 PySem.Spec PyProof.Rows LamX
/-- an object with no fields at all -/
def isTab (o : Obj) : Bool := match o.data with
  | .fields vs => vs.isEmpty
  | _ => false
def noTab (K : PySem.W.Frag) : Bool := K.all fun p => !isTab p.2
theorem mem_look {α : Type} : ∀ {l : List (Addr × α)} {a : Addr} {x : α}, l.lookup a = some x → (a, x) ∈ l
  | [], _, _, h => nomatch h
  | (b, y) :: l, a, x, h => by
    unfold List.lookup at h
    split at h
    · rename_i e
      cases h
      rw [beq_iff_eq.mp e]
      exact List.mem_cons_self
    · exact List.mem_cons_of_mem _ (mem_look h)
theorem noTab_out {K : PySem.W.Frag} {h : Heap} {p : Addr} (n : noTab K = true) (X : K.In h) (e : h.get? p = some { cls := .none, data := .fields #[] }) : K.lookup p = none := by
  cases q : K.lookup p with
  | none => rfl
  | some o =>
    have m := List.all_eq_true.mp n (p, o) (mem_look q)
    have z := X _ _ q
    rw [e] at z
    cases z
    cases m
/-- a def's code object and its table, empty at the row's start -/
structure TabO (K : PySem.W.Frag) (h : Heap) (p : Addr × Addr) : Prop where
  hd : PySem.W.CodeHd h p.1 p.2
  em : h.get? p.2 = some { cls := .none, data := .fields #[] }
  out : K.lookup p.2 = none
/-- what the row's start tells of the program's defs -/
def DefTabs (q : Program) (mg : Str → Option Value) (h : Heap) : Prop := ∀ e ∈ recsOf q, ∃ (a : Addr) (o : Obj) (fd : FuncData) (c t : Addr), mg e.name = some (.ref a) ∧ h.get? a = some o ∧ o.data = .func fd ∧ fd.code = .ref c ∧ PySem.W.CodeHd h c t ∧ h.get? t = some { cls := .none, data := .fields #[] }
theorem tab_get {q : Program} {K : PySem.W.Frag} {mg : Str → Option Value} {h : Heap} {x qual : Str} {st : Stmt} {f : Addr} {fd : FuncData} (D : DefTabs q mg h) (X : K.In h) (n : noTab K = true) (F : Fun K x qual st f fd) (g : mg x = some (.ref f))
    (hq : ((recsOf q).any fun e => e.name == x) = true) : ∃ p : Addr × Addr, fd.code = .ref p.1 ∧ TabO K h p := by
  obtain ⟨e, he, hx⟩ := List.any_eq_true.mp hq
  obtain ⟨a, o, fd2, c, t, h1, h2, h3, h4, h5, h6⟩ := D e he
  rw [beq_iff_eq.mp hx, g] at h1
  cases h1
  obtain ⟨oc, od, kV, doc, pm, an, cdv, ct, osl, _, lk, _⟩ := F.ex
  rw [X _ _ lk] at h2
  cases h2
  cases h3
  exact ⟨(c, t), h4, h5, h6, noTab_out n X h6⟩
theorem end_tabs {P : Program} {w : World} {K : PySem.W.Frag} {mg mb : Str → Option Value} {CX : CXT} {k : Nat} {fa a : Addr} {cs : List (Addr × Addr)} {fd : FuncData} {x : Str} {sp : Sp} {s₁ : Shared} {vs : List Value} {ns : List Int}
    (KX : K.In s₁.heap) (hns : s₁.heap.Ns mainGlobals mg) (hb : s₁.heap.Ns builtinsNs mb) (hbb : ∀ x : Str, x ≠ "__name__" → mb x = bootBuiltins x) (hlim : s₁.heap.NoLimit) (hg : s₁.gens = #[])
    (hbm : ∃ (bm : Addr) (ob : Obj), mg "__builtins__" = some (.ref bm) ∧ bm ≠ builtinsNs ∧ s₁.heap.get? bm = some ob ∧ ob.cls = .type "module" ∧ ob.dict = some builtinsNs ∧ ob.data = .plain) (ct : ∀ p ∈ cs, TabO K s₁.heap p)
    (ha : s₁.heap.get? a = some { cls := .type "list", data := .seq vs.toArray }) (hi : IntsAre vs ns) (hl : ns.length ≤ sizeLine) (hr : Room k callerA)
    (F : ∀ base : Heap, K.In base → base.Ns mainGlobals mg → (∀ p ∈ cs, TabB base mg p.1 p.2) → FnG P w K mg base CX k fa fd [x] sp) (hbind : ∀ (s : Shared) (u : Value), BindsTo s fd ⟨[u], []⟩ [(x, u)])
    (hsp : ∀ H : Hp, (∀ p ∈ cs, H p.2 = some (.tbl #[])) → SqL K H a (ns.map V.int) → sp [.ref a] H (fun v _ => v = .bl true) fun _ _ _ => False)
    (hCX : ∀ H e s', CX [] H s₁ (fun _ _ _ => False) e s' → False) :
    codeAny (model P w) callerA (.call (.ref fa) ⟨[.ref a], []⟩) (fun r s' => r = .ok (.ret (.bool true)) ∧ OldK s₁.heap s'.heap ∧ s'.os = s₁.os ∧ AllBare s'.gens) s₁ := by
  have rv := vals_ints hi
  have lenV := hi.length
  have ts : ∀ b : Addr, b ∈ cs.map (·.2) → ∃ p ∈ cs, p.2 = b := fun b z => List.mem_map.mp z
  have at_t : ∀ b : Addr, b ∈ cs.map (·.2) → s₁.heap.get? b = some { cls := .none, data := .fields #[] } := fun b z => by
    obtain ⟨p, hp, rfl⟩ := ts b z
    exact (ct p hp).em
  have a_t : a ∉ cs.map (·.2) := fun z => by
    have e := at_t a z
    rw [ha] at e
    have d := congrArg Obj.data (Option.some.inj e)
    exact absurd (show Data.seq vs.toArray _ = Data.fields #[] from d) (fun z => nomatch z)
  have core : ∀ H : Hp, (∀ p ∈ cs, H p.2 = some (.tbl #[])) → (∀ b u, H b = some u → b ∈ cs.map (·.2) ∨ ∃ o xs, u = .frz o (.lst xs)) → SqL K H a (ns.map V.int) → HOk P w H s₁.heap → (∀ b, H b ≠ none → b = a ∨ b ∈ cs.map (·.2)) → (H a ≠ none → K.lookup a = none) →
      codeAny (model P w) callerA (.call (.ref fa) ⟨[.ref a], []⟩) (fun r s' => r = .ok (.ret (.bool true)) ∧ OldK s₁.heap s'.heap ∧ s'.os = s₁.os ∧ AllBare s'.gens) s₁ := by
    intro H hH hO hS hok hA hK
    have off : ∀ {b : Addr} {o : Obj}, s₁.heap.get? b = some o → (∀ us m, o.data ≠ .seq us m) → o.data ≠ .fields #[] → H b = none := fun {b o} e n1 n2 => by
      cases q : H b with
      | none => rfl
      | some u =>
        cases hA b (by rw [q]; exact fun z => nomatch z) with
        | inl eb =>
          rw [eb, ha] at e
          cases e
          exact absurd rfl (n1 _ _)
        | inr eb =>
          rw [at_t b eb] at e
          cases e
          exact absurd rfl n2
    have kept : ∀ {b : Addr} {o : Obj}, s₁.heap.get? b = some o → (∀ us m, o.data ≠ .seq us m) → o.data ≠ .fields #[] → (hidT s₁.heap H).get? b = some o := fun e n1 n2 => hidT_get e (off e n1 n2)
    have nsOff : ∀ {b : Addr} {m : Str → Option Value}, s₁.heap.Ns b m → (hidT s₁.heap H).Ns b m := fun {b m} z => by
      obtain ⟨o, es, ep, e, d, r⟩ := z
      exact ⟨o, es, ep, kept e (fun _ _ y => by rw [d] at y; cases y) (fun y => by rw [d] at y; cases y), d, r⟩
    have inOff : K.In (hidT s₁.heap H) := fun b o e => by
      refine hidT_get (KX b o e) ?_
      cases q : H b with
      | none => rfl
      | some u =>
        cases hA b (by rw [q]; exact fun z => nomatch z) with
        | inl eb =>
          rw [eb] at e q
          rw [hK (by rw [q]; exact fun z => nomatch z)] at e
          cases e
        | inr eb =>
          obtain ⟨p, hp, rfl⟩ := ts b eb
          rw [(ct p hp).out] at e
          cases e
    have hM : Mod K mg (hidT s₁.heap H) := by
      obtain ⟨mc, h1, h2⟩ := hlim
      exact ⟨inOff, nsOff hns, ⟨mb, nsOff hb, hbb⟩, ⟨mc, nsOff h1, h2⟩⟩
    have noG : ∀ {b : Addr} {o : Obj}, s₁.heap.get? b = some o → (∀ es ep, o.data ≠ .dict es ep) → b ≠ mainGlobals := fun {b o} e n1 z => by
      obtain ⟨o2, es, ep, e2, d2, _⟩ := hns
      rw [z, e2] at e
      cases e
      exact n1 _ _ d2
    have tb : ∀ p ∈ cs, TabB (hidT s₁.heap H) mg p.1 p.2 := fun p hp => by
      have c0 := ct p hp
      constructor
      · obtain ⟨o, us, r0, r1, r2, r3, r4, r5, r6, e1, k1, d1, v1, rest⟩ := c0.hd
        refine ⟨o, us, r0, r1, r2, r3, r4, r5, r6, kept e1 (fun _ _ y => by rw [d1] at y; cases y) (fun y => ?_), k1, d1, v1, rest⟩
        rw [d1] at y
        cases y
        simp at v1
      · obtain ⟨bm, ob, b1, b2, b3, b4, b5, b6⟩ := hbm
        refine ⟨bm, ob, b1, b2, noG b3 (fun _ _ y => by rw [b6] at y; cases y), fun y => ?_, kept b3 (fun _ _ y => by rw [b6] at y; cases y) (fun y => by rw [b6] at y; cases y), b4, b5, b6⟩
        rw [y, c0.em] at b3
        cases b3
        cases b6
      · exact fun y => noG c0.em (fun _ _ z => nomatch z) y.symm
    have e0 : Env0 P w K mg (hidT s₁.heap H) callerA [] s₁ H := by
      refine ⟨rfl, hM, fun b o e => of_hidT e, Nat.le_of_eq (hidT_size _ _), trivial, fun b z => ?_, hok, .of_eq hg⟩
      cases (show b ∈ ([] : List Addr) from z)
    refine codeAny_mono ((F _ inOff (nsOff hns) tb).run callerA [] s₁ H ⟨[.ref a], []⟩ [.ref a] [.ref a] _ _ rfl hr e0 (hbind s₁ (.ref a)) (.cons rfl .nil) (hsp H hH hS)) ?_
    intro r s' h
    cases r with
    | error e => exact (hCX H e s' h).elim
    | ok fl =>
      cases fl with
      | next => cases h
      | brk => cases h
      | cont => cases h
      | ret u =>
        obtain ⟨v, H', os, bare, un, hok', r', rfl⟩ := h
        obtain rfl : u = Value.bool true := r'
        have stay : ∀ b o, b ∉ cs.map (·.2) → s₁.heap.get? b = some o → s'.heap.get? b = some o := fun b o nb e => by
          cases q : H b with
          | none => exact un.keep b o e q (fun z => by cases (show b ∈ ([] : List Addr) from z)) (fun z => by cases z)
          | some u =>
            cases hO b u q with
            | inl z => exact absurd z nb
            | inr z =>
              obtain ⟨ob, xs, rfl⟩ := z
              obtain ⟨e1, _⟩ := hok b _ q
              obtain ⟨e2, _⟩ := hok' b _ (un.frzs b ob _ q)
              rw [e] at e1
              cases e1
              exact e2
        have more : ∀ b, b ∈ cs.map (·.2) → ∃ (p : Addr × Addr) (ws : Array Value), p ∈ cs ∧ p.2 = b ∧ s'.heap.get? b = some { cls := .none, data := .fields ws } := fun b z => by
          obtain ⟨p, hp, rfl⟩ := ts b z
          obtain ⟨ws, y⟩ := un.tbls p.2 #[] (hH p hp)
          exact ⟨p, _, hp, rfl, hok' p.2 _ y⟩
        refine ⟨rfl, ⟨fun b o e => ?_, fun b o e => ?_⟩, os, bare⟩
        · by_cases hb : b ∈ cs.map (·.2)
          · obtain ⟨p, ws, hp, rfl, hm⟩ := more b hb
            have em := (ct p hp).em
            rw [em] at e
            cases e
            exact .inr (.inl ⟨((ct p hp).hd.tab em).isCodeTable, rfl, #[], ws, rfl, by rw [Array.empty_append]; exact hm⟩)
          · exact .inl (stay b o hb e)
        · by_cases hb : b ∈ cs.map (·.2)
          · obtain ⟨p, ws, hp, rfl, hm⟩ := more b hb
            exact ⟨_, hm⟩
          · exact ⟨o, stay b o hb e⟩
  have mem_t : ∀ p ∈ cs, p.2 ∈ cs.map (·.2) := fun p hp => List.mem_map_of_mem hp
  cases hk : K.lookup a with
  | some o =>
    have e := KX a o hk
    rw [ha] at e
    cases e
    refine core (fun b => if b ∈ cs.map (·.2) then some (.tbl #[]) else none) (fun p hp => if_pos (mem_t p hp)) (fun b u z => ?_) (.inr ⟨_, vs.toArray, _, hk, rfl, rfl, rfl, by rw [List.size_toArray, lenV]; exact hl, by simpa using rv⟩) (fun b u z => ?_) (fun b z => ?_) fun z => absurd (if_neg a_t) z
    · by_cases h : b ∈ cs.map (·.2)
      · exact .inl h
      · rw [if_neg h] at z
        cases z
    · have z2 : (if b ∈ cs.map (·.2) then some (HO.tbl #[]) else none) = some u := z
      by_cases h : b ∈ cs.map (·.2)
      · rw [if_pos h] at z2
        cases z2
        exact at_t b h
      · rw [if_neg h] at z2
        cases z2
    · by_cases h : b ∈ cs.map (·.2)
      · exact .inr h
      · exact absurd (if_neg h) z
  | none =>
    have ne_a : ∀ p ∈ cs, p.2 ≠ a := fun p hp z => a_t (z ▸ mem_t p hp)
    refine core (upd (fun b => if b ∈ cs.map (·.2) then some (.tbl #[]) else none) a (.frz { cls := .type "list", data := .seq vs.toArray } (.lst (ns.map V.int)))) (fun p hp => by rw [upd_ne (ne_a p hp)]; exact if_pos (mem_t p hp)) (fun b u z => ?_)
      (.inl (.inr ⟨{ cls := .type "list", data := .seq vs.toArray }, upd_same⟩)) (fun b u z => ?_) (fun b z => ?_) fun _ => hk
    · by_cases hba : b = a
      · subst hba
        rw [upd_same] at z
        cases z
        exact .inr ⟨_, _, rfl⟩
      · rw [upd_ne hba] at z
        by_cases h : b ∈ cs.map (·.2)
        · exact .inl h
        · rw [if_neg h] at z
          cases z
    · by_cases hba : b = a
      · subst hba
        rw [upd_same] at z
        cases z
        exact ⟨ha, by rw [List.length_map]; exact hl, vs, _, rv, ha⟩
      · rw [upd_ne hba] at z
        by_cases h : b ∈ cs.map (·.2)
        · rw [if_pos h] at z
          cases z
          exact at_t b h
        · rw [if_neg h] at z
          cases z
    · by_cases hba : b = a
      · exact .inl hba
      · rw [upd_ne hba] at z
        by_cases h : b ∈ cs.map (·.2)
        · exact .inr h
        · exact absurd (if_neg h) z
/-- what a law with tables must show -/
def LawT (l : PySem.W.OpenLaw) (w : World) (K : PySem.W.Frag) (CX : CXT) (k n : Nat) (x : Str) (mg : Str → Option Value) (fa : Addr) (h : Heap) : Prop :=
  ∃ (fd : FuncData) (cs : List (Addr × Addr)) (sp : Sp), (∀ p ∈ cs, TabO K h p) ∧ (∀ (s : Shared) (u : Value), BindsTo s fd ⟨[u], []⟩ [(x, u)]) ∧
    (∀ (H : Hp) (a : Addr) (ns : List Int), ns.length ≤ n → (∀ p ∈ cs, H p.2 = some (.tbl #[])) → SqL K H a (ns.map V.int) → sp [.ref a] H (fun v _ => v = .bl true) fun _ _ _ => False) ∧
    ∀ base : Heap, K.In base → base.Ns mainGlobals mg → (∀ p ∈ cs, TabB base mg p.1 p.2) → FnG l.prog w K mg base CX k fa fd [x] sp
theorem walk_T {l : PySem.W.OpenLaw} {n k : Nat} {q : Program} {loose : List Str} {XP : (Str → Option Value) → Heap → Prop} {YP : World → Heap → Prop} {d : DefRec} {K : Params → PySem.W.Frag} {CX : World → CXT} {x : Str}
    (hn : l.most = some n) (hn2 : n ≤ sizeLine) (hdf : d.params.defaults = []) (hr : Room k callerA)
    (hY : ∀ (w : World) (h : Heap), YP w h → (K w.params).In h)
    (F : ∀ (w : World) (mg : Str → Option Value) (fa : Addr) (h : Heap), (K w.params).In h → h.Ns mainGlobals mg → mg d.name = some (.ref fa) → DefTabs q mg h → LawT l w (K w.params) (CX w) k n x mg fa h)
    (hCX : ∀ (w : World) (H : Hp) (s : Shared) (e : Value) (s' : Shared), CX w [] H s (fun _ _ _ => False) e s' → False) :
    PySem.W.WalkO q loose XP YP l.row.toRowW d [] (fun f vs => PySem.call f vs) := by
  refine Att.attach_call hn hdf ?_
  intro w s₀ s₁ mg mb fa o pm cd doc a vs ns G Y ho hd hcd hmg hobj hints hlen hg
  have KX := hY w _ Y
  have D : DefTabs q mg s₁.heap := fun e he => by
    obtain ⟨a, o, fd, c, t, h1, h2, h3, h4, h5, h6⟩ := G.T.tab e he
    exact ⟨a, o, fd, c, t, h1, h2, h3, h4, PySem.W.CodeHd.of h5 h6, h6.2⟩
  obtain ⟨fd, cs, sp, c1, hb, hs, hF⟩ := F w mg fa _ KX G.T.g hmg D
  exact end_tabs KX G.T.g G.T.b G.T.builtins G.T.nolimit hg G.T.bmain c1 hobj hints (Nat.le_trans hlen hn2) hr hF hb (fun H hH hS => hs H a ns hlen hH hS) fun H e s' => hCX w H s₁ e s'
/-! a def that makes lambdas: its code object is known -/
section
variable {P : Program} {w : World} {K : PySem.W.Frag} {mg : Str → Option Value} {base : Heap}
theorem okG_lam {x qual : Str} {st : Stmt} {f c : Addr} {fd : FuncData} {N ps : List Str} {k : Nat} {sp : Sp} (F : Fun K x qual st f fd) (hc : fd.code = .ref c) (S : FnScope N ps (defScope st)) (len : ∀ vs H Q E, sp vs H Q E → vs.length = ps.length)
    (hbody : ∀ (A : Around) (outer : List Env) (s : Shared) (H : Hp) (vs : List V) (Q : VK) (E : XK), A.guards = some [] → Room k (A.deeper (envOfC qual (defScope st) s.heap.objs.size f (.ref c))) → sp vs H Q E →
      ∃ t, PSs (cxOf CX0 P w K mg base N qual (defScope st) f (.ref c) A outer s H E).nox (defBody st) t ∧ t { nx := fun _ H' => Q .non H', rt := Q } (start N vs) H) : FnG P w K mg base CX0 (k + 1) f fd ps sp := by
  have F0 := F
  obtain ⟨oc, od, kV, doc, pm, an, cdv, ct, osl, rfl, lk, hcd⟩ := F.ex
  obtain rfl : cdv = .ref c := hc
  refine ⟨len, fun A outer s H args us vs Q E hG hR e0 hb r hsp => ?_⟩
  have X1 : K.In s.heap := e0.mod.kin.keeps fun b o e => (e0.bs b o e).1
  have lim : s.heap.NoLimit := e0.mod.nolimit.keeps fun b o e => (e0.bs b o e).1
  have kinds : ∀ y ∈ ps.zip us, (defScope st).names.lookup y.1 = some .local ∨ ((defScope st).names.lookup y.1 = some .cell ∧ ((cellsFrom (s.heap.objs.size + 1) (defScope st).names []).lookup y.1).isSome = true) := by
    rintro ⟨n, v⟩ hy
    cases S.par n (List.of_mem_zip hy).1 with
    | inl q => exact .inl q
    | inr q => exact .inr ⟨q, PySem.W.cellsFrom_some _ _ _ (.inl q)⟩
  refine codeAny_call_function hR.depth (X1 _ _ lk) rfl S.co S.gen rfl (PySem.W.codeRec_of X1 hcd) (hb _ _ _ _ ?_)
  refine wpAny_newFunctionEnv_cells S.kind kinds fun env he s1 ic => ?_
  subst he
  refine ⟨lim.keeps ic.toInCall.keep, codeAny_func ?_⟩
  obtain ⟨t, ht0, hq⟩ := hbody A outer s H vs Q E hG (hR.deeper _) hsp
  have ht := ht0.nox
  have I := inv_start (CX := CX0) (E := E) S hR.hd e0 (len _ _ _ _ hsp) r ic
  refine wpAny_mono (ht.run [] s1 (start N vs) H _ I hq) (fun fl s' hs => ?_) fun e s' hs => hs
  cases fl with
  | ret u =>
    obtain ⟨v, σ', H', J, rv, q⟩ := hs
    exact ⟨v, H', J.os, J.bare, J.base, J.hok, rv, q⟩
  | next =>
    obtain ⟨σ', H', J, q⟩ := hs
    exact ⟨V.non, H', J.os, J.bare, J.base, J.hok, (rfl : Value.none = Value.none), q⟩
  | brk =>
    obtain ⟨_, _, _, q⟩ := hs
    exact False.elim q
  | cont =>
    obtain ⟨_, _, _, q⟩ := hs
    exact False.elim q
end
section
variable {X : Cx}
/-- x(lambda: body), x a def of one parameter -/
theorem pe_lamF {Ts : List (Addr × Str)} {TT : (XK → Hp → VK → Prop) → Hp → VK → Prop} {x a : Str} {g c p0 : Addr} {fd : FuncData} {st : Stmt} {k : Nat} {Ng : List Str} {params : Arguments} {body : Expr} {scope : Scope} {t : XK → TE} {p lpos pos : Pos}
    (hg : Gl X x) (hm : X.mg x = some (.ref g)) (F : Fun X.K x x st g fd) (hb : Binds X.K fd [a] []) (S : FnScope Ng [a] (defScope st)) (hNg : Ng[0]? = some a) (hva : Vis (defScope st) a)
    (hG : ∀ cdv : Value, GivesTo X Ng x (defScope st) g cdv (defBody st) a (X.env.qual ++ "<lambda>") TT)
    (TB : TabB X.base X.mg c p0) (hcode : X.env.code = .ref c) (hmT : (p0, X.env.qual ++ "<lambda>") ∈ Ts) (hu : ∀ p ∈ Ts, p.1 = p0 → p.2 = X.env.qual ++ "<lambda>") (hr : Room (k + 2) X.A) (L : lamSB X.env.scope scope = true) (hdef : defaultsOf params X.env = ([], []))
    (hbind : ∀ (q : Str) (cl : List (Str × Addr)) (pm cv ctv : Value), bindArgs (PySem.W.kla_fn "<lambda>" q params body scope cl pm cv ctv) ⟨[], []⟩ = pure [])
    (hbody : ∀ (A : Around) (outer : List Env) (s : Shared) (H : Hp) (E : XK) (f c' : Addr), Room k (A.deeper (lamEnv X scope s.heap.objs.size f c')) → PE (lamCx X A outer s H E scope f c') body (t E))
    (hdb : (x == ("__debug__" : Str)) = false := by decide) (hd : (a == ("__debug__" : Str)) = false := by decide) (hcd : (a == ("__classdict__" : Str)) = false := by decide) :
    PE X (.Call (.Name x p) [.Lambda params body scope lpos] [] pos) (tLam Ts TT t) := by
  obtain ⟨oc, od, kV, doc, pm, an, cdv, ct, osl, rfl, lk, hc2⟩ := F.ex
  exact pe_lamcall hg hm F.kp lk hc2 hb S hNg hva (hG cdv) TB hcode hmT hu hr (lamS_by L) hdef hbind hbody hdb hd hcd
/-- what a callee lets out of a lambda's body is what its maker's wish takes -/
theorem pass_lam {A : Around} {outer : List Env} {s : Shared} {H : Hp} {E : XK} {scope : Scope} {f c' : Addr} : Passes (L2.CX X.prog X.w) (lamCx X A outer s H E scope f c') E :=
  passes_call (X := lamCx X A outer s H E scope f c') (W := fun cls d _ H => E cls d H) (takes_of rfl rfl rfl rfl) fun _ _ _ _ h => h
end
/-! what is known stays, but the tables -/
theorem extN_t {K : PySem.W.Frag} {H H' : Hp} {t : Addr} {xs : List V} (e : ExtN H H') (h : SqT K H t xs) : SqT K H' t xs := by
  rcases h with (h | ⟨o, h⟩) | h
  · exact .inl (.inl (e _ _ h (fun _ z => nomatch z)))
  · exact .inl (.inr ⟨o, e _ _ h (fun _ z => nomatch z)⟩)
  · exact .inr h
theorem extN_l {K : PySem.W.Frag} {H H' : Hp} {t : Addr} {xs : List V} (e : ExtN H H') (h : SqL K H t xs) : SqL K H' t xs := by
  rcases h with (h | ⟨o, h⟩) | h
  · exact .inl (.inl (e _ _ h (fun _ z => nomatch z)))
  · exact .inl (.inr ⟨o, e _ _ h (fun _ z => nomatch z)⟩)
  · exact .inr h
theorem extN_rows {K : PySem.W.Frag} {H H' : Hp} (e : ExtN H H') : ∀ {ts : List V} {rs : List (List Int)}, Rows K H ts rs → Rows K H' ts rs
  | _, _, .nil => .nil
  | _, _, .cons h t => .cons (extN_t e h) (extN_rows e t)
theorem extN_same {H H' : Hp} (e : Same H H') : ExtN H H' := fun b o h _ => e b o h
/-- the source stays; all else is known anew -/
theorem extN_src {H H' : Hp} {d c : Addr} (s : Src H d c) (e : ExtN H H') : Src H' d c := by
  obtain ⟨xs, l, m, t, h1, h2, r⟩ := s
  exact ⟨xs, l, m, t, e _ _ h1 (fun _ z => nomatch z), e _ _ h2 (fun _ z => nomatch z), r⟩
theorem extN_kn {G H H' : Hp} {d c : Addr} (k : Kn G H d c) (e : ExtN H H') : Kn (hide H' d c) H' d c ∧ ExtN G (hide H' d c) := by
  have s := extN_src k.src e
  have k' : Kn (fun _ => none) H' d c := ⟨fun b o z => (nomatch z), rfl, rfl, s⟩
  refine ⟨know k', fun b o h n => ?_⟩
  have h1 : b ≠ d := k.nd h
  have h2 : b ≠ c := k.nc h
  unfold hide
  rw [if_neg (by simp [h1, h2])]
  exact e _ _ (k.le _ _ h) n
/-- the tables are known with all else -/
theorem tabs_hide {Ts : List (Addr × Str)} {G H : Hp} {d c : Addr} (k : Kn G H d c) (h : Tabs Ts H) : Tabs Ts (hide H d c) := fun p hp => by
  obtain ⟨ps, e, t3, q⟩ := h p hp
  obtain ⟨xs, l, m, t, h1, h2, _⟩ := k.src
  have off : ∀ {b : Addr} {o : HO}, H b = some o → (∀ kv, o ≠ .dK kv) → (∀ ys, o ≠ .lst ys) → (hide H d c) b = some o := fun {b o} e n1 n2 => by
    have a1 : b ≠ d := fun z => by rw [z, h1] at e; exact n1 _ (Option.some.inj e).symm
    have a2 : b ≠ c := fun z => by rw [z, h2] at e; exact n2 _ (Option.some.inj e).symm
    unfold hide
    rw [if_neg (by simp [a1, a2])]
    exact e
  refine ⟨ps, off e (fun _ z => nomatch z) (fun _ z => nomatch z), t3, fun pos cv hc => ?_⟩
  obtain ⟨c1, e1, e2⟩ := q pos cv hc
  exact ⟨c1, e1, off e2 (fun _ z => by unfold CodeO at z; cases z) (fun _ z => by unfold CodeO at z; cases z)⟩
end Lw

/-! ### zip of lists and tuples in any mix; enumerate of a tuple -/
namespace Lw
open PySem L2 PySem.Spec PyProof.Rows
/-- a list (true), a tuple (false) -/
def SqK (K : PySem.W.Frag) (k : Bool) (H : Hp) (a : Addr) (xs : List V) : Prop := match k with
  | true => SqL K H a xs
  | false => SqT K H a xs
def ItK (k : Bool) (h : Heap) (it l : Addr) (i : Nat) : Prop := match k with
  | true => h.IsListIter it l i
  | false => h.IsTupleIter it l i
def AtK (k : Bool) (h : Heap) (l : Addr) (its : Array Value) : Prop := match k with
  | true => h.IsList l its
  | false => h.IsTuple l its
theorem SqK.same {K : PySem.W.Frag} {k : Bool} {H H' : Hp} {a : Addr} {xs : List V} (e : Same H H') (h : SqK K k H a xs) : SqK K k H' a xs := by
  cases k with
  | true => exact e.seq h
  | false => exact sameT e h
section
variable {X : Cx} {pins : List (Addr × Obj)} {σ : L2.St} {H : Hp} {s : Shared} {a : Addr} {xs ys : List V} {k : Bool}
theorem sq_at (I : Inv X pins σ H s) (h : SqK X.K k H a xs) : ∃ its : List Value, Vals xs its ∧ AtK k s.heap a its.toArray ∧ a < s.heap.objs.size := by
  cases k with
  | true =>
    obtain ⟨its, rv, p, _⟩ := I.list h
    exact ⟨its, rv, p.isList, p.lt⟩
  | false =>
    obtain ⟨its, rv, p, _⟩ := I.tuple h
    obtain ⟨o, ho, q⟩ := id p
    exact ⟨its, rv, p, Heap.lt_size ho⟩
theorem sq_inj (I : Inv X pins σ H s) (h : SqK X.K k H a xs) (h' : SqK X.K k H a ys) : xs = ys := by
  cases k with
  | true => exact I.list_inj h h'
  | false => exact I.tuple_inj h h'
end
theorem drK {prog : Program} {w : World} {A : Around} (k : Bool) (hh : A.handled = none) (it l : Addr) (hne : l ≠ it) (items : Array Value) :
    Draws prog w A it [it, l] items.size (fun i v => items[i]? = some v) (fun i h => ItK k h it l i ∧ AtK k h l items) := by
  cases k with
  | true => exact Draws.list hh it l hne items
  | false => exact Draws.tuple hh it l hne items
theorem ItK.obj {k : Bool} {h : Heap} {it l : Addr} {i : Nat} (z : ItK k h it l i) : ∃ o, h.get? it = some o ∧ ∀ v, o.data ≠ .cell v := by
  cases k with
  | true =>
    obtain ⟨o, e, _, d⟩ := z
    exact ⟨o, e, fun v q => by rw [d] at q; cases q⟩
  | false =>
    obtain ⟨o, e, _, d⟩ := z
    exact ⟨o, e, fun v q => by rw [d] at q; cases q⟩
theorem ItK.at {k : Bool} {h h' : Heap} {it l : Addr} {i : Nat} (z : ItK k h it l i) (e : ∀ o, h.get? it = some o → h'.get? it = some o) : ItK k h' it l i := by
  cases k with
  | true => exact Heap.IsListIter.at z e
  | false => exact Heap.IsTupleIter.at z e
/-- what zip goes through -/
def ItzM (K : PySem.W.Frag) (k1 k2 : Bool) (a b : Addr) : It :=
  ⟨fun i H => ∃ (xs ys : List V) (x y : V), SqK K k1 H a xs ∧ SqK K k2 H b ys ∧ xs[i]? = some x ∧ ys[i]? = some y,
    fun i H v H' => ∃ T x y, v = .ref T ∧ H T = none ∧ H' = upd H T (.tup [x, y]) ∧ (∀ xs, SqK K k1 H a xs → xs[i]? = some x) ∧ ∀ ys, SqK K k2 H b ys → ys[i]? = some y,
    fun i H => ∃ xs ys : List V, SqK K k1 H a xs ∧ SqK K k2 H b ys ∧ (xs.length = i ∨ ys.length = i) ∧ i ≤ xs.length ∧ i ≤ ys.length⟩
theorem turn_zipM {P : Program} {w : World} {K : PySem.W.Frag} {elts : List Expr} {kk : Nat} {tpos : Pos} {k1 k2 : Bool} {a b z TI TO i1 i2 : Addr} (D : ZipSep2 z TI TO i1 i2 [i1, a] [i2, b]) (n1 : a ≠ i1) (n2 : b ≠ i2) :
    Turn P w K (.Tuple elts kk tpos) (ItzM K k1 k2 a b) [z, TI, TO, i1, i2] z (fun i h => IsZip h z TI TO .none ∧ IsTupOf2 h TI (.ref i1) (.ref i2) ∧ (∃ x y, IsTupOf2 h TO x y) ∧ ItK k1 h i1 a i ∧ ItK k2 h i2 b i) where
  mem := by simp
  obj := fun i h st c hc => by
    obtain ⟨hz, hTI, ⟨x, y, hTO⟩, g1, g2⟩ := st
    simp only [List.mem_cons, List.not_mem_nil, or_false] at hc
    rcases hc with rfl | rfl | rfl | rfl | rfl
    · exact ⟨_, hz, fun v q => nomatch q⟩
    · exact ⟨_, hTI, fun v q => nomatch q⟩
    · exact ⟨_, hTO, fun v q => nomatch q⟩
    · exact g1.obj
    · exact g2.obj
  keep := fun i h h' st k => by
    obtain ⟨hz, hTI, ⟨x, y, hTO⟩, g1, g2⟩ := st
    exact ⟨k z (by simp) _ hz, k TI (by simp) _ hTI, ⟨x, y, k TO (by simp) _ hTO⟩, g1.at (k i1 (by simp)), g2.at (k i2 (by simp))⟩
  item := by
    rintro X rfl rfl rfl hc i pins s σ H E I hf ⟨hz, hTI, ⟨x0, y0, hTO⟩, g1, g2⟩ ⟨xs, ys, x, y, hqx, hqy, hx, hy⟩
    obtain ⟨its, rv, p, _⟩ := sq_at I hqx
    obtain ⟨its2, rv2, p2, _⟩ := sq_at I hqy
    obtain ⟨u, hu, ru⟩ := rv.get hx
    obtain ⟨u2, hu2, ru2⟩ := rv2.get hy
    have hzl : z < s.heap.objs.size := Heap.lt_size hz
    have hh : X.A.in1.handled = none := I.ok.hd hc
    refine wpAny_pyNext_zipD2_item D (drK k1 hh i1 a n1 its.toArray) (drK k2 hh i2 b n2 its2.toArray) hz hTI hTO ⟨g1, p⟩ ⟨g2, p2⟩ (by simpa using (List.getElem?_eq_some_iff.mp hu).1) (by simpa using (List.getElem?_eq_some_iff.mp hu2).1) ?_
    intro v1 v2 h' tk e1 e2 z' TO' st1 st2 hT hsz hk
    have q1 : v1 = u := by rw [show its.toArray[i]? = some u by simpa using hu] at e1; exact (Option.some.inj e1).symm
    have q2 : v2 = u2 := by rw [show its2.toArray[i]? = some u2 by simpa using hu2] at e2; exact (Option.some.inj e2).symm
    subst q1 q2
    refine ⟨_, rfl, wpAny_letOwnedTupleGo_zip (s := { s with heap := h', toks := tk }) z' fun h'' z'' sb => ?_⟩
    have hT2 : h''.get? s.heap.objs.size = some { cls := .type "tuple", data := .seq #[v1, v2] } := (sb.2 _ (Nat.ne_of_gt hzl)).trans hT
    have new : ObjOk X.prog X.w (upd H s.heap.objs.size (.tup [x, y])) h'' s.heap.objs.size (.tup [x, y]) :=
      ⟨by show 2 ≤ sizeLine; decide, [v1, v2], .cons ru (.cons ru2 .nil), ⟨_, hT2, rfl, _, rfl⟩⟩
    have off : ∀ c o, c ∉ [z, TI, TO, i1, i2] → s.heap.get? c = some o → h''.get? c = some o := fun c o hb q => by
      simp only [List.mem_cons, List.not_mem_nil, or_false, not_or] at hb
      exact (sb.2 c hb.1).trans (hk c o hb.1 hb.2.2.1 hb.2.2.2.1 hb.2.2.2.2 q)
    have I1 : Inv X pins σ (upd H s.heap.objs.size (.tup [x, y])) { s with heap := h'', toks := tk } := I.turnedNew (t' := tk) (ch := [z, TI, TO, i1, i2]) off hf (Nat.le_refl _) new
    refine ⟨.ref s.heap.objs.size, _, I1, rfl, ⟨_, x, y, rfl, I.hok.fresh (Nat.le_refl _), rfl, fun l hl => by rw [sq_inj I hl hqx]; exact hx, fun l hl => by rw [sq_inj I hl hqy]; exact hy⟩, ⟨z'', ?_, ⟨v1, v2, ?_⟩, ?_, ?_⟩, fun c hcm => ?_⟩
    · exact (sb.2 _ D.TIz).trans (hk _ _ D.TIz D.TITO D.TIi1 D.TIi2 hTI)
    · exact (sb.2 _ D.TOz).trans TO'
    · exact st1.1.at fun o q => (sb.2 _ (D.zi1).symm).trans q
    · exact st2.1.at fun o q => (sb.2 _ (D.zi2).symm).trans q
    · have hlt : c < s.heap.objs.size := by
        simp only [List.mem_cons, List.not_mem_nil, or_false] at hcm
        rcases hcm with rfl | rfl | rfl | rfl | rfl
        · exact hzl
        · exact Heap.lt_size hTI
        · exact Heap.lt_size hTO
        · obtain ⟨o, e, _⟩ := g1.obj; exact Heap.lt_size e
        · obtain ⟨o, e, _⟩ := g2.obj; exact Heap.lt_size e
      rw [upd_ne (Nat.ne_of_lt hlt)]
      exact (hf c hcm).1
  done := by
    rintro X rfl rfl rfl hc i pins s σ H E I hf ⟨hz, hTI, ⟨x0, y0, hTO⟩, g1, g2⟩ ⟨xs, ys, hqx, hqy, hend, b1, b2⟩
    obtain ⟨its, rv, p, _⟩ := sq_at I hqx
    obtain ⟨its2, rv2, p2, _⟩ := sq_at I hqy
    have l1 := rv.length
    have l2 := rv2.length
    have hh : X.A.in1.handled = none := I.ok.hd hc
    refine wpAny_pyNext_zipD2_end D (drK k1 hh i1 a n1 its.toArray) (drK k2 hh i2 b n2 its2.toArray) hz hTI hTO ⟨g1, p⟩ ⟨g2, p2⟩ (by simp; omega) (by simp; omega) (by simp; omega) ?_
    intro h' tk hk
    refine ⟨rfl, I.turnedL (t' := tk) (ch := [z, TI, TO, i1, i2]) (fun c o hb q => ?_) hf⟩
    simp only [List.mem_cons, List.not_mem_nil, or_false, not_or] at hb
    exact hk c o hb.1 hb.2.2.1 hb.2.2.2.1 hb.2.2.2.2 q
  self := fun A i s Q E st h => wpAny_pyIter_zip st.1 h
def iZipM (K : PySem.W.Frag) (ta : TA) : TI := fun σ H R => ta σ H fun vs H1 => ∃ k1 k2 a b xs ys, vs = [.ref a, .ref b] ∧ SqK K k1 H1 a xs ∧ SqK K k2 H1 b ys ∧ R (ItzM K k1 k2 a b) H1
theorem bgK (k : Bool) (l : Addr) (items : Array Value) : ∃ o, Begins (.ref l) o (fun h => AtK k h l items) ∧ ∀ (h : Heap) (it : Addr), h.get? it = some o → ItK k h it l 0 := by
  cases k with
  | true => exact ⟨_, begins_list l items, fun h it e => ⟨_, e, rfl, rfl⟩⟩
  | false => exact ⟨_, begins_tuple l items, fun h it e => ⟨_, e, rfl, rfl⟩⟩
theorem neA {x y : Nat} (h : ¬ x = y) : @Ne Addr x y := h
theorem niA {x y z : Nat} (h : ¬ x = y) (g : ¬ x = z) : ¬ @List.Mem Addr x [y, z] := fun q => by
  cases q with
  | head => exact h rfl
  | tail _ q =>
    cases q with
    | head => exact g rfl
    | tail _ q => cases q
theorem sepN (N a b : Nat) (la : a < N) (lb : b < N) : ZipSep2 (N + 4) (N + 2) (N + 3) N (N + 1) [N, a] [N + 1, b] where
  TIz := neA (by omega)
  TOz := neA (by omega)
  TITO := neA (by omega)
  TIi1 := neA (by omega)
  mem1 := List.mem_cons_self
  zf1 := niA (by omega) (by omega)
  Tf1 := niA (by omega) (by omega)
  TIi2 := neA (by omega)
  mem2 := List.mem_cons_self
  zf2 := niA (by omega) (by omega)
  Tf2 := niA (by omega) (by omega)
  sep1_2 := niA (by omega) (by omega)
  sep2_1 := niA (by omega) (by omega)
theorem pi_zipM {X : Cx} {e e2 : Expr} {ta : TA} {p pos tpos : Pos} {elts : List Expr} {kk : Nat} (hg : Gl X "zip") (hm : X.mg "zip" = none) (ha : PA X [e, e2] ta)
    (hs : starEach [e, e2] X.env = (false, eval e X.env) :: starEach [e2] X.env := by rfl) (hpl : (backTo pos (starEach [e2] X.env)).any (·.1) = false := by rfl) :
    PI X (.Tuple elts kk tpos) (.Call (.Name "zip" p) [e, e2] [] pos) (iZipM X.K ta) := by
  constructor
  intro pins s σ H R I h
  refine Call_ (ld_blt I hg hm PyProof.Rows.boot_zip (PyProof.Rows.callWith_type1 (thn (ha.run pos pins s σ H _ I h) ?_) hs hpl))
  rintro us s1 ⟨vs, H1, I1, r1, k1, k2, a, b, xs, ys, rfl, hqx, hqy, q⟩
  obtain ⟨u1, u2, rfl, ra, rb⟩ := vals2 r1
  cases (show u1 = Value.ref a from ra)
  cases (show u2 = Value.ref b from rb)
  obtain ⟨its, rv, p1, la⟩ := sq_at I1 hqx
  obtain ⟨its2, rv2, p2, lb⟩ := sq_at I1 hqy
  obtain ⟨o1, B1, j1⟩ := bgK k1 a its.toArray
  obtain ⟨o2, B2, j2⟩ := bgK k2 b its2.toArray
  refine zip_begins2 B1 B2 p1 p2 ?_
  intro h' hz hTI hTO e1 e2 hsz hk
  refine wpAny_pyIter_zip hz ?_
  have I2 : Inv X pins σ H1 { s1 with heap := h' } := I1.kept (t' := s1.toks) hk
  have sep := sepN s1.heap.objs.size a b la lb
  refine ⟨s1.heap.objs.size + 4, [s1.heap.objs.size + 4, s1.heap.objs.size + 2, s1.heap.objs.size + 3, s1.heap.objs.size, s1.heap.objs.size + 1], _, _, H1, rfl, I2, turn_zipM sep (Nat.ne_of_lt la) (Nat.ne_of_lt (Nat.lt_succ_of_lt lb)), ⟨hz, hTI, ⟨_, _, hTO⟩, j1 _ _ e1, j2 _ _ e2⟩, fun c hcm => ?_, q⟩
  have hle : s1.heap.objs.size ≤ c := by
    simp only [List.mem_cons, List.not_mem_nil, or_false] at hcm
    rcases hcm with rfl | rfl | rfl | rfl | rfl <;> first | exact Nat.le_refl _ | exact Nat.le_add_right _ _
  exact I1.fpOk hle (I1.hok.fresh hle)
/-! ### enumerate of a tuple, of a list -/
theorem meets_enumK {v : Value} {o : Obj} {H : Heap → Prop} (B : Begins v o H) :
    Meets (Builtin.«enumerate.__new__» ⟨[.type "enumerate", v], []⟩) (fun _ R s => H s.heap ∧
      R (.ok (.ret (.ref (s.heap.push o).objs.size))) { s with heap := (s.heap.push o).push { cls := .type "enumerate", data := .fields #[.none, .bool false, .ref s.heap.objs.size, rawInt 0, .none, .none] } }) :=
  .of_wp fun prog w A R s z => by
    obtain ⟨g1, g2, g3, g4, g5⟩ := s
    obtain ⟨h1, z⟩ := z
    have hsub := sub_enumerate
    have q1 : ∀ {A' : Around} {E : Value → Shared → Prop} {Q : Value → Shared → Prop}, Q (.ref g1.objs.size) ⟨g1.push o, g2, g3, g4, g5⟩ → wpAny (model prog w) A' (pyIter v) Q E ⟨g1, g2, g3, g4, g5⟩ :=
      fun q => B.iter prog w _ _ ⟨g1, g2, g3, g4, g5⟩ _ h1 q
    wp_walk using q1
    refine wpAny_stack_any fun st => wpAny_pure ?_
    split
    · rename_i c _ _ _ _ _
      cases (c == Value.type "enumerate")
      · wp_walk using q1
        exact ⟨_, rfl, z⟩
      · wp_walk using q1
        exact ⟨_, rfl, z⟩
    · wp_walk using q1
      exact ⟨_, rfl, z⟩
section
variable {prog : Program} {w : World} {A : Around} {E : Value → Shared → Prop} {s : Shared}
theorem enumK_begins {v : Value} {o : Obj} {H : Heap → Prop} {Q : Value → Shared → Prop} (B : Begins v o H) (h1 : H s.heap)
    (h : ∀ h', IsEnum h' (s.heap.objs.size + 1) s.heap.objs.size 0 .none → h'.get? s.heap.objs.size = some o → (∀ b o, s.heap.get? b = some o → h'.get? b = some o) → Q (.ref (s.heap.objs.size + 1)) { s with heap := h' }) :
    wpAny (model prog w) A (call (.type "enumerate") [v]) Q E s := by
  refine callType_new F.called_enumerate (by decide) (F.typeCall_enumerate_1 _) (F.newCall_enumerate_1 _) (fun obj => F.args_object_init_2 obj _) F.entry_enumerate_new (meets_enumK B) ⟨h1, ?_⟩
  have sz : (s.heap.push o).objs.size = s.heap.objs.size + 1 := Heap.size_push ..
  show _ ∧ _
  rw [sz]
  have en : IsEnum ((s.heap.push o).push { cls := .type "enumerate", data := .fields #[.none, .bool false, .ref s.heap.objs.size, rawInt 0, .none, .none] }) (s.heap.objs.size + 1) s.heap.objs.size 0 .none := by
    have q := Heap.get?_push_size (s.heap.push o) (o := { cls := .type "enumerate", data := .fields #[.none, .bool false, .ref s.heap.objs.size, rawInt 0, .none, .none] }) rfl
    rw [sz] at q
    exact q
  exact ⟨⟨_, en, rfl⟩, h _ en (Heap.get?_push_of_some _ (Heap.get?_push_size _ B.free)) fun b o x => Heap.get?_push_of_some _ (Heap.get?_push_of_some _ x)⟩
end
def IteM (K : PySem.W.Frag) (k : Bool) (a : Addr) : It :=
  ⟨fun i H => ∃ (xs : List V) (x : V), SqK K k H a xs ∧ xs[i]? = some x, fun i H v H' => ∃ T x, v = .ref T ∧ H T = none ∧ H' = upd H T (.tup [.int (i : Nat), x]) ∧ ∀ xs, SqK K k H a xs → xs[i]? = some x, fun i H => ∃ xs : List V, SqK K k H a xs ∧ xs.length = i⟩
theorem turn_enumM {P : Program} {w : World} {K : PySem.W.Frag} {elts : List Expr} {kk : Nat} {tpos : Pos} {k : Bool} (a e it : Addr) (n1 : a ≠ it) (hne : e ≠ it) (hea : e ≠ a) :
    Turn P w K (.Tuple elts kk tpos) (IteM K k a) [e, it] e (fun i h => (∃ old, IsEnum h e it ((i : Nat) : Int) old) ∧ ItK k h it a i) where
  mem := by simp
  obj := fun i h st b hb => by
    obtain ⟨⟨old, he⟩, g⟩ := st
    simp only [List.mem_cons, List.not_mem_nil, or_false] at hb
    rcases hb with rfl | rfl
    · exact ⟨_, he, fun v q => nomatch q⟩
    · exact g.obj
  keep := fun i h h' st k => by
    obtain ⟨⟨old, he⟩, g⟩ := st
    exact ⟨⟨old, k e (by simp) _ he⟩, g.at (k it (by simp))⟩
  item := by
    rintro X rfl rfl rfl hc i pins s σ H E I hf ⟨⟨old, he⟩, g⟩ ⟨xs, x, hq, hx⟩
    obtain ⟨its, rv, p, _⟩ := sq_at I hq
    obtain ⟨u, hu, ru⟩ := rv.get hx
    have hel : e < s.heap.objs.size := Heap.lt_size he
    have hh : X.A.in1.handled = none := I.ok.hd hc
    have hef : e ∉ [it, a] := fun q => by
      cases q with
      | head => exact hne rfl
      | tail _ q =>
        cases q with
        | head => exact hea rfl
        | tail _ q => cases q
    refine wpAny_pyNext_enum_itemD (drK k hh it a n1 its.toArray) he ⟨g, p⟩ (by simpa using (List.getElem?_eq_some_iff.mp hu).1) hne hef ?_
    intro v h' tk e1 ho st hT hsz hk
    have q1 : v = u := by rw [show its.toArray[i]? = some u by simpa using hu] at e1; exact (Option.some.inj e1).symm
    subst q1
    refine ⟨_, rfl, wpAny_letOwnedTupleGo_enum (s := { s with heap := h', toks := tk + 1 }) ho fun h'' he' sb => ?_⟩
    have hT2 : h''.get? s.heap.objs.size = some { cls := .type "tuple", data := .seq #[.int i tk, v] } := (sb.2 _ (Nat.ne_of_gt hel)).trans hT
    have new : ObjOk X.prog X.w (upd H s.heap.objs.size (.tup [.int (i : Nat), x])) h'' s.heap.objs.size (.tup [.int (i : Nat), x]) :=
      ⟨by show 2 ≤ sizeLine; decide, [.int i tk, v], .cons ⟨_, rfl⟩ (.cons ru .nil), ⟨_, hT2, rfl, _, rfl⟩⟩
    have I1 : Inv X pins σ (upd H s.heap.objs.size (.tup [.int (i : Nat), x])) { s with heap := h'', toks := tk + 1 } :=
      I.turnedNew (t' := tk + 1) (ch := [e, it]) (fun b ob hb q => by
        simp only [List.mem_cons, List.not_mem_nil, or_false, not_or] at hb
        exact (sb.2 b hb.1).trans (hk b ob hb.1 hb.2 q)) hf (Nat.le_refl _) new
    refine ⟨.ref s.heap.objs.size, _, I1, rfl, ⟨_, x, rfl, I.hok.fresh (Nat.le_refl _), rfl, fun ys hy => by rw [sq_inj I hy hq]; exact hx⟩, ⟨⟨v, ?_⟩, st.1.at fun o q => (sb.2 it (Ne.symm hne)).trans q⟩, fun b hb => ?_⟩
    · have e2 : ((i + 1 : Nat) : Int) = (i : Int) + 1 := by omega
      rw [e2]
      exact he'
    · have hlt : b < s.heap.objs.size := by
        simp only [List.mem_cons, List.not_mem_nil, or_false] at hb
        rcases hb with rfl | rfl
        · exact hel
        · obtain ⟨o, z, _⟩ := g.obj; exact Heap.lt_size z
      rw [upd_ne (Nat.ne_of_lt hlt)]
      exact (hf b hb).1
  done := by
    rintro X rfl rfl rfl hc i pins s σ H E I hf ⟨⟨old, he⟩, g⟩ ⟨xs, hq, hx⟩
    obtain ⟨its, rv, p, _⟩ := sq_at I hq
    have hl := rv.length
    have hh : X.A.in1.handled = none := I.ok.hd hc
    have ei : i = its.toArray.size := by simp; omega
    refine wpAny_pyNext_enum_endD (drK k hh it a n1 its.toArray) he (by rw [← ei]; exact ⟨g, p⟩) ?_
    intro h' eb
    exact ⟨rfl, I.turnedL (t' := s.toks) (ch := [e, it]) (fun b o hb q => by
      simp only [List.mem_cons, List.not_mem_nil, or_false, not_or] at hb
      exact eb b o hb.2 q) hf⟩
  self := fun A i s Q E st h => by
    obtain ⟨⟨_, he⟩, _⟩ := st
    exact wpAny_pyIter_enum he h
def iEnumM (K : PySem.W.Frag) (ta : TA) : TI := fun σ H R => ta σ H fun vs H1 => ∃ k a xs, vs = [.ref a] ∧ SqK K k H1 a xs ∧ R (IteM K k a) H1
theorem pi_enumM {X : Cx} {e : Expr} {ta : TA} {p pos tpos : Pos} {elts : List Expr} {kk : Nat} (hg : Gl X "enumerate") (hm : X.mg "enumerate" = none) (ha : PA X [e] ta) (hs : starEach [e] X.env = [(false, eval e X.env)] := by rfl) :
    PI X (.Tuple elts kk tpos) (.Call (.Name "enumerate" p) [e] [] pos) (iEnumM X.K ta) := by
  constructor
  intro pins s σ H R I h
  refine Call_ (ld_blt I hg hm boot_enumerate (PyProof.Rows.callWith_type1 (thn (ha.run pos pins s σ H _ I h) ?_) hs rfl))
  rintro us s1 ⟨vs, H1, I1, r1, k, a, xs, rfl, hq, q⟩
  obtain ⟨u1, rfl, ra⟩ := vals1 r1
  cases (show u1 = Value.ref a from ra)
  obtain ⟨its, rv, p1, la⟩ := sq_at I1 hq
  obtain ⟨o1, B1, j1⟩ := bgK k a its.toArray
  refine enumK_begins B1 p1 ?_
  intro h' he e1 hk
  refine wpAny_pyIter_enum he ?_
  have I2 : Inv X pins σ H1 { s1 with heap := h' } := I1.kept (t' := s1.toks) hk
  refine ⟨s1.heap.objs.size + 1, [s1.heap.objs.size + 1, s1.heap.objs.size], _, _, H1, rfl, I2, turn_enumM a (s1.heap.objs.size + 1) s1.heap.objs.size (Nat.ne_of_lt la) (Nat.succ_ne_self _) (Nat.ne_of_gt (Nat.lt_succ_of_lt la)), ⟨⟨.none, he⟩, j1 _ _ e1⟩, fun c hcm => ?_, q⟩
  have hle : s1.heap.objs.size ≤ c := by
    simp only [List.mem_cons, List.not_mem_nil, or_false] at hcm
    rcases hcm with rfl | rfl <;> first | exact Nat.le_refl _ | exact Nat.le_add_right _ _
  exact I1.fpOk hle (I1.hok.fresh hle)
/-! ### loops and comprehensions over them -/
theorem for_zipM {K : PySem.W.Frag} {k1 k2 : Bool} {a b : Addr} {xs ys : List V} {g : TG} {tb : TS} {D : Ends} {σ : L2.St} {H : Hp} (hl : xs.length = ys.length) (Pv : Nat → L2.St → Hp → Prop) (h0 : Pv 0 σ H) (hq : ∀ i σ H, Pv i σ H → SqK K k1 H a xs ∧ SqK K k2 H b ys)
    (hs : ∀ (i : Nat) (x y : V) (T : Addr) (σ : L2.St) (H : Hp), xs[i]? = some x → ys[i]? = some y → Pv i σ H → H T = none → g (.ref T) σ (upd H T (.tup [x, y])) fun σ2 H2 => tb { D with nx := Pv (i + 1), ct := Pv (i + 1), bk := D.nx } σ2 H2) (hd : ∀ σ H, Pv xs.length σ H → D.nx σ H) :
    ∃ W : Nat → Nat → L2.St → Hp → Prop, (∃ m, W 0 m σ H) ∧ ∀ i m σ H, W i m σ H →
      ((ItzM K k1 k2 a b).stop i H ∧ D.nx σ H) ∨ ((ItzM K k1 k2 a b).go i H ∧ ∃ N : L2.St → Hp → Prop, (∀ σ' H', N σ' H' → ∃ m', m' < m ∧ W (i + 1) m' σ' H') ∧ ∀ v H', (ItzM K k1 k2 a b).yld i H v H' → g v σ H' fun σ2 H2 => tb { D with nx := N, ct := N, bk := D.nx } σ2 H2) := by
  refine ⟨fun i m σ H => m = xs.length - i ∧ i ≤ xs.length ∧ Pv i σ H, ⟨_, rfl, Nat.zero_le _, h0⟩, ?_⟩
  rintro i m σ H ⟨rfl, hi, p⟩
  obtain ⟨qx, qy⟩ := hq i σ H p
  by_cases hlt : i < xs.length
  · refine .inr ⟨⟨xs, ys, _, _, qx, qy, List.getElem?_eq_getElem hlt, List.getElem?_eq_getElem (hl ▸ hlt)⟩, Pv (i + 1), fun σ' H' p' => ⟨xs.length - (i + 1), by omega, rfl, hlt, p'⟩, ?_⟩
    rintro v H' ⟨T, x', y', rfl, hT, rfl, f1, f2⟩
    exact hs i x' y' T σ H (f1 xs qx) (f2 ys qy) p hT
  · have e : i = xs.length := by omega
    subst e
    exact .inl ⟨⟨xs, ys, qx, qy, .inl rfl, Nat.le_refl _, Nat.le_of_eq hl⟩, hd σ H p⟩
theorem for_enumM {K : PySem.W.Frag} {k : Bool} {a : Addr} {xs : List V} {g : TG} {tb : TS} {D : Ends} {σ : L2.St} {H : Hp} (Pv : Nat → L2.St → Hp → Prop) (h0 : Pv 0 σ H) (hq : ∀ i σ H, Pv i σ H → SqK K k H a xs)
    (hs : ∀ (i : Nat) (x : V) (T : Addr) (σ : L2.St) (H : Hp), xs[i]? = some x → Pv i σ H → H T = none → g (.ref T) σ (upd H T (.tup [.int (i : Nat), x])) fun σ2 H2 => tb { D with nx := Pv (i + 1), ct := Pv (i + 1), bk := D.nx } σ2 H2) (hd : ∀ σ H, Pv xs.length σ H → D.nx σ H) :
    ∃ W : Nat → Nat → L2.St → Hp → Prop, (∃ m, W 0 m σ H) ∧ ∀ i m σ H, W i m σ H →
      ((IteM K k a).stop i H ∧ D.nx σ H) ∨ ((IteM K k a).go i H ∧ ∃ N : L2.St → Hp → Prop, (∀ σ' H', N σ' H' → ∃ m', m' < m ∧ W (i + 1) m' σ' H') ∧ ∀ v H', (IteM K k a).yld i H v H' → g v σ H' fun σ2 H2 => tb { D with nx := N, ct := N, bk := D.nx } σ2 H2) := by
  refine ⟨fun i m σ H => m = xs.length - i ∧ i ≤ xs.length ∧ Pv i σ H, ⟨_, rfl, Nat.zero_le _, h0⟩, ?_⟩
  rintro i m σ H ⟨rfl, hi, p⟩
  have qx := hq i σ H p
  by_cases hlt : i < xs.length
  · refine .inr ⟨⟨xs, _, qx, List.getElem?_eq_getElem hlt⟩, Pv (i + 1), fun σ' H' p' => ⟨xs.length - (i + 1), by omega, rfl, hlt, p'⟩, ?_⟩
    rintro v H' ⟨T, x', rfl, hT, rfl, f1⟩
    exact hs i x' T σ H (f1 xs qx) p hT
  · have e : i = xs.length := by omega
    subst e
    exact .inl ⟨⟨xs, qx, rfl⟩, hd σ H p⟩
theorem lc_zipM {K : PySem.W.Frag} {k1 k2 : Bool} {a b : Addr} {xs ys : List V} {g : TG} {tt : TT} {te : TE} {vs : List Nat} {σ : L2.St} {H1 : Hp} {D : Addr} {Qd : Hp → Prop} (hl : xs.length = ys.length) (Pv : Nat → Hp → Prop) (h0 : Pv 0 (upd H1 D (.lst []))) (hq : ∀ i H, Pv i H → SqK K k1 H a xs ∧ SqK K k2 H b ys)
    (hs : ∀ (i : Nat) (x y : V) (T : Addr) (H : Hp), xs[i]? = some x → ys[i]? = some y → Pv i H → H T = none → g (.ref T) (wipe σ vs) (upd H T (.tup [x, y])) fun σ2 H2 => wipe σ2 vs = wipe σ vs ∧ tt σ2 H2 fun b H3 =>
      if b = true then te σ2 H3 fun y H4 => ∃ acc, H4 D = some (.lst acc) ∧ acc.length < sizeLine ∧ Pv (i + 1) (upd H4 D (.lst (acc ++ [y]))) else Pv (i + 1) H3) (hd : ∀ H, Pv xs.length H → Qd H) :
    ∃ W : Nat → Nat → Hp → Prop, (∃ m, W 0 m (upd H1 D (.lst []))) ∧ ∀ i m H, W i m H →
      ((ItzM K k1 k2 a b).stop i H ∧ Qd H) ∨ ((ItzM K k1 k2 a b).go i H ∧ ∃ Nx : Hp → Prop, (∀ H', Nx H' → ∃ m', m' < m ∧ W (i + 1) m' H') ∧ ∀ x H', (ItzM K k1 k2 a b).yld i H x H' → g x (wipe σ vs) H' fun σ2 H2 => wipe σ2 vs = wipe σ vs ∧ tt σ2 H2 fun b H3 =>
        if b = true then te σ2 H3 fun y H4 => ∃ acc, H4 D = some (.lst acc) ∧ acc.length < sizeLine ∧ Nx (upd H4 D (.lst (acc ++ [y]))) else Nx H3) := by
  refine ⟨fun i m H => m = xs.length - i ∧ i ≤ xs.length ∧ Pv i H, ⟨_, rfl, Nat.zero_le _, h0⟩, ?_⟩
  rintro i m H ⟨rfl, hi, p⟩
  obtain ⟨qx, qy⟩ := hq i H p
  by_cases hlt : i < xs.length
  · refine .inr ⟨⟨xs, ys, _, _, qx, qy, List.getElem?_eq_getElem hlt, List.getElem?_eq_getElem (hl ▸ hlt)⟩, Pv (i + 1), fun H' p' => ⟨xs.length - (i + 1), by omega, rfl, hlt, p'⟩, ?_⟩
    rintro v H' ⟨T, x', y', rfl, hT, rfl, f1, f2⟩
    exact hs i x' y' T H (f1 xs qx) (f2 ys qy) p hT
  · have e : i = xs.length := by omega
    subst e
    exact .inl ⟨⟨xs, ys, qx, qy, .inl rfl, Nat.le_refl _, Nat.le_of_eq hl⟩, hd H p⟩
end Lw

namespace Lw
/-! ### rows of a ground, reckoned -/
def addR (p : Int) (r s : List Int) : List Int := List.zipWith (fun a b => (a + b) % p) r s
def subR (p : Int) (r s : List Int) : List Int := List.zipWith (fun a b => (a - b) % p) r s
def sclR (p : Int) (k : Int) (r : List Int) : List Int := r.map fun a => k * a % p
def mulR (r s : List Int) : List Int := List.zipWith (fun a b => a * b) r s
def plusR (p : Int) (r : List Int) (t : Int) (s : List Int) : List Int := List.zipWith (fun a b => (a + t * b) % p) r s
def zeroR (n : Nat) : List Int := List.replicate n 0
def combR (p : Int) (n : Nat) : List Int → List (List Int) → List Int := fun ks rs => (ks.zip rs).foldl (fun t kr => addR p t (sclR p kr.1 kr.2)) (zeroR n)
def pivR (r : List Int) : Option Nat := r.findIdx? fun a => a != 0
/-- a row of the ground with p and n -/
def IsRow (p : Int) (n : Nat) (r : List Int) : Prop := r.length = n ∧ ∀ x ∈ r, 0 ≤ x ∧ x < p
theorem IsRow.at {p : Int} {n i : Nat} {r : List Int} {x : Int} (h : IsRow p n r) (e : r[i]? = some x) : 0 ≤ x ∧ x < p := h.2 x (List.mem_of_getElem? e)
theorem get_zw {f : Int → Int → Int} {r s : List Int} {i : Nat} {x y : Int} (hx : r[i]? = some x) (hy : s[i]? = some y) : (List.zipWith f r s)[i]? = some (f x y) := by
  rw [List.getElem?_zipWith, hx, hy]
theorem len_zw {f : Int → Int → Int} {r s : List Int} {n : Nat} (h1 : r.length = n) (h2 : s.length = n) : (List.zipWith f r s).length = n := by
  rw [List.length_zipWith, h1, h2, Nat.min_self]
theorem row_zw {p : Int} (hp : 0 < p) {f : Int → Int → Int} {r s : List Int} {n : Nat} (h1 : r.length = n) (h2 : s.length = n) : IsRow p n (List.zipWith (fun a b => f a b % p) r s) := by
  refine ⟨len_zw h1 h2, fun x hx => ?_⟩
  obtain ⟨i, hi, rfl⟩ := List.getElem_of_mem hx
  rw [List.getElem_zipWith]
  exact ⟨Int.emod_nonneg _ (Int.ne_of_gt hp), Int.emod_lt_of_pos _ hp⟩
theorem row_add {p : Int} (hp : 0 < p) {r s : List Int} {n : Nat} (h1 : r.length = n) (h2 : s.length = n) : IsRow p n (addR p r s) := row_zw hp h1 h2
theorem row_sub {p : Int} (hp : 0 < p) {r s : List Int} {n : Nat} (h1 : r.length = n) (h2 : s.length = n) : IsRow p n (subR p r s) := row_zw hp h1 h2
theorem row_plus {p : Int} (hp : 0 < p) {r s : List Int} {t : Int} {n : Nat} (h1 : r.length = n) (h2 : s.length = n) : IsRow p n (plusR p r t s) := row_zw hp h1 h2
theorem row_scl {p : Int} (hp : 0 < p) {k : Int} {r : List Int} {n : Nat} (h1 : r.length = n) : IsRow p n (sclR p k r) := by
  refine ⟨by simp [sclR, h1], fun x hx => ?_⟩
  obtain ⟨a, _, rfl⟩ := List.mem_map.mp hx
  exact ⟨Int.emod_nonneg _ (Int.ne_of_gt hp), Int.emod_lt_of_pos _ hp⟩
theorem row_zero {p : Int} (hp : 0 < p) (n : Nat) : IsRow p n (zeroR n) := by
  refine ⟨by simp [zeroR], fun x hx => ?_⟩
  have := List.eq_of_mem_replicate hx
  omega
theorem zw_congr {f g : Int → Int → Int} : ∀ {r s : List Int}, (∀ (i : Nat) (x y : Int), r[i]? = some x → s[i]? = some y → f x y = g x y) → List.zipWith f r s = List.zipWith g r s
  | [], _, _ => by simp
  | _ :: _, [], _ => by simp
  | a :: r, b :: s, h => by
    rw [List.zipWith_cons_cons, List.zipWith_cons_cons, h 0 a b rfl rfl, zw_congr fun i x y h1 h2 => h (i + 1) x y h1 h2]
theorem add_plus (p : Int) (r s : List Int) : addR p r s = plusR p r 1 s := by
  unfold addR plusR
  exact zw_congr fun i x y _ _ => by rw [Int.one_mul]
theorem sub_plus (p : Int) (r s : List Int) : subR p r s = plusR p r (p - 1) s := by
  unfold subR plusR
  refine zw_congr fun i x y _ _ => ?_
  rw [Int.sub_mul, Int.one_mul, show x + (p * y - y) = (x - y) + p * y by omega, Int.add_mul_emod_self_left]
theorem scl_plus (p k : Int) : ∀ (n : Nat) (r : List Int), r.length = n → sclR p k r = plusR p (zeroR n) k r
  | 0, r, h => by
    have : r = [] := List.eq_nil_of_length_eq_zero h
    subst this
    rfl
  | n + 1, [], h => by cases h
  | n + 1, a :: r, h => by
    have ih := scl_plus p k n r (by simpa using h)
    unfold sclR plusR zeroR at ih ⊢
    rw [List.map_cons, List.replicate_succ, List.zipWith_cons_cons, ih, Int.zero_add]
theorem add_sub {p : Int} {n : Nat} {r s : List Int} (hp : 0 < p) (h1 : IsRow p n r) (h2 : s.length = n) : addR p (subR p r s) s = r := by
  apply List.ext_getElem?
  intro i
  by_cases hi : i < n
  · have hr : i < r.length := by rw [h1.1]; exact hi
    have hs : i < s.length := by rw [h2]; exact hi
    have e1 : (subR p r s)[i]? = some ((r[i] - s[i]) % p) := get_zw (List.getElem?_eq_getElem hr) (List.getElem?_eq_getElem hs)
    have e2 : (addR p (subR p r s) s)[i]? = some (((r[i] - s[i]) % p + s[i]) % p) := get_zw e1 (List.getElem?_eq_getElem hs)
    have b := h1.2 r[i] (List.getElem_mem hr)
    rw [e2, List.getElem?_eq_getElem hr, Int.emod_add_emod, Int.sub_add_cancel, Int.emod_eq_of_lt b.1 b.2]
  · rw [List.getElem?_eq_none_iff.mpr (by rw [(row_add hp (row_sub hp h1.1 h2).1 h2).1]; omega), List.getElem?_eq_none_iff.mpr (by rw [h1.1]; omega)]
theorem comb_snoc (p : Int) (n : Nat) (ks : List Int) (rs : List (List Int)) (k : Int) (r : List Int) (h : ks.length = rs.length) : combR p n (ks ++ [k]) (rs ++ [r]) = addR p (combR p n ks rs) (sclR p k r) := by
  unfold combR
  rw [List.zip_append h, List.foldl_append]
  rfl
theorem add_scl (p : Int) (t : List Int) (k : Int) (r : List Int) : addR p t (sclR p k r) = plusR p t k r := by
  unfold addR sclR plusR
  rw [List.zipWith_map_right]
  exact zw_congr fun i x y _ _ => by rw [Int.add_emod_emod]
theorem row_comb {p : Int} (hp : 0 < p) {n : Nat} {ks : List Int} {rs : List (List Int)} (h : ∀ r ∈ rs, IsRow p n r) : IsRow p n (combR p n ks rs) := by
  unfold combR
  have : ∀ (l : List (Int × List Int)) (t : List Int), IsRow p n t → (∀ kr ∈ l, IsRow p n kr.2) → IsRow p n (l.foldl (fun t kr => addR p t (sclR p kr.1 kr.2)) t) := by
    intro l
    induction l with
    | nil => intro t ht _; exact ht
    | cons a l ih =>
      intro t ht hl
      exact ih _ (row_add hp ht.1 (row_scl hp (hl a (by simp)).1).1) fun kr hk => hl kr (by simp [hk])
  exact this _ _ (row_zero hp n) fun kr hk => h _ (List.of_mem_zip hk).2
/-- the places with an entry -/
def ents (r : List Int) (m : Nat) : List Int := ((List.range m).filter fun k => (r.getD k 0) != 0).map fun k : Nat => (k : Int)
theorem piv_none {r : List Int} (h : pivR r = none) : ents r r.length = [] := by
  unfold ents
  rw [List.map_eq_nil_iff, List.filter_eq_nil_iff]
  intro k hk
  have hk' : k < r.length := List.mem_range.mp hk
  have := (List.findIdx?_eq_none_iff.mp h) r[k] (List.getElem_mem hk')
  simpa [List.getD_eq_getElem?_getD, hk'] using this
theorem piv_some {r : List Int} {k : Nat} (h : pivR r = some k) : ∃ l, ents r r.length = (k : Int) :: l := by
  obtain ⟨hk, hx, hl⟩ := List.findIdx?_eq_some_iff_getElem.mp h
  have e : List.range r.length = List.range k ++ k :: (List.range (r.length - (k + 1))).map (fun x => (k + 1) + x) := by
    rw [show r.length = (k + 1) + (r.length - (k + 1)) by omega, List.range_add, List.range_succ]
    simp
  unfold ents
  rw [e, List.filter_append, List.filter_cons]
  have h1 : (List.range k).filter (fun k => (r.getD k 0) != 0) = [] := by
    rw [List.filter_eq_nil_iff]
    intro j hj
    have hj' : j < k := List.mem_range.mp hj
    have := hl j hj'
    simpa [List.getD_eq_getElem?_getD, show j < r.length by omega] using this
  have h2 : ((r.getD k 0) != 0) = true := by simpa [List.getD_eq_getElem?_getD, hk] using hx
  rw [h1, if_pos h2]
  exact ⟨_, rfl⟩
end Lw

/-! ### data that may be shown -/
namespace Lw
open PySem L2
structure Shw (d : PyData) (k b : Nat) : Prop where
  sh : d.showable = true
  can : d.canLay0 = true
  dp : d.depth ≤ k
  ls : d.leavesShort 13 = true
  bk : d.bulk ≤ b
structure ShwA (ds : List PyData) (k b : Nat) : Prop where
  sh : PyData.showableAll ds = true
  can : PyData.canLayAll0 ds = true
  dp : PyData.depthAll ds ≤ k
  ls : PyData.leavesShortAll 13 ds = true
  bk : PyData.bulkAll ds ≤ b
theorem Shw.fits {d : PyData} {k b : Nat} (h : Shw d k b) (hb : b ≤ 2 ^ 20) : d.shown.length ≤ sizeLine := PyData.shown_fits_bulk (B := 13) (by decide) (by decide) h.ls (Nat.le_trans h.bk hb)
theorem ShwA.nil : ShwA [] 0 0 := ⟨rfl, rfl, by simp [PyData.depthAll], rfl, by simp [PyData.bulkAll]⟩
theorem ShwA.cons {d : PyData} {ds : List PyData} {k k' b b' : Nat} (h : Shw d k b) (t : ShwA ds k' b') : ShwA (d :: ds) (max k k') (b + 1 + b') := by
  refine ⟨?_, ?_, ?_, ?_, ?_⟩
  · simp only [PyData.showableAll, h.sh, t.sh, Bool.and_self]
  · simp only [PyData.canLayAll0, h.can, t.can, Bool.and_self]
  · have h1 := h.dp; have h2 := t.dp
    simp only [PyData.depthAll]
    omega
  · simp only [PyData.leavesShortAll, h.ls, t.ls, Bool.and_self]
  · have h1 := h.bk; have h2 := t.bk
    simp only [PyData.bulkAll]
    omega
theorem ShwA.mono {ds : List PyData} {k k' b b' : Nat} (t : ShwA ds k b) (h1 : k ≤ k') (h2 : b ≤ b') : ShwA ds k' b' := ⟨t.sh, t.can, Nat.le_trans t.dp h1, t.ls, Nat.le_trans t.bk h2⟩
theorem Shw.mono {d : PyData} {k k' b b' : Nat} (t : Shw d k b) (h1 : k ≤ k') (h2 : b ≤ b') : Shw d k' b' := ⟨t.sh, t.can, Nat.le_trans t.dp h1, t.ls, Nat.le_trans t.bk h2⟩
theorem ShwA.lst {ds : List PyData} {k b : Nat} (t : ShwA ds k b) : Shw (.list ds) (k + 1) b := by
  refine ⟨?_, ?_, ?_, ?_, ?_⟩
  · simpa only [PyData.showable] using t.sh
  · simpa only [PyData.canLay0] using t.can
  · have := t.dp
    simp only [PyData.depth]
    omega
  · simpa only [PyData.leavesShort] using t.ls
  · simpa only [PyData.bulk] using t.bk
theorem ShwA.tup {ds : List PyData} {k b : Nat} (t : ShwA ds k b) : Shw (.tuple ds) (k + 1) b := by
  refine ⟨?_, ?_, ?_, ?_, ?_⟩
  · simpa only [PyData.showable] using t.sh
  · simpa only [PyData.canLay0] using t.can
  · have := t.dp
    simp only [PyData.depth]
    omega
  · simpa only [PyData.leavesShort] using t.ls
  · simpa only [PyData.bulk] using t.bk
theorem shw_int {i : Int} (h0 : 0 ≤ i) (h : i < 1000000) : Shw (.int i) 1 0 := by
  refine ⟨?_, rfl, by simp [PyData.depth], ?_, by simp [PyData.bulk]⟩
  · simp only [PyData.showable, decide_eq_true_eq]
    have h1 : i.natAbs < 2 ^ 20 := by omega
    by_cases hz : i.natAbs = 0
    · rw [hz]; decide
    · have := (Nat.log2_lt hz).mpr h1
      omega
  · simp only [PyData.leavesShort, decide_eq_true_eq]
    rw [PyData.shown_int]
    exact Nat.le_trans (PyProof.Rows.toString_length_le h0 (by decide : 0 < 6) h) (by decide)
theorem shw_ints : ∀ {ns : List Int}, (∀ x ∈ ns, 0 ≤ x ∧ x < 1000000) → ShwA (ns.map PyData.int) 1 ns.length
  | [], _ => ShwA.nil.mono (by decide) (Nat.le_refl _)
  | n :: ns, h => by
    have hn := h n (by simp)
    have t := shw_ints (ns := ns) fun x hx => h x (by simp [hx])
    exact ((ShwA.cons (shw_int hn.1 hn.2) t)).mono (by decide) (by rw [List.length_cons]; omega)
theorem shw_row {r : List Int} (h : ∀ x ∈ r, 0 ≤ x ∧ x < 1000000) : Shw (dR r) 2 r.length := (shw_ints h).tup
theorem shw_rows {n : Nat} : ∀ {rs : List (List Int)}, (∀ r ∈ rs, r.length ≤ n ∧ ∀ x ∈ r, 0 ≤ x ∧ x < 1000000) → ShwA (rs.map dR) 2 (rs.length * (n + 1))
  | [], _ => ShwA.nil.mono (by decide) (Nat.zero_le _)
  | r :: rs, h => by
    have hr := h r (by simp)
    have t := shw_rows (rs := rs) fun x hx => h x (by simp [hx])
    refine (ShwA.cons (shw_row hr.2) t).mono (by decide) ?_
    rw [List.length_cons, Nat.succ_mul]
    omega
/-- the text of data, where it may be shown -/
theorem repr_ok {K : PySem.W.Frag} {H : Hp} {v : V} {d : PyData} {k b : Nat} {Q : VK} (h : Dp K H v d) (s : Shw d k b) (hk : k ≤ 64) (hb : b ≤ 2 ^ 20) (q : Q (.str d.shown) H) : rReprD K [v] H Q :=
  ⟨v, d, rfl, h, s.sh, s.can, Nat.le_trans s.dp hk, s.fits hb, q⟩
theorem nil_i {σ : L2.St} {H : Hp} {Q : List V → Hp → Prop} (h : Q [] H) : tNil σ H Q := h
theorem np_i {σ : L2.St} {H : Hp} {Q : Option Int → Hp → Prop} (h : Q none H) : tNoPart σ H Q := h
end Lw

/-! ### data with a dict as a leaf; tuples in any mix; own exceptions that keep a path -/
namespace Lw
open PySem L2 PySem.Spec PyProof.Rows
/-- the dicts that occur: {} and {0: 1} -/
inductive DctD : List (Key × V) → PyData → Prop
  | emp : DctD [] (.dict [])
  | one : DctD [(Sum.inl 0, .int 1)] (.dict [(.int 0, .int 1)])
/-- a value without a dict in it, or a dict -/
inductive Lf (K : PySem.W.Frag) (H : Hp) : V → PyData → Prop
  | dp {v : V} {d : PyData} : Dp K H v d → d.hasDict = false → Lf K H v d
  | dct {a : Addr} {kvs : List (Key × V)} {d : PyData} : H a = some (.dK kvs) → DctD kvs d → Lf K H (.ref a) d
/-- such a value, or a tuple of whole numbers with one such value amid -/
inductive Vl (K : PySem.W.Frag) (H : Hp) : V → PyData → Prop
  | lf {v : V} {d : PyData} : Lf K H v d → Vl K H v d
  | mix {a : Addr} {pre post : List Int} {x : V} {d : PyData} : SqT K H a (pre.map V.int ++ x :: post.map V.int) → Lf K H x d → Vl K H (.ref a) (.tuple (pre.map PyData.int ++ d :: post.map PyData.int))
mutual
theorem dp_same {K : PySem.W.Frag} {H H' : Hp} (e : Same H H') : ∀ (d : PyData) (v : V), Dp K H v d → Dp K H' v d
  | .none, _, h => by cases h; exact .non
  | .bool b, _, h => by cases h; exact .bl b
  | .int i, _, h => by cases h; exact .int i
  | .str x, _, h => by cases h; exact .str x
  | .list ds, _, h => by
    cases h with
    | lst hs ha => exact .lst (e.seq hs) (dp_sameA e ds _ ha)
  | .tuple ds, _, h => by
    cases h with
    | tup hs ha => exact .tup (sameT e hs) (dp_sameA e ds _ ha)
  | .dict _, _, h => by cases h
theorem dp_sameA {K : PySem.W.Frag} {H H' : Hp} (e : Same H H') : ∀ (ds : List PyData) (vs : List V), DpAll K H vs ds → DpAll K H' vs ds
  | [], _, h => by cases h; exact .nil
  | d :: ds, _, h => by
    cases h with
    | cons h1 h2 => exact .cons (dp_same e d _ h1) (dp_sameA e ds _ h2)
end
theorem Lf.mono {K : PySem.W.Frag} {H H' : Hp} {v : V} {d : PyData} (h : Lf K H v d) (e : Same H H') : Lf K H' v d := by
  cases h with
  | dp h n => exact .dp (dp_same e _ _ h) n
  | dct h k => exact .dct (e _ _ h) k
theorem Vl.mono {K : PySem.W.Frag} {H H' : Hp} {v : V} {d : PyData} (h : Vl K H v d) (e : Same H H') : Vl K H' v d := by
  cases h with
  | lf h => exact .lf (h.mono e)
  | mix h k => exact .mix (sameT e h) (k.mono e)
theorem hd_ints : ∀ ns : List Int, PyData.hasDictAll (ns.map PyData.int) = false
  | [] => by simp [PyData.hasDictAll]
  | n :: ns => by
    have := hd_ints ns
    simp [PyData.hasDictAll, PyData.hasDict, this]
theorem hd_mix (d : PyData) (post : List Int) : ∀ pre : List Int, PyData.hasDict (.tuple (pre.map PyData.int ++ d :: post.map PyData.int)) = d.hasDict
  | [] => by simp [PyData.hasDict, PyData.hasDictAll, hd_ints]
  | a :: t => by
    have := hd_mix d post t
    simpa [PyData.hasDict, PyData.hasDictAll] using this
theorem dp_mix {K : PySem.W.Frag} {H : Hp} {x : V} {d : PyData} (h : Dp K H x d) (post : List Int) : ∀ pre : List Int, DpAll K H (pre.map V.int ++ x :: post.map V.int) (pre.map PyData.int ++ d :: post.map PyData.int)
  | [] => .cons h (dp_ints post)
  | a :: t => .cons (.int a) (dp_mix h post t)
section
variable {X : Cx} {pins : List (Addr × Obj)} {σ : L2.St} {H : Hp} {s : Shared}
theorem dct_reads (I : Inv X pins σ H s) {a : Addr} {kvs : List (Key × V)} {d : PyData} (h : H a = some (.dK kvs)) (k : DctD kvs d) : ∃ as, Reads s.heap (.ref a) d as ∧ sysModules ∉ as := by
  obtain ⟨_, hn, vs, hk, o, es, ep, e, ex, hd, ko, hp, _⟩ := (show ObjOk X.prog X.w H s.heap a (.dK kvs) from I.hok a _ h)
  have hne : ¬ sysModules = a := fun z => by
    rw [← z] at hn
    exact absurd hn (by decide)
  cases k with
  | emp =>
    cases hk
    generalize hl : es.toList = l at hp
    cases hp
    refine ⟨_, .dict (kvs := []) e ex.1 hd (by rw [hl]; exact .nil) (by rw [hl]; exact .nil), by simpa using hne⟩
  | one =>
    cases hk with
    | @cons p q l1 l2 hh ht =>
      cases ht
      obtain ⟨q1, q2⟩ := q
      obtain ⟨e1, rv⟩ := hh
      simp only at e1 rv
      subst e1
      obtain ⟨t2, rfl⟩ := rv
      generalize hl : es.toList = l at hp
      cases hp with
      | @cons x kv l3 l4 hk2 hv ht =>
        cases ht
        obtain ⟨i, t, ei, ev⟩ | ⟨_, _, ei, _⟩ := keyIs_shape (k := Sum.inl 0) (v := x.key) hk2
        · obtain rfl := Sum.inl.inj ei
          refine ⟨_, .dict (kvs := [(.int 0, .int 1)]) e ex.1 hd (as := []) (bs := []) (by rw [hl]; exact ReadsAll.cons (as := []) (bs := []) (by show Reads s.heap x.key (.int 0) []; rw [ev]; exact .int 0 t) .nil) (by rw [hl]; exact ReadsAll.cons (as := []) (bs := []) (by show Reads s.heap x.val (.int 1) []; rw [hv]; exact .int 1 t2) .nil), by simpa using hne⟩
        · exact absurd ei (fun z => nomatch z)
theorem lf_reads (I : Inv X pins σ H s) {v : V} {u : Value} {d : PyData} (h : Lf X.K H v d) (r : RelV v u) : ∃ as, Reads s.heap u d as ∧ (d.hasDict = true → sysModules ∉ as) := by
  cases h with
  | dp h n =>
    obtain ⟨as, q⟩ := Dp.reads I d v u h r
    exact ⟨as, q, fun z => by rw [n] at z; cases z⟩
  | dct h k =>
    cases (show u = Value.ref _ from r)
    obtain ⟨as, q, n⟩ := dct_reads I h k
    exact ⟨as, q, fun _ => n⟩
theorem ints_reads {h : Heap} : ∀ {ns : List Int} {us : List Value}, Vals (ns.map V.int) us → ReadsAll h us (ns.map PyData.int) []
  | [], _, r => by cases r; exact .nil
  | n :: ns, _, r => by
    cases r with
    | cons r1 r2 =>
      obtain ⟨t, rfl⟩ := r1
      exact ReadsAll.cons (as := []) (bs := []) (.int n t) (ints_reads r2)
theorem mix_reads {h : Heap} {x : V} {d : PyData} {as : List Addr} {post : List Int} (hx : ∀ u, RelV x u → Reads h u d as) : ∀ {pre : List Int} {us : List Value}, Vals (pre.map V.int ++ x :: post.map V.int) us → ReadsAll h us (pre.map PyData.int ++ d :: post.map PyData.int) as
  | [], _, r => by
    cases r with
    | cons r1 r2 =>
      have := ReadsAll.cons (hx _ r1) (ints_reads (h := h) r2)
      rw [List.append_nil] at this
      exact this
  | n :: ns, _, r => by
    cases r with
    | cons r1 r2 =>
      obtain ⟨t, rfl⟩ := r1
      exact ReadsAll.cons (as := []) (.int n t) (mix_reads hx r2)
theorem vl_reads (I : Inv X pins σ H s) {v : V} {u : Value} {d : PyData} (h : Vl X.K H v d) (r : RelV v u) : ∃ as, Reads s.heap u d as ∧ (d.hasDict = true → sysModules ∉ as) := by
  cases h with
  | lf h => exact lf_reads I h r
  | @mix a pre post x d ht hx =>
    cases (show u = Value.ref a from r)
    obtain ⟨its, rv, ⟨o, ho, hc, n, hd⟩, _⟩ := I.tuple ht
    have hdi : PyData.hasDict (.tuple (pre.map PyData.int ++ d :: post.map PyData.int)) = d.hasDict := hd_mix d post pre
    have key : ∃ as, ReadsAll s.heap its (pre.map PyData.int ++ d :: post.map PyData.int) as ∧ (d.hasDict = true → sysModules ∉ as) := by
      cases hx with
      | dp h n =>
        obtain ⟨as, q⟩ := Dp.readsAll I (pre.map PyData.int ++ d :: post.map PyData.int) _ its (dp_mix h post pre) rv
        exact ⟨as, q, fun z => by rw [n] at z; cases z⟩
      | @dct b kvs _ h k =>
        obtain ⟨as, q, n⟩ := dct_reads I h k
        exact ⟨as, mix_reads (fun u ru => by cases (show u = Value.ref b from ru); exact q) rv, fun _ => n⟩
    obtain ⟨as, q, n⟩ := key
    exact ⟨_, .tuple ho hc hd q, fun z => n (hdi ▸ z)⟩
end
section
variable {X : Cx}
/-- repr of such values -/
def rReprV (K : PySem.W.Frag) : List V → Hp → VK → Prop := fun xs H Q => ∃ (v : V) (d : PyData), xs = [v] ∧ Vl K H v d ∧ d.showable = true ∧ d.depth ≤ 64 ∧ d.shown.length ≤ sizeLine ∧ Q (.str d.shown) H
theorem call_reprV (hG : X.A.guards = some []) (hu : X.A.units + 66 < cLine) : CallR X (.builtin "repr") (rReprV X.K) := by
  intro pins s σ H xs us Q I r h
  obtain ⟨v, d, rfl, hd, hs, hp, hz, q⟩ := h
  obtain ⟨u, rfl, ru⟩ := vals1 r
  obtain ⟨as, hr, hsm⟩ := vl_reads I hd ru
  cases hr with
  | none => exact PySem.P.repr_of_none ⟨.str _, H, I.tok _, ⟨_, rfl⟩, q⟩
  | bool b => exact PySem.P.repr_of_bool ⟨.str _, H, I.tok _, ⟨_, rfl⟩, q⟩
  | int i t => exact PySem.P.repr_of_int (of_decide_eq_true hs) ⟨.str _, H, I.tok _, ⟨_, rfl⟩, q⟩
  | str x t => exact PySem.P.repr_of_str ⟨.str _, H, I.tok _, ⟨_, rfl⟩, q⟩ hz
  | list h1 h2 h3 h4 => exact repr_of_reads' (.list h1 h2 h3 h4) hs hsm hG (by omega) (fun _ _ z => z) (fun h' k tk hk => ⟨.str _, H, I.kept (t' := tk) hk, ⟨_, rfl⟩, q⟩) hz
  | tuple h1 h2 h3 h4 => exact repr_of_reads' (.tuple h1 h2 h3 h4) hs hsm hG (by omega) (fun _ _ z => z) (fun h' k tk hk => ⟨.str _, H, I.kept (t' := tk) hk, ⟨_, rfl⟩, q⟩) hz
  | dict h1 h2 h3 h4 h5 => exact repr_of_reads' (.dict h1 h2 h3 h4 h5) hs hsm hG (by omega) (fun _ _ z => z) (fun h' k tk hk => ⟨.str _, H, I.kept (t' := tk) hk, ⟨_, rfl⟩, q⟩) hz
end
/-- what sort of thing a leaf is -/
inductive Kd (K : PySem.W.Frag) (H : Hp) : V → PyData → Prop
  | int (i : Int) : Kd K H (.int i) (.int i)
  | bl (b : Bool) : Kd K H (.bl b) (.bool b)
  | tup {a : Addr} {xs : List V} {ds : List PyData} : SqT K H a xs → xs.length = ds.length → (∀ (j : Nat) (x : V), xs[j]? = some x → ∃ d, ds[j]? = some d ∧ Lf K H x d) → Kd K H (.ref a) (.tuple ds)
  | oth {v : V} {d : PyData} (t : String) : (t = "NoneType" ∨ t = "str" ∨ t = "list" ∨ t = "dict") → TyX K H v (.type t) → (∀ i, d ≠ .int i) → (∀ b, d ≠ .bool b) → (∀ ds, d ≠ .tuple ds) → Kd K H v d
theorem ty_lst {K : PySem.W.Frag} {H : Hp} {a : Addr} {xs : List V} (h : SqL K H a xs) : TyX K H (.ref a) (.type "list") := by
  rcases h with (h | ⟨o, h⟩) | ⟨o, its, n, e, c, _⟩
  · exact .base (.lst h)
  · exact .base (.frz h)
  · exact .kList e c
theorem ty_tup {K : PySem.W.Frag} {H : Hp} {a : Addr} {xs : List V} (h : SqT K H a xs) : TyX K H (.ref a) (.type "tuple") := by
  rcases h with (h | ⟨o, h⟩) | ⟨o, its, n, e, c, _⟩
  · exact .base (.tup h)
  · exact .fTuple h
  · exact .kTuple e c
theorem dpa_at {K : PySem.W.Frag} {H : Hp} : ∀ {xs : List V} {ds : List PyData}, DpAll K H xs ds → PyData.hasDictAll ds = false → xs.length = ds.length ∧ ∀ (j : Nat) (x : V), xs[j]? = some x → ∃ d, ds[j]? = some d ∧ Lf K H x d
  | _, _, .nil, _ => ⟨rfl, fun j x e => by simp at e⟩
  | _, _, .cons (v := v) (vs := vs) (d := d) (ds := ds) h t, n => by
    have n' : d.hasDict = false ∧ PyData.hasDictAll ds = false := by simpa [PyData.hasDictAll] using n
    obtain ⟨h1, h2⟩ := dpa_at t n'.2
    refine ⟨by rw [List.length_cons, List.length_cons, h1], fun j x e => ?_⟩
    cases j with
    | zero =>
      simp at e
      subst e
      exact ⟨d, by simp, .dp h n'.1⟩
    | succ j => exact h2 j x (by simpa using e)
theorem lf_kd {K : PySem.W.Frag} {H : Hp} {v : V} {d : PyData} (h : Lf K H v d) : Kd K H v d := by
  cases h with
  | dp h n =>
    cases h with
    | non => exact .oth "NoneType" (.inl rfl) (.base .non) (fun _ z => nomatch z) (fun _ z => nomatch z) (fun _ z => nomatch z)
    | bl b => exact .bl b
    | int i => exact .int i
    | str x => exact .oth "str" (.inr (.inl rfl)) (.base (.str x)) (fun _ z => nomatch z) (fun _ z => nomatch z) (fun _ z => nomatch z)
    | lst hs ha => exact .oth "list" (.inr (.inr (.inl rfl))) (ty_lst hs) (fun _ z => nomatch z) (fun _ z => nomatch z) (fun _ z => nomatch z)
    | tup hs ha =>
      obtain ⟨h1, h2⟩ := dpa_at ha (by simpa [PyData.hasDict] using n)
      exact .tup hs h1 h2
  | dct h k =>
    refine .oth "dict" (.inr (.inr (.inr rfl))) (.base (.dK h)) ?_ ?_ ?_ <;> cases k <;> exact fun _ z => nomatch z
theorem vl_kd {K : PySem.W.Frag} {H : Hp} {v : V} {d : PyData} (h : Vl K H v d) : Kd K H v d := by
  cases h with
  | lf h => exact lf_kd h
  | @mix a pre post x d ht hx =>
    refine .tup ht (by simp) fun j y e => ?_
    rcases Nat.lt_trichotomy j pre.length with hj | hj | hj
    · rw [List.getElem?_append_left (by simpa using hj)] at e ⊢
      obtain ⟨z, rfl, hz⟩ := ints_at e
      exact ⟨.int z, by rw [List.getElem?_map, hz]; rfl, .dp (.int z) rfl⟩
    · subst hj
      rw [List.getElem?_append_right (by simp)] at e ⊢
      simp at e ⊢
      subst e
      exact hx
    · rw [List.getElem?_append_right (by simpa using Nat.le_of_lt hj)] at e ⊢
      obtain ⟨m, hm⟩ : ∃ m, j - (pre.map V.int).length = m + 1 := ⟨j - pre.length - 1, by rw [List.length_map]; omega⟩
      have hm' : j - (pre.map PyData.int).length = m + 1 := by rw [List.length_map] at hm ⊢; exact hm
      rw [hm] at e
      rw [hm']
      simp only [List.getElem?_cons_succ] at e ⊢
      obtain ⟨z, rfl, hz⟩ := ints_at e
      exact ⟨.int z, by rw [List.getElem?_map, hz]; rfl, .dp (.int z) rfl⟩
/-- what the written part says of an own exception class over ValueError that keeps a path -/
structure OexX (K : PySem.W.Frag) (mg : Str → Option Value) (x : Str) (C fI : Addr) : Prop where
  g : mg x = some (.ref C)
  ox : OexC K C
  iC : PySem.W.findIn K (.ref C) "__init__" = some (some (.ref fI))
  tI : PySem.W.typeIn K (.ref fI) = some (.type "function")
  me : PySem.W.exmOne K (.ref C) (.ref C) = some true
  xf : XfC K C
  np : PySem.W.findIn K (.ref C) "path" = some none
theorem exm_me {K : PySem.W.Frag} {C : Addr} (bE : PySem.W.subIn K (.ref C) (.type "BaseException") = some true) (tE : PySem.W.typeIn K (.ref C) = some (.type "type")) (iE : PySem.W.isClsIn K C = true) (sE : PySem.W.subIn K (.ref C) (.ref C) = some true) : PySem.W.exmOne K (.ref C) (.ref C) = some true := by
  have e1 : (PySem.W.subIn K (.ref C) (.type "BaseException") == some true) = true := by rw [bE]; rfl
  have e3 : (PySem.W.clsIn K C).isSome = true := iE
  have e2 : ((PySem.W.clsIn K C).isSome && PySem.W.typeIn K (.ref C) == some (.type "type")) = true := by rw [e3, tE]; rfl
  show (if _ then (if _ then _ else _) else _) = some true
  rw [if_pos e1, if_pos e2]
  exact sE
theorem oexX_mk {K : PySem.W.Frag} {mg : Str → Option Value} {x : Str} {C fI : Addr} (g : mg x = some (.ref C))
    (cls : ∃ nm q N bs bm sn sub ab col dd k0 k1 k2 k3 k5, K.lookup C = some (PySem.excClassObj nm q C N bs bm true sn sub ab col dd k0 k1 k2 k3 k5 "ValueError.__new__") ∧ PySem.HandSPX.refsVE bm = true)
    (sa : PySem.W.findIn K (.ref C) "__setattr__" = some (some (.builtin "object.__setattr__"))) (ga : PySem.W.findIn K (.ref C) "__getattribute__" = some (some (.builtin "BaseException.__getattribute__"))) (gg : PySem.W.findIn K (.ref C) "__getattr__" = some none)
    (np : PySem.W.findIn K (.ref C) "path" = some none) (iC : PySem.W.findIn K (.ref C) "__init__" = some (some (.ref fI))) (tI : PySem.W.typeIn K (.ref fI) = some (.type "function")) (kC : PySem.W.keepIn K (.ref C) = true)
    (eC : PySem.W.subIn K (.ref C) (.type "BaseException") = some true) (tC : PySem.W.typeIn K (.ref C) = some (.type "type")) (hC : PySem.W.hasDictIn K C = true) (iK : PySem.W.isClsIn K C = true) (sE : PySem.W.subIn K (.ref C) (.ref C) = some true) : OexX K mg x C fI :=
  ⟨g, ⟨cls, sa, eC, tC, kC⟩, iC, tI, exm_me eC tC iK sE, ⟨ga, gg, eC, hC⟩, np⟩
/-- the path that an own exception is made of -/
def spPath (K : PySem.W.Frag) (C : Addr) : Sp := fun vs H Q _ => ∃ (a t : Addr) (ys : List V), vs = [.ref a, .ref t] ∧ OexC K C ∧ PySem.W.findIn K (.ref C) "path" = some none ∧ H a = some (exo a C none) ∧ SqT K H t ys ∧
  ∀ dx, H dx = none → dx ≠ a → Q .non (upd (upd H dx (exd dx [("path", .ref t)])) a (exo a C (some dx)))
/-- what stands behind a raised exception with a path -/
structure Thr (K : PySem.W.Frag) (C : Addr) (H : Hp) (path : List Int) (cls : Value) (d : Option Addr) (H' : Hp) : Prop where
  c : cls = .ref C
  s : Same H H'
  f : ∃ (dd t : Addr), d = some dd ∧ H' dd = some (.xd [("path", .ref t)]) ∧ SqT K H' t (path.map V.int)
/-- C(path) runs -/
theorem thrown {K : PySem.W.Frag} {C : Addr} {H H1 : Hp} {a t : Addr} {path : List Int} {E : XK} (o : OexC K C) (np : PySem.W.findIn K (.ref C) "path" = some none) (s : Same H H1) (ht : SqT K H1 t (path.map V.int)) (ha : H1 a = none)
    (q : ∀ cls d H', Thr K C H path cls d H' → E cls d H') :
    spPath K C [.ref a, .ref t] (upd H1 a (exo a C none)) (fun v H2 => v = .non ∧ ∃ (d : Addr) (fs : List (Str × V)), H2 a = some (exo a C (some d)) ∧ H2 d = some (exd d fs) ∧ H1 d = none ∧ E (.ref C) (some d) (upd (del H2 a) d (.xd fs))) fun _ _ _ => False := by
  refine ⟨a, t, _, rfl, o, np, upd_same, sameT (same_new ha) ht, fun dx hdx ne => ⟨rfl, dx, _, upd_same, by rw [upd_ne ne, upd_same], by rw [upd_ne ne] at hdx; exact hdx, ?_⟩⟩
  have hd1 : H1 dx = none := by rw [upd_ne ne] at hdx; exact hdx
  have sm : Same H1 (upd (del (upd (upd (upd H1 a (exo a C none)) dx (exd dx [("path", .ref t)])) a (exo a C (some dx))) a) dx (.xd [("path", .ref t)])) := fun b x e => by
    have n1 : b ≠ a := ne_of_none e ha
    have n2 : b ≠ dx := ne_of_none e hd1
    rw [upd_ne n2, del_ne n1, upd_ne n1, upd_ne n2, upd_ne n1]
    exact e
  exact q _ _ _ ⟨rfl, s.trans sm, dx, t, rfl, upd_same, sameT sm ht⟩
/-- two tuples put together, wherever they stand -/
theorem cat_any {K : PySem.W.Frag} {H : Hp} {a b : Addr} {xs ys : List V} {Q : VK} (ha : SqT K H a xs) (hb : SqT K H b ys) (hl : xs.length + ys.length ≤ sizeLine) (q : ∀ t H', Same H H' → SqT K H' t (xs ++ ys) → Q (.ref t) H') : rCatA K (.ref a) (.ref b) H Q := by
  refine ⟨a, b, xs, ys, rfl, rfl, ha, hb, hl, fun e => ?_, fun _ e => ?_, fun _ _ p hp => q p _ (same_new hp) (.inl (.inl upd_same))⟩
  · exact q b H (Same.refl _) (by rw [e]; exact hb)
  · exact q a H (Same.refl _) (by rw [e, List.append_nil]; exact ha)
theorem sl_any {K : PySem.W.Frag} {H : Hp} {a : Addr} {xs : List V} {lo hi : Option Int} {Q : VK} (ha : SqT K H a xs) (q : ∀ t H', Same H H' → SqT K H' t (cutV xs lo hi) → Q (.ref t) H') : rSlA K (.ref a) lo hi H Q := by
  refine ⟨a, xs, rfl, ha, fun e => ?_, fun _ p hp => q p _ (same_new hp) (.inl (.inl upd_same))⟩
  refine q a H (Same.refl _) ?_
  have : cutV xs lo hi = xs := by
    unfold cutV
    rw [e.1, e.2, List.drop_zero, Nat.sub_zero, List.take_length]
  rw [this]
  exact ha
/-- all that stands but the source and the list D is known -/
def hide3 (H : Hp) (d c D : Addr) : Hp := fun b => if b = d ∨ b = c ∨ b = D then none else H b
theorem know3 {G H : Hp} {d c D : Addr} {xs : List V} (k : Kn (upd G D (.lst xs)) H d c) (gD : G D = none) :
    Kn (upd (hide3 H d c D) D (.lst xs)) H d c ∧ hide3 H d c D D = none ∧ Same G (hide3 H d c D) := by
  have nd : D ≠ d := k.nd upd_same
  have nc : D ≠ c := k.nc upd_same
  refine ⟨⟨fun b x e => ?_, ?_, ?_, k.src⟩, by simp [hide3], fun b x e => ?_⟩
  · by_cases hb : b = D
    · subst hb
      rw [upd_same] at e
      exact k.le _ _ (by rw [upd_same]; exact e)
    · rw [upd_ne hb] at e
      unfold hide3 at e
      split at e
      · cases e
      · exact e
  · rw [upd_ne nd.symm]
    simp [hide3]
  · rw [upd_ne nc.symm]
    simp [hide3]
  · have hb : b ≠ D := ne_of_none e gD
    have e' : (upd G D (.lst xs)) b = some x := by rw [upd_ne hb]; exact e
    have h1 : b ≠ d := k.nd e'
    have h2 : b ≠ c := k.nc e'
    unfold hide3
    rw [if_neg (by simp [h1, h2, hb])]
    exact k.le _ _ e'
theorem know3_t {K : PySem.W.Frag} {G H : Hp} {d c D t : Addr} {xs ys : List V} (k : Kn (upd G D (.lst xs)) H d c) (h : SqT K H t ys) : SqT K (hide3 H d c D) t ys := by
  obtain ⟨zs, l, m, z, h1, h2, _⟩ := k.src
  have h3 := k.le D _ upd_same
  have off : ∀ {o : HO}, H t = some o → (∀ q, o ≠ .dK q) → (∀ q, o ≠ .lst q) → (hide3 H d c D) t = some o := fun {o} e n1 n2 => by
    have a1 : t ≠ d := fun q => by rw [q, h1] at e; exact n1 _ (Option.some.inj e).symm
    have a2 : t ≠ c := fun q => by rw [q, h2] at e; exact n2 _ (Option.some.inj e).symm
    have a3 : t ≠ D := fun q => by rw [q, h3] at e; exact n2 _ (Option.some.inj e).symm
    unfold hide3
    rw [if_neg (by simp [a1, a2, a3])]
    exact e
  rcases h with (h | ⟨o, h⟩) | h
  · exact .inl (.inl (off h (fun _ q => nomatch q) (fun _ q => nomatch q)))
  · exact .inl (.inr ⟨o, off h (fun _ q => nomatch q) (fun _ q => nomatch q)⟩)
  · exact .inr h
theorem know3_o {G H : Hp} {d c D t : Addr} {xs : List V} {o : HO} (k : Kn (upd G D (.lst xs)) H d c) (h : H t = some o) (nd : t ≠ d) (nc : t ≠ c) (nD : t ≠ D) : hide3 H d c D t = some o := by
  unfold hide3
  rw [if_neg (by simp [nd, nc, nD])]
  exact h
end Lw

/-! ### own exceptions above LookupError, with one field that their own __init__ keeps -/
namespace Lw
open PySem L2 PySem.Spec PyProof.Rows
abbrev lkTail : List Value := ["LookupError", "Exception", "BaseException", "object"].map Value.type
/-- what the written part tells of such a class -/
structure LkC (K : PySem.W.Frag) (C : Addr) : Prop where
  cm : PySem.W.excInitIn K C lkTail "LookupError.__new__" = true
  ov : PySem.W.excOver K C lkTail = true
  dct : PySem.W.hasDictIn K C = true
  sta : PySem.W.findIn K (.ref C) "__setattr__" = some (some (.builtin "object.__setattr__"))
  bas : PySem.W.subIn K (.ref C) (.type "BaseException") = some true
  typ : PySem.W.typeIn K (.ref C) = some (.type "type")
  kp : PySem.W.keepIn K (.ref C) = true
section
variable {X : Cx} {pins : List (Addr × Obj)} {σ : L2.St} {H : Hp} {s : Shared} {a C : Addr} {f : Str} {y : V} {u : Value} {Q : Unit → Shared → Prop} {E : Value → Shared → Prop} {A : Around}
/-- the first field of such an exception -/
theorem lk_first (T : LkC X.K C) (I : Inv X pins σ H s) (ea : H a = some (exo a C none)) (free : PySem.W.takerIn X.K C f = some none) (ry : RelV y u)
    (done : ∀ (dx : Addr) (s' : Shared), H dx = none → dx ≠ a → Inv X pins σ (upd (upd H dx (exd dx [(f, y)])) a (exo a C (some dx))) s' → Q () s') : wpAny (model X.prog X.w) A (setAttr (.ref a) f u) Q E s := by
  obtain ⟨t1, ho⟩ := exo_at I.hok ea
  obtain ⟨hp, gs, dr, tk, os⟩ := s
  have lt : a < hp.objs.size := Heap.lt_size ho
  have free0 : H hp.objs.size = none := I.hok.fresh (Nat.le_refl _)
  have ne0 : hp.objs.size ≠ a := Nat.ne_of_gt lt
  obtain ⟨cd, hc, hd'⟩ := PySem.W.any_some T.dct
  have I0 : PySem.W.InstAt hp a _ C none := ⟨ho, rfl, rfl, trivial⟩
  refine PySem.W.set_plain (od := none) I.kIn I0 T.sta (PySem.W.osa_openX (od := none) PySem.F.store_LookupError I.kIn I0 T.ov free fun b => ?_)
  refine wpAny_bind (wpAny_pure (wpAny_bind (PySem.W.instanceDict_exc ho (PySem.W.looks_clsIn I.kIn hc) hd' ?_)))
  show wpAny _ _ (PySem.Builtin.ObjectAttr.storeInDict hp.objs.size (.str f _) f u) _ _ _
  have keep : ∀ (c : Addr) (x : Obj), c ≠ a → hp.get? c = some x → ((hp.push { cls := .type "dict", data := .dict #[] }).update a fun o => { o with dict := some hp.objs.size }).get? c = some x := fun c x hne e => by
    rw [Heap.get?_update_ne _ _ _ _ hne]
    exact Heap.get?_push_of_some _ e
  have at0 : ((hp.push { cls := .type "dict", data := .dict #[] }).update a fun o => { o with dict := some hp.objs.size }).get? a = some { cls := .ref C, dict := some hp.objs.size, data := .fields #[.ref t1, .none, .none, .none, .bool false, .none] } :=
    Heap.get?_update_self _ (Heap.get?_push_of_some _ ho) rfl
  refine PySem.HandSPX.store_in_new ⟨_, #[], _, (Heap.get?_update_ne _ _ _ _ ne0).trans (Heap.get?_push_at rfl rfl), rfl, fun e he => absurd he (by simp), fun _ => rfl⟩ fun h' tk' hn' hs => ?_
  have k2 : ∀ (c : Addr) (x : Obj), c ≠ a → hp.get? c = some x → h'.get? c = some x := fun c x hne e => (hs.2 c (Nat.ne_of_lt (Heap.lt_size e))).trans (keep c x hne e)
  have a2 : h'.get? a = some { cls := .ref C, dict := some hp.objs.size, data := .fields #[.ref t1, .none, .none, .none, .bool false, .none] } := (hs.2 a ne0.symm).trans at0
  have off : ∀ {c : Addr}, H c = none → c ≠ a := fun {c} n z => by rw [z, ea] at n; cases n
  have old : ∀ {c : Addr} {x : Obj}, hp.get? c = some x → c ≠ hp.objs.size := fun {c x} e => Nat.ne_of_lt (Heap.lt_size e)
  have U : Un X.fs [] H (upd (upd H hp.objs.size (exd hp.objs.size [(f, y)])) a (exo a C (some hp.objs.size))) hp h' := by
    refine ⟨fun c x e n _ _ => k2 c x (off n) e, fun c x e n _ _ => ⟨x.slots, k2 c x (off n) e⟩, fun c x e n _ => by rw [upd_ne (off n), upd_ne (old e)]; exact n, fun c x e _ => ?_, fun c xs e => ?_, fun c x v e => ?_, fun c ps e => ⟨#[], ?_⟩⟩
    · by_cases hca : c = a
      · exact ⟨_, by rw [hca]; exact a2⟩
      · exact ⟨x, k2 c x hca e⟩
    · rw [upd_ne (at_ne ea e exo_tup), upd_ne (ne_of_none e free0)]; exact e
    · rw [upd_ne (at_ne ea e exo_frz), upd_ne (ne_of_none e free0)]; exact e
    · rw [upd_ne (at_ne ea e exo_tbl), upd_ne (ne_of_none e free0), e]; simp
  refine done _ _ free0 ne0 (I.un (t' := tk') U fun c x e => ?_)
  by_cases hca : c = a
  · subst hca
    rw [upd_same] at e
    cases e
    exact exo_ok a2
  rw [upd_ne hca] at e
  by_cases hcd : c = hp.objs.size
  · subst hcd
    rw [upd_same] at e
    cases e
    exact exd_ok hn' (relO_put (fs := []) ry fun g => True.intro)
  rw [upd_ne hcd] at e
  refine (I.hok c x e).stay (fun m v hm z => k2 m v ?_ z) (fun m hm => ?_) fun m xs hm => ?_
  · rcases hm with rfl | hm
    · exact hca
    · exact at_ne ea hm exo_own
  · rw [upd_ne (at_ne ea hm exo_own), upd_ne (ne_of_none hm free0)]; exact hm
  · rw [upd_ne (at_ne ea hm exo_tup), upd_ne (ne_of_none hm free0)]; exact hm
end
/-- self.f = e in such a class's __init__ -/
def tLkF (K : PySem.W.Frag) (f : Str) (to te : TE) : TS := fun D σ H => te σ H fun y H1 => to σ H1 fun x H2 => ∃ a C : Addr, x = .ref a ∧ LkC K C ∧ PySem.W.takerIn K C f = some none ∧ H2 a = some (exo a C none) ∧
  ∀ dx, H2 dx = none → dx ≠ a → D.nx σ (upd (upd H2 dx (exd dx [(f, y)])) a (exo a C (some dx)))
section
variable {X : Cx} {o e : Expr} {es : List Expr} {to te : TE} {ta : TA} {f : Str} {p p' pos : Pos}
theorem ps_lkf (ho : PE X o to) (he : PE X e te) (hs : swapsWith e (some (.Attribute o f p')) pos.line X.env = pure false := by rfl) : PS X (.Assign [.Attribute o f p'] e pos) (tLkF X.K f to te) := by
  refine ⟨fun pins s σ H D I hq => ?_⟩
  refine plainObj_wpAny_Assign_Attribute (thn (he.run pins s σ H _ I hq) fun v s1 ⟨y, H1, I1, ry, q1⟩ => thn (ho.run pins s1 σ H1 _ I1 q1) fun u s2 ⟨x, H2, I2, rx, a, C, ex, T, fr, ea, q⟩ => ?_) hs
  subst ex
  cases (show u = Value.ref a from rx)
  exact lk_first T I2 ea fr ry fun dx s' n ne J => ⟨σ, _, J, q dx n ne⟩
/-- C(e), C's own __init__ promising sp -/
theorem pmk_lk {CX : CXT} {x : Str} {C fI : Addr} {k : Nat} {fd : FuncData} {ps : List Str} {sp : Sp} (T : LkC X.K C) (iC : PySem.W.findIn X.K (.ref C) "__init__" = some (some (.ref fI))) (tI : PySem.W.typeIn X.K (.ref fI) = some (.type "function"))
    (F1 : FnOk X.prog X.w X.K X.mg X.base CX k fI fd ps sp) (hr : Room (k + 1) X.A) (hb : Binds X.K fd ps []) (hx : Passes CX X (fun _ _ _ => False)) (hg : Gl X x) (hm : X.mg x = some (.ref C)) (ha : PA X (e :: es) ta)
    (hdb : (x == ("__debug__" : Str)) = false := by decide) (he : starEach (e :: es) X.env = (false, eval e X.env) :: starEach es X.env := by rfl) (hpl : (backTo pos (starEach es X.env)).any (·.1) = false := by rfl) :
    PMk X (.Call (.Name x p) (e :: es) [] pos) (tMkO C sp [] ta) := by
  intro pins s σ H Q I hq
  refine wpAny_Call_Name_kw (ld_glob I hg hm ?_ hdb)
  refine PySem.W.callWith_K (h₀ := X.base) I.ok.mod.kin T.kp (thn (ha.run pos pins s σ H _ I hq) fun us s1 ⟨vs, H1, I1, r1, hz, q1⟩ => ⟨I1.kIn, ?_⟩) he hpl
  show wpAny _ _ (call (.ref C) us) _ _ _
  obtain ⟨nm, N, qn, bs, bm, hdct, sn, sub, ab, col, dd, k0, k1, k2, k3, k5, hC, hT⟩ := PySem.W.excInit_of I1.kIn T.cm
  obtain ⟨hp, gs, dr, tk, os⟩ := s1
  have up : hp.objs.size ≤ hp.objs.size + 1 := Nat.le_succ _
  have q2 := q1 (hp.objs.size + 1) (I1.hok.fresh up)
  have more : ∀ (b : Addr) (x : Obj), hp.get? b = some x → ((hp.push (PySem.W.kdv_tup us)).push (PySem.HandSPX.excO C hp.objs.size)).get? b = some x := fun b x z => Heap.get?_push_of_some _ (Heap.get?_push_of_some _ z)
  have here : ((hp.push (PySem.W.kdv_tup us)).push (PySem.HandSPX.excO C hp.objs.size)).get? (hp.objs.size + 1) = some (PySem.HandSPX.excO C hp.objs.size) := by heap_get
  have I2 := I1.laid (t' := tk) (a := hp.objs.size + 1) (o := exo (hp.objs.size + 1) C none) (h' := (hp.push (PySem.W.kdv_tup us)).push (PySem.HandSPX.excO C hp.objs.size)) more up (exo_ok here)
  rw [List.append_nil] at q2
  have r2 : Vals (V.ref (hp.objs.size + 1) :: vs) (Value.ref (hp.objs.size + 1) :: us) := .cons rfl r1
  have ll : (Value.ref (hp.objs.size + 1) :: us).length = ps.length := by rw [← r2.length]; exact F1.len _ _ _ _ q2
  have us1 : us.length ≤ sizeLine := by rw [← Paired.length r1, sizeLine_eq]; omega
  have bnd := hb { heap := (hp.push (PySem.W.kdv_tup us)).push (PySem.HandSPX.excO C hp.objs.size), gens := gs, drawn := dr, toks := tk, os := os } (Value.ref (hp.objs.size + 1) :: us) I2.kIn (by rw [List.append_nil]; exact ll)
  rw [List.append_nil] at bnd
  have run := F1.run _ X.stack _ _ ⟨Value.ref (hp.objs.size + 1) :: us, []⟩ (Value.ref (hp.objs.size + 1) :: us) _ _ (fun _ _ _ => False) (hr.make C us []) (I2.env0.make C us []) bnd r2 q2
  refine wpAny_call (PySem.HandSPX.call_own PySem.F.excBase_LookupError hT hC (PySem.W.looks_findIn I1.kIn iC) (fun self => PySem.W.bind_fn I1.kIn self tI) us1 (codeAny_mono run fun r s' z => ?_))
  match r with
  | .error er => exact hx pins σ _ _ er s' I2 z
  | .ok (.ret w) =>
    obtain ⟨v, H2, os2, bare2, un2, hok2, rv, ev, d, fs, ea, ed, hd1, q3⟩ := z
    subst ev
    exact ⟨rv, mk_end (raises_own T.bas T.typ) I1 up more un2 hok2 os2 bare2 ea ed hd1 q3⟩
  | .ok .next => exact False.elim z
  | .ok .brk => exact False.elim z
  | .ok .cont => exact False.elim z
end
/-- such a class as the program names it -/
structure LkX (K : PySem.W.Frag) (mg : Str → Option Value) (x fld : Str) (C fI : Addr) : Prop where
  g : mg x = some (.ref C)
  ox : LkC K C
  iC : PySem.W.findIn K (.ref C) "__init__" = some (some (.ref fI))
  tI : PySem.W.typeIn K (.ref fI) = some (.type "function")
  me : PySem.W.exmOne K (.ref C) (.ref C) = some true
  xf : XfC K C
  np : PySem.W.findIn K (.ref C) fld = some none
  fr : PySem.W.takerIn K C fld = some none
theorem lkX_mk {K : PySem.W.Frag} {mg : Str → Option Value} {x fld : Str} {C fI : Addr} (g : mg x = some (.ref C)) (mk : PySem.W.excInitIn K C lkTail "LookupError.__new__" = true) (ov : PySem.W.excOver K C lkTail = true)
    (sa : PySem.W.findIn K (.ref C) "__setattr__" = some (some (.builtin "object.__setattr__"))) (ga : PySem.W.findIn K (.ref C) "__getattribute__" = some (some (.builtin "BaseException.__getattribute__"))) (gg : PySem.W.findIn K (.ref C) "__getattr__" = some none)
    (np : PySem.W.findIn K (.ref C) fld = some none) (fr : PySem.W.takerIn K C fld = some none) (iC : PySem.W.findIn K (.ref C) "__init__" = some (some (.ref fI))) (tI : PySem.W.typeIn K (.ref fI) = some (.type "function")) (kC : PySem.W.keepIn K (.ref C) = true)
    (eC : PySem.W.subIn K (.ref C) (.type "BaseException") = some true) (tC : PySem.W.typeIn K (.ref C) = some (.type "type")) (hC : PySem.W.hasDictIn K C = true) (iK : PySem.W.isClsIn K C = true) (sE : PySem.W.subIn K (.ref C) (.ref C) = some true) : LkX K mg x fld C fI :=
  ⟨g, ⟨mk, ov, hC, sa, eC, tC, kC⟩, iC, tI, exm_me eC tC iK sE, ⟨ga, gg, eC, hC⟩, np, fr⟩
end Lw

/-! ### range objects: range(n), i not in r -/
namespace Lw
open PySem L2 PySem.Spec PyProof.Rows
section
variable {X : Cx}
def rRange1 : List V → Hp → VK → Prop := fun vs H Q => ∃ j, vs = [V.int j] ∧ ∀ p, H p = none → Q (.ref p) (upd H p (.rng 0 j))
theorem cr_range1 : CallR X (.type "range") rRange1 := by
  intro pins s σ H vs us Q I r h
  obtain ⟨j, rfl, q⟩ := h
  obtain ⟨u, rfl, ru⟩ := vals1 r
  obtain ⟨t, rfl⟩ := ru
  refine call_range_1 ⟨.ref s.heap.objs.size, upd H s.heap.objs.size (.rng 0 j), I.laid (t' := s.toks + 1 + 1) (fun b o e => Heap.get?_push_of_some _ e) (Nat.le_refl _) ?_, rfl, q _ (I.hok.fresh (Nat.le_refl _))⟩
  exact ⟨s.toks, t, s.toks + 1, Heap.get?_push_size _ rfl⟩
def rNotInRng : R2 := fun x y H Q => ∃ i a lo hi, x = V.int i ∧ y = V.ref a ∧ H a = some (.rng lo hi) ∧ Q (.bl (!decide (lo ≤ i ∧ i < hi))) H
theorem op_notIn_rng : OpR X (compareOp .NotIn) rNotInRng := by
  intro pins s σ H x y v u Q I rx ry h
  obtain ⟨i, a, lo, hi, rfl, rfl, ha, q⟩ := h
  obtain ⟨k, rfl⟩ := rx
  obtain rfl : u = Value.ref a := ry
  obtain ⟨t1, t2, t3, ho⟩ := I.hok a _ ha
  refine NotIn_slot (T := "range") ⟨_, ho, rfl⟩ F.slot_range_contains (call_meets F.slot_range_contains ⟨_, ho, rfl⟩ F.entry_range_contains (F.args_range_contains_2 _ _) (L2.q_contains a lo hi i t1 t2 t3 k) ⟨ho, wpAny_truthy_bool ⟨.bl _, H, I, rfl, ?_⟩⟩)
  rw [L2.place1]
  exact q
/-- going through a range object that stands in a name -/
def iRngO (te : TE) : TI := fun σ H R => te σ H fun x H1 => ∃ (a : Addr) (lo hi : Int), x = .ref a ∧ H1 a = some (.rng lo hi) ∧ -(2 ^ 62) ≤ lo ∧ lo < 2 ^ 62 ∧ -(2 ^ 62) ≤ hi ∧ hi < 2 ^ 62 ∧ R (Itr lo (hi - lo).toNat) H1
theorem pi_rngO {tg e : Expr} {te : TE} (he : PE X e te) : PI X tg e (iRngO te) := by
  refine ⟨fun pins s σ H R I h => ?_⟩
  refine thn (he.run pins s σ H _ I h) fun v s1 ⟨x, H1, I1, r1, q1⟩ => ?_
  obtain ⟨a, lo, hi, rfl, ha, h1, h2, h3, h4, q⟩ := q1
  obtain rfl : v = Value.ref a := r1
  obtain ⟨t, u, w, ho⟩ := I1.hok a _ ha
  refine wpAny_pyIter_range (show IsRange s1.heap a lo hi 1 t u w from ho) (small_one h1 h2 h3 h4) ?_
  refine ⟨s1.heap.objs.size, [s1.heap.objs.size], _, _, H1, rfl, I1.kept (t' := s1.toks) fun b o e => Heap.get?_push_of_some _ e, turn_range _ lo (hi - lo).toNat, ?_, fun b hb => ?_, q⟩
  · have e1 : lo + ((0 : Nat) : Int) * 1 = lo := by simp
    have e2 : (((hi - lo).toNat : Nat) : Int) - ((0 : Nat) : Int) = Builtin.Range.rangeSize lo hi 1 := by rw [rangeSize_one]; split <;> omega
    show IsRangeIter _ _ (lo + ((0 : Nat) : Int) * 1) ((((hi - lo).toNat : Nat) : Int) - ((0 : Nat) : Int)) 1
    rw [e1, e2]
    exact Heap.get?_push_size _ rfl
  · have e : b = s1.heap.objs.size := by simpa using hb
    subst e
    exact I1.fpOk (Nat.le_refl _) (I1.hok.fresh (Nat.le_refl _))
/-- tuple(xs), xs a list or a tuple -/
def rTupOf (K : PySem.W.Frag) : List V → Hp → VK → Prop := fun xs H Q => ∃ p ys, xs = [.ref p] ∧ ((SqL K H p ys ∧ ∀ l, H l = none → Q (.ref l) (upd H l (.tup ys))) ∨ (SqT K H p ys ∧ Q (.ref p) H))
theorem call_tupOf : CallR X (.type "tuple") (rTupOf X.K) := call_tuple_of
/-- list(xs), xs a list or a tuple -/
def rListOf (K : PySem.W.Frag) : List V → Hp → VK → Prop := fun xs H Q => ∃ p ys, xs = [V.ref p] ∧ (SqL K H p ys ∨ SqT K H p ys) ∧ ∀ l, H l = none → Q (V.ref l) (upd H l (.lst ys))
theorem call_listOf : CallR X (.type "list") (rListOf X.K) := call_list_of
/-- the less of two -/
def rMin2 : List V → Hp → VK → Prop := fun xs H Q => ∃ i j, xs = [.int i, .int j] ∧ Q (.int (if j < i then j else i)) H
theorem cr_min2 (hc : X.calm = true) : CallR X (.builtin "min") rMin2 := call_min2 hc
/-- len(xs), xs a list or a tuple -/
def rLenOf (K : PySem.W.Frag) : List V → Hp → VK → Prop := fun xs H Q => ∃ p ys, xs = [V.ref p] ∧ (SqL K H p ys ∨ SqT K H p ys) ∧ Q (.int (ys.length : Nat)) H
theorem call_lenOf : CallR X (.builtin "len") (rLenOf X.K) := call_len_seq
end
end Lw

namespace Lw
open PySem L2
/-! ### zip, the second one the shorter -/
theorem for_zipS {K : PySem.W.Frag} {k1 k2 : Bool} {a b : Addr} {xs ys : List V} {g : TG} {tb : TS} {D : Ends} {σ : L2.St} {H : Hp} (hl : ys.length ≤ xs.length) (Pv : Nat → L2.St → Hp → Prop) (h0 : Pv 0 σ H) (hq : ∀ i σ H, Pv i σ H → SqK K k1 H a xs ∧ SqK K k2 H b ys)
    (hs : ∀ (i : Nat) (x y : V) (T : Addr) (σ : L2.St) (H : Hp), xs[i]? = some x → ys[i]? = some y → Pv i σ H → H T = none → g (.ref T) σ (upd H T (.tup [x, y])) fun σ2 H2 => tb { D with nx := Pv (i + 1), ct := Pv (i + 1), bk := D.nx } σ2 H2) (hd : ∀ σ H, Pv ys.length σ H → D.nx σ H) :
    ∃ W : Nat → Nat → L2.St → Hp → Prop, (∃ m, W 0 m σ H) ∧ ∀ i m σ H, W i m σ H →
      ((ItzM K k1 k2 a b).stop i H ∧ D.nx σ H) ∨ ((ItzM K k1 k2 a b).go i H ∧ ∃ N : L2.St → Hp → Prop, (∀ σ' H', N σ' H' → ∃ m', m' < m ∧ W (i + 1) m' σ' H') ∧ ∀ v H', (ItzM K k1 k2 a b).yld i H v H' → g v σ H' fun σ2 H2 => tb { D with nx := N, ct := N, bk := D.nx } σ2 H2) := by
  refine ⟨fun i m σ H => m = ys.length - i ∧ i ≤ ys.length ∧ Pv i σ H, ⟨_, rfl, Nat.zero_le _, h0⟩, ?_⟩
  rintro i m σ H ⟨rfl, hi, p⟩
  obtain ⟨qx, qy⟩ := hq i σ H p
  by_cases hlt : i < ys.length
  · refine .inr ⟨⟨xs, ys, _, _, qx, qy, List.getElem?_eq_getElem (Nat.lt_of_lt_of_le hlt hl), List.getElem?_eq_getElem hlt⟩, Pv (i + 1), fun σ' H' p' => ⟨ys.length - (i + 1), by omega, rfl, hlt, p'⟩, ?_⟩
    rintro v H' ⟨T, x', y', rfl, hT, rfl, f1, f2⟩
    exact hs i x' y' T σ H (f1 xs qx) (f2 ys qy) p hT
  · have e : i = ys.length := by omega
    subst e
    exact .inl ⟨⟨xs, ys, qx, qy, .inr rfl, hl, Nat.le_refl _⟩, hd σ H p⟩
theorem lc_zipS {K : PySem.W.Frag} {k1 k2 : Bool} {a b : Addr} {xs ys : List V} {g : TG} {tt : TT} {te : TE} {vs : List Nat} {σ : L2.St} {H1 : Hp} {D : Addr} {Qd : Hp → Prop} (hl : ys.length ≤ xs.length) (Pv : Nat → Hp → Prop) (h0 : Pv 0 (upd H1 D (.lst []))) (hq : ∀ i H, Pv i H → SqK K k1 H a xs ∧ SqK K k2 H b ys)
    (hs : ∀ (i : Nat) (x y : V) (T : Addr) (H : Hp), xs[i]? = some x → ys[i]? = some y → Pv i H → H T = none → g (.ref T) (wipe σ vs) (upd H T (.tup [x, y])) fun σ2 H2 => wipe σ2 vs = wipe σ vs ∧ tt σ2 H2 fun b H3 =>
      if b = true then te σ2 H3 fun y H4 => ∃ acc, H4 D = some (.lst acc) ∧ acc.length < sizeLine ∧ Pv (i + 1) (upd H4 D (.lst (acc ++ [y]))) else Pv (i + 1) H3) (hd : ∀ H, Pv ys.length H → Qd H) :
    ∃ W : Nat → Nat → Hp → Prop, (∃ m, W 0 m (upd H1 D (.lst []))) ∧ ∀ i m H, W i m H →
      ((ItzM K k1 k2 a b).stop i H ∧ Qd H) ∨ ((ItzM K k1 k2 a b).go i H ∧ ∃ Nx : Hp → Prop, (∀ H', Nx H' → ∃ m', m' < m ∧ W (i + 1) m' H') ∧ ∀ x H', (ItzM K k1 k2 a b).yld i H x H' → g x (wipe σ vs) H' fun σ2 H2 => wipe σ2 vs = wipe σ vs ∧ tt σ2 H2 fun b H3 =>
        if b = true then te σ2 H3 fun y H4 => ∃ acc, H4 D = some (.lst acc) ∧ acc.length < sizeLine ∧ Nx (upd H4 D (.lst (acc ++ [y]))) else Nx H3) := by
  refine ⟨fun i m H => m = ys.length - i ∧ i ≤ ys.length ∧ Pv i H, ⟨_, rfl, Nat.zero_le _, h0⟩, ?_⟩
  rintro i m H ⟨rfl, hi, p⟩
  obtain ⟨qx, qy⟩ := hq i H p
  by_cases hlt : i < ys.length
  · refine .inr ⟨⟨xs, ys, _, _, qx, qy, List.getElem?_eq_getElem (Nat.lt_of_lt_of_le hlt hl), List.getElem?_eq_getElem hlt⟩, Pv (i + 1), fun H' p' => ⟨ys.length - (i + 1), by omega, rfl, hlt, p'⟩, ?_⟩
    rintro v H' ⟨T, x', y', rfl, hT, rfl, f1, f2⟩
    exact hs i x' y' T H (f1 xs qx) (f2 ys qy) p hT
  · have e : i = ys.length := by omega
    subst e
    exact .inl ⟨⟨xs, ys, qx, qy, .inr rfl, hl, Nat.le_refl _⟩, hd H p⟩
end Lw

/-! ### sorted of any number of tuples of whole numbers -/
namespace Lw
open PySem L2 PySem.Spec PyProof.Rows
theorem swo_code (B : Int) (k : Value → List Int) : SrtO.Swo fun v u => decide (TS.code B (k v) < TS.code B (k u)) :=
  ⟨fun x y h => decide_eq_false (by have := of_decide_eq_true h; omega), fun x y z h1 h2 => decide_eq_false (by have := of_decide_eq_false h1; have := of_decide_eq_false h2; omega)⟩
section
variable {prog : Program} {w : World} {A : Around} {E : Value → Shared → Prop} {s : Shared}
theorem tups_cmp {d : Nat} {B : Int} {vs : List Value} {k : Value → List Int} (hk : ∀ v ∈ vs, TS.TupInts s.heap v (k v) ∧ (k v).length = d ∧ TS.Bd B (k v)) :
    SrtO.Cmp prog w A s (tuples' true) (fun p => p.1 ∈ vs) (SrtO.lt2 fun v u => decide (TS.code B (k v) < TS.code B (k u))) := by
  intro p q hm hm'
  show wpAny (model prog w) A (keyLt' (tuples' true) p.1 q.1) (fun r s' => s' = s ∧ r = decide (TS.code B (k p.1) < TS.code B (k q.1))) (fun _ _ => False) s
  obtain ⟨tp, lp, bp⟩ := hk _ hm
  obtain ⟨tq, lq, bq⟩ := hk _ hm'
  generalize k p.1 = ns at *
  generalize k q.1 = ms at *
  obtain ⟨a, xs, e1, ⟨o, ho, hc, n, hdt⟩, i⟩ := tp
  obtain ⟨a', ys, e2, ⟨o', ho', hc', n', hdt'⟩, i'⟩ := tq
  rw [e1, e2]
  refine PySem.W.kat_lt ho hdt ho' hdt' ?_
  have sz : decide (xs.size < ys.size) = false := by
    have l1 := i.length
    have l2 := i'.length
    rw [Array.length_toList] at l1 l2
    exact decide_eq_false (by omega)
  rw [sz]
  exact TS.lex_ints 0 i i' (by omega) bp bq ⟨rfl, rfl⟩
theorem tups_sortable {a : Addr} {d : Nat} {B : Int} {vs : List Value} {k : Value → List Int} (hd : 1 ≤ d) (h0 : 0 < vs.length) (hk : ∀ v ∈ vs, TS.TupInts s.heap v (k v) ∧ (k v).length = d ∧ TS.Bd B (k v)) (ha : ∀ o, s.heap.get? a = some o → o.cls ≠ .type "tuple") :
    SrtO.SortableO prog w A s a vs fun v u => decide (TS.code B (k v) < TS.code B (k u)) := by
  intro h' keep
  have hk' : ∀ v ∈ vs, TS.TupInts h' v (k v) ∧ (k v).length = d ∧ TS.Bd B (k v) := fun v hm => ⟨(hk v hm).1.keeps fun b o e c => keep b o (fun z => by subst z; exact ha o e c) e, (hk v hm).2⟩
  obtain ⟨fs, h1, h2, h3⟩ := TS.firsts_of hd vs (fun v hv => ⟨_, hk' v hv⟩)
  refine ⟨tuples' true, fun Q E hq => ?_, tups_cmp hk'⟩
  refine PySem.W.kat_kind (T := .type "int") h1 (by omega) (fun f hm => ?_) (by rfl) ?_
  · obtain ⟨x, t, rfl⟩ := h3 f hm
    exact PySem.W.Looks.now
  · have e : (Value.type "int" != Value.type "tuple") = true := by first | decide +kernel | rfl | decide
    rw [e]
    exact hq
theorem sorted_tupsO {l : Addr} {vs : List Value} {d : Nat} {B : Int} {k : Value → List Int} {Q : Value → Shared → Prop} (hd : 2 ≤ vs.length → 1 ≤ d) (hl : s.heap.IsList l vs.toArray) (hz : vs.length ≤ sizeLine) (hk : ∀ v ∈ vs, TS.TupInts s.heap v (k v) ∧ (k v).length = d ∧ TS.Bd B (k v))
    (h : ∀ (h' : Heap) (d : Addr) (out : List Value), SrtO.Srtd (fun v u => decide (TS.code B (k v) < TS.code B (k u))) out → out.Perm vs → (∀ b o, s.heap.get? b = some o → h'.get? b = some o) → s.heap.objs.size ≤ d → (∃ n, h'.get? d = some (seqObj "list" out.toArray n)) → Q (.ref d) { s with heap := h' }) :
    wpAny (model prog w) A (call (.builtin "sorted") [.ref l]) Q E s := by
  refine SrtO.sorted_ord (swo_code B k) hl hz (fun h2 h₁ a ha kk => ?_) fun out hs hb => ?_
  · refine tups_sortable (s := { s with heap := h₁ }) (hd h2) (by omega) (fun v hm => ⟨(hk v hm).1.keeps fun b o e _ => (kk b o e).2, (hk v hm).2⟩) fun o e => ?_
    have e' : some o = some (seqObj "list" vs.toArray 0) := e.symm.trans ha
    cases e'
    intro c
    exact absurd (Value.type.inj c) (by decide)
  · exact h _ _ out hs hb.perm (fun b o e => PyProof.Rows.sortedAll_old e) (Nat.le_succ _) (PyProof.Rows.sortedAll_at s.heap vs out.toArray)
end
def rSortTL (K : PySem.W.Frag) (d : Nat) (B : Int) : List V → Hp → VK → Prop := fun vs H Q => ∃ (a : Addr) (xs : List V), vs = [V.ref a] ∧ SqL K H a xs ∧ (2 ≤ xs.length → 1 ≤ d) ∧ (∀ x ∈ xs, ∃ ns, TupI K H x ns ∧ ns.length = d ∧ TS.Bd B ns) ∧
  ∀ (ys : List V) (p : Addr), ys.Perm xs → ys.Pairwise (fun x y => ∀ n m, TupI K H x n → TupI K H y m → TS.code B n ≤ TS.code B m) → H p = none → Q (.ref p) (upd H p (.lst ys))
section
variable {X : Cx}
theorem cr_sortTL {d : Nat} {B : Int} : CallR X (.builtin "sorted") (rSortTL X.K d B) := by
  intro pins s σ H vs us Q I r h
  obtain ⟨a, xs, rfl, hs, hd, hx, q⟩ := h
  obtain ⟨its, rv, hl, hz⟩ := I.list hs
  rw [Vals.ref1 r]
  obtain ⟨e1, e2⟩ := bkV_refs rv fun x m => by
    obtain ⟨ns, ⟨t, e, _⟩, _⟩ := hx x m
    exact ⟨t, e⟩
  refine sorted_tupsO (d := d) (B := B) (k := TS.intsOf s.heap) (by rw [← rv.length]; exact hd) hl.isList (by rw [← rv.length]; exact hz) (fun v hv => ?_) fun h' D out h1 hp1 kp hD hn => ?_
  · obtain ⟨t, rfl⟩ := e2 v hv
    have hm : V.ref t ∈ xs := by
      rw [e1]
      exact List.mem_map.mpr ⟨_, hv, rfl⟩
    obtain ⟨ns, ⟨t', e, ht⟩, hn, hb⟩ := hx _ hm
    cases e
    have tr := tupI_raw I ht
    rw [tr.ints]
    exact ⟨tr, hn, hb⟩
  · have h3 : ∀ u ∈ out, ∃ a, u = Value.ref a := fun u hu => e2 u (hp1.mem_iff.mp hu)
    have hp : (out.map bkV).Perm xs := by
      rw [e1]
      exact hp1.map bkV
    have hlen : (out.map bkV).length ≤ sizeLine := by
      rw [hp.length_eq]
      exact hz
    obtain ⟨n, hn⟩ := hn
    refine ⟨.ref D, upd H D (.lst (out.map bkV)), I.laid (t' := s.toks) kp hD ⟨hlen, out, n, bkV_vals h3, hn⟩, rfl, q _ _ hp ?_ (I.hok.fresh hD)⟩
    rw [List.pairwise_map]
    refine List.Pairwise.imp (fun {u v} huv n m hn hm => ?_) h1
    obtain ⟨t, et, ht⟩ := hn
    obtain ⟨t', et', ht'⟩ := hm
    have eu := bkV_ref et
    have ev := bkV_ref et'
    have i1 : TS.intsOf s.heap u = n := by
      rw [eu]
      exact (tupI_raw I ht).ints
    have i2 : TS.intsOf s.heap v = m := by
      rw [ev]
      exact (tupI_raw I ht').ints
    rw [← i1, ← i2]
    have := of_decide_eq_false huv
    omega
end
end Lw

namespace Lw
open PySem L2 PySem.Spec PyProof.Rows
/-- (v,) * k, where the tuple is one's own -/
def rRep1T (K : PySem.W.Frag) : R2 := fun x y H Q => ∃ l k v, x = .ref l ∧ y = .int k ∧ H l = some (.tup [v]) ∧ 0 ≤ k ∧ k ≤ 1000 ∧ ∀ t H', Same H H' → H' t = some (.tup (List.replicate k.toNat v)) → Q (.ref t) H'
section
variable {X : Cx}
theorem op_rep1T : OpR X (binaryOp .Mult) (rRep1T X.K) := by
  intro pins s σ H x y v u Q I rx ry h
  obtain ⟨l, k, z, rfl, rfl, hl, h0, h1, q⟩ := id h
  have hT : SqT X.K H l [z] := .inl (.inl hl)
  by_cases h2 : 2 ≤ k
  · refine op_repT pins s σ H _ _ v u Q I rx ry ⟨l, k, [z], rfl, rfl, hT, by simp, h2, h1, by simp, fun p hp => q p _ (same_new hp) ?_⟩
    rw [upd_same]
    congr 2
    induction k.toNat with
    | zero => rfl
    | succ m ih => rw [List.replicate_succ, List.flatten_cons, ih, List.replicate_succ]; rfl
  · cases rx
    obtain ⟨t, rfl⟩ := ry
    obtain ⟨its, r, ⟨⟨cls, dd, data, sl⟩, ho, hc, n, hd⟩, hs⟩ := I.tuple hT
    simp only at hc hd
    subst hc hd
    have hn : its.toArray.isEmpty = false := by
      cases r with
      | cons _ _ => rfl
    rcases (by omega : k = 0 ∨ k = 1) with rfl | rfl
    · refine wpAny_binaryOp_repeat_ref (T := "tuple") (U := "int") (by decide) ⟨_, ho, rfl⟩ (fun s' => typeIs_int s' 0 t) noFill_tuple_mul F.fills_int_mul F.slot_int_rmul repeat_tuple F.slot_int_index.lookup
        (call_meets F.slot_int_rmul (typeIs_int s 0 t) F.entry_int_rmul (F.args_int_rmul_2 _ _) (int_rmul_tuple 0 t l its.toArray n dd sl)
          ⟨ho, rfl, ⟨_, ho, rfl⟩, call_meets F.slot_tuple_mul ⟨_, ho, rfl⟩ F.entry_tuple_mul (F.args_tuple_mul_2 _ _) (tm_none l its.toArray n dd sl t hn) ⟨ho, ?_⟩⟩)
      have hf := I.hok.fresh (Nat.le_refl s.heap.objs.size)
      refine ⟨.ref s.heap.objs.size, upd H s.heap.objs.size (.tup []), I.laid (t' := s.toks) (o := .tup []) (fun b ob q => Heap.get?_push_of_some _ q) (Nat.le_refl _) ?_, rfl, q _ _ (same_new hf) upd_same⟩
      exact ⟨Nat.zero_le _, [], .nil, IsTup.new _ _⟩
    · refine wpAny_binaryOp_repeat_ref (T := "tuple") (U := "int") (by decide) ⟨_, ho, rfl⟩ (fun s' => typeIs_int s' 1 t) noFill_tuple_mul F.fills_int_mul F.slot_int_rmul repeat_tuple F.slot_int_index.lookup
        (call_meets F.slot_int_rmul (typeIs_int s 1 t) F.entry_int_rmul (F.args_int_rmul_2 _ _) (int_rmul_tuple 1 t l its.toArray n dd sl)
          ⟨ho, rfl, ⟨_, ho, rfl⟩, call_meets F.slot_tuple_mul ⟨_, ho, rfl⟩ F.entry_tuple_mul (F.args_tuple_mul_2 _ _) (tm_once l its.toArray n dd sl t) ⟨ho, fun k => ?_⟩⟩)
      exact ⟨.ref l, H, I.tok k, rfl, q _ _ (Same.refl _) hl⟩
end
/-! ### a dict that holds True at rows -/
def tbD (M : List (List Int)) : List (List Key × V) := M.map fun r => (r.map Sum.inl, V.bl true)
def insD (M : List (List Int)) (r : List Int) : List (List Int) := if r ∈ M then M else M ++ [r]
theorem inl_inj : ∀ {r s : List Int}, (r.map Sum.inl : List Key) = s.map Sum.inl → r = s
  | [], [], _ => rfl
  | [], _ :: _, h => by simp at h
  | _ :: _, [], h => by simp at h
  | a :: r, b :: s, h => by
    rw [List.map_cons, List.map_cons] at h
    obtain ⟨h1, h2⟩ := List.cons.inj h
    rw [Sum.inl.inj h1, inl_inj h2]
theorem put_tb (M : List (List Int)) (r : List Int) : putK (tbD M) (r.map Sum.inl) (V.bl true) = tbD (insD M r) := by
  have ha : ((tbD M).any fun kv => decide (kv.1 = (r.map Sum.inl : List Key))) = decide (r ∈ M) := by
    induction M with
    | nil => rfl
    | cons a M ih =>
      show (decide ((a.map Sum.inl : List Key) = r.map Sum.inl) || _) = _
      rw [show (List.any (List.map (fun r => (r.map Sum.inl, V.bl true)) M) fun kv => decide (kv.1 = (r.map Sum.inl : List Key))) = decide (r ∈ M) from ih]
      by_cases e : a = r
      · subst e
        simp
      · rw [decide_eq_false (fun z => e (inl_inj z)), Bool.false_or]
        simp [Ne.symm e]
  unfold putK
  rw [ha]
  unfold insD
  by_cases h : r ∈ M
  · rw [if_pos (decide_eq_true h), if_pos h]
    unfold tbD
    rw [List.map_map]
    refine List.map_congr_left fun a _ => ?_
    show (if (a.map Sum.inl : List Key) = r.map Sum.inl then _ else _) = _
    split <;> rfl
  · rw [if_neg (by simpa using h), if_neg h]
    simp [tbD]
theorem ins_mem {M : List (List Int)} {r x : List Int} : x ∈ insD M r ↔ x ∈ M ∨ x = r := by
  unfold insD
  by_cases h : r ∈ M
  · rw [if_pos h]
    constructor
    · exact .inl
    · rintro (q | rfl)
      · exact q
      · exact h
  · rw [if_neg h, List.mem_append, List.mem_singleton]
theorem ins_nodup {M : List (List Int)} {r : List Int} (h : M.Nodup) : (insD M r).Nodup := by
  unfold insD
  by_cases q : r ∈ M
  · rw [if_pos q]
    exact h
  · rw [if_neg q, List.nodup_append]
    refine ⟨h, by simp, fun a ha b hb e => ?_⟩
    rw [List.mem_singleton] at hb
    exact q (hb ▸ e ▸ ha)
theorem ins_len {M : List (List Int)} {r : List Int} : (insD M r).length ≤ M.length + 1 := by
  unfold insD
  split
  · omega
  · rw [List.length_append, List.length_singleton]
    omega
theorem tb_len {M : List (List Int)} : (tbD M).length = M.length := by simp [tbD]
theorem kv_ints : ∀ r : List Int, (r.map Sum.inl : List Key).map kV = r.map V.int
  | [] => rfl
  | a :: r => by
    rw [List.map_cons, List.map_cons, List.map_cons, kv_ints r]
    rfl
theorem keys_rows {K : PySem.W.Frag} {H : Hp} : ∀ {M : List (List Int)} {bs : List Addr}, IsKeys H (tbD M) bs → Rows K H (bs.map V.ref) M
  | [], [], _ => .nil
  | [], _ :: _, h => by cases h
  | _ :: _, [], h => by cases h
  | a :: M, b :: bs, h => by
    cases h with
    | cons h1 h2 =>
      refine .cons (.inl (.inl ?_)) (keys_rows h2)
      have : H b = some (.tup ((a.map Sum.inl : List Key).map kV)) := h1
      rwa [kv_ints] at this
end Lw

/-! ### orders: sorting steps, inversions -/
namespace Lw
/-- the places at which a lesser number follows -/
def stpsN (o : List Int) : List Nat := (List.range (o.length - 1)).filter fun j => decide (o.getD (j + 1) 0 < o.getD j 0)
def stps (o : List Int) : List Int := (stpsN o).map fun (j : Nat) => (1 + j : Int)
/-- the two members at j and j + 1 exchanged -/
def stpN (o : List Int) (j : Nat) : List Int := o.take j ++ [o.getD (j + 1) 0, o.getD j 0] ++ o.drop (j + 2)
def stp (o : List Int) (i : Int) : List Int := stpN o (i.toNat - 1)
def inv : List Int → Nat
  | [] => 0
  | x :: xs => xs.countP (fun y => decide (y < x)) + inv xs
theorem mem_stpsN {o : List Int} {j : Nat} : j ∈ stpsN o ↔ j + 1 < o.length ∧ o.getD (j + 1) 0 < o.getD j 0 := by
  unfold stpsN
  rw [List.mem_filter, List.mem_range, decide_eq_true_eq]
  omega
theorem mem_stps {o : List Int} {i : Int} : i ∈ stps o ↔ ∃ j : Nat, i = 1 + j ∧ j + 1 < o.length ∧ o.getD (j + 1) 0 < o.getD j 0 := by
  unfold stps
  rw [List.mem_map]
  constructor
  · rintro ⟨j, h, rfl⟩
    exact ⟨j, rfl, mem_stpsN.mp h⟩
  · rintro ⟨j, rfl, h⟩
    exact ⟨j, mem_stpsN.mpr h, rfl⟩
theorem stp_one {o : List Int} {j : Nat} : stp o (1 + j) = stpN o j := by
  unfold stp
  rw [show ((1 : Int) + j).toNat - 1 = j from by omega]
theorem stps_lo {o : List Int} {i : Int} (h : i ∈ stps o) : 1 ≤ i ∧ i < o.length := by
  obtain ⟨j, rfl, h1, _⟩ := mem_stps.mp h
  omega
theorem stps_len (o : List Int) : (stps o).length ≤ o.length := by
  unfold stps stpsN
  rw [List.length_map]
  refine Nat.le_trans (List.length_filter_le _ _) ?_
  rw [List.length_range]
  omega
theorem stpN_len {o : List Int} {j : Nat} (h : j + 1 < o.length) : (stpN o j).length = o.length := by
  unfold stpN
  rw [List.length_append, List.length_append, List.length_take, List.length_drop]
  simp only [List.length_cons, List.length_nil]
  omega
theorem stp_len {o : List Int} {i : Int} (h : i ∈ stps o) : (stp o i).length = o.length := by
  obtain ⟨j, rfl, h1, _⟩ := mem_stps.mp h
  rw [stp_one, stpN_len h1]
theorem split_at {o : List Int} {j : Nat} (h : j + 1 < o.length) : o = o.take j ++ o.getD j 0 :: o.getD (j + 1) 0 :: o.drop (j + 2) := by
  conv => lhs; rw [← List.take_append_drop j o]
  rw [List.drop_eq_getElem_cons (by omega : j < o.length), List.drop_eq_getElem_cons (by omega : j + 1 < o.length)]
  rw [List.getD_eq_getElem?_getD, List.getD_eq_getElem?_getD, List.getElem?_eq_getElem (by omega : j < o.length), List.getElem?_eq_getElem (by omega : j + 1 < o.length)]
  rfl
theorem inv_app {l l' : List Int} (p : l.Perm l') : ∀ a : List Int, inv (a ++ l) + inv l' = inv (a ++ l') + inv l
  | [] => by rw [List.nil_append, List.nil_append, Nat.add_comm]
  | x :: a => by
    have ih := inv_app p a
    have e : (a ++ l).countP (fun y => decide (y < x)) = (a ++ l').countP (fun y => decide (y < x)) := by
      rw [List.countP_append, List.countP_append, p.countP_eq]
    show (a ++ l).countP _ + inv (a ++ l) + inv l' = (a ++ l').countP _ + inv (a ++ l') + inv l
    rw [e]
    omega
theorem inv_two (x y : Int) (h : y < x) (b : List Int) : inv (x :: y :: b) = inv (y :: x :: b) + 1 := by
  have e1 : decide (y < x) = true := decide_eq_true h
  have e2 : decide (x < y) = false := decide_eq_false (by omega)
  show (y :: b).countP _ + (b.countP _ + inv b) = (x :: b).countP _ + (b.countP _ + inv b) + 1
  rw [List.countP_cons, List.countP_cons]
  simp only [e1, e2, if_true, if_false, Bool.false_eq_true]
  omega
theorem inv_stp {o : List Int} {i : Int} (h : i ∈ stps o) : inv o = inv (stp o i) + 1 := by
  obtain ⟨j, rfl, h1, h2⟩ := mem_stps.mp h
  rw [stp_one]
  have e := split_at h1
  have p : (o.getD j 0 :: o.getD (j + 1) 0 :: o.drop (j + 2)).Perm (o.getD (j + 1) 0 :: o.getD j 0 :: o.drop (j + 2)) := List.Perm.swap _ _ _
  have q := inv_app p (o.take j)
  have t := inv_two _ _ h2 (o.drop (j + 2))
  have e2 : stpN o j = o.take j ++ o.getD (j + 1) 0 :: o.getD j 0 :: o.drop (j + 2) := by
    unfold stpN
    rw [List.append_assoc]
    rfl
  rw [e2]
  conv => lhs; rw [e]
  omega
theorem inv_le : ∀ o : List Int, inv o ≤ o.length * o.length
  | [] => Nat.zero_le _
  | x :: xs => by
    have := inv_le xs
    have h : xs.countP (fun y => decide (y < x)) ≤ xs.length := List.countP_le_length
    show _ + inv xs ≤ (xs.length + 1) * (xs.length + 1)
    rw [Nat.succ_mul, Nat.mul_succ]
    omega
theorem inv_none {o : List Int} (h : inv o = 0) : stps o = [] := by
  cases e : stps o with
  | nil => rfl
  | cons i t =>
    have := inv_stp (o := o) (i := i) (by rw [e]; simp)
    omega
theorem stpN_mem {o : List Int} {j : Nat} {x : Int} (h1 : j + 1 < o.length) (h : x ∈ stpN o j) : x ∈ o := by
  rw [split_at h1]
  unfold stpN at h
  simp only [List.mem_append, List.mem_cons, List.not_mem_nil, or_false] at h ⊢
  rcases h with (h | h | h) | h
  · exact .inl h
  · exact .inr (.inr (.inl h))
  · exact .inr (.inl h)
  · exact .inr (.inr (.inr h))
/-- the level row with the least step at each turn -/
def fstR : Nat → List Int → List Int
  | 0, _ => []
  | n + 1, o => match stps o with
    | [] => []
    | i :: _ => i :: fstR n (stp o i)
theorem fstR_none {o : List Int} (h : stps o = []) : ∀ n, fstR n o = []
  | 0 => rfl
  | n + 1 => by simp [fstR, h]
theorem fstR_step {o : List Int} {i : Int} {t : List Int} (h : stps o = i :: t) : fstR (inv o) o = i :: fstR (inv (stp o i)) (stp o i) := by
  rw [inv_stp (o := o) (i := i) (by rw [h]; simp)]
  simp [fstR, h]
theorem fstR_len : ∀ (n : Nat) (o : List Int), (fstR n o).length ≤ n
  | 0, _ => Nat.zero_le _
  | n + 1, o => by
    unfold fstR
    split
    · exact Nat.zero_le _
    · next i t e =>
      have := fstR_len n (stp o i)
      rw [List.length_cons]
      omega
theorem fstR_mem : ∀ (n : Nat) (o : List Int) (x : Int), x ∈ fstR n o → 1 ≤ x ∧ x < o.length
  | 0, _, _, h => by simp [fstR] at h
  | n + 1, o, x, h => by
    unfold fstR at h
    split at h
    · simp at h
    · next i t e =>
      have hi : i ∈ stps o := by rw [e]; simp
      rcases List.mem_cons.mp h with rfl | h
      · exact stps_lo hi
      · have := fstR_mem n _ x h
        rwa [stp_len hi] at this
end Lw

/-! ### lists with one odd value amid; a statement that is not reached; isinstance of two types -/
namespace Lw
open PySem L2 PySem.Spec PyProof.Rows
section
variable {X : Cx}
/-- a statement that nothing comes to -/
theorem ps_dead {st : Stmt} : PS X st (fun _ _ _ => False) := ⟨fun _ _ _ _ _ _ h => h.elim⟩
/-- repr of a list of whole numbers with one value amid, a dict too -/
def rReprM (K : PySem.W.Frag) : List V → Hp → VK → Prop := fun xs H Q => ∃ (a : Addr) (pre post : List Int) (x : V) (d : PyData), xs = [.ref a] ∧ SqL K H a (pre.map V.int ++ x :: post.map V.int) ∧ Lf K H x d ∧
  (PyData.list (pre.map PyData.int ++ d :: post.map PyData.int)).showable = true ∧ (PyData.list (pre.map PyData.int ++ d :: post.map PyData.int)).depth ≤ 64 ∧ (PyData.list (pre.map PyData.int ++ d :: post.map PyData.int)).shown.length ≤ sizeLine ∧
  Q (.str (PyData.list (pre.map PyData.int ++ d :: post.map PyData.int)).shown) H
theorem call_reprM (hG : X.A.guards = some []) (hu : X.A.units + 66 < cLine) : CallR X (.builtin "repr") (rReprM X.K) := by
  intro pins s σ H xs us Q I r h
  obtain ⟨a, pre, post, x, d, rfl, hS, hx, hs, hp, hz, q⟩ := h
  obtain ⟨u, rfl, ru⟩ := vals1 r
  cases (show u = Value.ref a from ru)
  obtain ⟨its, rv, ⟨o, n, h1, h2, h0, h3⟩, _⟩ := I.list hS
  have key : ∃ as, ReadsAll s.heap its (pre.map PyData.int ++ d :: post.map PyData.int) as ∧ (d.hasDict = true → sysModules ∉ as) := by
    cases hx with
    | dp h n =>
      obtain ⟨as, q⟩ := Dp.readsAll I (pre.map PyData.int ++ d :: post.map PyData.int) _ its (dp_mix h post pre) rv
      exact ⟨as, q, fun z => by rw [n] at z; cases z⟩
    | @dct b kvs _ h k =>
      obtain ⟨as, q, n⟩ := dct_reads I h k
      exact ⟨as, mix_reads (fun u ru => by cases (show u = Value.ref b from ru); exact q) rv, fun _ => n⟩
  obtain ⟨as, h4, hsm⟩ := key
  have hdi : PyData.hasDictAll (pre.map PyData.int ++ d :: post.map PyData.int) = d.hasDict := by
    have := hd_mix d post pre
    simpa only [PyData.hasDict] using this
  generalize pre.map PyData.int ++ d :: post.map PyData.int = xs at *
  have hz' : (listText (PyData.shownAll xs)).length ≤ sizeLine := by simpa only [PyData.shown] using hz
  obtain ⟨bs, hb, hk⟩ := ReprAllK.of_readsAll (prog := X.prog) (w := X.w) h4 (by simpa [PyData.showable] using hs) (fun hx => hsm (hdi ▸ hx)) (fun t ht => Nat.le_trans (listText_mem_le ht) hz')
  have hl : Reads s.heap (.ref a) (.list xs) (a :: as) := .list h1 h2 h3 (by simpa using h4)
  have hna : a ∉ bs := not_mem_of_deeper hl (by simp only [PyData.depth]; omega) hb
  simp only [PyData.depth] at hp
  refine call_repr_slot (T := "list") (idr := "list.__repr__") (by omega) ⟨o, h1, h2⟩ F.slot_list_repr.toG ?_
  cases its with
  | nil =>
    have h4' : ReadsAll s.heap [] xs _ := h4
    cases h4'
    simp only [PyData.shown, PyData.shownAll, listText_nil] at q
    exact call_list_repr_empty ⟨o, h1, h2⟩ h1 h3 ⟨_, _, rfl, .str _, H, I.tok _, ⟨_, rfl⟩, q⟩
  | cons y l =>
    simp only [PyData.shown] at q
    exact call_list_reprK h1 h2 h3 hna (by simpa using hk.length_eq) (fun i y e => hk.item i y (by simpa using e)) hG (fun b _ => Clear.nil b) (by show X.A.units + 1 + _ < cLine; omega) (fun _ _ z => z) (fun h' u tk hk' => ⟨_, _, rfl, .str _, H, I.kept (t' := tk) hk', ⟨_, rfl⟩, q⟩) hz'
/-- repr of such a list, or of other data -/
def rReprE (K : PySem.W.Frag) : List V → Hp → VK → Prop := fun xs H Q => rReprM K xs H Q ∨ rReprD K xs H Q
theorem call_reprE (hG : X.A.guards = some []) (hu : X.A.units + 66 < cLine) : CallR X (.builtin "repr") (rReprE X.K) := by
  intro pins s σ H xs us Q I r h
  rcases h with h | h
  · exact call_reprM hG hu pins s σ H xs us Q I r h
  · exact call_reprD hG hu pins s σ H xs us Q I r h
end
end Lw

namespace Lw
open PySem L2
section
variable {σ : L2.St} {H : Hp}
/-- x and y as a value, whatever they say -/
theorem andv {c : Bool} {u : TE} {X : VK} (P : Bool → Hp → Prop) (p : c = false → P false H) (h : ∀ b H', P b H' → X (.bl b) H') (h1 : c = true → ∀ Y : VK, (∀ b H', P b H' → Y (.bl b) H') → u σ H Y) :
    if c = true then u σ H X else X (.bl false) H := by
  cases c with
  | true => exact iteT (h1 rfl X h)
  | false => exact iteF (h _ _ (p rfl))
/-- one test, then another, whatever they say; the first one's answer known -/
theorem iftc {c : Bool} {u : TT} {X : Bool → Hp → Prop} (P : Bool → Hp → Prop) (p : c = false → P false H) (h : ∀ b H', P b H' → X b H') (h1 : c = true → ∀ Y : Bool → Hp → Prop, (∀ b H', P b H' → Y b H') → u σ H Y) :
    if c = true then u σ H X else X false H := by
  cases c with
  | true => exact iteT (h1 rfl X h)
  | false => exact iteF (h _ _ (p rfl))
end
end Lw

/-! ### len of a range -/
namespace Lw
open PySem L2 PySem.Spec PyProof.Rows
def rLenRg : List V → Hp → VK → Prop := fun xs H Q => ∃ (p : Addr) (i j : Int) (n : Nat), xs = [.ref p] ∧ H p = some (.rng i j) ∧ n = (j - i).toNat ∧ n < 1000000 ∧ Q (.int ((n : Nat) : Int)) H
theorem call_lenRg {X : Cx} : CallR X (.builtin "len") rLenRg := by
  intro pins s σ H xs us Q I r h
  obtain ⟨p, i, j, n, rfl, hp, hn, h9, q⟩ := h
  obtain ⟨u, rfl, rx⟩ := vals1 r
  obtain rfl : u = .ref p := rx
  obtain ⟨t, u, v, e⟩ := (show ObjOk X.prog X.w H s.heap p (.rng i j) from I.hok p _ hp)
  refine call_len_range (n := n) e ?_ (by omega) ⟨.int ((n : Nat) : Int), H, I.tok _, ⟨_, rfl⟩, q⟩
  unfold Builtin.Range.rangeSize
  rw [if_pos (by decide)]
  split
  · rw [Int.ediv_one]
    omega
  · omega
end Lw

/-! ### a comprehension over enumerate of a list or a tuple -/
namespace Lw
open PySem L2 PySem.Spec PyProof.Rows
theorem lc_enumM {K : PySem.W.Frag} {k : Bool} {a : Addr} {xs : List V} {g : TG} {tt : TT} {te : TE} {vs : List Nat} {σ : L2.St} {H1 : Hp} {D : Addr} {Qd : Hp → Prop} (Pv : Nat → Hp → Prop) (h0 : Pv 0 (upd H1 D (.lst []))) (hq : ∀ i H, Pv i H → SqK K k H a xs)
    (hs : ∀ (i : Nat) (x : V) (T : Addr) (H : Hp), xs[i]? = some x → Pv i H → H T = none → g (.ref T) (wipe σ vs) (upd H T (.tup [.int (i : Nat), x])) fun σ2 H2 => wipe σ2 vs = wipe σ vs ∧ tt σ2 H2 fun b H3 =>
      if b = true then te σ2 H3 fun y H4 => ∃ acc, H4 D = some (.lst acc) ∧ acc.length < sizeLine ∧ Pv (i + 1) (upd H4 D (.lst (acc ++ [y]))) else Pv (i + 1) H3) (hd : ∀ H, Pv xs.length H → Qd H) :
    ∃ W : Nat → Nat → Hp → Prop, (∃ m, W 0 m (upd H1 D (.lst []))) ∧ ∀ i m H, W i m H →
      ((IteM K k a).stop i H ∧ Qd H) ∨ ((IteM K k a).go i H ∧ ∃ Nx : Hp → Prop, (∀ H', Nx H' → ∃ m', m' < m ∧ W (i + 1) m' H') ∧ ∀ x H', (IteM K k a).yld i H x H' → g x (wipe σ vs) H' fun σ2 H2 => wipe σ2 vs = wipe σ vs ∧ tt σ2 H2 fun b H3 =>
        if b = true then te σ2 H3 fun y H4 => ∃ acc, H4 D = some (.lst acc) ∧ acc.length < sizeLine ∧ Nx (upd H4 D (.lst (acc ++ [y]))) else Nx H3) := by
  refine ⟨fun i m H => m = xs.length - i ∧ i ≤ xs.length ∧ Pv i H, ⟨_, rfl, Nat.zero_le _, h0⟩, ?_⟩
  rintro i m H ⟨rfl, hi, p⟩
  have qx := hq i H p
  by_cases hlt : i < xs.length
  · refine .inr ⟨⟨xs, _, qx, List.getElem?_eq_getElem hlt⟩, Pv (i + 1), fun H' p' => ⟨xs.length - (i + 1), by omega, rfl, hlt, p'⟩, ?_⟩
    rintro v H' ⟨T, x', rfl, hT, rfl, f1⟩
    exact hs i x' T H (f1 xs qx) p hT
  · have e : i = xs.length := by omega
    subst e
    exact .inl ⟨⟨xs, qx, rfl⟩, hd H p⟩
end Lw

/-! ### the pairs of a range: combinations(range(n), 2) -/
namespace CpCo
open PySem PySem.Spec PyProof.Rows L2
theorem mro_co : mroOf (.type "itertools.combinations") = pure [.type "itertools.combinations", .type "object"] := by rw [mroOf_type]; kernel_rfl
theorem lookup_co_new : typeLookup (.type "itertools.combinations") "__new__" = pure (some (.builtin "itertools.combinations.__new__")) := by rw [typeLookup_type, builtinLookup_eq_fast]; kernel_rfl
theorem slot_co_init : Slot "itertools.combinations" "__init__" "object.__init__" :=
  .of (owner := "object") (n := "__init__") (by rw [typeLookup_type, builtinLookup_eq_fast]; kernel_rfl) (by decide +kernel) (by decide +kernel) (by decide +kernel)
    (by first | exact .inl (by decide +kernel) | exact .inr (by decide +kernel)) (by rw [isSubtype_type]; kernel_rfl)
theorem sub_co : isSubtype (.type "itertools.combinations") (.type "itertools.combinations") = pure true := by rw [isSubtype_type]; kernel_rfl
theorem called_co : TypeCalled "itertools.combinations" "itertools.combinations.__new__" "object.__init__" :=
  ⟨by decide +kernel, by decide +kernel, ⟨_, _, mro_co⟩, madeBy_type mro_co lookup_co_new (by decide +kernel), by decide +kernel, sub_co, slot_co_init⟩
theorem typeCall_co_2 (a b : Value) : checkTypeCall "itertools.combinations" ⟨[a, b], []⟩ = pure () := by kernel_rfl
theorem newCall_co_2 (a b : Value) : checkBuiltinCall "itertools.combinations.__new__" ⟨[.type "itertools.combinations", a, b], []⟩ = pure () := by kernel_rfl
theorem entry_co_new : entryFor table "itertools.combinations.__new__" = some Builtin.«itertools.combinations.__new__» := entryFor_of_tree (by kernel_rfl)
theorem plain_co_new : plainId "itertools.combinations.__new__" = true := by decide +kernel
theorem slot_co_iter : Slot "itertools.combinations" "__iter__" "itertools.combinations.__iter__" :=
  .of (owner := "itertools.combinations") (n := "__iter__") (by rw [typeLookup_type, builtinLookup_eq_fast]; kernel_rfl) (by decide +kernel) (by decide +kernel) (by decide +kernel)
    (by first | exact .inl (by decide +kernel) | exact .inr (by decide +kernel)) sub_co
theorem slot_co_next : Slot "itertools.combinations" "__next__" "itertools.combinations.__next__" :=
  .of (owner := "itertools.combinations") (n := "__next__") (by rw [typeLookup_type, builtinLookup_eq_fast]; kernel_rfl) (by decide +kernel) (by decide +kernel) (by decide +kernel)
    (by first | exact .inl (by decide +kernel) | exact .inr (by decide +kernel)) sub_co
theorem entry_co_iter : entryFor table "itertools.combinations.__iter__" = some Builtin.«dict_keyiterator.__iter__» :=
  entryFor_alias (id' := "dict_keyiterator.__iter__") (by kernel_rfl) (by first | rfl | decide +kernel | (unfold String.splitOn; simp +decide [String.splitOnAux])) (by decide +kernel) (by kernel_rfl)
theorem entry_co_next : entryFor table "itertools.combinations.__next__" = some Builtin.«itertools.combinations.__next__» := entryFor_of_tree (by kernel_rfl)
theorem owner_co : Manifest.owners.lookup (String.ofList ['s', 'n', 'o', 'i', 't', 'a', 'n', 'i', 'b', 'm', 'o', 'c', '.', 's', 'l', 'o', 'o', 't', 'r', 'e', 't', 'i'].reverse) = some Manifest.sig_itertools_combinations := by kernel_rfl
theorem args_co_iter (a : Value) : argsOk "itertools.combinations.__iter__" ⟨[a], []⟩ := by
  unfold argsOk; rw [signature?_of (id := "itertools.combinations.__iter__") (n := ['_', '_', 'r', 'e', 't', 'i', '_', '_']) (o := ['s', 'n', 'o', 'i', 't', 'a', 'n', 'i', 'b', 'm', 'o', 'c', '.', 's', 'l', 'o', 'o', 't', 'r', 'e', 't', 'i']) (by kernel_rfl) owner_co]; kernel_rfl
theorem args_co_next (a : Value) : argsOk "itertools.combinations.__next__" ⟨[a], []⟩ := by
  unfold argsOk; rw [signature?_of (id := "itertools.combinations.__next__") (n := ['_', '_', 't', 'x', 'e', 'n', '_', '_']) (o := ['s', 'n', 'o', 'i', 't', 'a', 'n', 'i', 'b', 'm', 'o', 'c', '.', 's', 'l', 'o', 'o', 't', 'r', 'e', 't', 'i']) (by kernel_rfl) owner_co]; kernel_rfl
theorem noDict_co : typeHasDict (.type "itertools.combinations") = false := by decide +kernel
/-- the object: its pool, where it stands, the last pair, the two places -/
def IsCo (h : Heap) (it pool : Addr) (st : Int) (res : Value) (a b : Int) : Prop := h.get? it = some { cls := .type "itertools.combinations", dict := none, data := .fields #[.ref pool, rawInt st, res, rawInt a, rawInt b], slots := #[] }
end CpCo

namespace CpCo
open PySem PySem.Spec PyProof.Rows L2
section
variable {prog : Program} {w : World} {A : Around} {E : Value → Shared → Prop} {s : Shared}
theorem code_co_new {r : Addr} {a b c : Int} {t u v tk0 : Tok} {n : Nat} {Q₁ : Value → Shared → Prop} (hh : A.handled = none) (hr : IsRange s.heap r a b c t u v) (hsmall : Builtin.Range.small a b c = true) (hn : Builtin.Range.rangeSize a b c = n) (hlen : n ≤ 2 ^ 24)
    (h : ∀ (h' : Heap) (tk : Nat) (acc : Array Value), (∀ b o, s.heap.get? b = some o → h'.get? b = some o) → ItemsOf (fun i v => ∃ t, v = .int (a + i * c) t) acc n →
      Q₁ (.ref (h'.objs.size + 1)) { s with heap := (h'.push { cls := .type "tuple", data := .seq acc }).push { cls := .type "itertools.combinations", data := .fields #[.ref h'.objs.size, rawInt (if 2 > n then 2 else 0), .none, rawInt 0, rawInt 1] }, toks := tk }) :
    codeAny (model prog w) A (.call (.builtin "itertools.combinations.__new__") ⟨[.type "itertools.combinations", .ref r, .int 2 tk0], []⟩) (wants Q₁ E) s := by
  refine codeAny_of_tree ?_
  show wpAny _ A.in1 (do checkBuiltinCall "itertools.combinations.__new__" ⟨[.type "itertools.combinations", .ref r, .int 2 tk0], []⟩; again (.builtin "itertools.combinations.__new__" ⟨[.type "itertools.combinations", .ref r, .int 2 tk0], []⟩)) _ _ s
  refine wpAny_bind (wpAny_of_eq (newCall_co_2 _ _) (wpAny_pure ⟨plainId_quiet plain_co_new _, codeAny_builtin entry_co_new ?_⟩))
  rw [Around.under_plainId plain_co_new _]
  have hsub := sub_co
  have hd := noDict_co
  have hTI : s.TypeIs (.ref r) "range" := ⟨_, hr, rfl⟩
  have hh1 : A.in1.handled = none := hh
  wp_walk using wpAny_typeOf hTI, collect_range (A := A.in1) hh1 hr hsmall hn hlen
  rw [show ("itertools." ++ "combinations" : String) = "itertools.combinations" from by decide +kernel]
  refine wpAny_of_eq hsub ?_
  wp_walk using wpAny_typeOf hTI, collect_range (A := A.in1) hh1 hr hsmall hn hlen
  intro h' tk acc hk hacc
  show wpAny _ _ (newTuple acc.toList >>= fun p => pure ((Value.type "itertools.combinations", p, acc.toList.length, Int.toNat 2) : Value × Value × Nat × Nat)) _ _ _
  refine wpAny_bind (wpAny_newObj_type ?_ (by show acc.toList.toArray.size ≤ sizeLine; simp only [Array.toArray_toList]; rw [hacc.1, sizeLine_eq]; omega))
  refine wpAny_pure ?_
  have e : acc.toList.toArray = acc := by simp
  have e2 : acc.toList.length = n := by simp [hacc.1]
  rw [e, e2]
  wp_walk using wpAny_typeOf hTI
  have z := h h' tk acc hk hacc
  have e3 : (h'.push { cls := .type "tuple", data := .seq acc }).objs.size = h'.objs.size + 1 := by simp [Heap.push]
  rw [← e3] at z
  exact z
/-- combinations(range, 2): the object with its pool -/
theorem call_co {r : Addr} {a b c : Int} {t u v tk0 : Tok} {n : Nat} {Q : Value → Shared → Prop} (hh : A.handled = none) (hr : IsRange s.heap r a b c t u v) (hsmall : Builtin.Range.small a b c = true) (hn : Builtin.Range.rangeSize a b c = n) (hlen : n ≤ 2 ^ 24)
    (hQ : ∀ (h' : Heap) (tk : Nat) (acc : Array Value), (∀ b o, s.heap.get? b = some o → h'.get? b = some o) → ItemsOf (fun i v => ∃ t, v = .int (a + i * c) t) acc n →
      Q (.ref (h'.objs.size + 1)) { s with heap := (h'.push { cls := .type "tuple", data := .seq acc }).push { cls := .type "itertools.combinations", data := .fields #[.ref h'.objs.size, rawInt (if 2 > n then 2 else 0), .none, rawInt 0, rawInt 1] }, toks := tk }) :
    wpAny (model prog w) A (call (.type "itertools.combinations") [.ref r, .int 2 tk0]) Q E s := by
  refine callType_codes (Q₁ := fun obj s₁ => s₁.TypeIs obj "itertools.combinations" ∧ Q obj s₁) called_co (typeCall_co_2 _ _) F.entry_object_init
    (code_co_new (A := A.in1) hh hr hsmall hn hlen fun h' tk acc hk hacc => ⟨?_, hQ h' tk acc hk hacc⟩) fun obj s₁ h₁ => ?_
  · have e3 : (h'.push { cls := .type "tuple", data := .seq acc }).objs.size = h'.objs.size + 1 := by simp [Heap.push]
    rw [← e3]
    exact ⟨_, Heap.get?_push_size _ rfl, rfl⟩
  · exact ⟨h₁.1, F.args_object_init_3 obj _ _, object_init_meets called_co.init.lookup called_co.made (by decide) prog w A.in1 _ s₁ ⟨h₁.1, rfl, h₁.2⟩⟩
end
end CpCo

namespace CpCo
open PySem PySem.Spec PyProof.Rows L2
section
variable {prog : Program} {w : World} {A : Around} {E : Value → Shared → Prop} {s : Shared}
theorem iter_co {it pool : Addr} {st a b : Int} {res : Value} {Q : Value → Shared → Prop} (hit : IsCo s.heap it pool st res a b) (h : Q (.ref it) s) : wpAny (model prog w) A (pyIter (.ref it)) Q E s := by
  have hT : s.TypeIs (.ref it) "itertools.combinations" := ⟨_, hit, rfl⟩
  refine wpAny_pyIter_slot hT slot_co_iter (wpAny_call_entry slot_co_iter hT entry_co_iter ?_ (args_co_iter _))
  show wpAny _ _ (ret (.ref it)) _ _ s
  exact wpAny_pure ⟨_, rfl, "itertools.combinations", _, hT, slot_co_next.lookup, h⟩
/-- the pair handed out -/
theorem out_co {it pool : Addr} {st a b : Int} {res x y : Value} {m : Sem Value} {Q : Option Value → Shared → Prop} (hit : IsCo s.heap it pool st res a b)
    (hm : ∀ R : Value → Shared → Prop, R (.ref s.heap.objs.size) { s with heap := s.heap.push { cls := .type "tuple", data := .seq #[x, y] } } → wpAny (model prog w) A m R E s)
    (hQ : ∀ h', IsCo h' it pool st (.ref s.heap.objs.size) a b → h'.get? s.heap.objs.size = some { cls := .type "tuple", data := .seq #[x, y] } → (∀ c o, c ≠ it → s.heap.get? c = some o → h'.get? c = some o) → Q (some (.ref s.heap.objs.size)) { s with heap := h' }) :
    wpAny (model prog w) A (m >>= fun result => field (.ref it) 2 >>= fun before => setField (.ref it) 2 result >>= fun _ => letGo [before] [result] >>= fun _ => ret result) (fun fin s' => ∃ v, fin = Fin.done (Flow.ret v) ∧ Q (some v) s') E s := by
  refine wpAny_bind (hm _ ?_)
  have hit1 : (s.heap.push { cls := .type "tuple", data := .seq #[x, y] }).get? it = some { cls := .type "itertools.combinations", dict := none, data := .fields #[.ref pool, rawInt st, res, rawInt a, rawInt b], slots := #[] } := Heap.get?_push_of_some _ hit
  have ne : s.heap.objs.size ≠ it := Nat.ne_of_gt (Heap.lt_size hit)
  refine wpAny_bind (wpAny_field hit1 rfl (x := res) rfl ?_)
  refine wpAny_bind (wpAny_setField_rec hit1 (by simp) fun h' e sb => ?_)
  refine wpAny_bind ?_
  show wpAny _ _ (holding _ point >>= fun _ => letGo [] _) _ _ _
  refine wpAny_bind (wpAny_holding (wpAny_point (wpAny_pure ?_)))
  exact wpAny_pure ⟨_, rfl, hQ h' e ((sb.2 _ ne).trans (Heap.get?_push_size _ rfl)) fun c o hc q => (sb.2 _ hc).trans (Heap.get?_push_of_some _ q)⟩
theorem co_first {it pool : Addr} {a b : Nat} {res : Value} {items : Array Value} {k : Nat} {Q : Option Value → Shared → Prop} (hit : IsCo s.heap it pool 0 res a b) (hp : s.heap.get? pool = some { cls := .type "tuple", data := .seq items k })
    (hQ : ∀ h', IsCo h' it pool 1 (.ref s.heap.objs.size) a b → h'.get? s.heap.objs.size = some { cls := .type "tuple", data := .seq #[items.getD a .none, items.getD b .none] } → (∀ c o, c ≠ it → s.heap.get? c = some o → h'.get? c = some o) → Q (some (.ref s.heap.objs.size)) { s with heap := h' }) (hne : pool ≠ it) : wpAny (model prog w) A (callSpecial? (.ref it) "__next__") Q E s := by
  have hT : s.TypeIs (.ref it) "itertools.combinations" := ⟨_, hit, rfl⟩
  refine wpAny_callSpecial?_slot (name := Str.ofString "__next__") hT slot_co_next (wpAny_call_entry slot_co_next hT entry_co_next ?_ (args_co_next _))
  have hit' : s.heap.get? it = some { cls := .type "itertools.combinations", dict := none, data := .fields #[.ref pool, rawInt 0, res, rawInt a, rawInt b], slots := #[] } := hit
  show wpAny _ _ (field (.ref it) 0 >>= _) _ _ s
  refine wpAny_bind (wpAny_field hit' rfl (x := .ref pool) rfl ?_)
  show wpAny _ _ (Builtin.Itertools.itNumbersFrom (.ref it) 3 >>= _) _ _ s
  refine wpAny_bind ?_
  show wpAny _ _ (load it >>= _) _ _ s
  refine wpAny_bind (wpAny_load hit' ?_)
  refine wpAny_pure ?_
  show wpAny _ _ ((field (.ref it) 1 >>= _) >>= _) _ _ s
  refine wpAny_bind (wpAny_bind (wpAny_field hit' rfl (x := rawInt 0) rfl (wpAny_pure ?_)))
  refine wpAny_bind (wpAny_setField_rec hit' (by simp) fun h1 e1 sb1 => ?_)
  have hp1 : h1.get? pool = some { cls := .type "tuple", data := .seq items k } := (sb1.2 _ hne).trans hp
  have hz : h1.objs.size = s.heap.objs.size := sb1.1
  refine out_co (s := { s with heap := h1 }) (st := 1) (a := a) (b := b) (x := items.getD a .none) (y := items.getD b .none) e1 (fun R hR => ?_) fun h' e2 e3 e4 => ?_
  · show wpAny _ _ (Builtin.Itertools.itPoolItems (.ref pool) >>= _) _ _ _
    refine wpAny_bind ?_
    show wpAny _ _ (seqItems? (.ref pool) >>= _) _ _ _
    refine wpAny_bind ?_
    show wpAny _ _ (load pool >>= _) _ _ _
    refine wpAny_bind (wpAny_load hp1 (wpAny_pure ?_))
    refine wpAny_pure ?_
    exact wpAny_newObj_type hR (by show 2 ≤ sizeLine; decide)
  · have hz' : ({ s with heap := h1 } : Shared).heap.objs.size = s.heap.objs.size := hz
    rw [hz'] at e2 e3 ⊢
    exact hQ h' e2 e3 fun c o hc q => e4 c o hc ((sb1.2 _ hc).trans q)
/-- the pair after (a, b) -/
def nx (n a b : Nat) : Option (Nat × Nat) := if b + 1 < n then some (a, b + 1) else if a + 2 < n then some (a + 1, a + 2) else none
theorem nc (n a b : Nat) (h1 : a < b) (h2 : b < n) : (match (List.range [a, b].length).reverse.find? (fun i => [a, b].getD i 0 != i + n - [a, b].length) with
    | none => none
    | some i => some ([a, b].take i ++ (List.range ([a, b].length - i)).map ([a, b].getD i 0 + 1 + ·))) = (nx n a b).map fun p => [p.1, p.2] := by
  show (match [1, 0].find? (fun i => [a, b].getD i 0 != i + n - 2) with
    | none => none
    | some i => some ([a, b].take i ++ (List.range (2 - i)).map ([a, b].getD i 0 + 1 + ·))) = _
  unfold nx
  have f1 : ∀ P : Nat → Bool, P 1 = true → [1, 0].find? P = some 1 := fun P h => by simp [List.find?, h]
  have f2 : ∀ P : Nat → Bool, ¬ P 1 = true → P 0 = true → [1, 0].find? P = some 0 := fun P h h' => by simp [List.find?, h, h']
  have f3 : ∀ P : Nat → Bool, ¬ P 1 = true → ¬ P 0 = true → [1, 0].find? P = none := fun P h h' => by simp [List.find?, h, h']
  by_cases c1 : b + 1 < n
  · have e : ([a, b].getD 1 0 != 1 + n - 2) = true := by
      show (b != 1 + n - 2) = true
      rw [bne_iff_ne]
      omega
    rw [f1 (fun i => [a, b].getD i 0 != i + n - 2) e, if_pos c1]
    rfl
  · have e : ¬ ([a, b].getD 1 0 != 1 + n - 2) = true := by
      show ¬ (b != 1 + n - 2) = true
      rw [bne_iff_ne]
      omega
    rw [if_neg c1]
    by_cases c2 : a + 2 < n
    · have e' : ([a, b].getD 0 0 != 0 + n - 2) = true := by
        show (a != 0 + n - 2) = true
        rw [bne_iff_ne]
        omega
      rw [f2 (fun i => [a, b].getD i 0 != i + n - 2) e e', if_pos c2]
      rfl
    · have e' : ¬ ([a, b].getD 0 0 != 0 + n - 2) = true := by
        show ¬ (a != 0 + n - 2) = true
        rw [bne_iff_ne]
        omega
      rw [f3 (fun i => [a, b].getD i 0 != i + n - 2) e e', if_neg c2]
      rfl
theorem co_next {it pool : Addr} {a b : Nat} {res : Value} {items : Array Value} {k : Nat} {Q : Option Value → Shared → Prop} (hit : IsCo s.heap it pool 1 res a b) (hp : s.heap.get? pool = some { cls := .type "tuple", data := .seq items k })
    {a' b' : Nat} (hab : a < b) (hb : b < items.size) (hnx : nx items.size a b = some (a', b'))
    (hQ : ∀ h', IsCo h' it pool 1 (.ref s.heap.objs.size) a' b' → h'.get? s.heap.objs.size = some { cls := .type "tuple", data := .seq #[items.getD a' .none, items.getD b' .none] } → (∀ c o, c ≠ it → s.heap.get? c = some o → h'.get? c = some o) → Q (some (.ref s.heap.objs.size)) { s with heap := h' }) (hne : pool ≠ it) : wpAny (model prog w) A (callSpecial? (.ref it) "__next__") Q E s := by
  have hT : s.TypeIs (.ref it) "itertools.combinations" := ⟨_, hit, rfl⟩
  refine wpAny_callSpecial?_slot (name := Str.ofString "__next__") hT slot_co_next (wpAny_call_entry slot_co_next hT entry_co_next ?_ (args_co_next _))
  have hit' : s.heap.get? it = some { cls := .type "itertools.combinations", dict := none, data := .fields #[.ref pool, rawInt 1, res, rawInt a, rawInt b], slots := #[] } := hit
  show wpAny _ _ (field (.ref it) 0 >>= _) _ _ s
  refine wpAny_bind (wpAny_field hit' rfl (x := .ref pool) rfl ?_)
  show wpAny _ _ (Builtin.Itertools.itNumbersFrom (.ref it) 3 >>= _) _ _ s
  refine wpAny_bind ?_
  show wpAny _ _ (load it >>= _) _ _ s
  refine wpAny_bind (wpAny_load hit' ?_)
  refine wpAny_pure ?_
  show wpAny _ _ ((field (.ref it) 1 >>= _) >>= _) _ _ s
  refine wpAny_bind (wpAny_bind (wpAny_field hit' rfl (x := rawInt 1) rfl (wpAny_pure ?_)))
  show wpAny _ _ (Builtin.Itertools.itPoolItems (.ref pool) >>= _) _ _ s
  refine wpAny_bind ?_
  show wpAny _ _ (seqItems? (.ref pool) >>= _) _ _ _
  refine wpAny_bind ?_
  show wpAny _ _ (load pool >>= _) _ _ _
  refine wpAny_bind (wpAny_load hp (wpAny_pure ?_))
  refine wpAny_pure ?_
  have nce := nc items.size a b hab hb
  rw [hnx] at nce
  split
  · rename_i next hn
    have en : next = [a', b'] := Option.some.inj (hn.symm.trans nce)
    subst en
    refine wpAny_bind ?_
    show wpAny _ _ (updateFields it _) _ _ s
    refine wpAny_updateFields hit' rfl ?_ (by show 5 ≤ sizeLine + 3; decide)
    have e1 : IsCo (s.heap.update it (Obj.mapFields fun fs => fs.extract 0 3 ++ ([a', b'].map fun (n : Nat) => rawInt n).toArray)) it pool 1 res a' b' := Heap.get?_update_self _ hit' rfl
    have sb1 : Heap.SameBut it s.heap (s.heap.update it (Obj.mapFields fun fs => fs.extract 0 3 ++ ([a', b'].map fun (n : Nat) => rawInt n).toArray)) := Heap.SameBut.update ..
    show wpAny _ _ _ _ _ { s with heap := s.heap.update it (Obj.mapFields fun fs => fs.extract 0 3 ++ ([a', b'].map fun (n : Nat) => rawInt n).toArray) }
    generalize s.heap.update it (Obj.mapFields fun fs => fs.extract 0 3 ++ ([a', b'].map fun (n : Nat) => rawInt n).toArray) = h1 at e1 sb1
    have hp1 : h1.get? pool = some { cls := .type "tuple", data := .seq items k } := (sb1.2 _ hne).trans hp
    have hz : h1.objs.size = s.heap.objs.size := sb1.1
    refine out_co (s := { s with heap := h1 }) (st := 1) (a := a') (b := b') (x := items.getD a' .none) (y := items.getD b' .none) e1 (fun R hR => ?_) fun h' e2 e3 e4 => ?_
    · show wpAny _ _ (Builtin.Itertools.itPoolItems (.ref pool) >>= _) _ _ _
      refine wpAny_bind ?_
      show wpAny _ _ (seqItems? (.ref pool) >>= _) _ _ _
      refine wpAny_bind ?_
      show wpAny _ _ (load pool >>= _) _ _ _
      refine wpAny_bind (wpAny_load hp1 (wpAny_pure ?_))
      refine wpAny_pure ?_
      exact wpAny_newObj_type hR (by show 2 ≤ sizeLine; decide)
    · have hz' : ({ s with heap := h1 } : Shared).heap.objs.size = s.heap.objs.size := hz
      rw [hz'] at e2 e3 ⊢
      exact hQ h' e2 e3 fun c o hc q => e4 c o hc ((sb1.2 _ hc).trans q)
  · rename_i hn
    have z : none = some [a', b'] := hn.symm.trans nce
    cases z
theorem stop_co {α : Type} {it : Addr} {Q : α → Shared → Prop} (hh : A.handled = none)
    (hQ : ∀ e h', CpRep.StopE e h' → Heap.ExtBut it s.heap h' → E e { s with heap := h' }) : wpAny (model prog w) A (Builtin.Itertools.itStop : Sem α) Q E s := by
  show wpAny _ _ (newExc (.type "StopIteration") [] >>= _) _ _ _
  refine wpAny_bind ?_
  simp only [newExc, newTuple]
  refine wpAny_bind (wpAny_newObj_type ?_ (by size_fits))
  refine wpAny_bind (m := firstArgMember _ _) (wpAny_of_eq (a := Value.none) (by first | rfl | (simp only [firstArgMember]; rfl)) ?_)
  refine wpAny_newObj_type ?_ (by size_fits)
  simp only [raiseNew]
  refine wpAny_bind (wpAny_handled ?_)
  rw [hh]
  refine wpAny_bind (wpAny_pure (wpAny_throw ?_))
  exact hQ _ _ ⟨_, _, _, rfl, Heap.get?_push_size _ rfl, rfl, rfl, rfl⟩ (((Heap.ExtBut.refl it s.heap).push _).push _)
theorem co_end {it pool : Addr} {a b : Nat} {res : Value} {st : Int} {items : Array Value} {k : Nat} {Q : Option Value → Shared → Prop} (hh : A.handled = none) (hit : IsCo s.heap it pool st res a b) (hp : s.heap.get? pool = some { cls := .type "tuple", data := .seq items k })
    (hs : st = 2 ∨ (st = 1 ∧ a < b ∧ b < items.size ∧ nx items.size a b = none))
    (hQ : ∀ e h', CpRep.StopE e h' → (∀ c o, c ≠ it → s.heap.get? c = some o → h'.get? c = some o) → E e { s with heap := h' }) : wpAny (model prog w) A (callSpecial? (.ref it) "__next__") Q E s := by
  have hT : s.TypeIs (.ref it) "itertools.combinations" := ⟨_, hit, rfl⟩
  refine wpAny_callSpecial?_slot (name := Str.ofString "__next__") hT slot_co_next (wpAny_call_entry slot_co_next hT entry_co_next ?_ (args_co_next _))
  have hit' : s.heap.get? it = some { cls := .type "itertools.combinations", dict := none, data := .fields #[.ref pool, rawInt st, res, rawInt a, rawInt b], slots := #[] } := hit
  have hh1 : A.in1.handled = none := hh
  show wpAny _ _ (field (.ref it) 0 >>= _) _ _ s
  refine wpAny_bind (wpAny_field hit' rfl (x := .ref pool) rfl ?_)
  show wpAny _ _ (Builtin.Itertools.itNumbersFrom (.ref it) 3 >>= _) _ _ s
  refine wpAny_bind ?_
  show wpAny _ _ (load it >>= _) _ _ s
  refine wpAny_bind (wpAny_load hit' ?_)
  refine wpAny_pure ?_
  show wpAny _ _ ((field (.ref it) 1 >>= _) >>= _) _ _ s
  refine wpAny_bind (wpAny_bind (wpAny_field hit' rfl (x := rawInt st) rfl (wpAny_pure ?_)))
  rcases hs with rfl | ⟨rfl, hab, hb, hn⟩
  · show wpAny _ _ (rule _ >>= _) _ _ s
    refine wpAny_bind (wpAny_rule ?_)
    exact stop_co (it := it) hh1 fun e h' z q => hQ e h' z q
  · show wpAny _ _ (Builtin.Itertools.itPoolItems (.ref pool) >>= _) _ _ s
    refine wpAny_bind ?_
    show wpAny _ _ (seqItems? (.ref pool) >>= _) _ _ _
    refine wpAny_bind ?_
    show wpAny _ _ (load pool >>= _) _ _ _
    refine wpAny_bind (wpAny_load hp (wpAny_pure ?_))
    refine wpAny_pure ?_
    have nce := nc items.size a b hab hb
    rw [hn] at nce
    split
    · rename_i next hnx
      have z : some next = none := hnx.symm.trans nce
      cases z
    · refine wpAny_bind (wpAny_setField_rec hit' (by simp) fun h1 e1 sb1 => ?_)
      exact stop_co (s := { s with heap := h1 }) (it := it) hh1 fun e h' z q => hQ e h' z fun c o hc e' => q c o hc ((sb1.2 _ hc).trans e')
theorem next_co_end {it pool : Addr} {a b : Nat} {res : Value} {st : Int} {items : Array Value} {k : Nat} {Q : Option Value → Shared → Prop} (hh : A.handled = none) (hit : IsCo s.heap it pool st res a b) (hp : s.heap.get? pool = some { cls := .type "tuple", data := .seq items k })
    (hs : st = 2 ∨ (st = 1 ∧ a < b ∧ b < items.size ∧ nx items.size a b = none))
    (hQ : ∀ h', (∀ c o, c ≠ it → s.heap.get? c = some o → h'.get? c = some o) → Q none { s with heap := h' }) : wpAny (model prog w) A (pyNext (.ref it)) Q E s := by
  unfold pyNext
  refine wpAny_bind (wpAny_attempt (co_end hh hit hp hs fun e h' he kp => ?_))
  obtain ⟨ea, o, vs, rfl, ho, hc, _⟩ := he
  refine wpAny_bind (wpAny_isInstance (T := "StopIteration") (b := true) ⟨o, ho, hc⟩ isSubtype_stop ?_)
  exact wpAny_pure (hQ _ kp)
end
end CpCo

namespace CpCo
open PySem PySem.Spec PyProof.Rows L2
/-- the pairs (x, y) with a ≤ x < y < n, ascending -/
def tlA (n : Nat) : Nat → Nat → List (Nat × Nat)
  | 0, _ => []
  | m + 1, a => (List.range' (a + 1) (n - (a + 1))).map (fun y => (a, y)) ++ tlA n m (a + 1)
def prs (n : Nat) : List (Nat × Nat) := tlA n n 0
/-- those after (a, b) -/
def rst (n a b : Nat) : List (Nat × Nat) := (List.range' (b + 1) (n - (b + 1))).map (fun y => (a, y)) ++ tlA n (n - (a + 1)) (a + 1)
theorem tl_nil {n : Nat} : ∀ (m a : Nat), n ≤ a + 1 → tlA n m a = []
  | 0, _, _ => rfl
  | m + 1, a, h => by
    show (List.range' (a + 1) (n - (a + 1))).map _ ++ tlA n m (a + 1) = []
    rw [show n - (a + 1) = 0 by omega, tl_nil m (a + 1) (by omega)]
    rfl
theorem tl_cons {n a : Nat} (h : a + 1 < n) : tlA n (n - a) a = (a, a + 1) :: rst n a (a + 1) := by
  obtain ⟨m, hm⟩ : ∃ m, n - a = m + 1 := ⟨n - a - 1, by omega⟩
  rw [hm]
  show (List.range' (a + 1) (n - (a + 1))).map _ ++ tlA n m (a + 1) = _
  rw [show n - (a + 1) = (n - (a + 2)) + 1 by omega, List.range'_succ]
  unfold rst
  rw [show n - (a + 1 + 1) = n - (a + 2) by omega, show n - (a + 1) = m by omega]
  rfl
theorem rst_nx {n a b : Nat} (h : a < b) (hb : b < n) : rst n a b = match nx n a b with
    | some (a', b') => (a', b') :: rst n a' b'
    | none => [] := by
  unfold nx
  by_cases c1 : b + 1 < n
  · rw [if_pos c1]
    show _ = (a, b + 1) :: rst n a (b + 1)
    unfold rst
    rw [show n - (b + 1) = (n - (b + 1 + 1)) + 1 by omega, List.range'_succ]
    rfl
  · rw [if_neg c1]
    have e1 : (List.range' (b + 1) (n - (b + 1))).map (fun y => (a, y)) = [] := by
      rw [show n - (b + 1) = 0 by omega]
      rfl
    by_cases c2 : a + 2 < n
    · rw [if_pos c2]
      show _ = (a + 1, a + 2) :: rst n (a + 1) (a + 1 + 1)
      rw [← tl_cons (by omega)]
      unfold rst
      rw [e1, List.nil_append]
    · rw [if_neg c2]
      show _ = []
      unfold rst
      rw [e1, List.nil_append]
      exact tl_nil _ _ (by omega)
theorem prs_cons {n : Nat} (h : 1 < n) : prs n = (0, 1) :: rst n 0 1 := by
  unfold prs
  have := tl_cons (n := n) (a := 0) (by omega)
  exact this
theorem prs_nil {n : Nat} (h : n ≤ 1) : prs n = [] := tl_nil _ _ (by omega)
theorem nx_lt {n a b a' b' : Nat} (hab : a < b) (h : nx n a b = some (a', b')) : a' < b' ∧ b' < n := by
  unfold nx at h
  split at h
  · cases h
    omega
  · split at h
    · cases h
      omega
    · cases h
/-- the pairs, each in a new tuple -/
def Itco (n : Nat) : It := ⟨fun i _ => i < (prs n).length, fun i H x H' => ∃ T a b, x = .ref T ∧ H T = none ∧ (prs n)[i]? = some (a, b) ∧ H' = upd H T (.tup [.int (a : Nat), .int (b : Nat)]), fun i _ => (prs n).length ≤ i⟩
/-- the object before its turn i -/
def tnC (n : Nat) (it pool : Addr) (i : Nat) (h : Heap) : Prop :=
  (∃ (items : Array Value) (k : Nat), h.get? pool = some { cls := .type "tuple", data := .seq items k } ∧ ItemsOf (fun i v => ∃ t, v = .int (0 + i * 1) t) items n) ∧
  ∃ (st : Int) (res : Value) (a b : Nat), IsCo h it pool st res a b ∧ ((i = 0 ∧ a = 0 ∧ b = 1 ∧ st = if 2 > n then 2 else 0) ∨ (0 < i ∧ st = 1 ∧ a < b ∧ b < n ∧ (prs n).drop (i - 1) = (a, b) :: rst n a b))
theorem turn_co {P : Program} {w : World} {K : PySem.W.Frag} {tg : Expr} (n : Nat) (it pool : Addr) (hne : pool ≠ it) : Turn P w K tg (Itco n) [it, pool] it (tnC n it pool) where
  mem := by simp
  obj := fun i h st b hb => by
    obtain ⟨⟨items, k, hp, _⟩, s, res, a, b', hc, _⟩ := st
    have e : b = it ∨ b = pool := by simpa using hb
    rcases e with z | z
    · rw [z]; exact ⟨_, hc, fun v q => nomatch q⟩
    · rw [z]; exact ⟨_, hp, fun v q => nomatch q⟩
  keep := fun i h h' st k => by
    obtain ⟨⟨items, kk, hp, hi⟩, s, res, a, b', hc, r⟩ := st
    exact ⟨⟨items, kk, k pool (by simp) _ hp, hi⟩, s, res, a, b', k it (by simp) _ hc, r⟩
  item := by
    intro X hP hw hK hc i pins s σ H E I hf st hg
    subst hP hw hK
    have hg : i < (prs n).length := hg
    obtain ⟨⟨items, k, hp, hi⟩, st, res, a, b, hco, hst⟩ := st
    have hil : it < s.heap.objs.size := Heap.lt_size hco
    have hpl : pool < s.heap.objs.size := Heap.lt_size hp
    have val : ∀ {x : Nat}, x < n → ∃ t, items.getD x .none = .int (0 + x * 1) t := fun {x} hx => by
      have hx' : x < items.size := by rw [hi.1]; exact hx
      have e : items[x]? = some items[x] := Array.getElem?_eq_getElem hx'
      obtain ⟨t, ht⟩ := hi.2 x _ e
      exact ⟨t, by rw [Array.getD_eq_getD_getElem?, e]; exact ht⟩
    have rv : ∀ {x : Nat}, x < n → RelV (.int (x : Nat)) (items.getD x .none) := fun {x} hx => by
      obtain ⟨t, e⟩ := val hx
      rw [e]
      exact ⟨t, by rw [Int.zero_add, Int.mul_one]⟩
    -- what is left, once the pair (a', b') has come
    have fin : ∀ (a' b' : Nat), a' < b' → b' < n → (prs n).drop i = (a', b') :: rst n a' b' → ∀ h', IsCo h' it pool 1 (.ref s.heap.objs.size) a' b' → h'.get? s.heap.objs.size = some { cls := .type "tuple", data := .seq #[items.getD a' .none, items.getD b' .none] } → (∀ c o, c ≠ it → s.heap.get? c = some o → h'.get? c = some o) →
        ∃ u, some (Value.ref s.heap.objs.size) = some u ∧ wpAny (model X.prog X.w) X.A (letOwnedTupleGo tg (.ref it) u) (fun _ s2 => ∃ x H', Inv X pins σ H' s2 ∧ RelV x u ∧ (Itco n).yld i H x H' ∧ tnC n it pool (i + 1) s2.heap ∧ ∀ b ∈ [it, pool], H' b = none) E { s with heap := h' } := by
      intro a' b' h1 h2 hd h' c1 c2 kp
      refine ⟨_, rfl, go_of (s := { s with heap := h' }) (n := "itertools.combinations") c1 rfl rfl (by decide) ?_⟩
      have new : ObjOk X.prog X.w (upd H s.heap.objs.size (.tup [.int (a' : Nat), .int (b' : Nat)])) h' s.heap.objs.size (.tup [.int (a' : Nat), .int (b' : Nat)]) :=
        ⟨by show 2 ≤ sizeLine; decide, [items.getD a' .none, items.getD b' .none], .cons (rv (by omega)) (.cons (rv h2) .nil), ⟨_, c2, rfl, _, rfl⟩⟩
      have I1 : Inv X pins σ (upd H s.heap.objs.size (.tup [.int (a' : Nat), .int (b' : Nat)])) { s with heap := h' } :=
        I.turnedNew (t' := s.toks) (ch := [it, pool]) (fun c o hb q => kp c o (fun z => hb (by simp [z])) q) hf (Nat.le_refl _) new
      have hget : (prs n)[i]? = some (a', b') := by
        have := congrArg List.head? hd
        rw [List.head?_drop] at this
        exact this
      refine ⟨.ref s.heap.objs.size, _, I1, rfl, ⟨_, a', b', rfl, I.hok.fresh (Nat.le_refl _), hget, rfl⟩, ⟨⟨items, k, kp _ _ hne hp, hi⟩, 1, _, a', b', c1, .inr ⟨by omega, rfl, h1, h2, ?_⟩⟩, fun c hcm => ?_⟩
      · exact hd
      · have e' : c = it ∨ c = pool := by simpa using hcm
        have hlt : c < s.heap.objs.size := by
          rcases e' with z | z
          · rw [z]; exact hil
          · rw [z]; exact hpl
        rw [upd_ne (Nat.ne_of_lt hlt)]
        exact (hf c hcm).1
    unfold pyNext
    rcases hst with ⟨rfl, rfl, rfl, rfl⟩ | ⟨h0, rfl, hab, hb, hd⟩
    · have n2 : 1 < n := by
        rcases Nat.lt_or_ge 1 n with h | h
        · exact h
        · rw [prs_nil h] at hg
          exact absurd hg (by decide)
      have hco : IsCo s.heap it pool 0 res (0 : Nat) (1 : Nat) := by
        rw [if_neg (by omega)] at hco
        exact hco
      exact wpAny_bind (wpAny_attempt (co_first hco hp (fun h' c1 c2 kp => wpAny_pure (fin 0 1 (by decide) n2 (prs_cons n2) h' c1 c2 kp)) hne))
    · have hd1 : (prs n).drop i = rst n a b := by
        have e : (prs n).drop i = ((prs n).drop (i - 1)).drop 1 := by rw [List.drop_drop]; congr 1; omega
        rw [e, hd]
        rfl
      have hb' : b < items.size := by rw [hi.1]; exact hb
      rw [rst_nx hab hb] at hd1
      cases hn : nx n a b with
      | none =>
        rw [hn] at hd1
        have := congrArg List.length hd1
        rw [List.length_drop] at this
        have z : (prs n).length - i = 0 := this
        omega
      | some p =>
        obtain ⟨a', b'⟩ := p
        rw [hn] at hd1
        have l := nx_lt hab hn
        exact wpAny_bind (wpAny_attempt (co_next hco hp hab hb' (by rw [hi.1]; exact hn) (fun h' c1 c2 kp => wpAny_pure (fin a' b' l.1 l.2 hd1 h' c1 c2 kp)) hne))
  done := by
    intro X hP hw hK hc i pins s σ H E I hf st hg
    subst hP hw hK
    have hg : (prs n).length ≤ i := hg
    obtain ⟨⟨items, k, hp, hi⟩, st, res, a, b, hco, hst⟩ := st
    refine next_co_end (I.ok.hd hc) hco hp ?_ fun h' kp => ⟨rfl, I.turnedL (t' := s.toks) (ch := [it, pool]) (fun c o hb q => kp c o (fun z => hb (by simp [z])) q) hf⟩
    rcases hst with ⟨rfl, rfl, rfl, rfl⟩ | ⟨h0, rfl, hab, hb, hd⟩
    · left
      have n2 : n ≤ 1 := by
        rcases Nat.lt_or_ge 1 n with h | h
        · rw [prs_cons h] at hg
          exact absurd hg (by simp)
        · exact h
      rw [if_pos (by omega)]
    · right
      refine ⟨rfl, hab, by rw [hi.1]; exact hb, ?_⟩
      rw [hi.1]
      cases hn : nx n a b with
      | none => rfl
      | some p =>
        obtain ⟨a', b'⟩ := p
        have e := rst_nx hab hb
        rw [hn] at e
        have := congrArg List.length hd
        rw [e, List.length_drop] at this
        simp at this
        omega
  self := fun A i s Q E st h => by
    obtain ⟨_, st, res, a, b, hco, _⟩ := st
    exact iter_co hco h
end CpCo

namespace CpCo
open PySem PySem.Spec PyProof.Rows L2
def iComb (ta : TA) : TI := fun σ H R => ta σ H fun vs H1 => ∃ (p : Addr) (n : Nat), vs = [.ref p, .int 2] ∧ H1 p = some (.rng 0 (n : Nat)) ∧ n < 1000000 ∧ R (Itco n) H1
theorem pi_comb {X : Cx} {tg e e2 : Expr} {ta : TA} {p pos : Pos} {x : Str} (hc : X.calm = true) (hg : Gl X x) (hm : X.mg x = some (.type "itertools.combinations")) (ha : PA X [e, e2] ta)
    (hs : starEach [e, e2] X.env = (false, eval e X.env) :: starEach [e2] X.env := by rfl) (hpl : (backTo pos (starEach [e2] X.env)).any (·.1) = false := by rfl) (hdb : (x == ("__debug__" : Str)) = false := by decide) :
    PI X tg (.Call (.Name x p) [e, e2] [] pos) (iComb ta) := by
  refine ⟨fun pins s σ H R I h => ?_⟩
  refine Call_ (ld_glob I hg hm (PyProof.Rows.callWith_type1 (thn (ha.run pos pins s σ H _ I h) fun us s1 ⟨vs, H1, I1, r1, q1⟩ => ?_) hs hpl) hdb)
  obtain ⟨a, n, ex, ha', hn, q⟩ := q1
  subst ex
  cases r1 with
  | cons r rr =>
    cases rr with
    | cons r' rr =>
      cases rr
      cases r
      obtain ⟨t2, rfl⟩ := r'
      obtain ⟨t, u, v, er⟩ := (show ObjOk X.prog X.w H1 s1.heap a (.rng 0 (n : Nat)) from I1.hok a _ ha')
      have hsz : Builtin.Range.rangeSize 0 (n : Nat) 1 = (n : Nat) := by
        unfold Builtin.Range.rangeSize
        rw [if_pos (by decide)]
        split
        · rw [Int.ediv_one]
          omega
        · omega
      refine call_co (n := n) (I1.ok.hd hc) er ?_ hsz (by omega) fun h' tk acc kp hi => ?_
      · exact small_one (by decide) (by decide) (by omega) (by omega)
      · have I0 : Inv X pins σ H1 { s1 with heap := h', toks := tk } := I1.kept kp
        have I2 : Inv X pins σ H1 { s1 with heap := (h'.push { cls := .type "tuple", data := .seq acc }).push { cls := .type "itertools.combinations", data := .fields #[.ref h'.objs.size, rawInt (if 2 > n then 2 else 0), .none, rawInt 0, rawInt 1] }, toks := tk } :=
          I1.kept fun b o e => Heap.get?_push_of_some _ (Heap.get?_push_of_some _ (kp b o e))
        have e3 : (h'.push { cls := .type "tuple", data := .seq acc }).objs.size = h'.objs.size + 1 := by simp [Heap.push]
        have hco : IsCo ((h'.push { cls := .type "tuple", data := .seq acc }).push { cls := .type "itertools.combinations", data := .fields #[.ref h'.objs.size, rawInt (if 2 > n then 2 else 0), .none, rawInt 0, rawInt 1] }) (h'.objs.size + 1) h'.objs.size (if 2 > n then 2 else 0) .none (0 : Nat) (1 : Nat) := by
          rw [← e3]
          exact Heap.get?_push_size _ rfl
        refine iter_co hco ?_
        refine ⟨h'.objs.size + 1, [h'.objs.size + 1, h'.objs.size], _, Itco n, H1, rfl, I2, turn_co n _ _ (Nat.ne_of_lt (Nat.lt_succ_self _)), ⟨⟨acc, 0, Heap.get?_push_of_some _ (Heap.get?_push_size _ rfl), hi⟩, _, _, 0, 1, hco, .inl ⟨rfl, rfl, rfl, rfl⟩⟩, fun b hb => ?_, q⟩
        have eb : b = h'.objs.size + 1 ∨ b = h'.objs.size := by simpa using hb
        have hle : h'.objs.size ≤ b := by
          rcases eb with z | z
          · rw [z]; exact Nat.le_succ _
          · rw [z]; exact Nat.le_refl _
        exact I0.fpOk hle (I0.hok.fresh hle)
end CpCo

/-! ### a comprehension over the pairs of a range -/
namespace Lw
open PySem L2 PySem.Spec PyProof.Rows
theorem lc_comb {n : Nat} {g : TG} {tt : TT} {te : TE} {vs : List Nat} {σ : L2.St} {H1 : Hp} {D : Addr} {Qd : Hp → Prop} (Pv : Nat → Hp → Prop) (h0 : Pv 0 (upd H1 D (.lst [])))
    (hs : ∀ (i a b : Nat) (T : Addr) (H : Hp), (CpCo.prs n)[i]? = some (a, b) → Pv i H → H T = none → g (.ref T) (wipe σ vs) (upd H T (.tup [.int (a : Nat), .int (b : Nat)])) fun σ2 H2 => wipe σ2 vs = wipe σ vs ∧ tt σ2 H2 fun b H3 =>
      if b = true then te σ2 H3 fun y H4 => ∃ acc, H4 D = some (.lst acc) ∧ acc.length < sizeLine ∧ Pv (i + 1) (upd H4 D (.lst (acc ++ [y]))) else Pv (i + 1) H3) (hd : ∀ H, Pv (CpCo.prs n).length H → Qd H) :
    ∃ W : Nat → Nat → Hp → Prop, (∃ m, W 0 m (upd H1 D (.lst []))) ∧ ∀ i m H, W i m H →
      (((CpCo.Itco n).stop i H ∧ Qd H) ∨ ((CpCo.Itco n).go i H ∧ ∃ Nx : Hp → Prop, (∀ H', Nx H' → ∃ m', m' < m ∧ W (i + 1) m' H') ∧ ∀ x H', (CpCo.Itco n).yld i H x H' → g x (wipe σ vs) H' fun σ2 H2 => wipe σ2 vs = wipe σ vs ∧ tt σ2 H2 fun b H3 =>
        if b = true then te σ2 H3 fun y H4 => ∃ acc, H4 D = some (.lst acc) ∧ acc.length < sizeLine ∧ Nx (upd H4 D (.lst (acc ++ [y]))) else Nx H3)) := by
  refine ⟨fun i m H => m = (CpCo.prs n).length - i ∧ i ≤ (CpCo.prs n).length ∧ Pv i H, ⟨_, rfl, Nat.zero_le _, h0⟩, ?_⟩
  rintro i m H ⟨rfl, hi, p⟩
  by_cases hlt : i < (CpCo.prs n).length
  · refine .inr ⟨hlt, Pv (i + 1), fun H' p' => ⟨(CpCo.prs n).length - (i + 1), by omega, rfl, hlt, p'⟩, ?_⟩
    rintro v H' ⟨T, a, b, rfl, hT, e, rfl⟩
    exact hs i a b T H e p hT
  · have e : i = (CpCo.prs n).length := by omega
    subst e
    exact .inl ⟨Nat.le_refl _, hd H p⟩
theorem prs_at {n i a b : Nat} (h : (CpCo.prs n)[i]? = some (a, b)) : a < b ∧ b < n := by
  have key : ∀ (m a0 : Nat) (p : Nat × Nat), p ∈ CpCo.tlA n m a0 → p.1 < p.2 ∧ p.2 < n := by
    intro m
    induction m with
    | zero => intro a0 p hp; cases hp
    | succ m ih =>
      intro a0 p hp
      rcases List.mem_append.mp (show p ∈ (List.range' (a0 + 1) (n - (a0 + 1))).map (fun y => (a0, y)) ++ CpCo.tlA n m (a0 + 1) from hp) with h | h
      · obtain ⟨y, hy, rfl⟩ := List.mem_map.mp h
        have := List.mem_range'_1.mp hy
        exact ⟨by show a0 < y; omega, by show y < n; omega⟩
      · exact ih _ _ h
  exact key _ _ _ (List.mem_of_getElem? h)
theorem tl_len (n : Nat) : ∀ m a, (CpCo.tlA n m a).length ≤ m * n
  | 0, _ => by simp [CpCo.tlA]
  | m + 1, a => by
    show ((List.range' (a + 1) (n - (a + 1))).map (fun y => (a, y)) ++ CpCo.tlA n m (a + 1)).length ≤ _
    rw [List.length_append, List.length_map, List.length_range', Nat.succ_mul]
    have := tl_len n m (a + 1)
    omega
theorem prs_len (n : Nat) : (CpCo.prs n).length ≤ n * n := tl_len n n 0
end Lw

/-! ### t.index(i), t a tuple of numbers -/
namespace L2
open PySem PySem.Spec PyProof.Rows
theorem flat_ints (ys : List Int) : (ys.map V.int).all flatV = true := by
  rw [List.all_map]
  exact List.all_eq_true.mpr fun _ _ => rfl
section
variable {X : Cx}
def rTupIdx (K : PySem.W.Frag) : V → List V → Hp → VK → Prop := fun x xs H Q => ∃ (p : Addr) (ys : List Int) (z : Int), x = .ref p ∧ xs = [.int z] ∧ SqT K H p (ys.map V.int) ∧ z ∈ ys ∧ Q (.int (ys.idxOf z : Nat)) H
theorem mt_tupIdx : MtR X "tuple.index" (rTupIdx X.K) := by
  intro pins s σ H x xs v us Q I rx rs h
  obtain ⟨p, ys, z, rfl, rfl, hq, hmem, q⟩ := h
  cases rx
  obtain ⟨u, rfl, t, rfl⟩ := vals1 rs
  obtain ⟨its, r, pl, hz⟩ := I.tuple hq
  obtain ⟨⟨cls, dd, dt, sl⟩, ho, hc, n, hd⟩ := pl
  simp only at hc hd
  subst hc
  subst hd
  have hjl : ys.idxOf z < ys.length := List.idxOf_lt_length_of_mem hmem
  have hl : its.toArray.size = ys.length := by rw [List.size_toArray, ← r.length, List.length_map]
  have hj : ys.idxOf z < its.toArray.size := by rw [hl]; exact hjl
  have hy : ys[ys.idxOf z]? = some z := by
    rw [List.getElem?_eq_getElem hjl]
    exact congrArg some (List.getElem_idxOf hjl)
  have at' : ∀ (m : Nat) (hm : m < its.toArray.size), ∃ y t', ys[m]? = some y ∧ its.toArray[m] = Value.int y t' := fun m hm => by
    have hm' : m < ys.length := by rw [← hl]; exact hm
    obtain ⟨w, hw, t', hw'⟩ := r.get (i := m) (x := .int ys[m]) (by simp [hm'])
    refine ⟨ys[m], t', List.getElem?_eq_getElem hm', ?_⟩
    have e := (List.getElem?_eq_some_iff.mp hw).2
    rw [← hw', ← e]
    simp
  refine call_meets PySem.F.slot_tuple_index ⟨_, ho, rfl⟩ PySem.F.entry_tuple_index (PySem.F.args_tuple_index_2 _ _) (TI.tuple_indexAt p its.toArray n dd sl (.int z t) (eqU (.int z)) (ys.idxOf z) hj ?_ ?_)
    ⟨ho, fun w hw => mem_eqAt (x := .int z) ⟨t, rfl⟩ rfl r (flat_ints ys) w (by simpa using hw), ⟨.int (ys.idxOf z : Nat), H, I.tok _, ⟨_, rfl⟩, q⟩⟩
  · obtain ⟨y, t', h1, h2⟩ := at' _ hj
    rw [hy] at h1
    cases h1
    rw [h2]
    show (z == z) = true
    exact beq_self_eq_true z
  · intro m hm hmj
    obtain ⟨y, t', h1, h2⟩ := at' m hm
    rw [h2]
    show (y == z) = false
    refine beq_eq_false_iff_ne.mpr fun e => ?_
    subst e
    have hm' : m < ys.length := by rw [← hl]; exact hm
    have := List.not_of_lt_findIdx (p := fun w => w == y) (xs := ys) hmj
    rw [List.getElem?_eq_getElem hm'] at h1
    rw [Option.some.inj h1] at this
    simp at this
end
end L2

/-! ### tuples made in the run that are known to have no dict: their methods may be called -/
namespace L2
open PySem PySem.Spec PyProof.Rows
/-- a tuple at a, laid bare -/
def TpF (H : Hp) (a : Addr) (xs : List V) : Prop := ∃ o : Obj, H a = some (.frz o (.tup xs)) ∧ o.dict = none
theorem TpF.sq {K : PySem.W.Frag} {H : Hp} {a : Addr} {xs : List V} (h : TpF H a xs) : SqT K H a xs := let ⟨o, e, _⟩ := h; .inl (.inr ⟨o, e⟩)
theorem TpF.mono {H H' : Hp} {a : Addr} {xs : List V} (h : TpF H a xs) (e : ∀ b o, H b = some o → H' b = some o) : TpF H' a xs := let ⟨o, q, d⟩ := h; ⟨o, e _ _ q, d⟩
/-- a new bare tuple -/
def NewF (H : Hp) (Q : VK) (xs : List V) : Prop := ∀ (p : Addr) (o : Obj), H p = none → o.dict = none → Q (.ref p) (upd H p (.frz o (.tup xs)))
section
variable {X : Cx} {pins : List (Addr × Obj)} {σ : St} {H : Hp} {s : Shared}
theorem laidF {t' : Nat} {its : List Value} {xs : List V} {h' : Heap} {Q : VK} (I : Inv X pins σ H { s with heap := h', toks := t' }) (r : Vals xs its) (hz : xs.length ≤ sizeLine) (q : NewF H Q xs) :
    EP X pins σ Q (.ref h'.objs.size) { s with heap := h'.push { cls := .type "tuple", data := .seq its.toArray }, toks := t' } := by
  have e : (h'.push { cls := .type "tuple", data := .seq its.toArray }).get? h'.objs.size = some { cls := .type "tuple", data := .seq its.toArray } := Heap.get?_push_size _ rfl
  have new : ObjOk X.prog X.w (upd H h'.objs.size (.frz { cls := .type "tuple", data := .seq its.toArray } (.tup xs))) (h'.push { cls := .type "tuple", data := .seq its.toArray }) h'.objs.size (.frz { cls := .type "tuple", data := .seq its.toArray } (.tup xs)) :=
    ⟨e, hz, its, r, IsTup.new _ _⟩
  exact ⟨.ref h'.objs.size, _, I.laid (t' := t') (fun b o q => Heap.get?_push_of_some _ q) (Nat.le_refl _) new, rfl, q _ _ (I.hok.fresh (Nat.le_refl _)) rfl⟩
end
section
variable {X : Cx}
/-- tuple(x), x a list: a bare one -/
def rTupF (K : PySem.W.Frag) : List V → Hp → VK → Prop := fun xs H Q => ∃ p ys, xs = [V.ref p] ∧ ((SqL K H p ys ∧ NewF H Q ys) ∨ (SqT K H p ys ∧ Q (.ref p) H))
theorem cr_tupF : CallR X (.type "tuple") (rTupF X.K) := by
  intro pins s σ H xs us Q I r h
  obtain ⟨p, ys, rfl, h⟩ := h
  obtain ⟨u, rfl, ru⟩ := vals1 r
  obtain rfl : u = .ref p := ru
  rcases h with ⟨hs, q⟩ | ⟨hs, q⟩
  · obtain ⟨its, rv, pl, hz⟩ := I.list hs
    refine call_tuple_list pl.isList (fun h' hk => ?_) (by rw [List.size_toArray, ← rv.length]; exact hz)
    have I1 : Inv X pins σ H { s with heap := h' } := I.kept (t' := s.toks) hk
    exact laidF (t' := s.toks) I1 rv hz q
  · obtain ⟨its, rv, pl, hz⟩ := I.tuple hs
    exact call_tuple_tup pl ⟨.ref p, H, I, rfl, q⟩
/-- tuple(range(..)) -/
def tTupRgF (te : St → Hp → (Int → Int → Hp → Prop) → Prop) : TE := fun σ H Q => te σ H fun a b H1 => RgOk a b ∧ NewF H1 Q (rgV a b)
theorem pe_tupRgF {e : Expr} {te : St → Hp → (Int → Int → Hp → Prop) → Prop} {p pos : Pos} (hc : X.calm = true) (hg : Gl X "tuple") (hm : X.mg "tuple" = none) (he : PRg X e te) (na : starEach [e] X.env = (false, eval e X.env) :: starEach [] X.env := by rfl) : PE X (.Call (.Name "tuple" p) [e] [] pos) (tTupRgF te) := by
  refine ⟨fun pins s σ H Q I h => ?_⟩
  refine Call_ (ld_blt I hg hm boot_tuple (PyProof.Rows.callWith_type1 (args_cons (thn (he pins s σ H _ I h) fun x s1 ⟨r, a, b, t, u, v, H1, ex, hr, I1, ok, q⟩ => args_nil ?_) na) na))
  subst ex
  obtain ⟨b1, b2, b3, b4, b5⟩ := ok
  refine call_tuple_range (n := (b - a).toNat) (I1.ok.hd hc) hr (small_one b1 b2 b3 b4) (rangeSize_nat a b) b5 fun h' tk acc hk hi => ?_
  have I2 : Inv X pins σ H1 { s1 with heap := h', toks := tk } := I1.kept hk
  have := laidF (s := s1) (t' := tk) (h' := h') (its := acc.toList) I2 (vals_rg hi) (by rw [rgV_length, sizeLine_eq]; omega) q
  rw [Array.toArray_toList] at this
  exact this
/-- t + u, a bare one unless one of them is empty -/
def rCatF (K : PySem.W.Frag) : R2 := fun x y H Q => ∃ a b xs ys, x = .ref a ∧ y = .ref b ∧ SqT K H a xs ∧ SqT K H b ys ∧ xs.length + ys.length ≤ sizeLine ∧
  (xs = [] → Q (.ref b) H) ∧ (xs ≠ [] → ys = [] → Q (.ref a) H) ∧ (xs ≠ [] → ys ≠ [] → NewF H Q (xs ++ ys))
theorem op_catF : OpR X (binaryOp .Add) (rCatF X.K) := by
  intro pins s σ H x y v u Q I rx ry h
  obtain ⟨a, b, xs, ys, rfl, rfl, ha, hb, hz, q0, q1, q2⟩ := h
  cases rx
  cases ry
  obtain ⟨its, r1, p1, _⟩ := I.tuple ha
  obtain ⟨its2, r2, p2, _⟩ := I.tuple hb
  by_cases hx : xs = []
  · subst hx
    cases r1
    exact cat_tup0 p1 p2 ⟨.ref b, H, I, rfl, q0 rfl⟩
  · refine HT.cat_tup p1 p2 (fun z => hx (r1.nil_iff.mp z)) (fun z => ⟨.ref a, H, I, rfl, q1 hx (r2.nil_iff.mp z)⟩) (fun z => ?_) (by rw [← r1.length, ← r2.length]; exact hz)
    exact laidF (t' := s.toks) I (r1.append r2) (by rw [List.length_append]; exact hz) (q2 hx fun w => z (r2.nil_iff.mpr w))
/-- t[lo:hi], a bare one unless it is all of t -/
def rSlF (K : PySem.W.Frag) : V → Option Int → Option Int → Hp → VK → Prop := fun x lo hi H Q => ∃ a xs, x = .ref a ∧ SqT K H a xs ∧
  (HT.sIx xs.length 0 lo = 0 ∧ HT.sIx xs.length xs.length hi = xs.length → Q (.ref a) H) ∧ (¬ (HT.sIx xs.length 0 lo = 0 ∧ HT.sIx xs.length xs.length hi = xs.length) → NewF H Q (cutV xs lo hi))
theorem sl_tupF : SlR X (rSlF X.K) := by
  intro pins s σ H x v vl vu lo hi sl Q I rx hs pl pu h
  obtain ⟨a, xs, rfl, hx, q1, q2⟩ := h
  cases rx
  obtain ⟨its, r, ht, hz⟩ := I.tuple hx
  have hlen : its.toArray.size = xs.length := by rw [List.size_toArray]; exact r.length.symm
  refine ⟨"tuple", _, PyProof.Rows.slot_tuple_getitem.lookup, ht.typeIs, ?_⟩
  by_cases hw : HT.sIx xs.length 0 lo = 0 ∧ HT.sIx xs.length xs.length hi = xs.length
  · exact getItem_tuple_whole ht hs pl pu (by rw [hlen]; exact hw) ⟨.ref a, H, I, rfl, q1 hw⟩
  · refine HT.getItem_tuple_cut ht hs pl pu (by rw [hlen]; exact hw) ?_ (by rw [hlen]; exact hz)
    rw [hlen]
    exact laidF (t' := s.toks) I ((r.drop (HT.sIx xs.length 0 lo)).take (HT.sIx xs.length xs.length hi - HT.sIx xs.length 0 lo)) (Nat.le_trans (cutV_length xs lo hi) hz) (q2 hw)
/-- a method of a bare tuple -/
def tBMF (r : V → List V → Hp → VK → Prop) (to : TE) (t : TA) : TE := fun σ H Q => to σ H fun x H1 => (∃ p xs, x = .ref p ∧ TpF H1 p xs) ∧ t σ H1 fun xs H2 => r x xs H2 Q
theorem pe_bmF {o e : Expr} {es : List Expr} {to : TE} {t : TA} {name : Str} {apos cpos : Pos} {id : String} {r : V → List V → Hp → VK → Prop} (pa : PlainAttrs "tuple") (slot : Slot "tuple" name id) (hty : typeOf (.builtin id) = pure (.type "method_descriptor")) (hm : MtR X id r) (ho : PE X o to) (ha : PA X (e :: es) t)
    (hbase : attributeBase o name X.env (eval o X.env) = eval o X.env := by rfl)
    (hfew : ((backTo cpos (starEach (e :: es) X.env)).all (fun x => !x.1) && (backToKw cpos (keywordEach [] X.env)).all (fun x => x.1.isSome)
      && decide ((e :: es).length + ([] : List Keyword).length + (if ([] : List Keyword).isEmpty then 0 else 1) < 30)) = true := by rfl)
    (hline : (apos.endLine == cpos.line) = true := by rfl) (hs : starEach (e :: es) X.env = (false, eval e X.env) :: starEach es X.env := by rfl) (hplain : (backTo cpos (starEach es X.env)).any (·.1) = false := by rfl) :
    PE X (.Call (.Attribute o name apos) (e :: es) [] cpos) (tBMF r to t) := by
  refine ⟨fun pins s σ H Q I h => ?_⟩
  refine wpAny_Call_method_late hbase hfew hline rfl (thn (ho.run pins s σ H _ I h) fun v s1 ⟨x, H1, I1, r1, ⟨p, xs, ex, ob, hb, hd⟩, q1⟩ => ?_)
  subst ex
  obtain rfl : v = .ref p := r1
  have ok : s1.heap.get? p = some ob ∧ ObjOk X.prog X.w H1 s1.heap p (.tup xs) := I1.hok p _ hb
  obtain ⟨og, _, its, _, o2, e2, c2, _⟩ := ok
  have e12 : o2 = ob := Option.some.inj (e2.symm.trans og)
  subst e12
  refine ⟨"tuple", id, pa, slot, hty, ⟨_, e2, c2⟩, fun a ea => by cases ea; exact ⟨_, e2, hd⟩, ?_⟩
  have hA := ha.run cpos pins s1 σ H1 _ I1 q1
  rw [hs] at hA ⊢
  refine Calls.callWith_builtin (by show (false || (backTo cpos (starEach es X.env)).any (·.1)) = false; rw [hplain] <;> rfl) (Calls.evalArgs_plain ?_)
  exact thn hA fun us s2 ⟨vs, H2, I2, r2, q2⟩ => hm pins s2 σ H2 (.ref p) vs (.ref p) us Q I2 rfl r2 q2
end
end L2

/-! ### t[::-1], t a tuple: a bare one -/
namespace HT
open PySem PySem.Spec PyProof.Rows
section
variable {prog : Program} {w : World} {A : Around} {E : Value → Shared → Prop} {s : Shared}
theorem applied_rev {sl : Addr} {vl vu vs : Value} {n : Nat} {Q : Int × Int × Nat → Shared → Prop} (hs : s.heap.IsSliceOf sl vl vu vs) (pl : IsPart vl none) (pu : IsPart vu none) (ps : IsPart vs (some (-1)))
    (h : Q ((n : Int) - 1, -1, n) s) : wpAny (model prog w) A (Builtin.Slice.sliceApplied (.ref sl) (pure (n : Int))) Q E s := by
  obtain ⟨os, hos, hcs, hds⟩ := id hs
  unfold Builtin.Slice.sliceApplied Builtin.Slice.sliceFields
  refine wpAny_bind (wpAny_bind (wpAny_field hos hds (x := vl) rfl (wpAny_bind (wpAny_field hos hds (x := vu) rfl (wpAny_bind (wpAny_field hos hds (x := vs) rfl (wpAny_pure ?_)))))))
  refine wpAny_bind (slicePart_ ps ?_)
  show wpAny _ _ (if ((-1 : Int) == 0) = true then _ else _) _ _ s
  rw [if_neg (by decide)]
  refine wpAny_bind (slicePart_ pl (wpAny_bind (slicePart_ pu (wpAny_bind (wpAny_pure ?_)))))
  show wpAny _ _ (pure ((n : Int) - 1, (-1 : Int), Builtin.Slice.slicePlaces ((n : Int) - 1) (-1) (-1))) _ _ s
  have e : Builtin.Slice.slicePlaces ((n : Int) - 1) (-1) (-1) = n := by
    unfold Builtin.Slice.slicePlaces
    rw [if_neg (by decide)]
    split
    · rw [show (- -1 : Int) = 1 by decide, Int.ediv_one]
      omega
    · omega
  rw [e]
  exact wpAny_pure h
theorem pick_rev (xs : Array Value) : ((List.range xs.size).filterMap fun (m : Nat) => xs[((xs.size : Int) - 1 + (m : Int) * (-1)).toNat]?).toArray = xs.toList.reverse.toArray := by
  rw [← PySem.W.krv_pick]
  have e : slicePick xs none none (some (-1)) = ((sliceRange ((xs.size : Int) - 1) (-1) (-1)).filterMap (xs[·]?)).toArray := by
    unfold slicePick
    rw [PySem.W.krv_bounds]
  rw [e, PySem.W.krv_sliceRange, List.filterMap_map]
  congr 2
  funext m
  show xs[_]? = xs[xs.size - 1 - m]?
  congr 1
  omega
theorem getItem_tuple_rev {t sl : Addr} {items : Array Value} {vl vu vs : Value} {Q : Value → Shared → Prop} (ht : IsTup s.heap t items) (hs : s.heap.IsSliceOf sl vl vu vs) (pl : IsPart vl none) (pu : IsPart vu none) (ps : IsPart vs (some (-1)))
    (h : Q (.ref s.heap.objs.size) { s with heap := s.heap.push { cls := .type "tuple", data := .seq items.toList.reverse.toArray } }) (hsz : items.size ≤ sizeLine) : wpAny (model prog w) A (getItem (.ref t) (.ref sl)) Q E s := by
  have htake : sizeOk (.seq items.toList.reverse.toArray) := by
    show items.toList.reverse.toArray.size ≤ sizeLine
    rw [List.size_toArray, List.length_reverse, Array.length_toList]
    exact hsz
  obtain ⟨os, hos, hcs, hds⟩ := id hs
  have hTs : s.TypeIs (.ref sl) "slice" := ⟨os, hos, hcs⟩
  unfold getItem
  try with_reducible refine wpAny_holding ?_
  first | refine wpAny_bind (wpAny_pure ?_) | skip
  refine wpAny_bind (wpAny_sequenceKey ht.typeIs (by decide) ?_)
  refine wpAny_bind (wpAny_callSpecial?_slot (name := Str.ofString "__getitem__") ht.typeIs PyProof.Rows.slot_tuple_getitem
    (wpAny_call_entry PyProof.Rows.slot_tuple_getitem ht.typeIs entry_tuple_getitem ?_ (args_tuple_getitem _ _)))
  show wpAny _ _ (Builtin.Tuple.tupleItemsOf (.ref t) >>= _) _ _ s
  refine wpAny_bind (tupleItemsOf_ ht ?_)
  refine wpAny_bind (wpAny_typeOf hTs ?_)
  rw [if_pos (by decide)]
  refine wpAny_bind (applied_rev hs pl pu ps ?_)
  have hno : ¬ ((((items.size : Int) - 1) == 0 && (-1 : Int) == 1 && items.size == items.size) = true) := by
    intro q
    rw [Bool.and_eq_true, Bool.and_eq_true] at q
    exact absurd q.1.2 (by decide)
  show wpAny _ _ (if (((items.size : Int) - 1) == 0 && (-1 : Int) == 1 && items.size == items.size) = true then _ else _) _ _ s
  rw [if_neg hno, pick_rev]
  first
    | exact wpAny_bind (m := Builtin.Tuple.tupleExact _) (wpAny_newObj_type (wpAny_pure ⟨_, rfl, wpAny_pure h⟩) htake)
    | exact wpAny_bind (m := Builtin.Tuple.tupleExact _) (wpAny_newObj_type (wpAny_bind (wpAny_pure (wpAny_pure ⟨_, rfl, wpAny_pure h⟩))) htake)
    | exact wpAny_bind (wpAny_bind (m := Builtin.Tuple.tupleExact _) (wpAny_newObj_type (wpAny_pure (wpAny_pure ⟨_, rfl, wpAny_pure h⟩)) htake))
    | exact wpAny_bind (wpAny_bind (m := Builtin.Tuple.tupleExact _) (wpAny_newObj_type (wpAny_pure ⟨_, rfl, wpAny_pure h⟩) htake))
end
end HT
namespace L2
open PySem PySem.Spec PyProof.Rows
section
variable {X : Cx}
def tRevF (K : PySem.W.Frag) (te : TE) : TE := fun σ H Q => te σ H fun x H1 => ∃ a xs, x = .ref a ∧ SqT K H1 a xs ∧ NewF H1 Q xs.reverse
theorem pe_revTF {e : Expr} {te : TE} {k : Nat} {p1 p2 p3 pos : Pos} (he : PE X e te) : PE X (.Subscript e (.Slice none none (some (.UnaryOp .USub (.Constant (.int 1) k p1) p2)) p3) pos) (tRevF X.K te) := by
  refine ⟨fun pins s σ H Q I h => ?_⟩
  refine Subscript_ (thn (he.run pins s σ H _ I h) fun v s1 ⟨x, H1, I1, r1, q1⟩ => ?_)
  obtain ⟨a, xs, ex, hx, q⟩ := q1
  subst ex
  cases r1
  have hst : PO X (some (.UnaryOp .USub (.Constant (.int 1) k p1) p2)) (tPart (tUn (rU fun i => .int (-i)) (tC (.int 1)))) := po_some (pe_un un_neg pe_int)
  refine wpAny_Slice (thn (po_none.run pins s1 σ H1 (fun o H2 => o = none ∧ H2 = H1) I1 ⟨rfl, rfl⟩) fun vl s2 ⟨l, H2, I2, pl, el, e2⟩ => ?_)
  subst el e2
  refine thn (po_none.run pins s2 σ H2 (fun o H3 => o = none ∧ H3 = H2) I2 ⟨rfl, rfl⟩) fun vu s3 ⟨u, H3, I3, pu, eu, e3⟩ => ?_
  subst eu e3
  refine thn (hst.run pins s3 σ H3 (fun o H4 => o = some (-1) ∧ H4 = H3) I3 ⟨1, rfl, -1, rfl, rfl, rfl⟩) fun vs s4 ⟨o, H4, I4, ps, eo, e4⟩ => ?_
  subst eo e4
  have I5 : Inv X pins σ H4 { s4 with heap := s4.heap.push { cls := .type "slice", data := .fields #[vl, vu, vs] } } := I4.kept (t' := s4.toks) fun b ob q => Heap.get?_push_of_some _ q
  obtain ⟨its, r, ht, hz⟩ := I5.tuple hx
  show wpAny (model X.prog X.w) X.A (subscriptTail e (.Slice none none (some (.UnaryOp .USub (.Constant (.int 1) k p1) p2)) p3) (.ref a) (.ref s4.heap.objs.size)) (EP X pins σ Q) X.xe { s4 with heap := s4.heap.push { cls := .type "slice", data := .fields #[vl, vu, vs] } }
  refine tail_any (ops := [.ref a, .ref s4.heap.objs.size]) ht.typeIs (PyProof.Rows.slot_tuple_getitem.lookup) ?_ (by with_unfolding_all rfl)
  refine HT.getItem_tuple_rev ht (Heap.IsSliceOf.new _ vl vu vs) pl pu ps ?_ (by rw [List.size_toArray, ← r.length]; exact hz)
  exact laidF (s := s4) (t' := s4.toks) (its := its.reverse) I5 r.reverse (by rw [List.length_reverse]; exact hz) q
def tTupLF (t : TA) : TE := fun σ H Q => t σ H fun vs H1 => vs.length ≤ sizeLine ∧ NewF H1 Q vs
theorem pe_tupLF {es : List Expr} {t : TA} {pos : Pos} {x1} (h : PA X es t) : PE X (.Tuple es x1 pos) (tTupLF t) := by
  refine ⟨fun pins s σ H Q I hq => ?_⟩
  refine wpAny_Tuple_spliced (thn (h.run pos pins s σ H _ I hq) fun us s1 ⟨xs, H1, I1, r, z, q⟩ => ⟨by rw [← r.length]; exact z, ?_⟩)
  exact laidF (s := s1) (t' := s1.toks) I1 r z q
theorem cat_F {K : PySem.W.Frag} {H : Hp} {a b : Addr} {xs ys : List V} {Q : VK} (ha : SqT K H a xs) (hb : SqT K H b ys) (hl : xs.length + ys.length ≤ sizeLine) (fa : ys = [] → TpF H a xs) (fb : xs = [] → TpF H b ys)
    (q : ∀ t H', (∀ c o, H c = some o → H' c = some o) → TpF H' t (xs ++ ys) → Q (.ref t) H') : rCatF K (.ref a) (.ref b) H Q := by
  refine ⟨a, b, xs, ys, rfl, rfl, ha, hb, hl, fun e => ?_, fun _ e => ?_, fun _ _ p o hp ho => ?_⟩
  · exact q b H (fun _ _ h => h) (by rw [e]; exact fb e)
  · have := fa e
    exact q a H (fun _ _ h => h) (by rw [e, List.append_nil]; exact this)
  · exact q p _ (fun c o' h => by rw [upd_ne (fun z => by rw [z, hp] at h; cases h)]; exact h) ⟨o, upd_same, ho⟩
end
end L2

namespace Lw
open PySem L2
def topS (i : Nat) : Stmt := PySem.Challenge.pw_codenests_k29_orders_asked.main.body.getD i (.Pass ⟨0, 0, 0, 0⟩)
abbrev s_NoLevel_init : Stmt := inClass (topS 3) 0
abbrev s_is_number : Stmt := topS 5
abbrev s_order_fault : Stmt := topS 7
abbrev s_is_order : Stmt := topS 8
abbrev s_falling_pairs : Stmt := topS 9
abbrev s_inversions : Stmt := topS 10
abbrev s_turned_back : Stmt := topS 11
abbrev s_sorting_steps : Stmt := topS 12
abbrev s_stepped : Stmt := topS 13
abbrev s_l_source : Stmt := topS 15
abbrev s_l_pick : Stmt := topS 16
abbrev s_l_of : Stmt := topS 17
abbrev s_l_mixed : Stmt := topS 18
abbrev s_l_odd : Stmt := topS 19
abbrev s_l_any_order : Stmt := topS 20
abbrev s_l_inversions : Stmt := topS 21
abbrev s_l_stepped : Stmt := topS 22
abbrev s_l_steps : Stmt := topS 23
abbrev s_l_no_level : Stmt := topS 24
abbrev s_l_is_order : Stmt := topS 25
abbrev s_l_bent_order : Stmt := topS 26
abbrev s_l_back : Stmt := topS 27
abbrev s_l_asked_right : Stmt := topS 28
abbrev s_law : Stmt := topS 29
theorem sc_NoLevel_init : FnScope ["self", "level"] ["self", "level"] (defScope s_NoLevel_init) := ⟨rfl, rfl, rfl, by decide +kernel, rfl, by decide +kernel, by decide +kernel⟩
theorem sc_is_number : FnScope ["value"] ["value"] (defScope s_is_number) := ⟨rfl, rfl, rfl, by decide +kernel, rfl, by decide +kernel, by decide +kernel⟩
theorem sc_order_fault : FnScope ["n", "value", "k", "member"] ["n", "value"] (defScope s_order_fault) := ⟨rfl, rfl, rfl, by decide +kernel, rfl, by decide +kernel, by decide +kernel⟩
theorem sc_is_order : FnScope ["n", "value"] ["n", "value"] (defScope s_is_order) := ⟨rfl, rfl, rfl, by decide +kernel, rfl, by decide +kernel, by decide +kernel⟩
theorem sc_falling_pairs : FnScope ["order", "a", "b"] ["order"] (defScope s_falling_pairs) := ⟨rfl, rfl, rfl, by decide +kernel, rfl, by decide +kernel, by decide +kernel⟩
theorem sc_inversions : FnScope ["order"] ["order"] (defScope s_inversions) := ⟨rfl, rfl, rfl, by decide +kernel, rfl, by decide +kernel, by decide +kernel⟩
theorem sc_turned_back : FnScope ["order", "places", "place", "number"] ["order"] (defScope s_turned_back) := ⟨rfl, rfl, rfl, by decide +kernel, rfl, by decide +kernel, by decide +kernel⟩
theorem sc_sorting_steps : FnScope ["order", "i"] ["order"] (defScope s_sorting_steps) := ⟨rfl, rfl, rfl, by decide +kernel, rfl, by decide +kernel, by decide +kernel⟩
theorem sc_stepped : FnScope ["order", "level"] ["order", "level"] (defScope s_stepped) := ⟨rfl, rfl, rfl, by decide +kernel, rfl, by decide +kernel, by decide +kernel⟩
theorem sc_l_source : FnScope ["_law_script", "_law_mixed_here", "_law_cell"] ["_law_script"] (defScope s_l_source) := ⟨rfl, rfl, rfl, by decide +kernel, rfl, by decide +kernel, by decide +kernel⟩
theorem sc_l_pick : FnScope ["_law_source_here", "_law_many", "_law_left", "_law_mixed_here"] ["_law_source_here", "_law_many"] (defScope s_l_pick) := ⟨rfl, rfl, rfl, by decide +kernel, rfl, by decide +kernel, by decide +kernel⟩
theorem sc_l_of : FnScope ["_law_source_here", "_law_some"] ["_law_source_here", "_law_some"] (defScope s_l_of) := ⟨rfl, rfl, rfl, by decide +kernel, rfl, by decide +kernel, by decide +kernel⟩
theorem sc_l_mixed : FnScope ["_law_source_here", "_law_things", "_law_rest", "_law_lap"] ["_law_source_here", "_law_things"] (defScope s_l_mixed) := ⟨rfl, rfl, rfl, by decide +kernel, rfl, by decide +kernel, by decide +kernel⟩
theorem sc_l_odd : FnScope ["_law_source_here", "_law_some"] ["_law_source_here"] (defScope s_l_odd) := ⟨rfl, rfl, rfl, by decide +kernel, rfl, by decide +kernel, by decide +kernel⟩
theorem sc_l_any_order : FnScope ["_law_source_here", "_law_n", "_law_way", "_law_order", "_law_k"] ["_law_source_here", "_law_n"] (defScope s_l_any_order) := ⟨rfl, rfl, rfl, by decide +kernel, rfl, by decide +kernel, by decide +kernel⟩
theorem sc_l_inversions : FnScope ["_law_order", "_law_a", "_law_b"] ["_law_order"] (defScope s_l_inversions) := ⟨rfl, rfl, rfl, by decide +kernel, rfl, by decide +kernel, by decide +kernel⟩
theorem sc_l_stepped : FnScope ["_law_order", "_law_level"] ["_law_order", "_law_level"] (defScope s_l_stepped) := ⟨rfl, rfl, rfl, by decide +kernel, rfl, by decide +kernel, by decide +kernel⟩
theorem sc_l_steps : FnScope ["_law_order", "_law_i"] ["_law_order"] (defScope s_l_steps) := ⟨rfl, rfl, rfl, by decide +kernel, rfl, by decide +kernel, by decide +kernel⟩
theorem sc_l_no_level : FnScope ["_law_call", "_law_found", "e"] ["_law_call"] (defScope s_l_no_level) := ⟨rfl, rfl, rfl, by decide +kernel, rfl, by decide +kernel, by decide +kernel⟩
theorem sc_l_is_order : FnScope ["_law_n", "_law_value", "_law_good", "_law_member"] ["_law_n", "_law_value"] (defScope s_l_is_order) := ⟨rfl, rfl, rfl, by decide +kernel, rfl, by decide +kernel, by decide +kernel⟩
theorem sc_l_bent_order : FnScope ["_law_source_here", "_law_order", "_law_some", "_law_at", "_law_member"] ["_law_source_here", "_law_order"] (defScope s_l_bent_order) := ⟨rfl, rfl, rfl, by decide +kernel, rfl, by decide +kernel, by decide +kernel⟩
theorem sc_l_back : FnScope ["_law_order", "_law_k"] ["_law_order"] (defScope s_l_back) := ⟨rfl, rfl, rfl, by decide +kernel, rfl, by decide +kernel, by decide +kernel⟩
theorem sc_l_asked_right : FnScope ["_law_order", "_law_n", "_law_lap", "_law_told", "_law_level"] ["_law_order"] (defScope s_l_asked_right) := ⟨rfl, rfl, rfl, by decide +kernel, rfl, by decide +kernel, by decide +kernel⟩
theorem sc_law : FnScope ["_law_script", "_law_source_here", "_law_turn", "_law_order", "_law_look", "_law_value", "_law_n", "_law_odd_here"] ["_law_script"] (defScope s_law) := ⟨rfl, rfl, rfl, by decide +kernel, rfl, by decide +kernel, by decide +kernel⟩
structure Tx (K : PySem.W.Frag) (mg : Str → Option Value) : Type where
  f_NoLevel_init : Addr
  d_NoLevel_init : FuncData
  F_NoLevel_init : Fun K "__init__" "NoLevel.__init__" s_NoLevel_init f_NoLevel_init d_NoLevel_init
  b_NoLevel_init : Binds K d_NoLevel_init ["self", "level"] []
  f_is_number : Addr
  d_is_number : FuncData
  F_is_number : Fun K "is_number" "is_number" s_is_number f_is_number d_is_number
  b_is_number : Binds K d_is_number ["value"] []
  g_is_number : mg "is_number" = some (.ref f_is_number)
  f_order_fault : Addr
  d_order_fault : FuncData
  F_order_fault : Fun K "order_fault" "order_fault" s_order_fault f_order_fault d_order_fault
  b_order_fault : Binds K d_order_fault ["n", "value"] []
  g_order_fault : mg "order_fault" = some (.ref f_order_fault)
  f_is_order : Addr
  d_is_order : FuncData
  F_is_order : Fun K "is_order" "is_order" s_is_order f_is_order d_is_order
  b_is_order : Binds K d_is_order ["n", "value"] []
  g_is_order : mg "is_order" = some (.ref f_is_order)
  f_falling_pairs : Addr
  d_falling_pairs : FuncData
  F_falling_pairs : Fun K "falling_pairs" "falling_pairs" s_falling_pairs f_falling_pairs d_falling_pairs
  b_falling_pairs : Binds K d_falling_pairs ["order"] []
  g_falling_pairs : mg "falling_pairs" = some (.ref f_falling_pairs)
  f_inversions : Addr
  d_inversions : FuncData
  F_inversions : Fun K "inversions" "inversions" s_inversions f_inversions d_inversions
  b_inversions : Binds K d_inversions ["order"] []
  g_inversions : mg "inversions" = some (.ref f_inversions)
  f_turned_back : Addr
  d_turned_back : FuncData
  F_turned_back : Fun K "turned_back" "turned_back" s_turned_back f_turned_back d_turned_back
  b_turned_back : Binds K d_turned_back ["order"] []
  g_turned_back : mg "turned_back" = some (.ref f_turned_back)
  f_sorting_steps : Addr
  d_sorting_steps : FuncData
  F_sorting_steps : Fun K "sorting_steps" "sorting_steps" s_sorting_steps f_sorting_steps d_sorting_steps
  b_sorting_steps : Binds K d_sorting_steps ["order"] []
  g_sorting_steps : mg "sorting_steps" = some (.ref f_sorting_steps)
  f_stepped : Addr
  d_stepped : FuncData
  F_stepped : Fun K "stepped" "stepped" s_stepped f_stepped d_stepped
  b_stepped : Binds K d_stepped ["order", "level"] []
  g_stepped : mg "stepped" = some (.ref f_stepped)
  f_l_source : Addr
  d_l_source : FuncData
  F_l_source : Fun K "_law_source" "_law_source" s_l_source f_l_source d_l_source
  b_l_source : Binds K d_l_source ["_law_script"] []
  g_l_source : mg "_law_source" = some (.ref f_l_source)
  f_l_pick : Addr
  d_l_pick : FuncData
  F_l_pick : Fun K "_law_pick" "_law_pick" s_l_pick f_l_pick d_l_pick
  b_l_pick : Binds K d_l_pick ["_law_source_here", "_law_many"] []
  g_l_pick : mg "_law_pick" = some (.ref f_l_pick)
  f_l_of : Addr
  d_l_of : FuncData
  F_l_of : Fun K "_law_of" "_law_of" s_l_of f_l_of d_l_of
  b_l_of : Binds K d_l_of ["_law_source_here", "_law_some"] []
  g_l_of : mg "_law_of" = some (.ref f_l_of)
  f_l_mixed : Addr
  d_l_mixed : FuncData
  F_l_mixed : Fun K "_law_mixed" "_law_mixed" s_l_mixed f_l_mixed d_l_mixed
  b_l_mixed : Binds K d_l_mixed ["_law_source_here", "_law_things"] []
  g_l_mixed : mg "_law_mixed" = some (.ref f_l_mixed)
  f_l_odd : Addr
  d_l_odd : FuncData
  F_l_odd : Fun K "_law_odd" "_law_odd" s_l_odd f_l_odd d_l_odd
  b_l_odd : Binds K d_l_odd ["_law_source_here"] []
  g_l_odd : mg "_law_odd" = some (.ref f_l_odd)
  f_l_any_order : Addr
  d_l_any_order : FuncData
  F_l_any_order : Fun K "_law_any_order" "_law_any_order" s_l_any_order f_l_any_order d_l_any_order
  b_l_any_order : Binds K d_l_any_order ["_law_source_here", "_law_n"] []
  g_l_any_order : mg "_law_any_order" = some (.ref f_l_any_order)
  f_l_inversions : Addr
  d_l_inversions : FuncData
  F_l_inversions : Fun K "_law_inversions" "_law_inversions" s_l_inversions f_l_inversions d_l_inversions
  b_l_inversions : Binds K d_l_inversions ["_law_order"] []
  g_l_inversions : mg "_law_inversions" = some (.ref f_l_inversions)
  f_l_stepped : Addr
  d_l_stepped : FuncData
  F_l_stepped : Fun K "_law_stepped" "_law_stepped" s_l_stepped f_l_stepped d_l_stepped
  b_l_stepped : Binds K d_l_stepped ["_law_order", "_law_level"] []
  g_l_stepped : mg "_law_stepped" = some (.ref f_l_stepped)
  f_l_steps : Addr
  d_l_steps : FuncData
  F_l_steps : Fun K "_law_steps" "_law_steps" s_l_steps f_l_steps d_l_steps
  b_l_steps : Binds K d_l_steps ["_law_order"] []
  g_l_steps : mg "_law_steps" = some (.ref f_l_steps)
  f_l_no_level : Addr
  d_l_no_level : FuncData
  F_l_no_level : Fun K "_law_no_level" "_law_no_level" s_l_no_level f_l_no_level d_l_no_level
  b_l_no_level : Binds K d_l_no_level ["_law_call"] []
  g_l_no_level : mg "_law_no_level" = some (.ref f_l_no_level)
  f_l_is_order : Addr
  d_l_is_order : FuncData
  F_l_is_order : Fun K "_law_is_order" "_law_is_order" s_l_is_order f_l_is_order d_l_is_order
  b_l_is_order : Binds K d_l_is_order ["_law_n", "_law_value"] []
  g_l_is_order : mg "_law_is_order" = some (.ref f_l_is_order)
  f_l_bent_order : Addr
  d_l_bent_order : FuncData
  F_l_bent_order : Fun K "_law_bent_order" "_law_bent_order" s_l_bent_order f_l_bent_order d_l_bent_order
  b_l_bent_order : Binds K d_l_bent_order ["_law_source_here", "_law_order"] []
  g_l_bent_order : mg "_law_bent_order" = some (.ref f_l_bent_order)
  f_l_back : Addr
  d_l_back : FuncData
  F_l_back : Fun K "_law_back" "_law_back" s_l_back f_l_back d_l_back
  b_l_back : Binds K d_l_back ["_law_order"] []
  g_l_back : mg "_law_back" = some (.ref f_l_back)
  f_l_asked_right : Addr
  d_l_asked_right : FuncData
  F_l_asked_right : Fun K "_law_asked_right" "_law_asked_right" s_l_asked_right f_l_asked_right d_l_asked_right
  b_l_asked_right : Binds K d_l_asked_right ["_law_order"] []
  g_l_asked_right : mg "_law_asked_right" = some (.ref f_l_asked_right)
  f_law : Addr
  d_law : FuncData
  F_law : Fun K "law" "law" s_law f_law d_law
  b_law : Binds K d_law ["_law_script"] []
  g_law : mg "law" = some (.ref f_law)
  C_NoLevel : Addr
  y_NoLevel : LkX K mg "NoLevel" "level" C_NoLevel f_NoLevel_init
  z_len : mg "len" = none
  z_range : mg "range" = none
  z_int : mg "int" = none
  z_bool : mg "bool" = none
  z_tuple : mg "tuple" = none
  z_list : mg "list" = none
  z_isinstance : mg "isinstance" = none
  z_abs : mg "abs" = none
  z_max : mg "max" = none
  z_enumerate : mg "enumerate" = none
  z_repr : mg "repr" = none
  z_sum : mg "sum" = none
  z_sorted : mg "sorted" = none
  z_str : mg "str" = none
  t_combinations : mg "combinations" = some (.type "itertools.combinations")
def tx_mk {K : PySem.W.Frag} {h : Heap} {mg : Str → Option Value} (X : K.In h) (G : h.Ns mainGlobals mg)
    {C_NoLevel f_NoLevel_init f_is_number f_order_fault f_is_order f_falling_pairs f_inversions f_turned_back f_sorting_steps f_stepped f_l_source f_l_pick f_l_of f_l_mixed f_l_odd f_l_any_order f_l_inversions f_l_stepped f_l_steps f_l_no_level f_l_is_order f_l_bent_order f_l_back f_l_asked_right f_law : Addr} {oc1 kV1 dc1 pm1 cd1 ct1 oc2 kV2 dc2 pm2 cd2 ct2 oc3 kV3 dc3 pm3 cd3 ct3 oc4 kV4 dc4 pm4 cd4 ct4 oc5 kV5 dc5 pm5 cd5 ct5 oc6 kV6 dc6 pm6 cd6 ct6 oc7 kV7 dc7 pm7 cd7 ct7 oc8 kV8 dc8 pm8 cd8 ct8 oc9 kV9 dc9 pm9 cd9 ct9 oc10 kV10 dc10 pm10 cd10 ct10 oc11 kV11 dc11 pm11 cd11 ct11 oc12 kV12 dc12 pm12 cd12 ct12 oc13 kV13 dc13 pm13 cd13 ct13 oc14 kV14 dc14 pm14 cd14 ct14 oc15 kV15 dc15 pm15 cd15 ct15 oc16 kV16 dc16 pm16 cd16 ct16 oc17 kV17 dc17 pm17 cd17 ct17 oc18 kV18 dc18 pm18 cd18 ct18 oc19 kV19 dc19 pm19 cd19 ct19 oc20 kV20 dc20 pm20 cd20 ct20 oc21 kV21 dc21 pm21 cd21 ct21 oc22 kV22 dc22 pm22 cd22 ct22 oc23 kV23 dc23 pm23 cd23 ct23 oc24 kV24 dc24 pm24 cd24 ct24 : Value} {od1 an1 : Option Addr} {sl1 : Array (Option Value)} {od2 an2 : Option Addr} {sl2 : Array (Option Value)} {od3 an3 : Option Addr} {sl3 : Array (Option Value)} {od4 an4 : Option Addr} {sl4 : Array (Option Value)} {od5 an5 : Option Addr} {sl5 : Array (Option Value)} {od6 an6 : Option Addr} {sl6 : Array (Option Value)} {od7 an7 : Option Addr} {sl7 : Array (Option Value)} {od8 an8 : Option Addr} {sl8 : Array (Option Value)} {od9 an9 : Option Addr} {sl9 : Array (Option Value)} {od10 an10 : Option Addr} {sl10 : Array (Option Value)} {od11 an11 : Option Addr} {sl11 : Array (Option Value)} {od12 an12 : Option Addr} {sl12 : Array (Option Value)} {od13 an13 : Option Addr} {sl13 : Array (Option Value)} {od14 an14 : Option Addr} {sl14 : Array (Option Value)} {od15 an15 : Option Addr} {sl15 : Array (Option Value)} {od16 an16 : Option Addr} {sl16 : Array (Option Value)} {od17 an17 : Option Addr} {sl17 : Array (Option Value)} {od18 an18 : Option Addr} {sl18 : Array (Option Value)} {od19 an19 : Option Addr} {sl19 : Array (Option Value)} {od20 an20 : Option Addr} {sl20 : Array (Option Value)} {od21 an21 : Option Addr} {sl21 : Array (Option Value)} {od22 an22 : Option Addr} {sl22 : Array (Option Value)} {od23 an23 : Option Addr} {sl23 : Array (Option Value)} {od24 an24 : Option Addr} {sl24 : Array (Option Value)} 
    (a_NoLevel : PySem.W.nsIn K mainGlobals "NoLevel" = some (some (.ref C_NoLevel)))
    (yim_NoLevel : PySem.W.excInitIn K C_NoLevel lkTail "LookupError.__new__" = true)
    (yov_NoLevel : PySem.W.excOver K C_NoLevel lkTail = true)
    (ytk_NoLevel : PySem.W.takerIn K C_NoLevel "level" = some none)
    (ysa_NoLevel : PySem.W.findIn K (.ref C_NoLevel) "__setattr__" = some (some (.builtin "object.__setattr__")))
    (yga_NoLevel : PySem.W.findIn K (.ref C_NoLevel) "__getattribute__" = some (some (.builtin "BaseException.__getattribute__")))
    (ygg_NoLevel : PySem.W.findIn K (.ref C_NoLevel) "__getattr__" = some none)
    (ynp_NoLevel : PySem.W.findIn K (.ref C_NoLevel) "level" = some none)
    (yin_NoLevel : PySem.W.findIn K (.ref C_NoLevel) "__init__" = some (some (.ref f_NoLevel_init)))
    (yti_NoLevel : PySem.W.typeIn K (.ref f_NoLevel_init) = some (.type "function"))
    (ykC_NoLevel : PySem.W.keepIn K (.ref C_NoLevel) = true)
    (yeC_NoLevel : PySem.W.subIn K (.ref C_NoLevel) (.type "BaseException") = some true)
    (ytC_NoLevel : PySem.W.typeIn K (.ref C_NoLevel) = some (.type "type"))
    (yhC_NoLevel : PySem.W.hasDictIn K C_NoLevel = true)
    (yiC_NoLevel : PySem.W.isClsIn K C_NoLevel = true)
    (xs_NoLevel : PySem.W.subIn K (.ref C_NoLevel) (.ref C_NoLevel) = some true)
    (l_NoLevel_init : K.lookup f_NoLevel_init = some ⟨oc1, od1, .func (PySem.W.fnOf "__init__" "NoLevel.__init__" (defArgs s_NoLevel_init) (defBody s_NoLevel_init) (defScope s_NoLevel_init) .none kV1 dc1 pm1 an1 cd1 ct1), sl1⟩)
    (c_NoLevel_init : PySem.W.codeIn K cd1 "NoLevel.__init__" = true)
    (k_NoLevel_init : PySem.W.keepIn K (.ref f_NoLevel_init) = true)
    (a_is_number : PySem.W.nsIn K mainGlobals "is_number" = some (some (.ref f_is_number)))
    (l_is_number : K.lookup f_is_number = some ⟨oc2, od2, .func (PySem.W.fnOf "is_number" "is_number" (defArgs s_is_number) (defBody s_is_number) (defScope s_is_number) .none kV2 dc2 pm2 an2 cd2 ct2), sl2⟩)
    (c_is_number : PySem.W.codeIn K cd2 "is_number" = true)
    (k_is_number : PySem.W.keepIn K (.ref f_is_number) = true)
    (a_order_fault : PySem.W.nsIn K mainGlobals "order_fault" = some (some (.ref f_order_fault)))
    (l_order_fault : K.lookup f_order_fault = some ⟨oc3, od3, .func (PySem.W.fnOf "order_fault" "order_fault" (defArgs s_order_fault) (defBody s_order_fault) (defScope s_order_fault) .none kV3 dc3 pm3 an3 cd3 ct3), sl3⟩)
    (c_order_fault : PySem.W.codeIn K cd3 "order_fault" = true)
    (k_order_fault : PySem.W.keepIn K (.ref f_order_fault) = true)
    (a_is_order : PySem.W.nsIn K mainGlobals "is_order" = some (some (.ref f_is_order)))
    (l_is_order : K.lookup f_is_order = some ⟨oc4, od4, .func (PySem.W.fnOf "is_order" "is_order" (defArgs s_is_order) (defBody s_is_order) (defScope s_is_order) .none kV4 dc4 pm4 an4 cd4 ct4), sl4⟩)
    (c_is_order : PySem.W.codeIn K cd4 "is_order" = true)
    (k_is_order : PySem.W.keepIn K (.ref f_is_order) = true)
    (a_falling_pairs : PySem.W.nsIn K mainGlobals "falling_pairs" = some (some (.ref f_falling_pairs)))
    (l_falling_pairs : K.lookup f_falling_pairs = some ⟨oc5, od5, .func (PySem.W.fnOf "falling_pairs" "falling_pairs" (defArgs s_falling_pairs) (defBody s_falling_pairs) (defScope s_falling_pairs) .none kV5 dc5 pm5 an5 cd5 ct5), sl5⟩)
    (c_falling_pairs : PySem.W.codeIn K cd5 "falling_pairs" = true)
    (k_falling_pairs : PySem.W.keepIn K (.ref f_falling_pairs) = true)
    (a_inversions : PySem.W.nsIn K mainGlobals "inversions" = some (some (.ref f_inversions)))
    (l_inversions : K.lookup f_inversions = some ⟨oc6, od6, .func (PySem.W.fnOf "inversions" "inversions" (defArgs s_inversions) (defBody s_inversions) (defScope s_inversions) .none kV6 dc6 pm6 an6 cd6 ct6), sl6⟩)
    (c_inversions : PySem.W.codeIn K cd6 "inversions" = true)
    (k_inversions : PySem.W.keepIn K (.ref f_inversions) = true)
    (a_turned_back : PySem.W.nsIn K mainGlobals "turned_back" = some (some (.ref f_turned_back)))
    (l_turned_back : K.lookup f_turned_back = some ⟨oc7, od7, .func (PySem.W.fnOf "turned_back" "turned_back" (defArgs s_turned_back) (defBody s_turned_back) (defScope s_turned_back) .none kV7 dc7 pm7 an7 cd7 ct7), sl7⟩)
    (c_turned_back : PySem.W.codeIn K cd7 "turned_back" = true)
    (k_turned_back : PySem.W.keepIn K (.ref f_turned_back) = true)
    (a_sorting_steps : PySem.W.nsIn K mainGlobals "sorting_steps" = some (some (.ref f_sorting_steps)))
    (l_sorting_steps : K.lookup f_sorting_steps = some ⟨oc8, od8, .func (PySem.W.fnOf "sorting_steps" "sorting_steps" (defArgs s_sorting_steps) (defBody s_sorting_steps) (defScope s_sorting_steps) .none kV8 dc8 pm8 an8 cd8 ct8), sl8⟩)
    (c_sorting_steps : PySem.W.codeIn K cd8 "sorting_steps" = true)
    (k_sorting_steps : PySem.W.keepIn K (.ref f_sorting_steps) = true)
    (a_stepped : PySem.W.nsIn K mainGlobals "stepped" = some (some (.ref f_stepped)))
    (l_stepped : K.lookup f_stepped = some ⟨oc9, od9, .func (PySem.W.fnOf "stepped" "stepped" (defArgs s_stepped) (defBody s_stepped) (defScope s_stepped) .none kV9 dc9 pm9 an9 cd9 ct9), sl9⟩)
    (c_stepped : PySem.W.codeIn K cd9 "stepped" = true)
    (k_stepped : PySem.W.keepIn K (.ref f_stepped) = true)
    (a_l_source : PySem.W.nsIn K mainGlobals "_law_source" = some (some (.ref f_l_source)))
    (l_l_source : K.lookup f_l_source = some ⟨oc10, od10, .func (PySem.W.fnOf "_law_source" "_law_source" (defArgs s_l_source) (defBody s_l_source) (defScope s_l_source) .none kV10 dc10 pm10 an10 cd10 ct10), sl10⟩)
    (c_l_source : PySem.W.codeIn K cd10 "_law_source" = true)
    (k_l_source : PySem.W.keepIn K (.ref f_l_source) = true)
    (a_l_pick : PySem.W.nsIn K mainGlobals "_law_pick" = some (some (.ref f_l_pick)))
    (l_l_pick : K.lookup f_l_pick = some ⟨oc11, od11, .func (PySem.W.fnOf "_law_pick" "_law_pick" (defArgs s_l_pick) (defBody s_l_pick) (defScope s_l_pick) .none kV11 dc11 pm11 an11 cd11 ct11), sl11⟩)
    (c_l_pick : PySem.W.codeIn K cd11 "_law_pick" = true)
    (k_l_pick : PySem.W.keepIn K (.ref f_l_pick) = true)
    (a_l_of : PySem.W.nsIn K mainGlobals "_law_of" = some (some (.ref f_l_of)))
    (l_l_of : K.lookup f_l_of = some ⟨oc12, od12, .func (PySem.W.fnOf "_law_of" "_law_of" (defArgs s_l_of) (defBody s_l_of) (defScope s_l_of) .none kV12 dc12 pm12 an12 cd12 ct12), sl12⟩)
    (c_l_of : PySem.W.codeIn K cd12 "_law_of" = true)
    (k_l_of : PySem.W.keepIn K (.ref f_l_of) = true)
    (a_l_mixed : PySem.W.nsIn K mainGlobals "_law_mixed" = some (some (.ref f_l_mixed)))
    (l_l_mixed : K.lookup f_l_mixed = some ⟨oc13, od13, .func (PySem.W.fnOf "_law_mixed" "_law_mixed" (defArgs s_l_mixed) (defBody s_l_mixed) (defScope s_l_mixed) .none kV13 dc13 pm13 an13 cd13 ct13), sl13⟩)
    (c_l_mixed : PySem.W.codeIn K cd13 "_law_mixed" = true)
    (k_l_mixed : PySem.W.keepIn K (.ref f_l_mixed) = true)
    (a_l_odd : PySem.W.nsIn K mainGlobals "_law_odd" = some (some (.ref f_l_odd)))
    (l_l_odd : K.lookup f_l_odd = some ⟨oc14, od14, .func (PySem.W.fnOf "_law_odd" "_law_odd" (defArgs s_l_odd) (defBody s_l_odd) (defScope s_l_odd) .none kV14 dc14 pm14 an14 cd14 ct14), sl14⟩)
    (c_l_odd : PySem.W.codeIn K cd14 "_law_odd" = true)
    (k_l_odd : PySem.W.keepIn K (.ref f_l_odd) = true)
    (a_l_any_order : PySem.W.nsIn K mainGlobals "_law_any_order" = some (some (.ref f_l_any_order)))
    (l_l_any_order : K.lookup f_l_any_order = some ⟨oc15, od15, .func (PySem.W.fnOf "_law_any_order" "_law_any_order" (defArgs s_l_any_order) (defBody s_l_any_order) (defScope s_l_any_order) .none kV15 dc15 pm15 an15 cd15 ct15), sl15⟩)
    (c_l_any_order : PySem.W.codeIn K cd15 "_law_any_order" = true)
    (k_l_any_order : PySem.W.keepIn K (.ref f_l_any_order) = true)
    (a_l_inversions : PySem.W.nsIn K mainGlobals "_law_inversions" = some (some (.ref f_l_inversions)))
    (l_l_inversions : K.lookup f_l_inversions = some ⟨oc16, od16, .func (PySem.W.fnOf "_law_inversions" "_law_inversions" (defArgs s_l_inversions) (defBody s_l_inversions) (defScope s_l_inversions) .none kV16 dc16 pm16 an16 cd16 ct16), sl16⟩)
    (c_l_inversions : PySem.W.codeIn K cd16 "_law_inversions" = true)
    (k_l_inversions : PySem.W.keepIn K (.ref f_l_inversions) = true)
    (a_l_stepped : PySem.W.nsIn K mainGlobals "_law_stepped" = some (some (.ref f_l_stepped)))
    (l_l_stepped : K.lookup f_l_stepped = some ⟨oc17, od17, .func (PySem.W.fnOf "_law_stepped" "_law_stepped" (defArgs s_l_stepped) (defBody s_l_stepped) (defScope s_l_stepped) .none kV17 dc17 pm17 an17 cd17 ct17), sl17⟩)
    (c_l_stepped : PySem.W.codeIn K cd17 "_law_stepped" = true)
    (k_l_stepped : PySem.W.keepIn K (.ref f_l_stepped) = true)
    (a_l_steps : PySem.W.nsIn K mainGlobals "_law_steps" = some (some (.ref f_l_steps)))
    (l_l_steps : K.lookup f_l_steps = some ⟨oc18, od18, .func (PySem.W.fnOf "_law_steps" "_law_steps" (defArgs s_l_steps) (defBody s_l_steps) (defScope s_l_steps) .none kV18 dc18 pm18 an18 cd18 ct18), sl18⟩)
    (c_l_steps : PySem.W.codeIn K cd18 "_law_steps" = true)
    (k_l_steps : PySem.W.keepIn K (.ref f_l_steps) = true)
    (a_l_no_level : PySem.W.nsIn K mainGlobals "_law_no_level" = some (some (.ref f_l_no_level)))
    (l_l_no_level : K.lookup f_l_no_level = some ⟨oc19, od19, .func (PySem.W.fnOf "_law_no_level" "_law_no_level" (defArgs s_l_no_level) (defBody s_l_no_level) (defScope s_l_no_level) .none kV19 dc19 pm19 an19 cd19 ct19), sl19⟩)
    (c_l_no_level : PySem.W.codeIn K cd19 "_law_no_level" = true)
    (k_l_no_level : PySem.W.keepIn K (.ref f_l_no_level) = true)
    (a_l_is_order : PySem.W.nsIn K mainGlobals "_law_is_order" = some (some (.ref f_l_is_order)))
    (l_l_is_order : K.lookup f_l_is_order = some ⟨oc20, od20, .func (PySem.W.fnOf "_law_is_order" "_law_is_order" (defArgs s_l_is_order) (defBody s_l_is_order) (defScope s_l_is_order) .none kV20 dc20 pm20 an20 cd20 ct20), sl20⟩)
    (c_l_is_order : PySem.W.codeIn K cd20 "_law_is_order" = true)
    (k_l_is_order : PySem.W.keepIn K (.ref f_l_is_order) = true)
    (a_l_bent_order : PySem.W.nsIn K mainGlobals "_law_bent_order" = some (some (.ref f_l_bent_order)))
    (l_l_bent_order : K.lookup f_l_bent_order = some ⟨oc21, od21, .func (PySem.W.fnOf "_law_bent_order" "_law_bent_order" (defArgs s_l_bent_order) (defBody s_l_bent_order) (defScope s_l_bent_order) .none kV21 dc21 pm21 an21 cd21 ct21), sl21⟩)
    (c_l_bent_order : PySem.W.codeIn K cd21 "_law_bent_order" = true)
    (k_l_bent_order : PySem.W.keepIn K (.ref f_l_bent_order) = true)
    (a_l_back : PySem.W.nsIn K mainGlobals "_law_back" = some (some (.ref f_l_back)))
    (l_l_back : K.lookup f_l_back = some ⟨oc22, od22, .func (PySem.W.fnOf "_law_back" "_law_back" (defArgs s_l_back) (defBody s_l_back) (defScope s_l_back) .none kV22 dc22 pm22 an22 cd22 ct22), sl22⟩)
    (c_l_back : PySem.W.codeIn K cd22 "_law_back" = true)
    (k_l_back : PySem.W.keepIn K (.ref f_l_back) = true)
    (a_l_asked_right : PySem.W.nsIn K mainGlobals "_law_asked_right" = some (some (.ref f_l_asked_right)))
    (l_l_asked_right : K.lookup f_l_asked_right = some ⟨oc23, od23, .func (PySem.W.fnOf "_law_asked_right" "_law_asked_right" (defArgs s_l_asked_right) (defBody s_l_asked_right) (defScope s_l_asked_right) .none kV23 dc23 pm23 an23 cd23 ct23), sl23⟩)
    (c_l_asked_right : PySem.W.codeIn K cd23 "_law_asked_right" = true)
    (k_l_asked_right : PySem.W.keepIn K (.ref f_l_asked_right) = true)
    (a_law : PySem.W.nsIn K mainGlobals "law" = some (some (.ref f_law)))
    (l_law : K.lookup f_law = some ⟨oc24, od24, .func (PySem.W.fnOf "law" "law" (defArgs s_law) (defBody s_law) (defScope s_law) .none kV24 dc24 pm24 an24 cd24 ct24), sl24⟩)
    (c_law : PySem.W.codeIn K cd24 "law" = true)
    (k_law : PySem.W.keepIn K (.ref f_law) = true)
    (z_len : PySem.W.nsIn K mainGlobals "len" = some none)
    (z_range : PySem.W.nsIn K mainGlobals "range" = some none)
    (z_int : PySem.W.nsIn K mainGlobals "int" = some none)
    (z_bool : PySem.W.nsIn K mainGlobals "bool" = some none)
    (z_tuple : PySem.W.nsIn K mainGlobals "tuple" = some none)
    (z_list : PySem.W.nsIn K mainGlobals "list" = some none)
    (z_isinstance : PySem.W.nsIn K mainGlobals "isinstance" = some none)
    (z_abs : PySem.W.nsIn K mainGlobals "abs" = some none)
    (z_max : PySem.W.nsIn K mainGlobals "max" = some none)
    (z_enumerate : PySem.W.nsIn K mainGlobals "enumerate" = some none)
    (z_repr : PySem.W.nsIn K mainGlobals "repr" = some none)
    (z_sum : PySem.W.nsIn K mainGlobals "sum" = some none)
    (z_sorted : PySem.W.nsIn K mainGlobals "sorted" = some none)
    (z_str : PySem.W.nsIn K mainGlobals "str" = some none)
    (a_combinations : PySem.W.nsIn K mainGlobals "combinations" = some (some (.type "itertools.combinations"))) : Tx K mg where
  f_NoLevel_init := f_NoLevel_init
  d_NoLevel_init := PySem.W.fnOf "__init__" "NoLevel.__init__" (defArgs s_NoLevel_init) (defBody s_NoLevel_init) (defScope s_NoLevel_init) .none kV1 dc1 pm1 an1 cd1 ct1
  F_NoLevel_init := fun_mk (st := s_NoLevel_init) l_NoLevel_init c_NoLevel_init k_NoLevel_init
  b_NoLevel_init := (fun_mk (st := s_NoLevel_init) l_NoLevel_init c_NoLevel_init k_NoLevel_init).binds (ps := ["self", "level"]) fun _ _ _ _ _ _ us hl => match us, hl with | [_, _], _ => rfl
  f_is_number := f_is_number
  d_is_number := PySem.W.fnOf "is_number" "is_number" (defArgs s_is_number) (defBody s_is_number) (defScope s_is_number) .none kV2 dc2 pm2 an2 cd2 ct2
  F_is_number := fun_mk (st := s_is_number) l_is_number c_is_number k_is_number
  b_is_number := (fun_mk (st := s_is_number) l_is_number c_is_number k_is_number).binds (ps := ["value"]) fun _ _ _ _ _ _ us hl => match us, hl with | [_], _ => rfl
  g_is_number := PySem.W.mg_of X G a_is_number
  f_order_fault := f_order_fault
  d_order_fault := PySem.W.fnOf "order_fault" "order_fault" (defArgs s_order_fault) (defBody s_order_fault) (defScope s_order_fault) .none kV3 dc3 pm3 an3 cd3 ct3
  F_order_fault := fun_mk (st := s_order_fault) l_order_fault c_order_fault k_order_fault
  b_order_fault := (fun_mk (st := s_order_fault) l_order_fault c_order_fault k_order_fault).binds (ps := ["n", "value"]) fun _ _ _ _ _ _ us hl => match us, hl with | [_, _], _ => rfl
  g_order_fault := PySem.W.mg_of X G a_order_fault
  f_is_order := f_is_order
  d_is_order := PySem.W.fnOf "is_order" "is_order" (defArgs s_is_order) (defBody s_is_order) (defScope s_is_order) .none kV4 dc4 pm4 an4 cd4 ct4
  F_is_order := fun_mk (st := s_is_order) l_is_order c_is_order k_is_order
  b_is_order := (fun_mk (st := s_is_order) l_is_order c_is_order k_is_order).binds (ps := ["n", "value"]) fun _ _ _ _ _ _ us hl => match us, hl with | [_, _], _ => rfl
  g_is_order := PySem.W.mg_of X G a_is_order
  f_falling_pairs := f_falling_pairs
  d_falling_pairs := PySem.W.fnOf "falling_pairs" "falling_pairs" (defArgs s_falling_pairs) (defBody s_falling_pairs) (defScope s_falling_pairs) .none kV5 dc5 pm5 an5 cd5 ct5
  F_falling_pairs := fun_mk (st := s_falling_pairs) l_falling_pairs c_falling_pairs k_falling_pairs
  b_falling_pairs := (fun_mk (st := s_falling_pairs) l_falling_pairs c_falling_pairs k_falling_pairs).binds (ps := ["order"]) fun _ _ _ _ _ _ us hl => match us, hl with | [_], _ => rfl
  g_falling_pairs := PySem.W.mg_of X G a_falling_pairs
  f_inversions := f_inversions
  d_inversions := PySem.W.fnOf "inversions" "inversions" (defArgs s_inversions) (defBody s_inversions) (defScope s_inversions) .none kV6 dc6 pm6 an6 cd6 ct6
  F_inversions := fun_mk (st := s_inversions) l_inversions c_inversions k_inversions
  b_inversions := (fun_mk (st := s_inversions) l_inversions c_inversions k_inversions).binds (ps := ["order"]) fun _ _ _ _ _ _ us hl => match us, hl with | [_], _ => rfl
  g_inversions := PySem.W.mg_of X G a_inversions
  f_turned_back := f_turned_back
  d_turned_back := PySem.W.fnOf "turned_back" "turned_back" (defArgs s_turned_back) (defBody s_turned_back) (defScope s_turned_back) .none kV7 dc7 pm7 an7 cd7 ct7
  F_turned_back := fun_mk (st := s_turned_back) l_turned_back c_turned_back k_turned_back
  b_turned_back := (fun_mk (st := s_turned_back) l_turned_back c_turned_back k_turned_back).binds (ps := ["order"]) fun _ _ _ _ _ _ us hl => match us, hl with | [_], _ => rfl
  g_turned_back := PySem.W.mg_of X G a_turned_back
  f_sorting_steps := f_sorting_steps
  d_sorting_steps := PySem.W.fnOf "sorting_steps" "sorting_steps" (defArgs s_sorting_steps) (defBody s_sorting_steps) (defScope s_sorting_steps) .none kV8 dc8 pm8 an8 cd8 ct8
  F_sorting_steps := fun_mk (st := s_sorting_steps) l_sorting_steps c_sorting_steps k_sorting_steps
  b_sorting_steps := (fun_mk (st := s_sorting_steps) l_sorting_steps c_sorting_steps k_sorting_steps).binds (ps := ["order"]) fun _ _ _ _ _ _ us hl => match us, hl with | [_], _ => rfl
  g_sorting_steps := PySem.W.mg_of X G a_sorting_steps
  f_stepped := f_stepped
  d_stepped := PySem.W.fnOf "stepped" "stepped" (defArgs s_stepped) (defBody s_stepped) (defScope s_stepped) .none kV9 dc9 pm9 an9 cd9 ct9
  F_stepped := fun_mk (st := s_stepped) l_stepped c_stepped k_stepped
  b_stepped := (fun_mk (st := s_stepped) l_stepped c_stepped k_stepped).binds (ps := ["order", "level"]) fun _ _ _ _ _ _ us hl => match us, hl with | [_, _], _ => rfl
  g_stepped := PySem.W.mg_of X G a_stepped
  f_l_source := f_l_source
  d_l_source := PySem.W.fnOf "_law_source" "_law_source" (defArgs s_l_source) (defBody s_l_source) (defScope s_l_source) .none kV10 dc10 pm10 an10 cd10 ct10
  F_l_source := fun_mk (st := s_l_source) l_l_source c_l_source k_l_source
  b_l_source := (fun_mk (st := s_l_source) l_l_source c_l_source k_l_source).binds (ps := ["_law_script"]) fun _ _ _ _ _ _ us hl => match us, hl with | [_], _ => rfl
  g_l_source := PySem.W.mg_of X G a_l_source
  f_l_pick := f_l_pick
  d_l_pick := PySem.W.fnOf "_law_pick" "_law_pick" (defArgs s_l_pick) (defBody s_l_pick) (defScope s_l_pick) .none kV11 dc11 pm11 an11 cd11 ct11
  F_l_pick := fun_mk (st := s_l_pick) l_l_pick c_l_pick k_l_pick
  b_l_pick := (fun_mk (st := s_l_pick) l_l_pick c_l_pick k_l_pick).binds (ps := ["_law_source_here", "_law_many"]) fun _ _ _ _ _ _ us hl => match us, hl with | [_, _], _ => rfl
  g_l_pick := PySem.W.mg_of X G a_l_pick
  f_l_of := f_l_of
  d_l_of := PySem.W.fnOf "_law_of" "_law_of" (defArgs s_l_of) (defBody s_l_of) (defScope s_l_of) .none kV12 dc12 pm12 an12 cd12 ct12
  F_l_of := fun_mk (st := s_l_of) l_l_of c_l_of k_l_of
  b_l_of := (fun_mk (st := s_l_of) l_l_of c_l_of k_l_of).binds (ps := ["_law_source_here", "_law_some"]) fun _ _ _ _ _ _ us hl => match us, hl with | [_, _], _ => rfl
  g_l_of := PySem.W.mg_of X G a_l_of
  f_l_mixed := f_l_mixed
  d_l_mixed := PySem.W.fnOf "_law_mixed" "_law_mixed" (defArgs s_l_mixed) (defBody s_l_mixed) (defScope s_l_mixed) .none kV13 dc13 pm13 an13 cd13 ct13
  F_l_mixed := fun_mk (st := s_l_mixed) l_l_mixed c_l_mixed k_l_mixed
  b_l_mixed := (fun_mk (st := s_l_mixed) l_l_mixed c_l_mixed k_l_mixed).binds (ps := ["_law_source_here", "_law_things"]) fun _ _ _ _ _ _ us hl => match us, hl with | [_, _], _ => rfl
  g_l_mixed := PySem.W.mg_of X G a_l_mixed
  f_l_odd := f_l_odd
  d_l_odd := PySem.W.fnOf "_law_odd" "_law_odd" (defArgs s_l_odd) (defBody s_l_odd) (defScope s_l_odd) .none kV14 dc14 pm14 an14 cd14 ct14
  F_l_odd := fun_mk (st := s_l_odd) l_l_odd c_l_odd k_l_odd
  b_l_odd := (fun_mk (st := s_l_odd) l_l_odd c_l_odd k_l_odd).binds (ps := ["_law_source_here"]) fun _ _ _ _ _ _ us hl => match us, hl with | [_], _ => rfl
  g_l_odd := PySem.W.mg_of X G a_l_odd
  f_l_any_order := f_l_any_order
  d_l_any_order := PySem.W.fnOf "_law_any_order" "_law_any_order" (defArgs s_l_any_order) (defBody s_l_any_order) (defScope s_l_any_order) .none kV15 dc15 pm15 an15 cd15 ct15
  F_l_any_order := fun_mk (st := s_l_any_order) l_l_any_order c_l_any_order k_l_any_order
  b_l_any_order := (fun_mk (st := s_l_any_order) l_l_any_order c_l_any_order k_l_any_order).binds (ps := ["_law_source_here", "_law_n"]) fun _ _ _ _ _ _ us hl => match us, hl with | [_, _], _ => rfl
  g_l_any_order := PySem.W.mg_of X G a_l_any_order
  f_l_inversions := f_l_inversions
  d_l_inversions := PySem.W.fnOf "_law_inversions" "_law_inversions" (defArgs s_l_inversions) (defBody s_l_inversions) (defScope s_l_inversions) .none kV16 dc16 pm16 an16 cd16 ct16
  F_l_inversions := fun_mk (st := s_l_inversions) l_l_inversions c_l_inversions k_l_inversions
  b_l_inversions := (fun_mk (st := s_l_inversions) l_l_inversions c_l_inversions k_l_inversions).binds (ps := ["_law_order"]) fun _ _ _ _ _ _ us hl => match us, hl with | [_], _ => rfl
  g_l_inversions := PySem.W.mg_of X G a_l_inversions
  f_l_stepped := f_l_stepped
  d_l_stepped := PySem.W.fnOf "_law_stepped" "_law_stepped" (defArgs s_l_stepped) (defBody s_l_stepped) (defScope s_l_stepped) .none kV17 dc17 pm17 an17 cd17 ct17
  F_l_stepped := fun_mk (st := s_l_stepped) l_l_stepped c_l_stepped k_l_stepped
  b_l_stepped := (fun_mk (st := s_l_stepped) l_l_stepped c_l_stepped k_l_stepped).binds (ps := ["_law_order", "_law_level"]) fun _ _ _ _ _ _ us hl => match us, hl with | [_, _], _ => rfl
  g_l_stepped := PySem.W.mg_of X G a_l_stepped
  f_l_steps := f_l_steps
  d_l_steps := PySem.W.fnOf "_law_steps" "_law_steps" (defArgs s_l_steps) (defBody s_l_steps) (defScope s_l_steps) .none kV18 dc18 pm18 an18 cd18 ct18
  F_l_steps := fun_mk (st := s_l_steps) l_l_steps c_l_steps k_l_steps
  b_l_steps := (fun_mk (st := s_l_steps) l_l_steps c_l_steps k_l_steps).binds (ps := ["_law_order"]) fun _ _ _ _ _ _ us hl => match us, hl with | [_], _ => rfl
  g_l_steps := PySem.W.mg_of X G a_l_steps
  f_l_no_level := f_l_no_level
  d_l_no_level := PySem.W.fnOf "_law_no_level" "_law_no_level" (defArgs s_l_no_level) (defBody s_l_no_level) (defScope s_l_no_level) .none kV19 dc19 pm19 an19 cd19 ct19
  F_l_no_level := fun_mk (st := s_l_no_level) l_l_no_level c_l_no_level k_l_no_level
  b_l_no_level := (fun_mk (st := s_l_no_level) l_l_no_level c_l_no_level k_l_no_level).binds (ps := ["_law_call"]) fun _ _ _ _ _ _ us hl => match us, hl with | [_], _ => rfl
  g_l_no_level := PySem.W.mg_of X G a_l_no_level
  f_l_is_order := f_l_is_order
  d_l_is_order := PySem.W.fnOf "_law_is_order" "_law_is_order" (defArgs s_l_is_order) (defBody s_l_is_order) (defScope s_l_is_order) .none kV20 dc20 pm20 an20 cd20 ct20
  F_l_is_order := fun_mk (st := s_l_is_order) l_l_is_order c_l_is_order k_l_is_order
  b_l_is_order := (fun_mk (st := s_l_is_order) l_l_is_order c_l_is_order k_l_is_order).binds (ps := ["_law_n", "_law_value"]) fun _ _ _ _ _ _ us hl => match us, hl with | [_, _], _ => rfl
  g_l_is_order := PySem.W.mg_of X G a_l_is_order
  f_l_bent_order := f_l_bent_order
  d_l_bent_order := PySem.W.fnOf "_law_bent_order" "_law_bent_order" (defArgs s_l_bent_order) (defBody s_l_bent_order) (defScope s_l_bent_order) .none kV21 dc21 pm21 an21 cd21 ct21
  F_l_bent_order := fun_mk (st := s_l_bent_order) l_l_bent_order c_l_bent_order k_l_bent_order
  b_l_bent_order := (fun_mk (st := s_l_bent_order) l_l_bent_order c_l_bent_order k_l_bent_order).binds (ps := ["_law_source_here", "_law_order"]) fun _ _ _ _ _ _ us hl => match us, hl with | [_, _], _ => rfl
  g_l_bent_order := PySem.W.mg_of X G a_l_bent_order
  f_l_back := f_l_back
  d_l_back := PySem.W.fnOf "_law_back" "_law_back" (defArgs s_l_back) (defBody s_l_back) (defScope s_l_back) .none kV22 dc22 pm22 an22 cd22 ct22
  F_l_back := fun_mk (st := s_l_back) l_l_back c_l_back k_l_back
  b_l_back := (fun_mk (st := s_l_back) l_l_back c_l_back k_l_back).binds (ps := ["_law_order"]) fun _ _ _ _ _ _ us hl => match us, hl with | [_], _ => rfl
  g_l_back := PySem.W.mg_of X G a_l_back
  f_l_asked_right := f_l_asked_right
  d_l_asked_right := PySem.W.fnOf "_law_asked_right" "_law_asked_right" (defArgs s_l_asked_right) (defBody s_l_asked_right) (defScope s_l_asked_right) .none kV23 dc23 pm23 an23 cd23 ct23
  F_l_asked_right := fun_mk (st := s_l_asked_right) l_l_asked_right c_l_asked_right k_l_asked_right
  b_l_asked_right := (fun_mk (st := s_l_asked_right) l_l_asked_right c_l_asked_right k_l_asked_right).binds (ps := ["_law_order"]) fun _ _ _ _ _ _ us hl => match us, hl with | [_], _ => rfl
  g_l_asked_right := PySem.W.mg_of X G a_l_asked_right
  f_law := f_law
  d_law := PySem.W.fnOf "law" "law" (defArgs s_law) (defBody s_law) (defScope s_law) .none kV24 dc24 pm24 an24 cd24 ct24
  F_law := fun_mk (st := s_law) l_law c_law k_law
  b_law := (fun_mk (st := s_law) l_law c_law k_law).binds (ps := ["_law_script"]) fun _ _ _ _ _ _ us hl => match us, hl with | [_], _ => rfl
  g_law := PySem.W.mg_of X G a_law
  C_NoLevel := C_NoLevel
  y_NoLevel := lkX_mk (PySem.W.mg_of X G a_NoLevel) yim_NoLevel yov_NoLevel ysa_NoLevel yga_NoLevel ygg_NoLevel ynp_NoLevel ytk_NoLevel yin_NoLevel yti_NoLevel ykC_NoLevel yeC_NoLevel ytC_NoLevel yhC_NoLevel yiC_NoLevel xs_NoLevel
  z_len := PySem.W.mg_none_of X G z_len
  z_range := PySem.W.mg_none_of X G z_range
  z_int := PySem.W.mg_none_of X G z_int
  z_bool := PySem.W.mg_none_of X G z_bool
  z_tuple := PySem.W.mg_none_of X G z_tuple
  z_list := PySem.W.mg_none_of X G z_list
  z_isinstance := PySem.W.mg_none_of X G z_isinstance
  z_abs := PySem.W.mg_none_of X G z_abs
  z_max := PySem.W.mg_none_of X G z_max
  z_enumerate := PySem.W.mg_none_of X G z_enumerate
  z_repr := PySem.W.mg_none_of X G z_repr
  z_sum := PySem.W.mg_none_of X G z_sum
  z_sorted := PySem.W.mg_none_of X G z_sorted
  z_str := PySem.W.mg_none_of X G z_str
  t_combinations := PySem.W.mg_of X G a_combinations

section
variable {P : Program} {w : World} {K : PySem.W.Frag} {mg : Str → Option Value} {base : Heap}
/-- a drawn number below many -/
def spPick : Sp := fun vs H Q _ => ∃ (G : Hp) (d c : Addr) (many : Int), vs = [.ref d, .int many] ∧ Kn G H d c ∧ many < 1073741824 ∧
  ∀ (r : Int) (H' : Hp), Kn G H' d c → 0 ≤ r → (r < many ∨ (r = 0 ∧ many ≤ 1)) → Q (.int r) H'
theorem ok_pick (T : Tx K mg) : FnOk P w K mg base CX0 1 T.f_l_pick T.d_l_pick ["_law_source_here", "_law_many"] spPick := by
  refine T.F_l_pick.ok sc_l_pick (fun vs H Q E h => ?_) (fun cdv A outer s H vs Q E hr h => ?_)
  · obtain ⟨G, d, c, many, rfl, _⟩ := h
    rfl
  · obtain ⟨G, d, c, many, rfl, k, hm, q⟩ := h
    have hu := hu_of hr
    refine ⟨_, (pss_cons (ps_while PassesOwn.never (PW.pt (pw_and (pt_cmpR op_gt (pv 1) pe_int (nomark _)) (pw_and (pt_cmpR op_lt (pe_dget hu (pv 0) pe_str (fun _ _ => rfl)) pe_int (nomark _)) (pw_and1 (pt_cmpR op_gt (pe_callB call_len_seq (by rfl) T.z_len PySem.boot_len (pa_cons (pe_dget hu (pv 0) pe_str (fun _ _ => rfl)) pa_nil)) pe_int (nomark _)))))) (pss_one (ps_dput hu (pv 0) pe_str (pe_bm0 PySem.F.plainAttrs_list PySem.F.slot_list_pop PySem.F.type_list_pop mt_pop (pe_dget hu (pv 0) pe_str (fun _ _ => rfl))) rfl)))
    (pss_cons (ps_set (i := 2) sc_l_pick.nd rfl (Or.inl rfl) (pe_dget hu (pv 0) pe_str (fun _ _ => rfl)))
    (pss_cons (ps_if (PW.pt (pw_or (pt_cmpR op_lt (pv 1) pe_int (nomark _)) (pw_or1 (pt_cmpR op_gt (pv 2) pe_int (nomark _))))) (pss_cons (ps_dput hu (pv 0) pe_str (pe_op op_fdiv (pv 2) (pe_callB (call_max2 rfl) (by rfl) T.z_max (by decide +kernel) (pa_cons pe_int (pa_cons (pv 1) pa_nil)))) rfl)
    (pss_one (ps_ret (pe_op op_mod (pe_callTy call_int1 (by rfl) T.z_int (by decide +kernel) (pa_cons (pv 2) pa_nil)) (pe_callB (call_max2 rfl) (by rfl) T.z_max (by decide +kernel) (pa_cons pe_int (pa_cons (pv 1) pa_nil))))))) pss_nil)
    (pss_cons (ps_dput hu (pv 0) pe_str (pe_op op_add (pe_dget hu (pv 0) pe_str (fun _ _ => rfl)) pe_int) rfl)
    (pss_cons (ps_set (i := 3) sc_l_pick.nd rfl (Or.inl rfl) (pe_op op_mod (pe_callTy call_int1 (by rfl) T.z_int (by decide +kernel) (pa_cons (pe_op op_add (pe_dget hu (pv 0) pe_str (fun _ _ => rfl)) (pe_op op_mul (pe_dget hu (pv 0) pe_str (fun _ _ => rfl)) pe_int)) pa_nil)) pe_int))
    (pss_cons (ps_set (i := 3) sc_l_pick.nd rfl (Or.inl rfl) (pe_op op_mod (pe_callTy call_int1 (by rfl) T.z_int (by decide +kernel) (pa_cons (pe_op op_add (pe_op op_mul (pv 3) (pv 3)) (pe_op op_mul (pe_dget hu (pv 0) pe_str (fun _ _ => rfl)) pe_int)) pa_nil)) pe_int))
    (pss_cons (ps_dput hu (pv 0) pe_str (pv 3) rfl)
    (pss_one (ps_ret (pe_op op_mod (pe_callTy call_int1 (by rfl) T.z_int (by decide +kernel) (pa_cons (pe_op op_fdiv (pv 3) pe_int) pa_nil)) (pv 1))))))))))), ?_⟩
    obtain ⟨xs, l, m, t, e1, e2, e3, e4, e5, e6, e7⟩ := id k.src
    refine ⟨fun n σ H' => ∃ (xs : List Int) (l m t : Int), σ = [some (.ref d), some (.int many), none, none] ∧ n = xs.length ∧ Kn G H' d c ∧ H' d = some (.dK (srcK c l m t)) ∧ H' c = some (.lst (xs.map V.int)) ∧ xs.length ≤ 63 ∧ (∀ x ∈ xs, 0 ≤ x) ∧ 0 ≤ l ∧ 0 ≤ m ∧ m < 2147483647,
      ⟨xs.length, xs, l, m, t, rfl, rfl, k, e1, e2, e3, e4, e5, e6, e7⟩, fun n σ H' hW => ?_⟩
    obtain ⟨xs, l, m, t, rfl, rfl, k, e1, e2, e3, e4, e5, e6, e7⟩ := hW
    have ncd : c ≠ d := k.src.ne
    have vd : ∀ (a b : Option V), Val (tVar 0) [some (.ref d), some (.int many), a, b] H' (.ref d) := fun a b => val_var rfl
    -- while many > 1 and left < 2 and len(cells) > 0
    refine ans_and2 (b1 := decide (1 < many)) (b2 := decide (l < 2) && decide (0 < (xs.length : Int))) (ans_cmp (val_var rfl) val_c fun Q q => ⟨_, _, rfl, rfl, q⟩)
      (ans_and2 (ans_cmp (x := .int l) (val_dget (vd _ _) val_c (get_left e1)) val_c fun Q q => ⟨_, _, rfl, rfl, q⟩)
        (ans_cmp (x := .int (xs.length : Int)) (val_cb1 (val_dget (vd _ _) val_c (get_cells e1)) fun Q q => ⟨c, _, rfl, .inl (SqL.of e2), by rw [List.length_map]; exact q⟩) val_c fun Q q => ⟨_, _, rfl, rfl, q⟩)) _ ?_
    refine ite2 (fun hb => ?_) (fun hb => ?_)
    · -- a cell is taken
      have hlen : 0 < xs.length := by
        simp only [Bool.and_eq_true, decide_eq_true_eq] at hb
        omega
      obtain ⟨ys, y, rfl⟩ : ∃ ys y, xs = ys ++ [y] := ⟨xs.dropLast, xs.getLast (List.ne_nil_of_length_pos hlen), (List.dropLast_concat_getLast _).symm⟩
      have hy : 0 ≤ y := e4 y (by simp)
      refine ⟨fun σ H2 => ∃ (xs : List Int) (l m t : Int), σ = [some (.ref d), some (.int many), none, none] ∧ xs.length < (ys ++ [y]).length ∧ Kn G H2 d c ∧ H2 d = some (.dK (srcK c l m t)) ∧ H2 c = some (.lst (xs.map V.int)) ∧ xs.length ≤ 63 ∧ (∀ x ∈ xs, 0 ≤ x) ∧ 0 ≤ l ∧ 0 ≤ m ∧ m < 2147483647, fun σ2 H2 hN => ?_, ?_⟩
      · obtain ⟨zs, l', m', t', rfl, h1, h2⟩ := hN
        exact ⟨zs.length, h1, zs, l', m', t', rfl, rfl, h2⟩
      · refine ⟨.ref d, rfl, d, .ref c, rfl, get_cells e1, .inl ⟨rfl, _, SqL.of e2⟩, c, (ys ++ [y]).map V.int, .int y, rfl, rfl, e2, ?_, ?_⟩
        · rw [List.length_map, List.length_append, List.map_append]
          simp
        · have e2' : ((ys ++ [y]).map V.int).dropLast = ys.map V.int := by simp
          rw [e2']
          have f1 : (upd H' c (.lst (ys.map V.int))) d = some (.dK (srcK c l m t)) := by rw [upd_ne ncd.symm]; exact e1
          refine ⟨.ref d, rfl, d, _, rfl, dput_left f1, ?_⟩
          have g1 : (upd (upd H' c (.lst (ys.map V.int))) d (.dK (srcK c y m t))) d = some (.dK (srcK c y m t)) := upd_same
          have g2 : (upd (upd H' c (.lst (ys.map V.int))) d (.dK (srcK c y m t))) c = some (.lst (ys.map V.int)) := by rw [upd_ne ncd, upd_same]
          have hl : ys.length ≤ 63 := by simp at e3; omega
          have hn : ∀ x ∈ ys, 0 ≤ x := fun x hx => e4 x (by simp [hx])
          refine ⟨ys, y, m, t, rfl, by simp, ⟨fun b o e => ?_, k.gd, k.gc, ⟨ys, y, m, t, g1, g2, hl, hn, hy, e6, e7⟩⟩, g1, g2, hl, hn, hy, e6, e7⟩
          have nb1 : b ≠ d := fun z => by rw [z, k.gd] at e; cases e
          have nb2 : b ≠ c := fun z => by rw [z, k.gc] at e; cases e
          rw [upd_ne nb1, upd_ne nb2]
          exact k.le _ _ e
    · -- behind the loop
      have setk : ∀ (l' m' t' : Int), 0 ≤ l' → 0 ≤ m' → m' < 2147483647 → ∀ H2, (∀ b, b ≠ d → H2 b = H' b) → H2 d = some (.dK (srcK c l' m' t')) → Kn G H2 d c := fun l' m' t' h1 h2 h3 H2 hH hd =>
        ⟨fun b o e => by rw [hH b (fun z => by rw [z, k.gd] at e; cases e)]; exact k.le _ _ e, k.gd, k.gc, ⟨xs, l', m', t', hd, by rw [hH c ncd]; exact e2, e3, e4, h1, h2, h3⟩⟩
      have hmx : 0 < (if many > 1 then many else 1) := by split <;> omega
      have hmx2 : (if many > 1 then many else 1) < 1073741824 := by split <;> omega
      -- left = source["left"]; if many < 2 or left > 1
      refine ⟨.ref d, rfl, d, _, rfl, get_left e1, ?_⟩
      refine ans_or2 (b1 := decide (many < 2)) (b2 := decide (1 < l)) (ans_cmp (val_var rfl) val_c fun Q q => ⟨_, _, rfl, rfl, q⟩) (ans_cmp (val_var rfl) val_c fun Q q => ⟨_, _, rfl, rfl, q⟩) _ ?_
      refine ite2 (fun hb => ?_) (fun hb => ?_)
      · -- a digit of what is left
        refine ⟨.int l, rfl, .int many, rfl, 1, many, rfl, l, _, rfl, rfl, ⟨hmx, hmx2⟩, .ref d, rfl, d, _, rfl, dput_left e1, ?_⟩
        refine ⟨.int l, rfl, .inl ⟨_, rfl, .int many, rfl, 1, many, rfl, l, _, rfl, rfl, hmx, ?_⟩⟩
        refine q _ _ (setk _ _ _ (Int.ediv_nonneg e5 (Int.le_of_lt hmx)) e6 e7 _ (fun b hb => upd_ne hb) upd_same) (Int.emod_nonneg _ (Int.ne_of_gt hmx)) ?_
        have hlt := Int.emod_lt_of_pos l hmx
        by_cases h : many > 1
        · rw [if_pos h] at hlt ⊢
          exact .inl hlt
        · rw [if_neg h] at hlt ⊢
          exact .inr ⟨by omega, by omega⟩
      · -- mixed anew
        have hb1 : ¬ many < 2 := fun h => hb (by simp [h])
        refine ⟨.ref d, rfl, d, _, rfl, get_turn e1, t, 1, rfl, rfl, .ref d, rfl, d, _, rfl, dput_turn e1, ?_⟩
        have f1 : (upd H' d (.dK (srcK c l m (t + 1)))) d = some (.dK (srcK c l m (t + 1))) := upd_same
        refine ⟨.ref d, rfl, d, _, rfl, get_mixed f1, .ref d, rfl, d, _, rfl, get_turn f1, t + 1, 104729, rfl, rfl, .inr ⟨by decide, by decide⟩, m, _, rfl, rfl, .inl ⟨_, rfl, _, _, rfl, rfl, (by show (0 : Int) < 998244353; decide), ?_⟩⟩
        have b0 : 0 ≤ (m + (t + 1) * 104729) % 998244353 := Int.emod_nonneg _ (by decide)
        have b1 : (m + (t + 1) * 104729) % 998244353 < 998244353 := Int.emod_lt_of_pos _ (by decide)
        refine ⟨_, rfl, _, rfl, (m + (t + 1) * 104729) % 998244353, (m + (t + 1) * 104729) % 998244353, rfl, rfl, .inl ⟨by omega, by omega⟩, .ref d, rfl, d, _, rfl, get_turn f1, t + 1, 17, rfl, rfl, .inr ⟨by decide, by decide⟩, _, _, rfl, rfl, .inl ⟨_, rfl, _, _, rfl, rfl, (by show (0 : Int) < 2147483647; decide), ?_⟩⟩
        have b2 : 0 ≤ ((m + (t + 1) * 104729) % 998244353 * ((m + (t + 1) * 104729) % 998244353) + (t + 1) * 17) % 2147483647 := Int.emod_nonneg _ (by decide)
        have b3 : ((m + (t + 1) * 104729) % 998244353 * ((m + (t + 1) * 104729) % 998244353) + (t + 1) * 17) % 2147483647 < 2147483647 := Int.emod_lt_of_pos _ (by decide)
        refine ⟨_, rfl, .ref d, rfl, d, _, rfl, dput_mixed f1, ?_⟩
        refine ⟨_, rfl, _, 16, rfl, rfl, ⟨by decide, by decide⟩, .inl ⟨_, rfl, .int many, rfl, _, _, rfl, rfl, (by show (0 : Int) < many; omega), ?_⟩⟩
        exact q _ _ (setk l _ (t + 1) e5 b2 b3 _ (fun b hb => by rw [upd_ne hb, upd_ne hb]) upd_same) (Int.emod_nonneg _ (by omega)) (.inl (Int.emod_lt_of_pos _ (by omega)))
end

section
variable {P : Program} {w : World} {K : PySem.W.Frag} {mg : Str → Option Value} {base : Heap}
def absI (z : Int) : Int := if z < 0 then -z else z
def spSource (K : PySem.W.Frag) : Sp := fun vs H Q _ => ∃ (a : Addr) (ns : List Int), vs = [.ref a] ∧ SqL K H a (ns.map V.int) ∧ ns.length ≤ 63 ∧ ∀ (d c : Addr) (H' : Hp), Kn H H' d c → Q (.ref d) H'
theorem ok_source (T : Tx K mg) : FnOk P w K mg base CX0 1 T.f_l_source T.d_l_source ["_law_script"] (spSource K) := by
  refine T.F_l_source.ok sc_l_source (fun vs H Q E h => ?_) (fun cdv A outer s H vs Q E hr h => ?_)
  · obtain ⟨a, ns, rfl, _⟩ := h
    rfl
  · obtain ⟨a, ns, rfl, hS, hlen, q⟩ := h
    have hu := hu_of hr
    refine ⟨_, (pss_cons (ps_set (i := 1) sc_l_source.nd rfl (Or.inl rfl) pe_int)
    (pss_cons (ps_for PassesOwn.never rfl (pi_list (pv 0)) (pg_name (i := 2) sc_l_source.nd rfl (Or.inl rfl))
    (pss_one (ps_set (i := 1) sc_l_source.nd rfl (Or.inl rfl) (pe_op op_mod (pe_callTy call_int1 (by rfl) T.z_int (by decide +kernel) (pa_cons (pe_op op_add (pe_op op_add (pe_op op_mul (pv 1) pe_int) (pe_op op_mul (pv 2) pe_int)) pe_int) pa_nil)) pe_int))))
    (pss_one (ps_ret (pe_disp (pps_cons pe_str (pe_revL (pe_lc (own := [("_law_cell", 2)]) (g := gName 2) rfl sc_l_source.nd (pi_list (pv 0)) (blkOk_by (own := [("_law_cell", 2)]) (N := ["_law_script", "_law_mixed_here", "_law_cell"]) (sc := defScope s_l_source) (by decide +kernel)) (fun _ _ _ _ _ => (pg_name (i := 2) sc_l_source.nd rfl (Or.inl rfl))) (fun _ _ _ _ _ => pts_nil) (fun _ _ _ _ _ => (pe_callB call_abs (by rfl) T.z_abs (by decide +kernel) (pa_cons (pv 2) pa_nil))))) (pps_cons pe_str pe_int (pps_cons pe_str (pv 1) (pps_cons pe_str pe_int pps_nil)))) (by rfl) (by rfl) (fun z => by cases z) (by decide)))))), ?_⟩
    refine ⟨.ref a, rfl, a, rfl, ⟨_, hS⟩, for_list (K := K) (a := a) (xs := ns.map V.int) (fun i σ H' => ∃ (m : Int) (v : Option V), σ = [some (.ref a), some (.int m), v] ∧ H' = H ∧ 0 ≤ m ∧ m < 2147483647)
      ⟨11, none, rfl, rfl, by decide, by decide⟩ (fun i σ H' _ ⟨_, _, _, e, _⟩ => e ▸ hS) ?_ ?_⟩
    · rintro i y σ H' hi ⟨m, v, rfl, rfl, m0, m1⟩
      obtain ⟨z, rfl, hz⟩ := ints_at hi
      refine ⟨.int m, rfl, m, 69069, rfl, rfl, .inl ⟨by omega, by omega⟩, .int z, rfl, z, 31, rfl, rfl, .inr ⟨by decide, by decide⟩, _, _, rfl, rfl, _, _, rfl, rfl, .inl ⟨_, rfl, _, _, rfl, rfl, (by show (0 : Int) < 2147483629; decide), ?_⟩⟩
      exact ⟨_, _, rfl, rfl, Int.emod_nonneg _ (by decide), Int.lt_trans (Int.emod_lt_of_pos _ (by decide)) (by decide : (2147483629 : Int) < 2147483647)⟩
    · rintro σ H' ⟨m, v, rfl, rfl, m0, m1⟩
      intro d hd
      have sd : Same H' (upd H' d (.dK [])) := same_new hd
      refine ⟨.ref a, rfl, a, rfl, ⟨_, sd.seq hS⟩, fun D hD => ?_⟩
      have hDd : d ≠ D := fun e => by rw [← e, upd_same] at hD; cases hD
      have hD0 : H' D = none := sd.free hD
      have sD : Same (upd H' d (.dK [])) (upd (upd H' d (.dK [])) D (.lst [])) := same_new hD
      refine lc_list (K := K) (a := a) (xs := ns.map V.int) (fun i H2 => H2 = upd (upd H' d (.dK [])) D (.lst (((ns.take i).map absI).map V.int))) rfl (fun i H2 _ e => ?_) ?_ ?_
      · subst e
        exact (sd.trans (same_new hD)).seq hS
      · rintro i y H2 hi rfl
        obtain ⟨z, rfl, hz⟩ := ints_at hi
        refine ⟨rfl, tyes ?_⟩
        refine ⟨.int z, rfl, z, rfl, _, upd_same, ?_, ?_⟩
        · rw [List.length_map, List.length_map, List.length_take]
          exact Nat.lt_of_le_of_lt (Nat.min_le_right _ _) (small1000 (by omega))
        · show upd (upd (upd H' d (.dK [])) D _) D _ = _
          rw [upd_upd, List.take_add_one, hz, List.map_append, List.map_append]
          rfl
      · rintro H2 rfl
        rw [List.length_map, List.take_length]
        refine ⟨D, _, rfl, .inl (.inl upd_same), fun c hc => ?_⟩
        have hcd : c ≠ d := fun e => by rw [e, upd_ne hDd, upd_same] at hc; cases hc
        have hcD : c ≠ D := fun e => by rw [e, upd_same] at hc; cases hc
        have hc0 : H' c = none := by rw [upd_ne hcD, upd_ne hcd] at hc; exact hc
        refine ⟨_, rfl, ?_⟩
        refine ⟨by rw [upd_ne hcd.symm, upd_ne hDd]; exact upd_same, srcK c 1 m 0, rfl, by show 4 ≤ 15; decide, ?_⟩
        rw [merge_src]
        refine q d c _ ⟨fun b o e => ?_, hd, hc0, ⟨((ns.map absI).reverse), 1, m, 0, upd_same, ?_, ?_, ?_, by decide, m0, m1⟩⟩
        · rw [upd_ne (ne_of_none e hd), upd_ne (ne_of_none e hc0), upd_ne (ne_of_none e hD0), upd_ne (ne_of_none e hd)]
          exact e
        · rw [upd_ne hcd, upd_same, List.map_reverse]
        · rw [List.length_reverse, List.length_map]
          exact hlen
        · intro x hx
          rw [List.mem_reverse, List.mem_map] at hx
          obtain ⟨z, _, rfl⟩ := hx
          unfold absI
          split <;> omega
end

section
variable {P : Program} {w : World} {K : PySem.W.Frag} {mg : Str → Option Value} {base : Heap}
/-- a drawn member of a list -/
def spOf (K : PySem.W.Frag) : Sp := fun vs H Q _ => ∃ (G : Hp) (d c a : Addr) (xs : List V), vs = [.ref d, .ref a] ∧ Kn G H d c ∧ SqL K G a xs ∧ 0 < xs.length ∧ xs.length ≤ 100000 ∧
  ∀ (x : V) (H' : Hp), Kn G H' d c → x ∈ xs → Q x H'
theorem ok_of (T : Tx K mg) : FnOk P w K mg base CX0 2 T.f_l_of T.d_l_of ["_law_source_here", "_law_some"] (spOf K) := by
  have G_l_pick := ok_pick (P := P) (w := w) (base := base) T
  refine T.F_l_of.ok sc_l_of (fun vs H Q E h => ?_) (fun cdv A outer s H vs Q E hr h => ?_)
  · obtain ⟨G, d, c, a, xs, rfl, _⟩ := h
    rfl
  · obtain ⟨G, d, c, a, xs, rfl, k, hS, h0, h1, q⟩ := h
    refine ⟨_, (pss_one (ps_ret (pe_ix ix_list (pv 1) (pe_call G_l_pick (hr.mono (by decide)) (by rfl) T.g_l_pick T.F_l_pick.kp T.b_l_pick .nil pass0 (pa_cons (pv 0) (pa_cons (pe_callB call_len_seq (by rfl) T.z_len PySem.boot_len (pa_cons (pv 1) pa_nil)) pa_nil))) (fun _ _ => rfl)))), ?_⟩
    refine ⟨.ref a, rfl, .ref d, rfl, .ref a, rfl, a, xs, rfl, .inl (k.le.seq hS), G, d, c, xs.length, rfl, k, by omega, fun r H' k' r0 r1 => ?_⟩
    obtain ⟨j, rfl⟩ : ∃ j : Nat, r = j := ⟨r.toNat, by omega⟩
    have hj : j < xs.length := by omega
    refine ⟨a, xs, (j : Int), xs[j], rfl, rfl, k'.le.seq hS, atI_nat (List.getElem?_eq_getElem hj), ?_⟩
    exact q _ _ k' (List.getElem_mem hj)
end

section
variable {P : Program} {w : World} {K : PySem.W.Frag} {mg : Str → Option Value} {base : Heap}
/-- a number, as data -/
def numD : PyData → Bool
  | .int i => decide (0 ≤ i)
  | _ => false
theorem numD_oth {d : PyData} (h : ∀ i, d ≠ .int i) : numD d = false := by
  cases d with
  | int i => exact absurd rfl (h i)
  | _ => rfl
def spIsNumD (K : PySem.W.Frag) : Sp := fun vs H Q _ => ∃ (v : V) (d : PyData), vs = [v] ∧ Lf K H v d ∧ Q (.bl (numD d)) H
theorem ok_is_numD (T : Tx K mg) : FnOk P w K mg base CX0 1 T.f_is_number T.d_is_number ["value"] (spIsNumD K) := by
  refine T.F_is_number.ok sc_is_number (fun vs H Q E h => ?_) (fun cdv A outer s H vs Q E hr h => ?_)
  · obtain ⟨v, d, rfl, _⟩ := h
    rfl
  · obtain ⟨v, d, rfl, hl, q⟩ := h
    refine ⟨_, (pss_one (ps_ret (pe_and (pe_callB call_isi (by rfl) T.z_isinstance (by decide +kernel) (pa_cons (pv 0) (pa_cons (pe_bltn (v := .ty "int") (by rfl) T.z_int (by decide +kernel) rfl) pa_nil))) (pe_and (pe_not (pe_callB call_isi (by rfl) T.z_isinstance (by decide +kernel) (pa_cons (pv 0) (pa_cons (pe_bltn (v := .ty "bool") (by rfl) T.z_bool (by decide +kernel) rfl) pa_nil)))) (pe_one (pe_cmpR op_ge (pv 0) pe_int (nomark _))))))), ?_⟩
    cases lf_kd hl with
    | int i =>
      refine ⟨_, rfl, _, .ty "int", _, _, true, rfl, .ty _, .base (.int i), kit_ty (by decide +kernel), true, rfl, iteT ?_⟩
      refine ⟨_, rfl, _, .ty "bool", _, _, false, rfl, .ty _, .base (.int i), kit_ty (by decide +kernel), false, rfl, true, rfl, iteT ?_⟩
      exact ⟨_, rfl, _, _, rfl, rfl, q⟩
    | bl b =>
      refine ⟨_, rfl, _, .ty "int", _, _, true, rfl, .ty _, .base (.bl b), kit_ty (by decide +kernel), true, rfl, iteT ?_⟩
      refine ⟨_, rfl, _, .ty "bool", _, _, true, rfl, .ty _, .base (.bl b), kit_ty (by decide +kernel), true, rfl, false, rfl, iteF ?_⟩
      exact q
    | tup ht hl hx =>
      refine ⟨_, rfl, _, .ty "int", _, _, false, rfl, .ty _, ty_tup ht, kit_ty (by decide +kernel), false, rfl, iteF ?_⟩
      exact q
    | oth t ht ty n1 n2 n3 =>
      have q' : Q (.bl false) H := by rw [numD_oth n1] at q; exact q
      rcases ht with rfl | rfl | rfl | rfl
      · exact ⟨_, rfl, _, .ty "int", _, _, false, rfl, .ty _, ty, kit_ty (by decide +kernel), false, rfl, iteF q'⟩
      · exact ⟨_, rfl, _, .ty "int", _, _, false, rfl, .ty _, ty, kit_ty (by decide +kernel), false, rfl, iteF q'⟩
      · exact ⟨_, rfl, _, .ty "int", _, _, false, rfl, .ty _, ty, kit_ty (by decide +kernel), false, rfl, iteF q'⟩
      · exact ⟨_, rfl, _, .ty "int", _, _, false, rfl, .ty _, ty, kit_ty (by decide +kernel), false, rfl, iteF q'⟩
end

section
variable {P : Program} {w : World} {K : PySem.W.Frag} {mg : Str → Option Value} {base : Heap}
theorem o_at {o : List Int} {j : Nat} (h : j < o.length) : atI (o.map V.int) (j : Int) = some (.int (o.getD j 0)) := by
  refine atI_nat ?_
  rw [List.getElem?_map, List.getElem?_eq_getElem h, List.getD_eq_getElem?_getD, List.getElem?_eq_getElem h]
  rfl
/-- the sorting steps -/
def spSteps (K : PySem.W.Frag) : Sp := fun vs H Q _ => ∃ (t : Addr) (o : List Int), vs = [.ref t] ∧ SqT K H t (o.map V.int) ∧ o.length ≤ 1000 ∧
  ∀ l H', Same H H' → H l = none → H' l = some (.lst ((stps o).map V.int)) → Q (.ref l) H'
theorem ok_sorting_steps (T : Tx K mg) : FnOk P w K mg base CX0 1 T.f_sorting_steps T.d_sorting_steps ["order"] (spSteps K) := by
  refine T.F_sorting_steps.ok sc_sorting_steps (fun vs H Q E h => ?_) (fun cdv A outer s H vs Q E hr h => ?_)
  · obtain ⟨t, o, rfl, _⟩ := h
    rfl
  · obtain ⟨t, o, rfl, hT, ol, q⟩ := h
    refine ⟨_, (pss_one (ps_ret (pe_lc (own := [("i", 1)]) (g := gName 1) rfl sc_sorting_steps.nd (pi_range2 (by rfl) T.z_range (pa_cons pe_int (pa_cons (pe_callB call_len_seq (by rfl) T.z_len PySem.boot_len (pa_cons (pv 0) pa_nil)) pa_nil))) (blkOk_by (own := [("i", 1)]) (N := ["order", "i"]) (sc := defScope s_sorting_steps) (by decide +kernel)) (fun _ _ _ _ _ => (pg_name (i := 1) sc_sorting_steps.nd rfl (Or.inl rfl))) (fun _ _ _ _ _ => (pts_one (pt_cmpR op_gt (pe_ix (show IxR _ (rIxT K) from ix_tup) (pv 0) (pe_op op_sub (pv 1) pe_int) (fun _ _ => rfl)) (pe_ix (show IxR _ (rIxT K) from ix_tup) (pv 0) (pv 1) (fun _ _ => rfl)) (nomark _)))) (fun _ _ _ _ _ => (pv 1))))), ?_⟩
    refine ⟨.ref t, rfl, t, o.map V.int, rfl, .inr hT, ?_⟩
    rw [List.length_map]
    refine ⟨1, (o.length : Int), rfl, ⟨by decide, by decide, by omega, by omega⟩, fun D hD => ?_⟩
    refine lc_range (lo := 1) (n := ((o.length : Int) - 1).toNat) (fun i H' => (∀ b x, H b = some x → H' b = some x) ∧ H' D = some (.lst ((((List.range i).filter fun j => decide (o.getD (j + 1) 0 < o.getD j 0)).map fun (j : Nat) => (1 + j : Int)).map V.int))) ⟨same_new hD, upd_same⟩ ?_ ?_
    · rintro i H2 hi ⟨sm, hL⟩
      have hi' : i + 1 < o.length := by omega
      refine ⟨rfl, ?_⟩
      have hT2 : SqT K H2 t (o.map V.int) := sameT sm hT
      have a1 : atI (o.map V.int) (1 + (i : Int) - 1) = some (.int (o.getD i 0)) := by
        rw [show 1 + (i : Int) - 1 = (i : Int) by omega]
        exact o_at (by omega)
      have a2 : atI (o.map V.int) (1 + (i : Int)) = some (.int (o.getD (i + 1) 0)) := by
        rw [show 1 + (i : Int) = ((i + 1 : Nat) : Int) by omega]
        exact o_at hi'
      refine ⟨.ref t, rfl, .int (1 + (i : Int)), rfl, _, _, rfl, rfl, t, _, _, _, rfl, rfl, hT2, a1, .ref t, rfl, .int (1 + (i : Int)), rfl, t, _, _, _, rfl, rfl, hT2, a2, _, _, rfl, rfl, ?_⟩
      refine ⟨_, rfl, ite2 (fun hb => ?_) (fun hb => ?_)⟩
      · refine ⟨_, rfl, _, hL, ?_, fun b x e => ?_, ?_⟩
        · rw [List.length_map, List.length_map]
          refine Nat.lt_of_le_of_lt (List.length_filter_le _ _) ?_
          rw [List.length_range]
          exact small1000 (by omega)
        · rw [upd_ne (ne_of_none e hD)]
          exact sm _ _ e
        · rw [upd_same, List.range_succ, List.filter_append, List.filter_cons, if_pos (by simpa using hb), List.map_append, List.map_append]
          rfl
      · refine ⟨sm, ?_⟩
        rw [List.range_succ, List.filter_append, List.filter_cons, if_neg (by simpa using hb), List.filter_nil, List.append_nil]
        exact hL
    · rintro H2 ⟨sm, hL⟩
      rw [show ((o.length : Int) - 1).toNat = o.length - 1 by omega] at hL
      exact q D H2 sm hD hL
/-- the order with two neighbours exchanged -/
def spStepped (K : PySem.W.Frag) : Sp := fun vs H Q _ => ∃ (t : Addr) (o : List Int) (i : Int), vs = [.ref t, .int i] ∧ SqT K H t (o.map V.int) ∧ o.length ≤ 1000 ∧ 1 ≤ i ∧ i < o.length ∧
  ∀ u H', Same H H' → SqT K H' u ((stp o i).map V.int) → Q (.ref u) H'
theorem stp_cut {o : List Int} {i : Int} (h1 : 1 ≤ i) (h2 : i < o.length) : cutV (o.map V.int) none (some (i - 1)) ++ [V.int (o.getD i.toNat 0), V.int (o.getD (i.toNat - 1) 0)] ++ cutV (o.map V.int) (some (i + 1)) none = (stp o i).map V.int := by
  obtain ⟨j, rfl⟩ : ∃ j : Nat, i = 1 + j := ⟨(i - 1).toNat, by omega⟩
  rw [stp_one, show (1 + (j : Int)) - 1 = (j : Nat) by omega, show (1 + (j : Int)) + 1 = ((j + 2 : Nat) : Int) by omega, cut_nat, cut_from _ _ (by rw [List.length_map]; omega)]
  unfold stpN
  rw [show (1 + (j : Int)).toNat = j + 1 by omega, Nat.add_sub_cancel, List.map_append, List.map_append, List.map_take, List.map_drop]
  rfl
theorem ok_stepped (T : Tx K mg) : FnOk P w K mg base CX0 2 T.f_stepped T.d_stepped ["order", "level"] (spStepped K) := by
  have G_is_number := ok_is_numD (P := P) (w := w) (base := base) T
  refine T.F_stepped.ok sc_stepped (fun vs H Q E h => ?_) (fun cdv A outer s H vs Q E hr h => ?_)
  · obtain ⟨t, o, i, rfl, _⟩ := h
    rfl
  · obtain ⟨t, o, i, rfl, hT, ol, h1, h2, q⟩ := h
    refine ⟨_, (pss_cons (ps_if (PW.pt (pw_or (pt_not (pt_val (pe_call G_is_number (hr.mono (by decide)) (by rfl) T.g_is_number T.F_is_number.kp T.b_is_number .nil pass0 (pa_cons (pv 1) pa_nil)))) (pw_or1 (pt_not (pt_chain op_le op_lt pe_int (pv 1) (pe_callB call_len_seq (by rfl) T.z_len PySem.boot_len (pa_cons (pv 0) pa_nil))))))) (pss_one ps_dead) pss_nil)
    (pss_one (ps_ret (pe_op op_catA (pe_op op_catA (pe_slice sl_tupA (pv 0) po_none (po_some (pe_op op_sub (pv 1) pe_int))) (pe_tup (pa_cons (pe_ix ix_tup (pv 0) (pv 1) (fun _ _ => rfl)) (pa_cons (pe_ix ix_tup (pv 0) (pe_op op_sub (pv 1) pe_int) (fun _ _ => rfl)) pa_nil)))) (pe_slice sl_tupA (pv 0) (po_some (pe_op op_add (pv 1) pe_int)) po_none))))), ?_⟩
    refine ⟨.int i, rfl, .int i, .int i, rfl, .dp (.int i) rfl, ?_⟩
    have hn : numD (.int i) = true := decide_eq_true (by omega)
    refine ⟨true, by rw [hn], iteF ?_⟩
    refine ⟨.int i, rfl, _, _, rfl, rfl, _, rfl, Eq.mpr (if_pos (decide_eq_true h1)) ?_⟩
    refine ⟨.ref t, rfl, t, _, rfl, .inr hT, _, _, rfl, rfl, _, rfl, ?_⟩
    rw [List.length_map, decide_eq_true h2]
    refine iteF ?_
    have b1 : i.toNat < o.length := by omega
    have b2 : i.toNat - 1 < o.length := by omega
    refine ⟨.ref t, rfl, ?_⟩
    refine np_i ?_
    refine ⟨.int i, rfl, _, _, rfl, rfl, i - 1, rfl, ?_⟩
    refine sl_any hT fun t1 H1 s1 ht1 => ?_
    have hT1 := sameT s1 hT
    have a1 : atI (o.map V.int) i = some (.int (o.getD i.toNat 0)) := by
      have := o_at b1
      rwa [show ((i.toNat : Nat) : Int) = i by omega] at this
    have a2 : atI (o.map V.int) (i - 1) = some (.int (o.getD (i.toNat - 1) 0)) := by
      have := o_at b2
      rwa [show ((i.toNat - 1 : Nat) : Int) = i - 1 by omega] at this
    refine ⟨.ref t, rfl, .int i, rfl, t, _, _, _, rfl, rfl, hT1, a1, .ref t, rfl, .int i, rfl, _, _, rfl, rfl, t, _, _, _, rfl, rfl, hT1, a2, (by show 2 ≤ sizeLine; decide), fun t2 ht2 => ?_⟩
    have s2 : Same H1 (upd H1 t2 (.tup [.int (o.getD i.toNat 0), .int (o.getD (i.toNat - 1) 0)])) := same_new ht2
    have hT2 : SqT K (upd H1 t2 (.tup [.int (o.getD i.toNat 0), .int (o.getD (i.toNat - 1) 0)])) t2 [.int (o.getD i.toNat 0), .int (o.getD (i.toNat - 1) 0)] := .inl (.inl upd_same)
    generalize upd H1 t2 (.tup [.int (o.getD i.toNat 0), .int (o.getD (i.toNat - 1) 0)]) = H2 at s2 hT2
    have lc : ∀ (lo hi : Option Int), (cutV (o.map V.int) lo hi).length ≤ 1000 := fun lo hi => by
      have : (cutV (o.map V.int) lo hi).length ≤ (o.map V.int).length := by
        unfold cutV
        rw [List.length_take, List.length_drop]
        omega
      rw [List.length_map] at this
      omega
    refine cat_any (sameT s2 ht1) hT2 ?_ fun t3 H3 s3 ht3 => ?_
    · have := lc none (some (i - 1))
      rw [sizeLine_eq]
      simp only [List.length_cons, List.length_nil]
      omega
    · refine ⟨.ref t, rfl, .int i, rfl, _, _, rfl, rfl, i + 1, rfl, ?_⟩
      refine np_i ?_
      refine sl_any (sameT s3 (sameT s2 hT1)) fun t4 H4 s4 ht4 => ?_
      refine cat_any (sameT s4 ht3) ht4 ?_ fun t5 H5 s5 ht5 => ?_
      · have h1 := lc none (some (i - 1))
        have h2 := lc (some (i + 1)) none
        rw [sizeLine_eq, List.length_append]
        simp only [List.length_cons, List.length_nil]
        omega
      · rw [stp_cut h1 h2] at ht5
        exact q _ _ ((((s1.trans s2).trans s3).trans s4).trans s5) ht5
theorem inV_ints (x : Int) : ∀ r : List Int, inV (.int x) (r.map V.int) = decide (x ∈ r)
  | [] => by simp [inV]
  | y :: r => by
    have ih := inV_ints x r
    show ((y == x) || inV (.int x) (r.map V.int)) = _
    rw [ih, Bool.eq_iff_iff]
    simp only [Bool.or_eq_true, beq_iff_eq, decide_eq_true_eq, List.mem_cons]
    constructor
    · rintro (h | h)
      · exact .inl h.symm
      · exact .inr h
    · rintro (h | h)
      · exact .inl h.symm
      · exact .inr h
theorem flat_ints (r : List Int) : (r.map V.int).all flatV = true := by
  rw [List.all_map, List.all_eq_true]
  exact fun x _ => rfl
theorem last_at (xs : List V) (x : V) : atI (xs ++ [x]) (-1) = some x := by
  have e : ixN (xs ++ [x]).length (-1) = some xs.length := by
    unfold ixN
    rw [if_neg (by decide), List.length_append, List.length_singleton, if_pos (by omega)]
    congr 1
    omega
  unfold atI
  rw [e]
  show (xs ++ [x])[xs.length]? = some x
  rw [List.getElem?_append_right (Nat.le_refl _), Nat.sub_self]
  rfl
end

section
variable {P : Program} {w : World} {K : PySem.W.Frag} {mg : Str → Option Value} {base : Heap}
theorem upd_swap {G : Hp} {a b : Addr} {x y z : HO} (h : a ≠ b) : upd (upd (upd G a x) b y) a z = upd (upd G a z) b y := by
  funext e
  unfold upd
  by_cases h1 : e = a
  · subst h1
    rw [if_pos rfl, if_neg h, if_pos rfl]
  · rw [if_neg h1]
    by_cases h2 : e = b
    · rw [if_pos h2, if_pos h2]
    · rw [if_neg h2, if_neg h2, if_neg h1, if_neg h1]
theorem six_at {n : Nat} {j : Int} (h0 : 0 ≤ j) (h1 : j < n) : seqIndex? j n = some j.toNat := (ixN_seq (j := j.toNat) (by unfold ixN; rw [if_pos h0, if_pos h1])).1
theorem perm_pop {α : Type} {xs ys zs : List α} {j : Nat} {y : α} (p : (ys ++ zs).Perm xs) (h : zs[j]? = some y) : ((ys ++ [y]) ++ zs.eraseIdx j).Perm xs := by
  refine List.Perm.trans ?_ p
  rw [List.append_assoc]
  refine List.Perm.append_left ys ?_
  obtain ⟨hj, rfl⟩ := List.getElem?_eq_some_iff.mp h
  have e : zs = zs.take j ++ zs[j] :: zs.drop (j + 1) := by
    rw [← List.drop_eq_getElem_cons hj, List.take_append_drop]
  rw [List.eraseIdx_eq_take_drop_succ, List.singleton_append]
  conv => rhs; rw [e]
  exact List.perm_middle.symm
/-- the things in a drawn order -/
def spMixed (K : PySem.W.Frag) : Sp := fun vs H Q _ => ∃ (G : Hp) (d c a : Addr) (xs : List V), vs = [.ref d, .ref a] ∧ Kn G H d c ∧ SqL K G a xs ∧ xs.length ≤ 1000 ∧
  ∀ (l : Addr) (ys : List V) (G' H' : Hp), Same G G' → Kn G' H' d c → G' l = some (.lst ys) → ys.Perm xs → G l = none → Q (.ref l) H'
theorem ok_mixed (T : Tx K mg) : FnOk P w K mg base CX0 2 T.f_l_mixed T.d_l_mixed ["_law_source_here", "_law_things"] (spMixed K) := by
  have G_l_pick := ok_pick (P := P) (w := w) (base := base) T
  refine T.F_l_mixed.ok sc_l_mixed (fun vs H Q E h => ?_) (fun cdv A outer s H vs Q E hr h => ?_)
  · obtain ⟨G, d, c, a, xs, rfl, _⟩ := h
    rfl
  · obtain ⟨G, d, c, a, xs, rfl, k, hS, hl, q⟩ := h
    refine ⟨_, (pss_cons (ps_set (i := 2) sc_l_mixed.nd rfl (Or.inr rfl) (pe_callTy call_list_of (by rfl) T.z_list (by decide +kernel) (pa_cons (pv 1) pa_nil)))
    (pss_one (ps_ret (pe_lc (own := [("_law_lap", 3)]) (g := gName 3) rfl sc_l_mixed.nd (pi_range1 rfl T.z_range (pa_cons (pe_callB call_len_seq (by rfl) T.z_len PySem.boot_len (pa_cons (pv 2) pa_nil)) pa_nil)) (blkOk_by (own := [("_law_lap", 3)]) (N := ["_law_source_here", "_law_things", "_law_rest", "_law_lap"]) (sc := defScope s_l_mixed) (by decide +kernel)) (fun _ _ _ _ _ => (pg_name (i := 3) sc_l_mixed.nd rfl (Or.inl rfl))) (fun _ _ _ _ _ => pts_nil) (fun _ _ _ _ _ => (show PE _ _ (tBM K "list" rPopAt _ _) from (pe_bm PySem.F.plainAttrs_list PySem.F.slot_list_pop PySem.F.type_list_pop mt_popAt (pv 2) (pa_cons (pe_call G_l_pick (hr.mono (by decide)) (by rfl) T.g_l_pick T.F_l_pick.kp T.b_l_pick .nil pass0 (pa_cons (pv 0) (pa_cons (pe_callB (show CallR _ _ (rLenOf K) from call_lenOf) (by rfl) T.z_len PySem.boot_len (pa_cons (pv 2) pa_nil)) pa_nil))) pa_nil)))))))), ?_⟩
    refine ⟨.ref a, rfl, a, xs, rfl, .inl (k.le.seq hS), fun r hr0 => ?_⟩
    have k1 := k.new (o := .lst xs) hr0
    have gr : G r = none := k.free hr0
    have h1 : (upd H r (.lst xs)) r = some (.lst xs) := upd_same
    generalize upd H r (.lst xs) = H1 at k1 h1
    refine ⟨.ref r, rfl, r, xs, rfl, .inl (.inl (.inl h1)), (xs.length : Int), rfl, by omega, by omega, fun D hD => ?_⟩
    have hDr : D ≠ r := fun e => by rw [e, h1] at hD; cases hD
    have gD : G D = none := k1.weak (same_new gr) |>.free hD
    refine lc_range (lo := 0) (n := (xs.length : Int).toNat) (fun i H' => ∃ ys zs : List V, Kn (upd (upd G r (.lst zs)) D (.lst ys)) H' d c ∧ (ys ++ zs).Perm xs ∧ zs.length + i = xs.length ∧ ys.length = i) ⟨[], xs, k1.new hD, by simp, by simp, rfl⟩ ?_ ?_
    · rintro i H2 hi ⟨ys, zs, k2, pm, e1, e2⟩
      have hz : 0 < zs.length := by omega
      have hr2 := k2.le r _ (by rw [upd_ne hDr.symm, upd_same])
      have hD2 := k2.le D _ upd_same
      refine ⟨rfl, tyes ?_⟩
      refine ⟨.ref r, rfl, .inl ⟨rfl, _, .inl (.inl hr2)⟩, ?_⟩
      refine ⟨.ref d, rfl, .ref r, rfl, r, zs, rfl, .inl (.inl (.inl hr2)), _, d, c, (zs.length : Nat), rfl, k2, by omega, fun j H3 k3 j0 j1 => ?_⟩
      have hr3 := k3.le r _ (by rw [upd_ne hDr.symm, upd_same])
      have hjl : j < (zs.length : Nat) := by omega
      have hj : j.toNat < zs.length := by omega
      refine ⟨r, zs, j, j.toNat, zs[j.toNat], rfl, rfl, hr3, by omega, by omega, six_at j0 hjl, List.getElem?_eq_getElem hj, ?_⟩
      have k4 := k3.put (o' := .lst (zs.eraseIdx j.toNat)) (p := r) (by rw [upd_ne hDr.symm, upd_same])
      rw [upd_swap hDr.symm] at k4
      have k5 := k4.put (o' := .lst (ys ++ [zs[j.toNat]])) (p := D) upd_same
      rw [upd_upd] at k5
      refine ⟨ys, k4.le D _ upd_same, ?_, ys ++ [zs[j.toNat]], zs.eraseIdx j.toNat, k5, perm_pop pm (List.getElem?_eq_getElem hj), ?_, ?_⟩
      · exact small1000' (by omega)
      · rw [List.length_eraseIdx_of_lt hj]
        omega
      · rw [List.length_append, List.length_singleton, e2]
    · rintro H2 ⟨ys, zs, k2, pm, e1, e2⟩
      have hz : zs = [] := List.eq_nil_of_length_eq_zero (by omega)
      subst hz
      rw [List.append_nil] at pm
      exact q D ys _ H2 ((same_new gr).trans (same_new (by rw [upd_ne hDr]; exact gD))) k2 upd_same pm gD
end

section
variable {P : Program} {w : World} {K : PySem.W.Frag} {mg : Str → Option Value} {base : Heap}
theorem ok_lsteps (T : Tx K mg) : FnOk P w K mg base CX0 1 T.f_l_steps T.d_l_steps ["_law_order"] (spSteps K) := by
  refine T.F_l_steps.ok sc_l_steps (fun vs H Q E h => ?_) (fun cdv A outer s H vs Q E hr h => ?_)
  · obtain ⟨t, o, rfl, _⟩ := h
    rfl
  · obtain ⟨t, o, rfl, hT, ol, q⟩ := h
    refine ⟨_, (pss_one (ps_ret (pe_lc (own := [("_law_i", 1)]) (g := gName 1) rfl sc_l_steps.nd (pi_range2 (by rfl) T.z_range (pa_cons pe_int (pa_cons (pe_callB call_len_seq (by rfl) T.z_len PySem.boot_len (pa_cons (pv 0) pa_nil)) pa_nil))) (blkOk_by (own := [("_law_i", 1)]) (N := ["_law_order", "_law_i"]) (sc := defScope s_l_steps) (by decide +kernel)) (fun _ _ _ _ _ => (pg_name (i := 1) sc_l_steps.nd rfl (Or.inl rfl))) (fun _ _ _ _ _ => (pts_one (pt_cmpR op_gt (pe_ix (show IxR _ (rIxT K) from ix_tup) (pv 0) (pe_op op_sub (pv 1) pe_int) (fun _ _ => rfl)) (pe_ix (show IxR _ (rIxT K) from ix_tup) (pv 0) (pv 1) (fun _ _ => rfl)) (nomark _)))) (fun _ _ _ _ _ => (pv 1))))), ?_⟩
    refine ⟨.ref t, rfl, t, o.map V.int, rfl, .inr hT, ?_⟩
    rw [List.length_map]
    refine ⟨1, (o.length : Int), rfl, ⟨by decide, by decide, by omega, by omega⟩, fun D hD => ?_⟩
    refine lc_range (lo := 1) (n := ((o.length : Int) - 1).toNat) (fun i H' => (∀ b x, H b = some x → H' b = some x) ∧ H' D = some (.lst ((((List.range i).filter fun j => decide (o.getD (j + 1) 0 < o.getD j 0)).map fun (j : Nat) => (1 + j : Int)).map V.int))) ⟨same_new hD, upd_same⟩ ?_ ?_
    · rintro i H2 hi ⟨sm, hL⟩
      have hi' : i + 1 < o.length := by omega
      refine ⟨rfl, ?_⟩
      have hT2 : SqT K H2 t (o.map V.int) := sameT sm hT
      have a1 : atI (o.map V.int) (1 + (i : Int) - 1) = some (.int (o.getD i 0)) := by
        rw [show 1 + (i : Int) - 1 = (i : Int) by omega]
        exact o_at (by omega)
      have a2 : atI (o.map V.int) (1 + (i : Int)) = some (.int (o.getD (i + 1) 0)) := by
        rw [show 1 + (i : Int) = ((i + 1 : Nat) : Int) by omega]
        exact o_at hi'
      refine ⟨.ref t, rfl, .int (1 + (i : Int)), rfl, _, _, rfl, rfl, t, _, _, _, rfl, rfl, hT2, a1, .ref t, rfl, .int (1 + (i : Int)), rfl, t, _, _, _, rfl, rfl, hT2, a2, _, _, rfl, rfl, ?_⟩
      refine ⟨_, rfl, ite2 (fun hb => ?_) (fun hb => ?_)⟩
      · refine ⟨_, rfl, _, hL, ?_, fun b x e => ?_, ?_⟩
        · rw [List.length_map, List.length_map]
          refine Nat.lt_of_le_of_lt (List.length_filter_le _ _) ?_
          rw [List.length_range]
          exact small1000 (by omega)
        · rw [upd_ne (ne_of_none e hD)]
          exact sm _ _ e
        · rw [upd_same, List.range_succ, List.filter_append, List.filter_cons, if_pos (by simpa using hb), List.map_append, List.map_append]
          rfl
      · refine ⟨sm, ?_⟩
        rw [List.range_succ, List.filter_append, List.filter_cons, if_neg (by simpa using hb), List.filter_nil, List.append_nil]
        exact hL
    · rintro H2 ⟨sm, hL⟩
      rw [show ((o.length : Int) - 1).toNat = o.length - 1 by omega] at hL
      exact q D H2 sm hD hL
theorem ok_lstepped (T : Tx K mg) : FnOk P w K mg base CX0 1 T.f_l_stepped T.d_l_stepped ["_law_order", "_law_level"] (spStepped K) := by
  refine T.F_l_stepped.ok sc_l_stepped (fun vs H Q E h => ?_) (fun cdv A outer s H vs Q E hr h => ?_)
  · obtain ⟨t, o, i, rfl, _⟩ := h
    rfl
  · obtain ⟨t, o, i, rfl, hT, ol, h1, h2, q⟩ := h
    refine ⟨_, (pss_one (ps_ret (pe_op op_catA (pe_op op_catA (pe_slice sl_tupA (pv 0) po_none (po_some (pe_op op_sub (pv 1) pe_int))) (pe_tup (pa_cons (pe_ix ix_tup (pv 0) (pv 1) (fun _ _ => rfl)) (pa_cons (pe_ix ix_tup (pv 0) (pe_op op_sub (pv 1) pe_int) (fun _ _ => rfl)) pa_nil)))) (pe_slice sl_tupA (pv 0) (po_some (pe_op op_add (pv 1) pe_int)) po_none)))), ?_⟩
    have b1 : i.toNat < o.length := by omega
    have b2 : i.toNat - 1 < o.length := by omega
    refine ⟨.ref t, rfl, ?_⟩
    refine np_i ?_
    refine ⟨.int i, rfl, _, _, rfl, rfl, i - 1, rfl, ?_⟩
    refine sl_any hT fun t1 H1 s1 ht1 => ?_
    have hT1 := sameT s1 hT
    have a1 : atI (o.map V.int) i = some (.int (o.getD i.toNat 0)) := by
      have := o_at b1
      rwa [show ((i.toNat : Nat) : Int) = i by omega] at this
    have a2 : atI (o.map V.int) (i - 1) = some (.int (o.getD (i.toNat - 1) 0)) := by
      have := o_at b2
      rwa [show ((i.toNat - 1 : Nat) : Int) = i - 1 by omega] at this
    refine ⟨.ref t, rfl, .int i, rfl, t, _, _, _, rfl, rfl, hT1, a1, .ref t, rfl, .int i, rfl, _, _, rfl, rfl, t, _, _, _, rfl, rfl, hT1, a2, (by show 2 ≤ sizeLine; decide), fun t2 ht2 => ?_⟩
    have s2 : Same H1 (upd H1 t2 (.tup [.int (o.getD i.toNat 0), .int (o.getD (i.toNat - 1) 0)])) := same_new ht2
    have hT2 : SqT K (upd H1 t2 (.tup [.int (o.getD i.toNat 0), .int (o.getD (i.toNat - 1) 0)])) t2 [.int (o.getD i.toNat 0), .int (o.getD (i.toNat - 1) 0)] := .inl (.inl upd_same)
    generalize upd H1 t2 (.tup [.int (o.getD i.toNat 0), .int (o.getD (i.toNat - 1) 0)]) = H2 at s2 hT2
    have lc : ∀ (lo hi : Option Int), (cutV (o.map V.int) lo hi).length ≤ 1000 := fun lo hi => by
      have : (cutV (o.map V.int) lo hi).length ≤ (o.map V.int).length := by
        unfold cutV
        rw [List.length_take, List.length_drop]
        omega
      rw [List.length_map] at this
      omega
    refine cat_any (sameT s2 ht1) hT2 ?_ fun t3 H3 s3 ht3 => ?_
    · have := lc none (some (i - 1))
      rw [sizeLine_eq]
      simp only [List.length_cons, List.length_nil]
      omega
    · refine ⟨.ref t, rfl, .int i, rfl, _, _, rfl, rfl, i + 1, rfl, ?_⟩
      refine np_i ?_
      refine sl_any (sameT s3 (sameT s2 hT1)) fun t4 H4 s4 ht4 => ?_
      refine cat_any (sameT s4 ht3) ht4 ?_ fun t5 H5 s5 ht5 => ?_
      · have h1 := lc none (some (i - 1))
        have h2 := lc (some (i + 1)) none
        rw [sizeLine_eq, List.length_append]
        simp only [List.length_cons, List.length_nil]
        omega
      · rw [stp_cut h1 h2] at ht5
        exact q _ _ ((((s1.trans s2).trans s3).trans s4).trans s5) ht5
end

section
variable {P : Program} {w : World} {K : PySem.W.Frag} {mg : Str → Option Value} {base : Heap}
/-- a drawn order -/
def rgI (n : Nat) : List Int := (List.range n).map fun (j : Nat) => (j : Int)
theorem perm_ints {ys : List V} {xs : List Int} (h : ys.Perm (xs.map V.int)) : ∃ zs : List Int, ys = zs.map V.int ∧ zs.Perm xs := by
  refine ⟨ys.map fun v => match v with | .int i => i | _ => 0, ?_, ?_⟩
  · rw [List.map_map]
    conv => lhs; rw [← List.map_id ys]
    refine List.map_congr_left fun v hv => ?_
    obtain ⟨x, _, rfl⟩ := List.mem_map.mp (h.mem_iff.mp hv)
    rfl
  · have := h.map fun v => match v with | .int i => i | _ => 0
    rw [List.map_map] at this
    simpa [Function.comp_def] using this
theorem rgV_rgI (n : Nat) : rgV 0 (n : Int) = (rgI n).map V.int := by
  unfold rgV rgI
  rw [List.map_map, show ((n : Int) - 0).toNat = n by omega]
  refine List.map_congr_left fun i _ => ?_
  show V.int (0 + (i : Int)) = V.int (i : Int)
  rw [Int.zero_add]
theorem rgI_len (n : Nat) : (rgI n).length = n := by
  unfold rgI
  rw [List.length_map, List.length_range]
theorem stpN_perm {o : List Int} {j : Nat} (h : j + 1 < o.length) : (stpN o j).Perm o := by
  conv => rhs; rw [split_at h]
  unfold stpN
  rw [List.append_assoc]
  exact List.Perm.append_left _ (List.Perm.swap _ _ _)
theorem set_stpN {o : List Int} {j : Nat} (h : j + 1 < o.length) : (o.set j (o.getD (j + 1) 0)).set (j + 1) (o.getD j 0) = stpN o j := by
  have e := split_at h
  have l : (o.take j).length = j := by rw [List.length_take]; omega
  unfold stpN
  generalize o.getD j 0 = x at e ⊢
  generalize o.getD (j + 1) 0 = y at e ⊢
  generalize o.take j = a at e l ⊢
  generalize o.drop (j + 2) = b at e ⊢
  subst e
  rw [List.set_append_right _ _ (by omega), List.set_append_right _ _ (by omega), l, Nat.sub_self, show j + 1 - j = 1 by omega, List.append_assoc]
  rfl
def spAnyO (K : PySem.W.Frag) : Sp := fun vs H Q _ => ∃ (G : Hp) (d c : Addr) (n : Nat), vs = [.ref d, .int (n : Nat)] ∧ Kn G H d c ∧ n ≤ 30 ∧
  ∀ (t : Addr) (o : List Int) (G' H' : Hp), Same G G' → Kn G' H' d c → TpF G' t (o.map V.int) → o.Perm (rgI n) → Q (.ref t) H'
theorem ok_any_order (T : Tx K mg) : FnOk P w K mg base CX0 3 T.f_l_any_order T.d_l_any_order ["_law_source_here", "_law_n"] (spAnyO K) := by
  have G_l_pick := ok_pick (P := P) (w := w) (base := base) T
  have G_l_mixed := ok_mixed (P := P) (w := w) (base := base) T
  refine T.F_l_any_order.ok sc_l_any_order (fun vs H Q E h => ?_) (fun cdv A outer s H vs Q E hr h => ?_)
  · obtain ⟨G, d, c, n, rfl, _⟩ := h
    rfl
  · obtain ⟨G, d, c, n, rfl, k, hn, q⟩ := h
    refine ⟨_, (pss_cons (ps_par (i := 2) (j := 3) (by rfl) sc_l_any_order.nd rfl rfl (by decide) rfl rfl (pa_cons (pe_call G_l_pick (hr.mono (by decide)) (by rfl) T.g_l_pick T.F_l_pick.kp T.b_l_pick .nil pass0 (pa_cons (pv 0) (pa_cons pe_int pa_nil))) (pa_cons (pe_listRg rfl (by rfl) T.z_list (prg_1 (by rfl) T.z_range (pv 1))) pa_nil)) (by rfl))
    (pss_cons (ps_if (pt_cmpR op_eq (pv 2) pe_int (nomark _)) (pss_one (ps_ret (pe_callTy cr_tupF (by rfl) T.z_tuple (by decide +kernel) (pa_cons (pe_revL (pv 3)) pa_nil)))) pss_nil)
    (pss_cons (ps_if (PW.pt (pw_and (pt_cmpR op_eq (pv 2) pe_int (nomark _)) (pw_and1 (pt_cmpR op_gt (pv 1) pe_int (nomark _))))) (pss_cons (ps_set (i := 4) sc_l_any_order.nd rfl (Or.inl rfl) (pe_call G_l_pick (hr.mono (by decide)) (by rfl) T.g_l_pick T.F_l_pick.kp T.b_l_pick .nil pass0 (pa_cons (pv 0) (pa_cons (pe_op op_sub (pv 1) pe_int) pa_nil))))
    (pss_one (ps_asg (pe_tup (pa_cons (pe_ix ix_list (pv 3) (pe_op op_add (pv 4) pe_int) (fun _ _ => rfl)) (pa_cons (pe_ix ix_list (pv 3) (pv 4) (fun _ _ => rfl)) pa_nil))) (pg_tup rfl (pgs_cons (pg_sub (pv 3) (pv 4) set_list) (pgs_cons (pg_sub (pv 3) (pe_op op_add (pv 4) pe_int) set_list) pgs_nil)))))) pss_nil)
    (pss_one (ps_ret (pe_callTy cr_tupF (by rfl) T.z_tuple (by decide +kernel) (pa_cons (pe_ifExp (pt_cmpR op_lt (pv 2) pe_int (nomark _)) (pv 3) (pe_call G_l_mixed (hr.mono (by decide)) (by rfl) T.g_l_mixed T.F_l_mixed.kp T.b_l_mixed .nil pass0 (pa_cons (pv 0) (pa_cons (pv 3) pa_nil)))) pa_nil))))))), ?_⟩
    refine ⟨.ref d, rfl, G, d, c, 6, rfl, k, by omega, fun turn H1 k1 t0 t1 => ?_⟩
    refine ⟨.int (n : Nat), rfl, (n : Int), rfl, RgOk.of_le (by decide) (by omega) (by decide) (by omega), fun r hr => ?_⟩
    rw [rgV_rgI]
    have gr : G r = none := k1.free hr
    have sr : Same G (upd G r (.lst ((rgI n).map V.int))) := same_new gr
    have k2 := k1.new (o := .lst ((rgI n).map V.int)) hr
    generalize upd H1 r (.lst ((rgI n).map V.int)) = H2 at k2
    refine ⟨_, _, rfl, ?_⟩
    have hr2 := k2.le r _ upd_same
    refine ⟨.int turn, rfl, rfl, _, rfl, ite2 (fun hb => ?_) (fun hb => ?_)⟩
    · refine ⟨.ref r, rfl, r, _, rfl, .inl (.inl hr2), fun p hp => ?_⟩
      have k3 := k2.new (o := .lst ((rgI n).map V.int).reverse) hp
      have gp : (upd G r (.lst ((rgI n).map V.int))) p = none := k2.free hp
      refine ⟨p, _, rfl, .inl ⟨.inl (.inl upd_same), fun l ob hl hob => ?_⟩⟩
      rw [← List.map_reverse] at k3 hl ⊢
      have k4 := k3.new (o := .frz ob (.tup ((rgI n).reverse.map V.int))) hl
      exact q l _ _ _ ((sr.trans (same_new gp)).trans (same_new (k3.free hl))) k4 ⟨ob, upd_same, hob⟩ (List.reverse_perm _)
    · refine ⟨.int turn, rfl, rfl, _, rfl, ?_⟩
      refine ift (fun b H' => H' = H2 ∧ (b = true → 1 < n)) ⟨rfl, fun z => by cases z⟩ (fun b H' e => ?_) (fun Y hY => ?_)
      · obtain ⟨rfl, e2⟩ := e
        refine ifs (fun σ' H' => ∃ (v4 : Option V) (ws : List Int), σ' = [some (.ref d), some (.int (n : Nat)), some (.int turn), some (.ref r), v4] ∧ Kn (upd G r (.lst (ws.map V.int))) H' d c ∧ ws.Perm (rgI n)) (fun σ' H' ⟨v4, ws, e, k3, pm⟩ => ?_) (fun hb N hN => ?_) (fun hb N hN => hN _ _ ⟨_, _, rfl, k2, List.Perm.refl _⟩)
        · subst e
          have hr3 := k3.le r _ upd_same
          have srw : Same G (upd G r (.lst (ws.map V.int))) := same_new gr
          refine ⟨.int turn, rfl, _, _, rfl, rfl, _, rfl, ite2 (fun hb => ?_) (fun hb => ?_)⟩
          · refine ⟨.ref r, rfl, r, _, rfl, .inl ⟨.inl (.inl hr3), fun l ob hl hob => ?_⟩⟩
            exact q l _ _ _ (srw.trans (same_new (k3.free hl))) (k3.new hl) ⟨ob, upd_same, hob⟩ pm
          · refine ⟨.ref d, rfl, .ref r, rfl, _, d, c, r, _, rfl, k3, .inl (.inl upd_same), ?_, fun l ys G' H3 s3 k4 hl pm2 _ => ?_⟩
            · rw [List.length_map, pm.length_eq, rgI_len]
              omega
            · obtain ⟨zs, rfl, pz⟩ := perm_ints pm2
              refine ⟨l, _, rfl, .inl ⟨.inl (.inl (k4.le _ _ hl)), fun t ob ht hob => ?_⟩⟩
              exact q t _ _ _ ((srw.trans s3).trans (same_new (k4.free ht))) (k4.new ht) ⟨ob, upd_same, hob⟩ (pz.trans pm)
        · have n1 := e2 hb
          refine ⟨.ref d, rfl, .int (n : Nat), rfl, _, _, rfl, rfl, _, d, c, (n : Int) - 1, rfl, k2, by omega, fun j H3 k3 j0 j1 => ?_⟩
          obtain ⟨i, rfl⟩ : ∃ i : Nat, j = i := ⟨j.toNat, by omega⟩
          have hi : i + 1 < (rgI n).length := by rw [rgI_len]; omega
          have hr3 := k3.le r _ upd_same
          have a1 : atI ((rgI n).map V.int) ((i : Int) + 1) = some (.int ((rgI n).getD (i + 1) 0)) := o_at (j := i + 1) hi
          have a2 : atI ((rgI n).map V.int) (i : Int) = some (.int ((rgI n).getD i 0)) := o_at (by omega)
          refine ⟨.ref r, rfl, .int (i : Nat), rfl, _, _, rfl, rfl, r, _, _, _, rfl, rfl, .inl (.inl hr3), a1, .ref r, rfl, .int (i : Nat), rfl, r, _, _, _, rfl, rfl, .inl (.inl hr3), a2, (by show 2 ≤ sizeLine; decide), fun Z hZ => ?_⟩
          have k4 := (k3.new (o := .tup [.int ((rgI n).getD (i + 1) 0), .int ((rgI n).getD i 0)]) hZ).weak (same_new (k3.free hZ))
          have hz4 : (upd H3 Z (.tup [.int ((rgI n).getD (i + 1) 0), .int ((rgI n).getD i 0)])) Z = some (.tup [.int ((rgI n).getD (i + 1) 0), .int ((rgI n).getD i 0)]) := upd_same
          generalize upd H3 Z (.tup [.int ((rgI n).getD (i + 1) 0), .int ((rgI n).getD i 0)]) = H4 at k4 hz4
          have hr4 := k4.le r _ upd_same
          have hlen : ((rgI n).map V.int).length = n := by rw [List.length_map, rgI_len]
          have hlen2 : (((rgI n).map V.int).set i (.int ((rgI n).getD (i + 1) 0))).length = n := by rw [List.length_set, hlen]
          refine ⟨Z, [.int ((rgI n).getD (i + 1) 0), .int ((rgI n).getD i 0)], rfl, .inl (.inl hz4), rfl, .int ((rgI n).getD (i + 1) 0), [.int ((rgI n).getD i 0)], rfl, .ref r, rfl, .int (i : Nat), rfl, r, _, _, i, rfl, rfl, hr4, by rw [hlen]; exact ixN_nat (by rw [rgI_len] at hi; omega), ?_⟩
          have k5 := k4.set (o' := .lst (((rgI n).map V.int).set i (.int ((rgI n).getD (i + 1) 0))))
          have hr5 := k5.le r _ upd_same
          refine ⟨.int ((rgI n).getD i 0), [], rfl, .ref r, rfl, .int (i : Nat), rfl, _, _, rfl, rfl, r, _, _, i + 1, rfl, rfl, hr5, by rw [hlen2]; exact ixN_nat (i := i + 1) (by rw [rgI_len] at hi; omega), ?_⟩
          have k6 := k5.set (o' := .lst ((((rgI n).map V.int).set i (.int ((rgI n).getD (i + 1) 0))).set (i + 1) (.int ((rgI n).getD i 0))))
          have es : (((rgI n).map V.int).set i (.int ((rgI n).getD (i + 1) 0))).set (i + 1) (.int ((rgI n).getD i 0)) = (stpN (rgI n) i).map V.int := by
            rw [← List.map_set, ← List.map_set, set_stpN hi]
          rw [es] at k6 ⊢
          exact ⟨rfl, hN _ _ ⟨_, _, rfl, k6, stpN_perm hi⟩⟩
      · refine ⟨.int (n : Nat), rfl, _, _, rfl, rfl, _, rfl, hY _ _ ⟨rfl, fun z => ?_⟩⟩
        have := of_decide_eq_true z
        omega
end

section
variable {P : Program} {w : World} {K : PySem.W.Frag} {mg : Str → Option Value} {base : Heap}
/-- the numbers 0 to n - 1, each once -/
def Ordr (o : List Int) : Prop := o.Perm (rgI o.length)
theorem Ordr.at {o : List Int} (h : Ordr o) {j : Nat} (hj : j < o.length) : 0 ≤ o[j] ∧ o[j] < o.length := by
  have := h.mem_iff.mp (List.getElem_mem hj)
  obtain ⟨i, hi, e⟩ := List.mem_map.mp this
  have := List.mem_range.mp hi
  omega
theorem Ordr.mem {o : List Int} (h : Ordr o) {x : Nat} (hx : x < o.length) : (x : Int) ∈ o :=
  h.mem_iff.mpr (List.mem_map.mpr ⟨x, List.mem_range.mpr hx, rfl⟩)
theorem Ordr.nd {o : List Int} (h : Ordr o) : o.Nodup := by
  refine h.nodup_iff.mpr ?_
  unfold rgI
  refine List.pairwise_map.mpr (List.nodup_range.imp fun {a b} h e => h (Int.ofNat.inj e))
theorem idx_at {o : List Int} (h : o.Nodup) {i : Nat} (hi : i < o.length) : o.idxOf o[i] = i := by
  have h1 : o.idxOf o[i] < o.length := List.idxOf_lt_length_of_mem (List.getElem_mem hi)
  have h2 : o[o.idxOf o[i]] = o[i] := List.getElem_idxOf h1
  have pw := List.pairwise_iff_getElem.mp h
  rcases Nat.lt_trichotomy (o.idxOf o[i]) i with c | c | c
  · exact absurd h2 (pw _ _ h1 hi c)
  · exact c
  · exact absurd h2.symm (pw _ _ hi h1 c)
/-- where each number stands -/
def plc (o : List Int) : List Int := (List.range o.length).map fun (x : Nat) => ((o.idxOf (x : Int) : Nat) : Int)
/-- the places so far -/
def plI (o : List Int) (i : Nat) : List Int := (List.range o.length).map fun (x : Nat) => if o.idxOf (x : Int) < i then ((o.idxOf (x : Int) : Nat) : Int) else 0
theorem plI_len (o : List Int) (i : Nat) : (plI o i).length = o.length := by
  unfold plI
  rw [List.length_map, List.length_range]
theorem plI_0 (o : List Int) : plI o 0 = List.replicate o.length 0 := by
  unfold plI
  rw [List.eq_replicate_iff]
  refine ⟨by rw [List.length_map, List.length_range], fun b hb => ?_⟩
  obtain ⟨x, _, rfl⟩ := List.mem_map.mp hb
  rw [if_neg (Nat.not_lt_zero _)]
theorem plI_n {o : List Int} (h : Ordr o) : plI o o.length = plc o := by
  unfold plI plc
  refine List.map_congr_left fun x hx => ?_
  rw [if_pos (List.idxOf_lt_length_of_mem (h.mem (List.mem_range.mp hx)))]
theorem plI_s {o : List Int} (h : Ordr o) {i : Nat} (hi : i < o.length) : (plI o i).set o[i].toNat (i : Int) = plI o (i + 1) := by
  have b := h.at hi
  refine List.ext_getElem? fun j => ?_
  rw [List.getElem?_set]
  unfold plI
  by_cases hj : j < o.length
  · rw [List.length_map, List.length_range, List.getElem?_map, List.getElem?_map, List.getElem?_range hj]
    by_cases e : o[i].toNat = j
    · subst e
      rw [if_pos rfl, if_pos hj]
      show some ((i : Nat) : Int) = some (if o.idxOf ((o[i].toNat : Nat) : Int) < i + 1 then ((o.idxOf ((o[i].toNat : Nat) : Int) : Nat) : Int) else 0)
      have e2 : ((o[i].toNat : Nat) : Int) = o[i] := by omega
      rw [e2, idx_at h.nd hi, if_pos (Nat.lt_succ_self i)]
    · rw [if_neg e]
      show some _ = some _
      have ne : o.idxOf (j : Int) ≠ i := fun z => by
        have h1 : o.idxOf (j : Int) < o.length := List.idxOf_lt_length_of_mem (h.mem hj)
        have h2 : o[o.idxOf (j : Int)] = (j : Int) := List.getElem_idxOf h1
        apply e
        have h3 : o[i] = (j : Int) := by
          rw [← h2]
          congr 1
          exact z.symm
        omega
      have iff : o.idxOf (j : Int) < i + 1 ↔ o.idxOf (j : Int) < i := by omega
      simp only [iff]
  · have n1 : o[i].toNat ≠ j := by omega
    rw [if_neg n1, List.getElem?_map, List.getElem?_map, List.getElem?_eq_none (by rw [List.length_range]; omega)]
    rfl
def spTB (K : PySem.W.Frag) : Sp := fun vs H Q _ => ∃ (t : Addr) (o : List Int), vs = [.ref t] ∧ SqT K H t (o.map V.int) ∧ o.length ≤ 100 ∧ Ordr o ∧ ∀ u H', Same H H' → H' u = some (.tup ((plc o).map V.int)) → Q (.ref u) H'
theorem ok_tback (T : Tx K mg) : FnOk P w K mg base CX0 1 T.f_turned_back T.d_turned_back ["order"] (spTB K) := by
  refine T.F_turned_back.ok sc_turned_back (fun vs H Q E h => ?_) (fun cdv A outer s H vs Q E hr h => ?_)
  · obtain ⟨t, o, rfl, _⟩ := h
    rfl
  · obtain ⟨t, o, rfl, hT, ol, ho, q⟩ := h
    refine ⟨_, (pss_cons (ps_set (i := 1) sc_turned_back.nd rfl (Or.inl rfl) (pe_op op_rep (pe_lst (pa_cons pe_int pa_nil)) (pe_callB call_len_seq (by rfl) T.z_len PySem.boot_len (pa_cons (pv 0) pa_nil))))
    (pss_cons (ps_for PassesOwn.never rfl (pi_enumM (by rfl) T.z_enumerate (pa_cons (pv 0) pa_nil)) (pg_tup rfl (pgs_cons (pg_name (i := 2) sc_turned_back.nd rfl (Or.inl rfl)) (pgs_cons (pg_name (i := 3) sc_turned_back.nd rfl (Or.inl rfl)) pgs_nil)))
    (pss_one (ps_asg (pv 2) (pg_sub (pv 1) (pv 3) set_list))))
    (pss_one (ps_ret (pe_callTy call_tuple_of (by rfl) T.z_tuple (by decide +kernel) (pa_cons (pv 1) pa_nil)))))), ?_⟩
    refine ⟨(by show 1 ≤ sizeLine; decide), fun l0 hl0 => ?_⟩
    have s0 : Same H (upd H l0 (.lst [.int 0])) := same_new hl0
    refine ⟨.ref t, rfl, t, _, rfl, .inr (sameT s0 hT), l0, _, [.int 0], rfl, rfl, upd_same, ?_⟩
    rw [List.length_map]
    refine ⟨by omega, by omega, (by show 1 * _ ≤ sizeLine; rw [Nat.one_mul]; exact Nat.le_of_lt (small1000 (by omega))), fun D hD => ?_⟩
    have e0 : (List.replicate ((o.length : Nat) : Int).toNat [V.int 0]).flatten = (plI o 0).map V.int := by
      rw [plI_0, List.map_replicate, show ((o.length : Nat) : Int).toNat = o.length by omega, List.flatten_replicate_singleton]
    rw [e0]
    have s1 := s0.trans (same_new (o := .lst ((plI o 0).map V.int)) hD)
    have hHD : H D = none := by
      cases e : H D with
      | none => rfl
      | some x => rw [s0 _ _ e] at hD; cases hD
    refine ⟨.ref t, rfl, false, t, _, rfl, sameT s1 hT, for_enumM (K := K) (k := false) (a := t) (xs := o.map V.int) (fun i σ H' => ∃ v2 v3 : Option V, σ = [some (.ref t), some (.ref D), v2, v3] ∧ Same H H' ∧ H' D = some (.lst ((plI o i).map V.int))) ⟨none, none, rfl, s1, upd_same⟩ (fun i σ H' ⟨_, _, _, sm, _⟩ => sameT sm hT) ?_ ?_⟩
    · rintro i x Z σ H1 hxi ⟨v2, v3, rfl, sm, hL⟩ hZ
      have hi := at_lt hxi
      rw [List.length_map] at hi
      obtain ⟨z, rfl, hz⟩ := ints_at hxi
      have ez : o[i] = z := by rw [List.getElem?_eq_getElem hi] at hz; exact Option.some.inj hz
      have b := ho.at hi
      rw [ez] at b
      have hLZ : (upd H1 Z (.tup [.int (i : Nat), .int z])) D = some (.lst ((plI o i).map V.int)) := same_new hZ _ _ hL
      have smZ := sm.trans (same_new (o := .tup [.int (i : Nat), .int z]) hZ)
      have tZ : (upd H1 Z (.tup [.int (i : Nat), .int z])) Z = some (.tup [.int (i : Nat), .int z]) := upd_same
      generalize upd H1 Z (.tup [.int (i : Nat), .int z]) = H2 at hLZ smZ tZ
      refine ⟨Z, [.int (i : Nat), .int z], rfl, .inl (.inl tZ), rfl, .int (i : Nat), [.int z], rfl, .int z, [], rfl, rfl, ?_⟩
      refine ⟨.int (i : Nat), rfl, .ref D, rfl, .int z, rfl, D, _, z, z.toNat, rfl, rfl, hLZ, ?_, ?_⟩
      · rw [List.length_map, plI_len]
        have e : z = ((z.toNat : Nat) : Int) := by omega
        conv => lhs; rw [e]
        exact ixN_nat (by omega)
      · have := plI_s ho hi
        rw [ez] at this
        refine ⟨_, _, rfl, fun b' o' e' => ?_, ?_⟩
        · rw [upd_ne (fun e => by rw [e, hHD] at e'; cases e')]
          exact smZ _ _ e'
        · rw [upd_same, ← this, List.map_set]
    · rintro σ H1 ⟨v2, v3, rfl, sm, hL⟩
      rw [List.length_map, plI_n ho] at hL
      refine ⟨.ref D, rfl, D, _, rfl, .inl ⟨.inl (.inl hL), fun u hu => ?_⟩⟩
      exact q u _ (sm.trans (same_new hu)) upd_same
end

section
variable {P : Program} {w : World} {K : PySem.W.Frag} {mg : Str → Option Value} {base : Heap}
/-- how many pairs of positions fall -/
def invn (o : List Int) : Int := ((List.range o.length).map fun (a : Nat) => ((((List.range a).filter fun (b : Nat) => decide (o.getD a 0 < o.getD b 0)).length : Nat) : Int)).sum
def spInv (K : PySem.W.Frag) : Sp := fun vs H Q _ => ∃ (t : Addr) (o : List Int), vs = [.ref t] ∧ SqT K H t (o.map V.int) ∧ o.length ≤ 100 ∧ ∀ H', Same H H' → Q (.int (invn o)) H'
theorem ok_linv (T : Tx K mg) : FnOk P w K mg base CX0 1 T.f_l_inversions T.d_l_inversions ["_law_order"] (spInv K) := by
  refine T.F_l_inversions.ok sc_l_inversions (fun vs H Q E h => ?_) (fun cdv A outer s H vs Q E hr h => ?_)
  · obtain ⟨t, o, rfl, _⟩ := h
    rfl
  · obtain ⟨t, o, rfl, hT, ol, q⟩ := h
    refine ⟨_, (pss_one (ps_ret (pe_callB (cr_sum rfl) (by rfl) T.z_sum (by decide +kernel) (pa_cons (pe_lc (own := [("_law_a", 1)]) (g := gName 1) rfl sc_l_inversions.nd (pi_range1 rfl T.z_range (pa_cons (pe_callB call_len_seq (by rfl) T.z_len PySem.boot_len (pa_cons (pv 0) pa_nil)) pa_nil)) (blkOk_by (own := [("_law_a", 1)]) (N := ["_law_order", "_law_a", "_law_b"]) (sc := defScope s_l_inversions) (by decide +kernel)) (fun _ _ _ _ _ => (pg_name (i := 1) sc_l_inversions.nd rfl (Or.inr rfl))) (fun _ _ _ _ _ => pts_nil) (fun _ _ _ _ _ => (pe_callB (show CallR _ _ (rLenOf K) from call_lenOf) (by rfl) T.z_len PySem.boot_len (pa_cons (pe_lc (own := [("_law_b", 2)]) (g := gName 2) rfl sc_l_inversions.nd (pi_range1 rfl T.z_range (pa_cons (pv 1) pa_nil)) (by dsimp only [Cx.blk, compEnvC]; exact blkOk_by (own := [("_law_b", 2)]) (N := ["_law_order", "_law_a", "_law_b"]) (by kernel_rfl)) (fun _ _ _ _ _ => (pg_name (i := 2) sc_l_inversions.nd rfl (Or.inl rfl))) (fun _ _ _ _ _ => (pts_one (pt_cmpR op_gt (pe_ix (show IxR _ (rIxT K) from ix_tup) (pv 0) (pv 2) (fun _ _ => rfl)) (pe_ix (show IxR _ (rIxT K) from ix_tup) (pv 0) (pv 1) (fun _ _ => rfl)) (nomark _)))) (fun _ _ _ _ _ => (pv 2))) pa_nil)))) pa_nil)))), ?_⟩
    refine ⟨.ref t, rfl, t, _, rfl, .inr hT, o.length, by rw [List.length_map], by omega, by omega, fun D hD => ?_⟩
    refine lc_range (lo := 0) (n := ((o.length : Nat) : Int).toNat) (fun i H' => (∀ b x, H b = some x → H' b = some x) ∧ H' D = some (.lst (((List.range i).map fun (a : Nat) => ((((List.range a).filter fun (b : Nat) => decide (o.getD a 0 < o.getD b 0)).length : Nat) : Int)).map V.int))) ⟨same_new hD, upd_same⟩ ?_ ?_
    · rintro i H1 hi ⟨sm, hL⟩
      have hi' : i < o.length := by omega
      rw [Int.zero_add]
      refine ⟨rfl, tyes ?_⟩
      refine ⟨.int (i : Nat), rfl, (i : Int), rfl, by omega, by omega, fun D2 hD2 => ?_⟩
      refine lc_range (lo := 0) (n := (i : Int).toNat) (fun j H' => (∀ b x, H1 b = some x → H' b = some x) ∧ H' D2 = some (.lst ((((List.range j).filter fun (b : Nat) => decide (o.getD i 0 < o.getD b 0)).map fun (b : Nat) => (b : Int)).map V.int))) ⟨same_new hD2, upd_same⟩ ?_ ?_
      · rintro j H2 hj ⟨sm2, hL2⟩
        have hj' : j < o.length := by omega
        rw [Int.zero_add]
        refine ⟨rfl, ?_⟩
        have hT2 := sameT (Same.trans sm sm2) hT
        have a1 : atI (o.map V.int) (j : Int) = some (.int (o.getD j 0)) := o_at hj'
        have a2 : atI (o.map V.int) (i : Int) = some (.int (o.getD i 0)) := o_at hi'
        refine ⟨.ref t, rfl, .int (j : Nat), rfl, t, _, _, _, rfl, rfl, hT2, a1, .ref t, rfl, .int (i : Nat), rfl, t, _, _, _, rfl, rfl, hT2, a2, _, _, rfl, rfl, ?_⟩
        refine ⟨_, rfl, ite2 (fun hb => ?_) (fun hb => ?_)⟩
        · refine ⟨_, rfl, _, hL2, ?_, fun b x e => ?_, ?_⟩
          · rw [List.length_map, List.length_map]
            refine Nat.lt_of_le_of_lt (List.length_filter_le _ _) ?_
            rw [List.length_range]
            exact small1000 (by omega)
          · rw [upd_ne (ne_of_none e hD2)]
            exact sm2 _ _ e
          · rw [upd_same, List.range_succ, List.filter_append, List.filter_cons, if_pos hb, List.map_append, List.map_append]
            rfl
        · refine ⟨sm2, ?_⟩
          rw [List.range_succ, List.filter_append, List.filter_cons, if_neg hb, List.filter_nil, List.append_nil]
          exact hL2
      · rintro H2 ⟨sm2, hL2⟩
        rw [show (i : Int).toNat = i by omega] at hL2
        refine ⟨D2, _, rfl, .inl (.inl (.inl hL2)), ?_⟩
        rw [List.length_map, List.length_map]
        refine ⟨_, sm2 _ _ hL, ?_, fun b x e => ?_, ?_⟩
        · rw [List.length_map, List.length_map, List.length_range]
          exact small1000 (by omega)
        · rw [upd_ne (ne_of_none e hD)]
          exact sm2 _ _ (sm _ _ e)
        · rw [upd_same, List.range_succ, List.map_append, List.map_append]
          rfl
    · rintro H1 ⟨sm, hL⟩
      rw [show ((o.length : Nat) : Int).toNat = o.length by omega] at hL
      refine nil_i ⟨D, _, rfl, .inl (.inl hL), ?_⟩
      exact q H1 sm
def row2 (n a : Nat) : List (Nat × Nat) := (List.range' (a + 1) (n - (a + 1))).map fun y => (a, y)
theorem tl_flat (n : Nat) : ∀ m a, CpCo.tlA n m a = (List.range' a m).flatMap (row2 n)
  | 0, _ => rfl
  | m + 1, a => by
    rw [List.range'_succ, List.flatMap_cons, ← tl_flat n m (a + 1)]
    rfl
theorem prs_flat (n : Nat) : CpCo.prs n = (List.range n).flatMap (row2 n) := by
  unfold CpCo.prs
  rw [tl_flat, List.range_eq_range']
end

section
variable {P : Program} {w : World} {K : PySem.W.Frag} {mg : Str → Option Value} {base : Heap}
/-- the pairs of positions that fall -/
def fll2 (o : List Int) (p : Nat × Nat) : Bool := decide (o.getD p.2 0 < o.getD p.1 0)
def rP2 (p : Nat × Nat) : List Int := [(p.1 : Int), (p.2 : Int)]
def fpR (o : List Int) : List (List Int) := ((CpCo.prs o.length).filter (fll2 o)).map rP2
def spFP (K : PySem.W.Frag) : Sp := fun vs H Q _ => ∃ (t : Addr) (o : List Int), vs = [.ref t] ∧ SqT K H t (o.map V.int) ∧ o.length ≤ 30 ∧ ∀ l ts H', Same H H' → H l = none → H' l = some (.lst ts) → Rows K H' ts (fpR o) → Q (.ref l) H'
theorem ok_falling_pairs (T : Tx K mg) : FnOk P w K mg base CX0 1 T.f_falling_pairs T.d_falling_pairs ["order"] (spFP K) := by
  refine T.F_falling_pairs.ok sc_falling_pairs (fun vs H Q E h => ?_) (fun cdv A outer s H vs Q E hr h => ?_)
  · obtain ⟨t, o, rfl, _⟩ := h
    rfl
  · obtain ⟨t, o, rfl, hT, ol, q⟩ := h
    refine ⟨_, (pss_one (ps_ret (pe_lc (own := [("a", 1), ("b", 2)]) (g := gTup K 2 (gCons (gName 1) (gCons (gName 2) gNil))) rfl sc_falling_pairs.nd (CpCo.pi_comb rfl (by rfl) T.t_combinations (pa_cons (pe_callTy cr_range1 (by rfl) T.z_range (by decide +kernel) (pa_cons (pe_callB call_len_seq (by rfl) T.z_len PySem.boot_len (pa_cons (pv 0) pa_nil)) pa_nil)) (pa_cons pe_int pa_nil))) (blkOk_by (own := [("a", 1), ("b", 2)]) (N := ["order", "a", "b"]) (sc := defScope s_falling_pairs) (by decide +kernel)) (fun _ _ _ _ _ => (show PG _ _ (gTup K 2 (gCons (gName 1) (gCons (gName 2) gNil))) from (pg_tup rfl (pgs_cons (pg_name (i := 1) sc_falling_pairs.nd rfl (Or.inl rfl)) (pgs_cons (pg_name (i := 2) sc_falling_pairs.nd rfl (Or.inl rfl)) pgs_nil))))) (fun _ _ _ _ _ => (pts_one (pt_cmpR op_gt (pe_ix (show IxR _ (rIxT K) from ix_tup) (pv 0) (pv 1) (fun _ _ => rfl)) (pe_ix (show IxR _ (rIxT K) from ix_tup) (pv 0) (pv 2) (fun _ _ => rfl)) (nomark _)))) (fun _ _ _ _ _ => (pe_tup (pa_cons (pv 1) (pa_cons (pv 2) pa_nil))))))), ?_⟩
    refine ⟨.ref t, rfl, t, _, rfl, .inr hT, ?_⟩
    rw [List.length_map]
    refine ⟨(o.length : Nat), rfl, fun pr hpr => ?_⟩
    have s2 := (Same.refl H).trans (same_new (o := .rng 0 ((o.length : Nat) : Int)) hpr)
    have hr2 : (upd H pr (.rng 0 ((o.length : Nat) : Int))) pr = some (.rng 0 ((o.length : Nat) : Int)) := upd_same
    generalize upd H pr (.rng 0 ((o.length : Nat) : Int)) = H2 at s2 hr2
    refine ⟨pr, o.length, rfl, hr2, by omega, fun D hD => ?_⟩
    have pl30 : (CpCo.prs o.length).length ≤ 900 := Nat.le_trans (prs_len _) (Nat.mul_le_mul ol ol)
    refine lc_comb (n := o.length) (fun i H' => (∀ b x, H2 b = some x → H' b = some x) ∧ ∃ ts, H' D = some (.lst ts) ∧ Rows K H' ts ((((CpCo.prs o.length).take i).filter (fll2 o)).map rP2)) ⟨same_new hD, [], upd_same, .nil⟩ ?_ ?_
    · rintro i a b Z H3 hab ⟨sm, ts, hL, hR⟩ hZ
      have lt := prs_at hab
      have smZ : Same H2 (upd H3 Z (.tup [.int (a : Nat), .int (b : Nat)])) := Same.trans sm (same_new hZ)
      have hLZ := same_new (o := .tup [.int (a : Nat), .int (b : Nat)]) hZ _ _ hL
      have hRZ := hR.mono (same_new (o := .tup [.int (a : Nat), .int (b : Nat)]) hZ)
      have tZ : (upd H3 Z (.tup [.int (a : Nat), .int (b : Nat)])) Z = some (.tup [.int (a : Nat), .int (b : Nat)]) := upd_same
      generalize upd H3 Z (.tup [.int (a : Nat), .int (b : Nat)]) = H4 at smZ hLZ hRZ tZ
      refine ⟨Z, [.int (a : Nat), .int (b : Nat)], rfl, .inl (.inl tZ), rfl, .int (a : Nat), [.int (b : Nat)], rfl, .int (b : Nat), [], rfl, rfl, rfl, ?_⟩
      have hT4 : SqT K H4 t (o.map V.int) := sameT (s2.trans smZ) hT
      have atb : atI (o.map V.int) ((b : Nat) : Int) = some (.int (o.getD b 0)) := o_at lt.2
      have ata : atI (o.map V.int) ((a : Nat) : Int) = some (.int (o.getD a 0)) := o_at (by omega)
      refine ⟨.ref t, rfl, .int (a : Nat), rfl, t, _, _, _, rfl, rfl, hT4, ata, .ref t, rfl, .int (b : Nat), rfl, t, _, _, _, rfl, rfl, hT4, atb, _, _, rfl, rfl, ?_⟩
      have e1 : (CpCo.prs o.length).take (i + 1) = (CpCo.prs o.length).take i ++ [(a, b)] := by rw [List.take_add_one, hab]; rfl
      have ln : ts.length ≤ 900 := by
        rw [hRZ.len, List.length_map]
        refine Nat.le_trans (List.length_filter_le _ _) ?_
        rw [List.length_take]
        omega
      refine ⟨_, rfl, ite2 (fun hb => ?_) (fun hb => ?_)⟩
      · have tb : fll2 o (a, b) = true := hb
        refine ⟨.int (a : Nat), rfl, .int (b : Nat), rfl, (by show 2 ≤ sizeLine; decide), fun Y hY => ?_⟩
        have sY := same_new (o := .tup [.int (a : Nat), .int (b : Nat)]) hY
        refine ⟨ts, sY _ _ hLZ, small1000 (by omega), fun c x e => ?_, ts ++ [.ref Y], upd_same, ?_⟩
        · rw [upd_ne (ne_of_none e hD)]
          exact sY _ _ (smZ _ _ e)
        · rw [e1, List.filter_append, List.filter_cons, if_pos tb, List.map_append]
          exact (rows_off (sY _ _ hLZ) (hRZ.mono sY)).append (.one (sqt_off (sY _ _ hLZ) (.inl (.inl upd_same))))
      · have tb : ¬ fll2 o (a, b) = true := hb
        refine ⟨smZ, ts, hLZ, ?_⟩
        rw [e1, List.filter_append, List.filter_cons, if_neg tb, List.filter_nil, List.append_nil]
        exact hRZ
    · rintro H3 ⟨sm, ts, hL, hR⟩
      rw [List.take_length] at hR
      exact q D ts H3 (s2.trans sm) (Same.free s2 hD) hL hR
theorem sum_map_add {α : Type} (f g : α → Nat) : ∀ l : List α, (l.map fun a => f a + g a).sum = (l.map f).sum + (l.map g).sum
  | [] => rfl
  | a :: l => by
    rw [List.map_cons, List.map_cons, List.map_cons, List.sum_cons, List.sum_cons, List.sum_cons, sum_map_add f g l]
    omega
theorem sum_swap {α β : Type} (f : α → β → Nat) (m : List β) : ∀ l : List α, (l.map fun a => (m.map fun b => f a b).sum).sum = (m.map fun b => (l.map fun a => f a b).sum).sum
  | [] => by
    show 0 = (m.map fun _ => 0).sum
    induction m with
    | nil => rfl
    | cons b m ih => rw [List.map_cons, List.sum_cons, ← ih, Nat.zero_add]
  | a :: l => by
    rw [List.map_cons, List.sum_cons, sum_swap f m l, ← sum_map_add]
    rfl
theorem sum_ones {α : Type} (P : α → Bool) : ∀ l : List α, (l.map fun y => if P y = true then 1 else 0).sum = (l.filter P).length
  | [] => rfl
  | y :: l => by
    rw [List.map_cons, List.sum_cons, sum_ones P l, List.filter_cons]
    split
    · rw [List.length_cons]; omega
    · omega
theorem len_flat {α β : Type} (f : α → List β) (P : β → Bool) : ∀ l : List α, ((l.flatMap f).filter P).length = (l.map fun a => ((f a).filter P).length).sum
  | [] => rfl
  | a :: l => by rw [List.flatMap_cons, List.filter_append, List.length_append, List.map_cons, List.sum_cons, len_flat f P l]
theorem cast_sum : ∀ l : List Nat, ((l.map fun (k : Nat) => (k : Int)).sum) = ((l.sum : Nat) : Int)
  | [] => rfl
  | k :: l => by rw [List.map_cons, List.sum_cons, List.sum_cons, cast_sum l]; omega
theorem range_cut {n a : Nat} (h : a ≤ n) : List.range n = List.range a ++ List.range' a (n - a) := by
  rw [List.range_eq_range', List.range_eq_range']
  conv => lhs; rw [show n = a + (n - a) by omega]
  rw [← List.range'_append_1, Nat.zero_add]
/-- as many falling pairs as inversions -/
theorem fp_count (o : List Int) : (((fpR o).length : Nat) : Int) = invn o := by
  have f : ∀ a b : Nat, (if (decide (a < b) && decide (o.getD b 0 < o.getD a 0)) = true then 1 else 0) = (if (decide (a < b) && decide (o.getD b 0 < o.getD a 0)) = true then 1 else 0) := fun _ _ => rfl
  have left : (fpR o).length = ((List.range o.length).map fun a => ((List.range o.length).map fun b => if (decide (a < b) && decide (o.getD b 0 < o.getD a 0)) = true then 1 else 0).sum).sum := by
    unfold fpR
    rw [List.length_map, prs_flat, len_flat]
    congr 1
    refine List.map_congr_left fun a ha => ?_
    have ha := List.mem_range.mp ha
    rw [sum_ones (fun b => decide (a < b) && decide (o.getD b 0 < o.getD a 0)), range_cut (show a + 1 ≤ o.length by omega), List.filter_append, List.length_append]
    have z : (List.range (a + 1)).filter (fun b => decide (a < b) && decide (o.getD b 0 < o.getD a 0)) = [] := by
      rw [List.filter_eq_nil_iff]
      intro b hb
      have := List.mem_range.mp hb
      rw [Bool.and_eq_true, decide_eq_true_eq]
      omega
    rw [z, List.length_nil, Nat.zero_add]
    unfold row2
    rw [List.filter_map, List.length_map]
    congr 1
    refine List.filter_congr fun b hb => ?_
    have hb := List.mem_range'_1.mp hb
    show decide (o.getD b 0 < o.getD a 0) = _
    rw [decide_eq_true (show a < b by omega), Bool.true_and]
  have right : invn o = ((((List.range o.length).map fun b => ((List.range o.length).map fun a => if (decide (a < b) && decide (o.getD b 0 < o.getD a 0)) = true then 1 else 0).sum).sum : Nat) : Int) := by
    rw [← cast_sum, List.map_map]
    unfold invn
    congr 1
    refine List.map_congr_left fun b hb => ?_
    have hb := List.mem_range.mp hb
    show _ = (((((List.range o.length).map fun a => if (decide (a < b) && decide (o.getD b 0 < o.getD a 0)) = true then 1 else 0).sum : Nat)) : Int)
    rw [sum_ones (fun a => decide (a < b) && decide (o.getD b 0 < o.getD a 0)), range_cut (Nat.le_of_lt hb), List.filter_append, List.length_append]
    have z : (List.range' b (o.length - b)).filter (fun a => decide (a < b) && decide (o.getD b 0 < o.getD a 0)) = [] := by
      rw [List.filter_eq_nil_iff]
      intro a ha
      have := List.mem_range'_1.mp ha
      rw [Bool.and_eq_true, decide_eq_true_eq]
      omega
    rw [z, List.length_nil, Nat.add_zero]
    congr 2
    refine List.filter_congr fun a ha => ?_
    have ha := List.mem_range.mp ha
    rw [decide_eq_true ha, Bool.true_and]
  rw [left, right, sum_swap]
def spInvs (K : PySem.W.Frag) : Sp := fun vs H Q _ => ∃ (t : Addr) (o : List Int), vs = [.ref t] ∧ SqT K H t (o.map V.int) ∧ o.length ≤ 30 ∧ ∀ H', Same H H' → Q (.int (invn o)) H'
theorem ok_inversions (T : Tx K mg) : FnOk P w K mg base CX0 2 T.f_inversions T.d_inversions ["order"] (spInvs K) := by
  have G_falling_pairs := ok_falling_pairs (P := P) (w := w) (base := base) T
  refine T.F_inversions.ok sc_inversions (fun vs H Q E h => ?_) (fun cdv A outer s H vs Q E hr h => ?_)
  · obtain ⟨t, o, rfl, _⟩ := h
    rfl
  · obtain ⟨t, o, rfl, hT, ol, q⟩ := h
    refine ⟨_, (pss_one (ps_ret (pe_callB call_len_seq (by rfl) T.z_len PySem.boot_len (pa_cons (pe_call G_falling_pairs (hr.mono (by decide)) (by rfl) T.g_falling_pairs T.F_falling_pairs.kp T.b_falling_pairs .nil pass0 (pa_cons (pv 0) pa_nil)) pa_nil)))), ?_⟩
    refine ⟨.ref t, rfl, t, o, rfl, hT, ol, fun l ts H1 s1 _ hl hR => ⟨l, ts, rfl, .inl (.inl (.inl hl)), ?_⟩⟩
    rw [hR.len, fp_count]
    exact q H1 s1
end

section
variable {P : Program} {w : World} {K : PySem.W.Frag} {mg : Str → Option Value} {base : Heap}
/-- an order of n, as data -/
def GoodO (n : Nat) (e : PyData) : Prop := ∃ o : List Int, e = .tuple (o.map PyData.int) ∧ o.length = n ∧ Ordr o
/-- as many numbers as places, each once: an order -/
theorem ordr_of {o : List Int} (h : ∀ x ∈ o, 0 ≤ x ∧ x < o.length) (nd : o.Nodup) : Ordr o := by
  have sub : ∀ (l m : List Int), l.Nodup → (∀ x ∈ l, x ∈ m) → m.length ≤ l.length → l.Perm m := by
    intro l
    induction l with
    | nil =>
      intro m _ _ hl
      cases m with
      | nil => exact .nil
      | cons _ _ => simp at hl
    | cons x l ih =>
      intro m hnd hm hl
      have hx := hm x List.mem_cons_self
      have p := List.perm_cons_erase hx
      have hn2 := List.nodup_cons.mp hnd
      refine (List.Perm.cons x (ih (m.erase x) hn2.2 (fun y hy => ?_) ?_)).trans p.symm
      · have hy2 := hm y (List.mem_cons_of_mem _ hy)
        exact (List.mem_erase_of_ne (fun e => hn2.1 (by rw [← e]; exact hy))).mpr hy2
      · rw [List.length_erase_of_mem hx]
        rw [List.length_cons] at hl
        omega
  refine sub o (rgI o.length) nd (fun x hx => ?_) (by rw [rgI_len]; exact Nat.le_refl _)
  obtain ⟨h1, h2⟩ := h x hx
  exact List.mem_map.mpr ⟨x.toNat, List.mem_range.mpr (by omega), by omega⟩
def spOF (K : PySem.W.Frag) : Sp := fun vs H Q _ => ∃ (n : Nat) (v : V) (e : PyData), vs = [.int (n : Nat), v] ∧ Kd K H v e ∧ n ≤ 900 ∧
  (∀ H', Same H H' → GoodO n e → Q .non H') ∧ (∀ (u : Addr) (xs : List V) (H' : Hp), Same H H' → H' u = some (.tup xs) → ¬ GoodO n e → Q (.ref u) H')
theorem ok_order_fault (T : Tx K mg) : FnOk P w K mg base CX0 2 T.f_order_fault T.d_order_fault ["n", "value"] (spOF K) := by
  have G_is_number := ok_is_numD (P := P) (w := w) (base := base) T
  refine T.F_order_fault.ok sc_order_fault (fun vs H Q E h => ?_) (fun cdv A outer s H vs Q E hr h => ?_)
  · obtain ⟨n, v, e, rfl, _⟩ := h
    rfl
  · obtain ⟨n, v, e, rfl, hk, n9, qg, qb⟩ := h
    refine ⟨_, (pss_cons (ps_if (PW.pt (pw_or (pt_not (pt_val (pe_callB call_isi (by rfl) T.z_isinstance (by decide +kernel) (pa_cons (pv 1) (pa_cons (pe_bltn (v := .ty "tuple") (by rfl) T.z_tuple (by decide +kernel) rfl) pa_nil))))) (pw_or1 (pt_cmpR op_ne (pe_callB call_len_seq (by rfl) T.z_len PySem.boot_len (pa_cons (pv 1) pa_nil)) (pv 0) (nomark _))))) (pss_one (ps_ret (pe_tup pa_nil))) pss_nil)
    (pss_cons (ps_for PassesOwn.never rfl (pi_enumM (by rfl) T.z_enumerate (pa_cons (pv 1) pa_nil)) (pg_tup rfl (pgs_cons (pg_name (i := 2) sc_order_fault.nd rfl (Or.inl rfl)) (pgs_cons (pg_name (i := 3) sc_order_fault.nd rfl (Or.inl rfl)) pgs_nil)))
    (pss_one (ps_if (PW.pt (pw_or (pt_not (pt_val (pe_call G_is_number (hr.mono (by decide)) (by rfl) T.g_is_number T.F_is_number.kp T.b_is_number .nil pass0 (pa_cons (pv 3) pa_nil)))) (pw_or (pt_cmpR op_ge (pv 3) (pv 0) (nomark _)) (pw_or1 (pt_cmpR op_in_seq (pv 3) (pe_slice sl_tupA (pv 1) po_none (po_some (pv 2))) (by rfl)))))) (pss_one (ps_ret (pe_tup (pa_cons (pv 2) pa_nil)))) pss_nil)))
    (pss_one (ps_ret pe_non)))), ?_⟩
    have bad : ∀ u (H' : Hp), H u = none → (∀ ds, e ≠ .tuple ds) → Q (.ref u) (upd H u (.tup [])) := fun u H' hu ne => qb u [] _ (same_new hu) upd_same fun ⟨o, eo, _⟩ => ne _ eo
    cases hk with
    | int i => exact ⟨_, rfl, _, .ty "tuple", _, _, false, rfl, .ty _, .base (.int i), kit_ty (by decide +kernel), false, rfl, iteT (iteT ⟨Nat.zero_le _, fun u hu => bad u H hu fun _ z => nomatch z⟩)⟩
    | bl b => exact ⟨_, rfl, _, .ty "tuple", _, _, false, rfl, .ty _, .base (.bl b), kit_ty (by decide +kernel), false, rfl, iteT (iteT ⟨Nat.zero_le _, fun u hu => bad u H hu fun _ z => nomatch z⟩)⟩
    | oth t ht ty n1 n2 n3 =>
      rcases ht with rfl | rfl | rfl | rfl
      · exact ⟨_, rfl, _, .ty "tuple", _, _, false, rfl, .ty _, ty, kit_ty (by decide +kernel), false, rfl, iteT (iteT ⟨Nat.zero_le _, fun u hu => bad u H hu n3⟩)⟩
      · exact ⟨_, rfl, _, .ty "tuple", _, _, false, rfl, .ty _, ty, kit_ty (by decide +kernel), false, rfl, iteT (iteT ⟨Nat.zero_le _, fun u hu => bad u H hu n3⟩)⟩
      · exact ⟨_, rfl, _, .ty "tuple", _, _, false, rfl, .ty _, ty, kit_ty (by decide +kernel), false, rfl, iteT (iteT ⟨Nat.zero_le _, fun u hu => bad u H hu n3⟩)⟩
      · exact ⟨_, rfl, _, .ty "tuple", _, _, false, rfl, .ty _, ty, kit_ty (by decide +kernel), false, rfl, iteT (iteT ⟨Nat.zero_le _, fun u hu => bad u H hu n3⟩)⟩
    | @tup a xs ds ht hlen hx =>
      refine ⟨_, rfl, _, .ty "tuple", _, _, true, rfl, .ty _, ty_tup ht, kit_ty (by decide +kernel), true, rfl, iteF ?_⟩
      refine ⟨.ref a, rfl, a, xs, rfl, .inr ht, .int (n : Nat), rfl, rfl, _, rfl, ?_⟩
      by_cases hn : xs.length = n
      · have hne : (!decide ((V.int ((xs.length : Nat) : Int)) = V.int (n : Int))) = false := by rw [hn]; simp
        rw [hne]
        refine iteF ?_
        refine ⟨.ref a, rfl, false, a, xs, rfl, ht, for_enumM (K := K) (k := false) (a := a) (xs := xs) (fun i σ H' => ∃ (v2 v3 : Option V) (pre : List Int), σ = [some (.int (n : Nat)), some (.ref a), v2, v3] ∧ Same H H' ∧ xs.take i = pre.map V.int ∧ ds.take i = pre.map PyData.int ∧ (∀ x ∈ pre, 0 ≤ x ∧ x < n) ∧ pre.Nodup) ⟨none, none, [], rfl, Same.refl H, rfl, rfl, (fun _ h => by cases h), .nil⟩ (fun i σ H' ⟨_, _, _, _, sm, _⟩ => sameT sm ht) ?_ ?_⟩
        · rintro i x Z σ H1 hxi ⟨v2, v3, pre, rfl, sm, hX, hD, hin, hnd⟩ hZ
          have sZ := sm.trans (same_new (o := .tup [.int (i : Nat), x]) hZ)
          have tZ : (upd H1 Z (.tup [.int (i : Nat), x])) Z = some (.tup [.int (i : Nat), x]) := upd_same
          generalize upd H1 Z (.tup [.int (i : Nat), x]) = H2 at sZ tZ
          obtain ⟨d, hd, hf⟩ := hx i x hxi
          have hi := at_lt hxi
          have hid : i < ds.length := by rw [← hlen]; exact hi
          have pl : pre.length = i := by
            have := congrArg List.length hX
            rw [List.length_take, List.length_map] at this
            omega
          refine ⟨Z, [.int (i : Nat), x], rfl, .inl (.inl tZ), rfl, .int (i : Nat), [x], rfl, x, [], rfl, rfl, ?_⟩
          refine ⟨x, rfl, x, d, rfl, hf.mono sZ, ?_⟩
          have back : ∀ (o : List Int), ds = o.map PyData.int → ∃ z, d = .int z ∧ o[i]? = some z := fun o eo => by
            rw [eo, List.getElem?_map] at hd
            cases ho : o[i]? with
            | none => rw [ho] at hd; cases hd
            | some z => rw [ho] at hd; exact ⟨z, (Option.some.inj hd).symm, rfl⟩
          have stop : ¬ GoodO n (.tuple ds) → ∀ {D : Ends} {σ' : L2.St} {H3 : Hp}, D.rt = Q → σ'[2]? = some (some (.int (i : Nat))) → Same H H3 → tRet (tTup (tCons (tVar 2) tNil)) D σ' H3 := fun ng D σ' H3 eD e2 s3 => by
            refine ⟨.int (i : Nat), e2, (by show 1 ≤ sizeLine; decide), fun u hu => ?_⟩
            rw [eD]
            exact qb u _ _ (s3.trans (same_new hu)) upd_same ng
          cases hnd' : numD d with
          | false =>
            refine ⟨false, rfl, iteT (iteT (stop ?_ rfl rfl sZ))⟩
            rintro ⟨o, eo, ol, oO⟩
            injection eo with eo
            obtain ⟨z, rfl, hz⟩ := back o eo
            obtain ⟨hio, rfl⟩ := List.getElem?_eq_some_iff.mp hz
            have := (oO.at hio).1
            rw [show numD (.int o[i]) = decide (0 ≤ o[i]) from rfl, decide_eq_true this] at hnd'
            cases hnd'
          | true =>
            obtain ⟨z, rfl, z0⟩ : ∃ z, d = .int z ∧ 0 ≤ z := by
              cases d with
              | int z => exact ⟨z, rfl, of_decide_eq_true hnd'⟩
              | _ => cases hnd'
            obtain rfl : x = .int z := by
              cases hf with
              | dp hh _ => cases hh; rfl
              | dct _ k => cases k
            refine ⟨true, rfl, iteF ?_⟩
            refine ⟨.int z, rfl, .int (n : Nat), rfl, _, _, rfl, rfl, _, rfl, ?_⟩
            by_cases hzn : (n : Int) ≤ z
            · rw [decide_eq_true hzn]
              refine iteT (iteT (stop ?_ rfl rfl sZ))
              rintro ⟨o, eo, ol, oO⟩
              injection eo with eo
              obtain ⟨z', e', hz⟩ := back o eo
              injection e' with e'
              obtain ⟨hio, rfl⟩ := List.getElem?_eq_some_iff.mp hz
              have := (oO.at hio).2
              omega
            · rw [decide_eq_false hzn]
              refine iteF ?_
              refine ⟨.int z, rfl, .ref a, rfl, np_i ⟨.int (i : Nat), rfl, (i : Int), rfl, ?_⟩⟩
              refine sl_any (sameT sZ ht) fun t3 H3 s3 ht3 => ?_
              rw [cut_nat, hX] at ht3
              have s13 := sZ.trans s3
              refine ⟨t3, _, rfl, .inr ht3, rfl, flat_ints _, decide (z ∈ pre), congrArg V.bl (by rw [if_neg (by decide), inV_ints]), ?_⟩
              refine ite2 (fun hb => ?_) (fun hb => ?_)
              · have hb := of_decide_eq_true hb
                refine stop ?_ rfl rfl s13
                rintro ⟨o, eo, ol, oO⟩
                injection eo with eo
                obtain ⟨z', e', hz⟩ := back o eo
                injection e' with e'
                subst e'
                obtain ⟨hio, ez⟩ := List.getElem?_eq_some_iff.mp hz
                have ep : pre = o.take i := by
                  have h1 : ds.take i = (o.take i).map PyData.int := by rw [eo, List.map_take]
                  rw [hD] at h1
                  exact (List.map_inj_right fun x y h => by injection h).mp h1
                rw [ep] at hb
                obtain ⟨j, hj, ej⟩ := List.mem_iff_getElem.mp hb
                rw [List.length_take] at hj
                rw [List.getElem_take] at ej
                exact (List.pairwise_iff_getElem.mp oO.nd) j i (by omega) hio (by omega) (ej.trans ez.symm)
              · have hb := of_decide_eq_false (Bool.eq_false_iff.mpr hb)
                refine ⟨_, _, pre ++ [z], rfl, s13, ?_, ?_, ?_, ?_⟩
                · rw [List.take_add_one, hX, hxi, List.map_append]
                  rfl
                · rw [List.take_add_one, hD, hd, List.map_append]
                  rfl
                · intro y hy
                  rcases List.mem_append.mp hy with hy | hy
                  · exact hin y hy
                  · rw [List.mem_singleton.mp hy]
                    omega
                · refine List.nodup_append.mpr ⟨hnd, List.pairwise_singleton _ _, fun y hy z' hz' e => hb ?_⟩
                  rw [← List.mem_singleton.mp hz', ← e]
                  exact hy
        · rintro σ H1 ⟨v2, v3, pre, rfl, sm, hX, hD, hin, hnd⟩
          rw [List.take_length] at hX
          rw [hlen, List.take_length] at hD
          refine qg H1 sm ⟨pre, by rw [hD], ?_, ordr_of ?_ hnd⟩
          · have := congrArg List.length hX
            rw [List.length_map] at this
            omega
          · have := congrArg List.length hX
            rw [List.length_map] at this
            rw [← this, hn]
            exact hin
      · have hne : (!decide ((V.int ((xs.length : Nat) : Int)) = V.int (n : Int))) = true := by
          rw [decide_eq_false (fun z => hn (by injection z with z; omega))]
          rfl
        rw [hne]
        refine iteT ⟨Nat.zero_le _, fun u hu => qb u [] _ (same_new hu) upd_same fun ⟨o, eo, ol, _⟩ => hn ?_⟩
        injection eo with eo
        rw [hlen, eo, List.length_map]
        exact ol
end

section
variable {P : Program} {w : World} {K : PySem.W.Frag} {mg : Str → Option Value} {base : Heap}
def intO : PyData → Option Int
  | .int i => some i
  | _ => none
def intsO (ds : List PyData) (i : Nat) : List Int := (ds.take i).filterMap intO
theorem ints_all : ∀ {ds : List PyData}, (ds.filterMap intO).length = ds.length → ds = (ds.filterMap intO).map PyData.int
  | [], _ => rfl
  | d :: ds, h => by
    cases e : intO d with
    | none =>
      rw [List.filterMap_cons_none e, List.length_cons] at h
      have := List.length_filterMap_le intO ds
      omega
    | some i =>
      rw [List.filterMap_cons_some e] at h ⊢
      rw [List.length_cons, List.length_cons] at h
      have ih := ints_all (ds := ds) (by omega)
      rw [List.map_cons, ← ih]
      cases d with
      | int j => cases e; rfl
      | _ => cases e
theorem ints_map (o : List Int) : (o.map PyData.int).filterMap intO = o := by
  induction o with
  | nil => rfl
  | cons x o ih =>
    rw [List.map_cons, List.filterMap_cons_some (f := intO) (b := x) rfl, ih]
theorem srt_eq : ∀ {a b : List Int}, a.Perm b → a.Pairwise (· ≤ ·) → b.Pairwise (· ≤ ·) → a = b
  | [], b, h, _, _ => by rw [List.nil_perm.mp h]
  | x :: a, [], h, _, _ => absurd h.length_eq (by simp)
  | x :: a, y :: b, h, h1, h2 => by
    have q1 := List.pairwise_cons.mp h1
    have q2 := List.pairwise_cons.mp h2
    have hxy : x = y := by
      have m1 : x ∈ y :: b := h.mem_iff.mp List.mem_cons_self
      have m2 : y ∈ x :: a := h.mem_iff.mpr List.mem_cons_self
      rcases List.mem_cons.mp m1 with e | e
      · exact e
      · rcases List.mem_cons.mp m2 with f | f
        · exact f.symm
        · have := q2.1 x e
          have := q1.1 y f
          omega
    subst hxy
    rw [srt_eq (List.Perm.cons_inv h) q1.2 q2.2]
theorem rgI_srt (n : Nat) : (rgI n).Pairwise (· ≤ ·) := by
  unfold rgI
  refine List.pairwise_map.mpr (List.pairwise_lt_range.imp fun {a b} h => ?_)
  omega
theorem shp_ilO (r : List Int) : SeqAt.shaped (.list (r.map .int)) = true := by
  have h := shp_row r
  unfold SeqAt.shaped dR at *
  simpa [PyData.canLay0, PyData.depth] using h
theorem eqvAll_intsO : ∀ (a b : List Int), PyData.eqvAll (a.map PyData.int) (b.map PyData.int) = decide (a = b)
  | [], [] => by simp [PyData.eqvAll]
  | [], _ :: _ => by simp [PyData.eqvAll]
  | _ :: _, [] => by simp [PyData.eqvAll]
  | x :: a, y :: b => by
    have := eqvAll_intsO a b
    simp [PyData.eqvAll, PyData.eqv, this]
    rfl
theorem eqv_ilO (a b : List Int) : PyData.eqv (.list (a.map PyData.int)) (.list (b.map PyData.int)) = decide (a = b) := by
  rw [← eqvAll_intsO]
  simp [PyData.eqv]
def spIsO (K : PySem.W.Frag) : Sp := fun vs H Q _ => ∃ (n : Nat) (v : V) (e : PyData), vs = [.int (n : Nat), v] ∧ Kd K H v e ∧ n ≤ 60 ∧
  (∀ H', Same H H' → GoodO n e → Q (.bl true) H') ∧ (∀ H', Same H H' → ¬ GoodO n e → Q (.bl false) H')
theorem ok_is_order (T : Tx K mg) : FnOk P w K mg base CX0 3 T.f_is_order T.d_is_order ["n", "value"] (spIsO K) := by
  have G_order_fault := ok_order_fault (P := P) (w := w) (base := base) T
  refine T.F_is_order.ok sc_is_order (fun vs H Q E h => ?_) (fun cdv A outer s H vs Q E hr h => ?_)
  · obtain ⟨n, v, e, rfl, _⟩ := h
    rfl
  · obtain ⟨n, v, e, rfl, hk, n9, qg, qb⟩ := h
    refine ⟨_, (pss_one (ps_ret (pe_cmpR op_isN (pe_call G_order_fault (hr.mono (by decide)) (by rfl) T.g_order_fault T.F_order_fault.kp T.b_order_fault .nil pass0 (pa_cons (pv 0) (pa_cons (pv 1) pa_nil))) pe_non (nomark _)))), ?_⟩
    refine ⟨.int (n : Nat), rfl, v, rfl, n, v, e, rfl, hk, by omega, fun H' s' g => ⟨rfl, ?_⟩, fun u xs H' s' hu ng => ⟨rfl, ?_⟩⟩
    · rw [decide_eq_true rfl]
      exact qg H' s' g
    · rw [decide_eq_false (fun z => nomatch z)]
      exact qb H' s' ng
theorem ok_lis_order (T : Tx K mg) : FnOk P w K mg base CX0 1 T.f_l_is_order T.d_l_is_order ["_law_n", "_law_value"] (spIsO K) := by
  refine T.F_l_is_order.ok sc_l_is_order (fun vs H Q E h => ?_) (fun cdv A outer s H vs Q E hr h => ?_)
  · obtain ⟨n, v, e, rfl, _⟩ := h
    rfl
  · obtain ⟨n, v, e, rfl, hk, n9, qg, qb⟩ := h
    have hu := hu_of hr
    refine ⟨_, (pss_cons (ps_if (PW.pt (pw_or (pt_not (pt_val (pe_callB call_isi (by rfl) T.z_isinstance (by decide +kernel) (pa_cons (pv 1) (pa_cons (pe_bltn (v := .ty "tuple") (by rfl) T.z_tuple (by decide +kernel) rfl) pa_nil))))) (pw_or1 (pt_cmpR op_ne (pe_callB call_len_seq (by rfl) T.z_len PySem.boot_len (pa_cons (pv 1) pa_nil)) (pv 0) (nomark _))))) (pss_one (ps_ret pe_bl)) pss_nil)
    (pss_cons (ps_setLc (i := 2) (own := [("_law_member", 3)]) (g := gName 3) rfl sc_l_is_order.nd rfl rfl (sw_true rfl rfl rfl (by decide +kernel)) (pi_tup (pv 1)) (blkOk_by (own := [("_law_member", 3)]) (N := ["_law_n", "_law_value", "_law_good", "_law_member"]) (sc := defScope s_l_is_order) (by decide +kernel)) (fun _ _ _ _ _ => (pg_name (i := 3) sc_l_is_order.nd rfl (Or.inl rfl))) (fun _ _ _ _ _ => (pts_one (PW.pt (pw_and (pt_val (pe_callB (show CallR _ (.builtin "isinstance") (rIsi K) from call_isi) (by rfl) T.z_isinstance (by decide +kernel) (pa_cons (pv 3) (pa_cons (pe_bltn (v := .ty "int") (by rfl) T.z_int (by decide +kernel) rfl) pa_nil)))) (pw_and1 (pt_not (pt_val (pe_callB (show CallR _ (.builtin "isinstance") (rIsi K) from call_isi) (by rfl) T.z_isinstance (by decide +kernel) (pa_cons (pv 3) (pa_cons (pe_bltn (v := .ty "bool") (by rfl) T.z_bool (by decide +kernel) rfl) pa_nil)))))))))) (fun _ _ _ _ _ => (pv 3)))
    (pss_one (ps_ret (pe_and (pe_cmpR op_eq (pe_callB call_len_seq (by rfl) T.z_len PySem.boot_len (pa_cons (pv 2) pa_nil)) (pv 0) (nomark _)) (pe_one (pe_cmpR (op_eqD hr.units) (pe_callB cr_sorted (by rfl) T.z_sorted (by decide +kernel) (pa_cons (pv 2) pa_nil)) (pe_listRg rfl (by rfl) T.z_list (prg_1 (by rfl) T.z_range (pv 0))) (nomark _)))))))), ?_⟩
    cases hk with
    | int i => exact ⟨_, rfl, _, .ty "tuple", _, _, false, rfl, .ty _, .base (.int i), kit_ty (by decide +kernel), false, rfl, iteT (iteT (qb H (Same.refl H) fun ⟨o, eo, _⟩ => nomatch eo))⟩
    | bl b => exact ⟨_, rfl, _, .ty "tuple", _, _, false, rfl, .ty _, .base (.bl b), kit_ty (by decide +kernel), false, rfl, iteT (iteT (qb H (Same.refl H) fun ⟨o, eo, _⟩ => nomatch eo))⟩
    | oth t ht ty n1 n2 n3 =>
      have ng : ¬ GoodO n e := fun ⟨o, eo, _⟩ => n3 _ eo
      rcases ht with rfl | rfl | rfl | rfl
      · exact ⟨_, rfl, _, .ty "tuple", _, _, false, rfl, .ty _, ty, kit_ty (by decide +kernel), false, rfl, iteT (iteT (qb H (Same.refl H) ng))⟩
      · exact ⟨_, rfl, _, .ty "tuple", _, _, false, rfl, .ty _, ty, kit_ty (by decide +kernel), false, rfl, iteT (iteT (qb H (Same.refl H) ng))⟩
      · exact ⟨_, rfl, _, .ty "tuple", _, _, false, rfl, .ty _, ty, kit_ty (by decide +kernel), false, rfl, iteT (iteT (qb H (Same.refl H) ng))⟩
      · exact ⟨_, rfl, _, .ty "tuple", _, _, false, rfl, .ty _, ty, kit_ty (by decide +kernel), false, rfl, iteT (iteT (qb H (Same.refl H) ng))⟩
    | @tup a xs ds ht hlen hx =>
      refine ⟨_, rfl, _, .ty "tuple", _, _, true, rfl, .ty _, ty_tup ht, kit_ty (by decide +kernel), true, rfl, iteF ?_⟩
      refine ⟨.ref a, rfl, a, xs, rfl, .inr ht, .int (n : Nat), rfl, rfl, _, rfl, ?_⟩
      by_cases hn : xs.length = n
      · have hne : (!decide ((V.int ((xs.length : Nat) : Int)) = V.int (n : Int))) = false := by rw [hn]; simp
        rw [hne]
        refine iteF ?_
        refine ⟨.ref a, rfl, a, rfl, ⟨_, ht⟩, fun D hD => ?_⟩
        refine lc_tup (K := K) (a := a) (xs := xs) (fun i H' => (∀ b o, H b = some o → H' b = some o) ∧ H' D = some (.lst ((intsO ds i).map V.int))) ⟨same_new hD, upd_same⟩ (fun i H' _ ⟨sm, _⟩ => sameT sm ht) ?_ ?_
        · rintro i x H1 hxi ⟨sm, hL⟩
          obtain ⟨d, hd, hf⟩ := hx i x hxi
          have hi := at_lt hxi
          have hf1 := hf.mono sm
          have lnI : (intsO ds i).length ≤ 60 := by
            unfold intsO
            refine Nat.le_trans (List.length_filterMap_le _ _) ?_
            rw [List.length_take]
            omega
          have e1 : intsO ds (i + 1) = intsO ds i ++ (intO d).toList := by
            unfold intsO
            rw [List.take_add_one, hd, List.filterMap_append]
            show _ = _
            congr 1
          refine ⟨rfl, ?_⟩
          have no : intO d = none → (∀ b o, H b = some o → H1 b = some o) ∧ H1 D = some (.lst ((intsO ds (i + 1)).map V.int)) := fun en => by
            refine ⟨sm, ?_⟩
            rw [e1, en]
            show _ = some (HO.lst ((intsO ds i ++ []).map V.int))
            rw [List.append_nil]
            exact hL
          cases lf_kd hf1 with
          | int z =>
            refine ⟨_, rfl, _, .ty "int", _, _, true, rfl, .ty _, .base (.int z), kit_ty (by decide +kernel), true, rfl, iteT ?_⟩
            refine ⟨_, rfl, _, .ty "bool", _, _, false, rfl, .ty _, .base (.int z), kit_ty (by decide +kernel), false, rfl, iteT ?_⟩
            refine ⟨_, rfl, _, hL, by rw [List.length_map]; exact small1000 (by omega), fun b o e => ?_, ?_⟩
            · rw [upd_ne (ne_of_none e hD)]
              exact sm _ _ e
            · rw [upd_same, e1, List.map_append]
              rfl
          | bl b =>
            refine ⟨_, rfl, _, .ty "int", _, _, true, rfl, .ty _, .base (.bl b), kit_ty (by decide +kernel), true, rfl, iteT ?_⟩
            refine ⟨_, rfl, _, .ty "bool", _, _, true, rfl, .ty _, .base (.bl b), kit_ty (by decide +kernel), true, rfl, iteF ?_⟩
            exact no rfl
          | tup ht2 hl2 hx2 =>
            refine ⟨_, rfl, _, .ty "int", _, _, false, rfl, .ty _, ty_tup ht2, kit_ty (by decide +kernel), false, rfl, iteF (iteF ?_)⟩
            exact no rfl
          | oth t ht2 ty n1 n2 n3 =>
            have en : intO d = none := by
              cases d with
              | int i => exact absurd rfl (n1 i)
              | _ => rfl
            rcases ht2 with rfl | rfl | rfl | rfl
            · exact ⟨_, rfl, _, .ty "int", _, _, false, rfl, .ty _, ty, kit_ty (by decide +kernel), false, rfl, iteF (iteF (no en))⟩
            · exact ⟨_, rfl, _, .ty "int", _, _, false, rfl, .ty _, ty, kit_ty (by decide +kernel), false, rfl, iteF (iteF (no en))⟩
            · exact ⟨_, rfl, _, .ty "int", _, _, false, rfl, .ty _, ty, kit_ty (by decide +kernel), false, rfl, iteF (iteF (no en))⟩
            · exact ⟨_, rfl, _, .ty "int", _, _, false, rfl, .ty _, ty, kit_ty (by decide +kernel), false, rfl, iteF (iteF (no en))⟩
        · rintro H1 ⟨sm, hL⟩
          have eI : intsO ds xs.length = ds.filterMap intO := by
            unfold intsO
            rw [hlen, List.take_length]
          rw [eI] at hL
          have lI : (ds.filterMap intO).length ≤ n := by
            rw [← hn, hlen]
            exact List.length_filterMap_le _ _
          refine ⟨.ref D, rfl, D, _, rfl, .inl (.inl (.inl hL)), .int (n : Nat), rfl, rfl, ?_⟩
          rw [List.length_map]
          refine ⟨_, rfl, ?_⟩
          by_cases hl : (ds.filterMap intO).length = n
          · rw [show decide (V.int (((ds.filterMap intO).length : Nat) : Int) = V.int (n : Int)) = true from decide_eq_true (by rw [hl])]
            refine iteT ⟨.ref D, rfl, D, _, rfl, .inl (.inl hL), by omega, fun ns' p pm srt hp => ?_⟩
            have s2 := same_new (o := .lst (ns'.map V.int)) hp
            have hp2 : (upd H1 p (.lst (ns'.map V.int))) p = some (.lst (ns'.map V.int)) := upd_same
            generalize upd H1 p (.lst (ns'.map V.int)) = H2 at s2 hp2
            refine ⟨.int (n : Nat), rfl, (n : Int), rfl, RgOk.of_le (by decide) (by omega) (by decide) (by omega), fun r hr => ?_⟩
            rw [rgV_rgI]
            have s3 := same_new (o := .lst ((rgI n).map V.int)) hr
            refine ⟨.list (ns'.map PyData.int), .list ((rgI n).map PyData.int), .lst (.inl (.inl (s3 _ _ hp2))) (dp_ints _), .lst (.inl (.inl upd_same)) (dp_ints _), shp_ilO _, shp_ilO _, ?_⟩
            rw [eqv_ilO]
            have sH : Same H (upd H2 r (.lst ((rgI n).map V.int))) := (Same.trans sm s2).trans s3
            have pm2 := pm
            have eqn : (ds.filterMap intO).length = ds.length := by rw [hl, ← hlen, hn]
            have eds := ints_all eqn
            by_cases g : ns' = rgI n
            · rw [decide_eq_true g]
              refine qg _ sH ⟨ds.filterMap intO, by rw [← eds], hl, ?_⟩
              unfold Ordr
              rw [hl, ← g]
              exact pm.symm
            · rw [decide_eq_false g]
              refine qb _ sH fun ⟨o, eo, ol, oO⟩ => g ?_
              injection eo with eo
              rw [eo, ints_map] at pm2
              refine srt_eq (pm2.trans ?_) srt (rgI_srt n)
              unfold Ordr at oO
              rw [ol] at oO
              exact oO
          · rw [show decide (V.int (((ds.filterMap intO).length : Nat) : Int) = V.int (n : Int)) = false from decide_eq_false (fun z => hl (by injection z with z; omega))]
            refine iteF (qb H1 sm fun ⟨o, eo, ol, oO⟩ => hl ?_)
            injection eo with eo
            rw [eo, ints_map]
            exact ol
      · have hne : (!decide ((V.int ((xs.length : Nat) : Int)) = V.int (n : Int))) = true := by
          rw [decide_eq_false (fun z => hn (by injection z with z; omega))]
          rfl
        rw [hne]
        refine iteT (qb H (Same.refl H) fun ⟨o, eo, ol, _⟩ => hn ?_)
        injection eo with eo
        rw [hlen, eo, List.length_map]
        exact ol
end

section
variable {P : Program} {w : World} {K : PySem.W.Frag} {mg : Str → Option Value} {base : Heap}
/-- C(v) runs: the exception keeps v -/
def spKeep (K : PySem.W.Frag) (C : Addr) (fld : Str) : Sp := fun vs H Q _ => ∃ (a : Addr) (v : V), vs = [.ref a, v] ∧ LkC K C ∧ PySem.W.takerIn K C fld = some none ∧ H a = some (exo a C none) ∧
  ∀ dx, H dx = none → dx ≠ a → Q .non (upd (upd H dx (exd dx [(fld, v)])) a (exo a C (some dx)))
theorem ok_NoLevel_init (T : Tx K mg) : FnOk P w K mg base CX0 1 T.f_NoLevel_init T.d_NoLevel_init ["self", "level"] (spKeep K T.C_NoLevel "level") := by
  refine T.F_NoLevel_init.ok sc_NoLevel_init (fun vs H Q E h => ?_) (fun cdv A outer s H vs Q E hr h => ?_)
  · obtain ⟨a, v, rfl, _⟩ := h
    rfl
  · obtain ⟨a, v, rfl, o, np, ha, q⟩ := h
    refine ⟨_, (pss_one (ps_lkf (pv 0) (pv 1))), ?_⟩
    exact ⟨v, rfl, .ref a, rfl, a, _, rfl, o, np, ha, q⟩
/-- what stands behind a raised exception that keeps v -/
structure ThrV (C : Addr) (fld : Str) (H : Hp) (v : V) (cls : Value) (d : Option Addr) (H' : Hp) : Prop where
  c : cls = .ref C
  s : Same H H'
  f : ∃ dd : Addr, d = some dd ∧ H' dd = some (.xd [(fld, v)])
theorem keptV {C : Addr} {fld : Str} {H H1 : Hp} {a : Addr} {v : V} {E : XK} (o : LkC K C) (np : PySem.W.takerIn K C fld = some none) (s : Same H H1) (ha : H1 a = none)
    (q : ∀ cls d H', ThrV C fld H v cls d H' → E cls d H') :
    spKeep K C fld [.ref a, v] (upd H1 a (exo a C none)) (fun z H2 => z = .non ∧ ∃ (d : Addr) (fs : List (Str × V)), H2 a = some (exo a C (some d)) ∧ H2 d = some (exd d fs) ∧ H1 d = none ∧ E (.ref C) (some d) (upd (del H2 a) d (.xd fs))) fun _ _ _ => False := by
  refine ⟨a, v, rfl, o, np, upd_same, fun dx hdx ne => ⟨rfl, dx, _, upd_same, by rw [upd_ne ne, upd_same], by rw [upd_ne ne] at hdx; exact hdx, ?_⟩⟩
  have hd1 : H1 dx = none := by rw [upd_ne ne] at hdx; exact hdx
  have sm : Same H1 (upd (del (upd (upd (upd H1 a (exo a C none)) dx (exd dx [(fld, v)])) a (exo a C (some dx))) a) dx (.xd [(fld, v)])) := fun b x e => by
    have n1 : b ≠ a := ne_of_none e ha
    have n2 : b ≠ dx := ne_of_none e hd1
    rw [upd_ne n2, del_ne n1, upd_ne n1, upd_ne n2, upd_ne n1]
    exact e
  exact q _ _ _ ⟨rfl, s.trans sm, dx, rfl, upd_same⟩
end

section
open LamX
/-- the names are as many as they were -/
theorem takes_len {X : Cx} {W : WX} (t : Takes X W) : Takes X (fun c d σ H => σ.length = X.N.length → W c d σ H) := fun u s' ⟨a, B, sI, pins, σ, H, cls, d, e, I, nb, up, sky, na, os, ag, w⟩ =>
  t u s' ⟨a, B, sI, pins, σ, H, cls, d, e, I, nb, up, sky, na, os, ag, w I.len⟩
/-- what a call tells of the def that looks which level is refused and keeps it in a name -/
def TNol (CS : Addr) : (XK → Hp → VK → Prop) → Hp → VK → Prop := fun tl H Q =>
  ∀ l0, H l0 = none → tl (fun cls d H' => cls = .ref CS ∧ ∃ (dd : Addr) (v : V), d = some dd ∧ H' dd = some (.xd [("level", v)]) ∧ ∀ l, H' l = none → Q (.ref l) (upd H' l (.lst [v]))) (upd H l0 (.lst [])) (fun _ H' => ∃ v, (some (some (V.ref l0)) : Option (Option V)) = some (some v) ∧ Q v H')
theorem nol_gives {X : Cx} {g CS : Addr} {cdg : Value} {q : Str} (hme : X.mg "NoLevel" = some (.ref CS)) (me : PySem.W.exmOne X.K (.ref CS) (.ref CS) = some true) (xf : XfC X.K CS) (np : PySem.W.findIn X.K (.ref CS) "level" = some none) :
    GivesTo X ["_law_call", "_law_found", "e"] "_law_no_level" (defScope s_l_no_level) g cdg (defBody s_l_no_level) "_law_call" q (TNol CS) := by
  intro f c' s H Q tl act hc h
  refine ⟨_, (pss_cons (ps_set (i := 1) sc_l_no_level.nd rfl (Or.inl rfl) (pe_lst pa_nil))
    (pss_cons (ps_try_as (X := (cxOf CX0 X.prog X.w X.K X.mg X.base ["_law_call", "_law_found", "e"] "_law_no_level" (defScope s_l_no_level) g cdg X.A X.stack s H E0).nox) (c := .ref CS) (i := 2) (Wout := fun _ _ _ _ => False) (tb := fun W D σ H => ∃ Ech : XK, (∀ cls d σ' H', Ech cls d H' → σ'.length = 3 → W cls d σ' H') ∧ σ[0]? = some (some (.ref f)) ∧ H c' = some (CodeO c' q) ∧ tl Ech H (fun _ H' => D.nx σ H')) rfl rfl sc_l_no_level.nd rfl rfl ⟨rfl, by decide, Or.inl hme⟩ L2.takes0 (fun W pn xe tk _ => ?_) (fun a oe cls d pn hz hf => pss_one (ps_set (i := 1) sc_l_no_level.nd rfl (Or.inl rfl) (pe_lst (pa_cons (pe_xf xf np hz hf (pv 2)) pa_nil)))))
    (pss_one (ps_ret (pv 1))))), ?_⟩
  · refine ⟨fun pins s' σ H' D I h' => ?_⟩
    obtain ⟨Ech, hW, h1, h2, h3⟩ := h'
    exact (pss_one (ps_expr (act _ pn xe Ech _ _ (takes_len tk) hW))).run pins s' σ H' D I ⟨h1, h2, h3⟩
  · refine ⟨Nat.zero_le _, fun l0 hl0 => ?_⟩
    refine ⟨fun cls d H' => cls = .ref CS ∧ ∃ (dd : Addr) (v : V), d = some dd ∧ H' dd = some (.xd [("level", v)]) ∧ ∀ l, H' l = none → Q (.ref l) (upd H' l (.lst [v])), fun cls d σ' H' ⟨e1, dd, v, e2, e3, e4⟩ hl => ?_, rfl, same_new hl0 _ _ hc, h l0 hl0⟩
    refine ⟨true, by rw [e1]; exact me, fun _ a ha => ?_, fun z => nomatch z⟩
    refine ⟨.ref a, List.getElem?_set_self (by omega), rfl, e1, dd, _, v, e2, e3, rfl, (by show 1 ≤ sizeLine; decide), fun l hl2 => ?_⟩
    exact ⟨.ref l, by rw [List.getElem?_set_ne (by decide), List.getElem?_set_self (by rw [List.length_set]; omega)], e4 l hl2⟩
end

section
variable {P : Program} {w : World} {K : PySem.W.Frag} {mg : Str → Option Value} {base : Heap}
/-- no level of n numbers -/
def BadS (n : Nat) (v : V) (d : PyData) : Prop := numD d = false ∨ ∃ z : Int, v = .int z ∧ d = .int z ∧ ¬ (1 ≤ z ∧ z < n)
def spSteppedX (K : PySem.W.Frag) (X : Addr) : Sp := fun vs H _ E => ∃ (t : Addr) (o : List Int) (v : V) (d : PyData), vs = [.ref t, v] ∧ SqT K H t (o.map V.int) ∧ Lf K H v d ∧ BadS o.length v d ∧ ∀ cls dd H', ThrV X "level" H v cls dd H' → E cls dd H'
theorem ok_stepped_odd (T : Tx K mg) : FnOk P w K mg base (L2.CX P w) 3 T.f_stepped T.d_stepped ["order", "level"] (spSteppedX K T.C_NoLevel) := by
  have G_is_number := ok_is_numD (P := P) (w := w) (base := base) T
  have G_NoLevel_init := ok_NoLevel_init (P := P) (w := w) (base := base) T
  refine T.F_stepped.okX sc_stepped (fun vs H Q E h => ?_) (fun cdv A outer s H vs Q E hr h => ?_)
  · obtain ⟨t, o, v, d, rfl, _⟩ := h
    rfl
  · obtain ⟨t, o, v, d, rfl, hT, hl, bad, q⟩ := h
    refine ⟨_, (pss_cons (ps_if (PW.pt (pw_or (pt_not (pt_val (pe_call G_is_number (hr.mono (by decide)) (by rfl) T.g_is_number T.F_is_number.kp T.b_is_number .nil pass0 (pa_cons (pv 1) pa_nil)))) (pw_or1 (pt_not (pt_chain op_le op_lt pe_int (pv 1) (pe_callB call_len_seq (by rfl) T.z_len PySem.boot_len (pa_cons (pv 0) pa_nil))))))) (pss_one (ps_raise rfl (takes_of (E := E) rfl rfl rfl rfl) (pmk_lk T.y_NoLevel.ox T.y_NoLevel.iC T.y_NoLevel.tI G_NoLevel_init (hr.mono (by decide)) T.b_NoLevel_init pass0 rfl T.y_NoLevel.g (pa_cons (pv 1) pa_nil)))) pss_nil)
    (pss_one ps_dead)), ?_⟩
    have fin : ∀ a : Addr, H a = none → spKeep K T.C_NoLevel "level" [.ref a, v] (upd H a (exo a T.C_NoLevel none)) (fun z H2 => z = .non ∧ ∃ (d : Addr) (fs : List (Str × V)), H2 a = some (exo a T.C_NoLevel (some d)) ∧ H2 d = some (exd d fs) ∧ H d = none ∧ E (.ref T.C_NoLevel) (some d) (upd (del H2 a) d (.xd fs))) fun _ _ _ => False :=
      fun a ha => keptV T.y_NoLevel.ox T.y_NoLevel.fr (Same.refl _) ha q
    refine ⟨v, rfl, v, d, rfl, hl, ?_⟩
    cases hn : numD d with
    | false => exact ⟨false, rfl, iteT (iteT ⟨v, rfl, (by show 1 ≤ 1000; decide), fin⟩)⟩
    | true =>
      obtain ⟨z, ev, ed, hz⟩ : ∃ z : Int, v = .int z ∧ d = .int z ∧ ¬ (1 ≤ z ∧ z < o.length) := by
        rcases bad with b | b
        · rw [hn] at b; cases b
        · exact b
      subst ev
      refine ⟨true, rfl, iteF ?_⟩
      refine ⟨.int z, rfl, _, _, rfl, rfl, _, rfl, ?_⟩
      by_cases h1 : 1 ≤ z
      · rw [if_pos (decide_eq_true h1)]
        refine ⟨.ref t, rfl, t, _, rfl, .inr hT, _, _, rfl, rfl, _, rfl, ?_⟩
        rw [List.length_map, decide_eq_false (fun h2 => hz ⟨h1, h2⟩)]
        exact iteT ⟨.int z, rfl, (by show 1 ≤ 1000; decide), fin⟩
      · rw [if_neg (by rw [decide_eq_true_eq]; exact h1)]
        exact ⟨false, rfl, iteT ⟨.int z, rfl, (by show 1 ≤ 1000; decide), fin⟩⟩
end

/-! ### data that is short enough to be shown -/
structure Fit (d : PyData) : Prop where
  sh : d.showable = true
  dp : d.depth ≤ 10
  ls : d.leavesShort 40 = true
  bk : d.bulk ≤ 100
theorem Fit.len {d : PyData} (h : Fit d) : d.shown.length ≤ sizeLine := by
  have h1 := PyData.shown_le_bulk 40 (by decide) d h.ls
  have h2 := h.bk
  rw [sizeLine_eq]
  omega
theorem fit_int {i : Int} (h0 : 0 ≤ i) (h : i < 1000000) : Fit (.int i) := by
  have s := shw_int h0 h
  refine ⟨s.sh, Nat.le_trans s.dp (by decide), ?_, Nat.le_trans s.bk (by decide)⟩
  have := s.ls
  simp only [PyData.leavesShort, decide_eq_true_eq] at this ⊢
  omega
theorem shw_fits : ∀ {ns : List Int}, (∀ x ∈ ns, 0 ≤ x ∧ x < 1000000) → PyData.showableAll (ns.map PyData.int) = true ∧ PyData.depthAll (ns.map PyData.int) ≤ 1 ∧ PyData.leavesShortAll 40 (ns.map PyData.int) = true ∧ PyData.bulkAll (ns.map PyData.int) = ns.length
  | [], _ => ⟨rfl, by simp [PyData.depthAll], rfl, by simp [PyData.bulkAll]⟩
  | n :: ns, h => by
    have hn := h n (by simp)
    have f := fit_int hn.1 hn.2
    obtain ⟨a1, a2, a3, a4⟩ := shw_fits (ns := ns) fun x hx => h x (by simp [hx])
    refine ⟨?_, ?_, ?_, ?_⟩
    · simp only [List.map_cons, PyData.showableAll, f.sh, a1, Bool.and_self]
    · simp only [List.map_cons, PyData.depthAll, PyData.depth]; omega
    · simp only [List.map_cons, PyData.leavesShortAll, f.ls, a3, Bool.and_self]
    · simp only [List.map_cons, PyData.bulkAll, PyData.bulk, a4, List.length_cons]; omega
theorem fit_row {ns : List Int} (h : ∀ x ∈ ns, 0 ≤ x ∧ x < 1000000) (hl : ns.length ≤ 100) : Fit (.tuple (ns.map PyData.int)) := by
  obtain ⟨a1, a2, a3, a4⟩ := shw_fits h
  refine ⟨by simpa only [PyData.showable] using a1, ?_, by simpa only [PyData.leavesShort] using a3, ?_⟩
  · simp only [PyData.depth]; omega
  · simp only [PyData.bulk, a4]; exact hl
theorem fit_list {ns : List Int} (h : ∀ x ∈ ns, 0 ≤ x ∧ x < 1000000) (hl : ns.length ≤ 100) : Fit (.list (ns.map PyData.int)) := by
  obtain ⟨a1, a2, a3, a4⟩ := shw_fits h
  refine ⟨by simpa only [PyData.showable] using a1, ?_, by simpa only [PyData.leavesShort] using a3, ?_⟩
  · simp only [PyData.depth]; omega
  · simp only [PyData.bulk, a4]; exact hl
theorem fit_in {ns : List Int} (h : ∀ x ∈ ns, 0 ≤ x ∧ x < 1000000) (hl : ns.length ≤ 90) : Fit (.tuple [.tuple (ns.map PyData.int)]) ∧ Fit (.list [.tuple (ns.map PyData.int)]) := by
  obtain ⟨a1, a2, a3, a4⟩ := shw_fits h
  refine ⟨⟨?_, ?_, ?_, ?_⟩, ⟨?_, ?_, ?_, ?_⟩⟩
  all_goals first
    | (simp only [PyData.showable, PyData.showableAll, a1, Bool.and_self]; done)
    | (simp only [PyData.leavesShort, PyData.leavesShortAll, a3, Bool.and_self]; done)
    | (simp only [PyData.depth, PyData.depthAll]; omega)
    | (simp only [PyData.bulk, PyData.bulkAll, a4]; omega)
/-- as an entry among whole numbers -/
structure FitE (d : PyData) : Prop where
  sh : d.showable = true
  dp : d.depth ≤ 8
  ls : d.leavesShort 40 = true
  bk : d.bulk ≤ 20
theorem FitE.fit {d : PyData} (h : FitE d) : Fit d := ⟨h.sh, Nat.le_trans h.dp (by decide), h.ls, Nat.le_trans h.bk (by decide)⟩
theorem fitE_int {i : Int} (h0 : 0 ≤ i) (h : i < 1000000) : FitE (.int i) := by
  have f := fit_int h0 h
  exact ⟨f.sh, by simp only [PyData.depth]; omega, f.ls, by simp only [PyData.bulk]; omega⟩
theorem fit_mix {d : PyData} (hd : FitE d) {post : List Int} (hp : ∀ x ∈ post, 0 ≤ x ∧ x < 1000000) : ∀ {pre : List Int}, (∀ x ∈ pre, 0 ≤ x ∧ x < 1000000) →
    PyData.showableAll (pre.map PyData.int ++ d :: post.map PyData.int) = true ∧ PyData.depthAll (pre.map PyData.int ++ d :: post.map PyData.int) ≤ 8 ∧ PyData.leavesShortAll 40 (pre.map PyData.int ++ d :: post.map PyData.int) = true ∧ PyData.bulkAll (pre.map PyData.int ++ d :: post.map PyData.int) ≤ pre.length + post.length + 21
  | [], _ => by
    obtain ⟨a1, a2, a3, a4⟩ := shw_fits hp
    have b1 := hd.dp
    have b2 := hd.bk
    refine ⟨?_, ?_, ?_, ?_⟩
    · simp only [List.map_nil, List.nil_append, PyData.showableAll, hd.sh, a1, Bool.and_self]
    · simp only [List.map_nil, List.nil_append, PyData.depthAll]; omega
    · simp only [List.map_nil, List.nil_append, PyData.leavesShortAll, hd.ls, a3, Bool.and_self]
    · simp only [List.map_nil, List.nil_append, PyData.bulkAll, a4, List.length_nil]; omega
  | n :: ns, h => by
    have hn := h n (by simp)
    have f := fit_int hn.1 hn.2
    obtain ⟨a1, a2, a3, a4⟩ := fit_mix hd hp (pre := ns) fun x hx => h x (by simp [hx])
    refine ⟨?_, ?_, ?_, ?_⟩
    · simp only [List.map_cons, List.cons_append, PyData.showableAll, f.sh, a1, Bool.and_self]
    · simp only [List.map_cons, List.cons_append, PyData.depthAll, PyData.depth]; omega
    · simp only [List.map_cons, List.cons_append, PyData.leavesShortAll, f.ls, a3, Bool.and_self]
    · simp only [List.map_cons, List.cons_append, PyData.bulkAll, PyData.bulk, List.length_cons]; omega
theorem fit_mixT {d : PyData} (hd : FitE d) {pre post : List Int} (h1 : ∀ x ∈ pre, 0 ≤ x ∧ x < 1000000) (h2 : ∀ x ∈ post, 0 ≤ x ∧ x < 1000000) (hl : pre.length + post.length ≤ 79) : Fit (.tuple (pre.map PyData.int ++ d :: post.map PyData.int)) := by
  obtain ⟨a1, a2, a3, a4⟩ := fit_mix hd h2 h1
  refine ⟨by simpa only [PyData.showable] using a1, ?_, by simpa only [PyData.leavesShort] using a3, ?_⟩
  · simp only [PyData.depth]; omega
  · simp only [PyData.bulk]; omega
section
variable {P : Program} {w : World} {K : PySem.W.Frag} {mg : Str → Option Value} {base : Heap}
/-- something odd -/
def spOdd (K : PySem.W.Frag) : Sp := fun vs H Q _ => ∃ (G : Hp) (d c : Addr), vs = [.ref d] ∧ Kn G H d c ∧ ∀ (v : V) (e : PyData) (F G' H' : Hp), Same G G' → Kn G' H' d c → Lf K F v e → Same F G' → (∀ b, H b ≠ none → F b = none) → FitE e → Q v H'
theorem ok_odd (T : Tx K mg) : FnOk P w K mg base CX0 3 T.f_l_odd T.d_l_odd ["_law_source_here"] (spOdd K) := by
  have G_l_of := ok_of (P := P) (w := w) (base := base) T
  refine T.F_l_odd.ok sc_l_odd (fun vs H Q E h => ?_) (fun cdv A outer s H vs Q E hr h => ?_)
  · obtain ⟨G, d, c, rfl, _⟩ := h
    rfl
  · obtain ⟨G, d, c, rfl, k, q⟩ := h
    have hu := hu_of hr
    refine ⟨_, (pss_cons (ps_set (i := 1) sc_l_odd.nd rfl (Or.inl rfl) (pe_lst (pa_cons pe_non (pa_cons pe_bl (pa_cons pe_bl (pa_cons (pe_un un_neg pe_int) (pa_cons pe_int (pa_cons (pe_op op_pow pe_int pe_int) (pa_cons pe_str (pa_cons pe_str (pa_cons pe_str (pa_cons (pe_tup pa_nil) (pa_cons (pe_lst pa_nil) (pa_cons pe_dnewK (pa_cons (pe_tup (pa_cons pe_non pa_nil)) (pa_cons (pe_lst (pa_cons (pe_tup pa_nil) pa_nil)) (pa_cons (pe_tup (pa_cons pe_int pa_nil)) (pa_cons (pe_tup (pa_cons (pe_tup (pa_cons pe_int pa_nil)) pa_nil)) (pa_cons (pe_tup (pa_cons (pe_tup (pa_cons pe_int (pa_cons pe_int pa_nil))) pa_nil)) pa_nil)))))))))))))))))))
    (pss_one (ps_ret (pe_call G_l_of (hr.mono (by decide)) (by rfl) T.g_l_of T.F_l_of.kp T.b_l_of .nil pass0 (pa_cons (pv 0) (pa_cons (pe_op op_cat (pv 1) (pe_lst (pa_cons (pe_disp (pps_cons pe_int pe_int pps_nil) (by rfl) (by rfl) (fun z => by cases z) (by decide)) pa_nil))) pa_nil)))))), ?_⟩
    refine ⟨1, rfl, 10, 30, rfl, rfl, (by unfold CPow; decide), ?_⟩
    refine ⟨Nat.zero_le _, fun t1 h1 => ?_⟩
    have k1 := k.new (o := .tup []) h1
    have w1 := (Same.refl H).trans (same_new (o := .tup []) h1)
    have hh1 : H t1 = none := (Same.refl H).free h1
    have s1 : Same G (upd G t1 (.tup [])) := same_new (k.free h1)
    have f1 : (upd G t1 (.tup [])) t1 = some (.tup []) := upd_same
    generalize upd G t1 (.tup []) = G1 at k1 s1 f1
    refine ⟨Nat.zero_le _, fun t2 h2 => ?_⟩
    have k2 := k1.new (o := .lst []) h2
    have w2 := w1.trans (same_new (o := .lst []) h2)
    have hh2 : H t2 = none := w1.free h2
    have s2 : Same G1 (upd G1 t2 (.lst [])) := same_new (k1.free h2)
    have f2 : (upd G1 t2 (.lst [])) t2 = some (.lst []) := upd_same
    generalize upd G1 t2 (.lst []) = G2 at k2 s2 f2
    intro t3 h3
    have k3 := k2.new (o := .dK []) h3
    have w3 := w2.trans (same_new (o := .dK []) h3)
    have hh3 : H t3 = none := w2.free h3
    have s3 : Same G2 (upd G2 t3 (.dK [])) := same_new (k2.free h3)
    have f3 : (upd G2 t3 (.dK [])) t3 = some (.dK []) := upd_same
    generalize upd G2 t3 (.dK []) = G3 at k3 s3 f3
    refine ⟨(by show 1 ≤ sizeLine; decide), fun t4 h4 => ?_⟩
    have k4 := k3.new (o := .tup [.non]) h4
    have w4 := w3.trans (same_new (o := .tup [.non]) h4)
    have hh4 : H t4 = none := w3.free h4
    have s4 : Same G3 (upd G3 t4 (.tup [.non])) := same_new (k3.free h4)
    have f4 : (upd G3 t4 (.tup [.non])) t4 = some (.tup [.non]) := upd_same
    generalize upd G3 t4 (.tup [.non]) = G4 at k4 s4 f4
    refine ⟨Nat.zero_le _, fun t5 h5 => ?_⟩
    have k5 := k4.new (o := .tup []) h5
    have w5 := w4.trans (same_new (o := .tup []) h5)
    have hh5 : H t5 = none := w4.free h5
    have s5 : Same G4 (upd G4 t5 (.tup [])) := same_new (k4.free h5)
    have f5 : (upd G4 t5 (.tup [])) t5 = some (.tup []) := upd_same
    generalize upd G4 t5 (.tup []) = G5 at k5 s5 f5
    refine ⟨(by show 1 ≤ sizeLine; decide), fun t6 h6 => ?_⟩
    have k6 := k5.new (o := .lst [.ref t5]) h6
    have w6 := w5.trans (same_new (o := .lst [.ref t5]) h6)
    have hh6 : H t6 = none := w5.free h6
    have s6 : Same G5 (upd G5 t6 (.lst [.ref t5])) := same_new (k5.free h6)
    have f6 : (upd G5 t6 (.lst [.ref t5])) t6 = some (.lst [.ref t5]) := upd_same
    generalize upd G5 t6 (.lst [.ref t5]) = G6 at k6 s6 f6
    refine ⟨(by show 1 ≤ sizeLine; decide), fun t7 h7 => ?_⟩
    have k7 := k6.new (o := .tup [.int 0]) h7
    have w7 := w6.trans (same_new (o := .tup [.int 0]) h7)
    have hh7 : H t7 = none := w6.free h7
    have s7 : Same G6 (upd G6 t7 (.tup [.int 0])) := same_new (k6.free h7)
    have f7 : (upd G6 t7 (.tup [.int 0])) t7 = some (.tup [.int 0]) := upd_same
    generalize upd G6 t7 (.tup [.int 0]) = G7 at k7 s7 f7
    refine ⟨(by show 1 ≤ sizeLine; decide), fun t8 h8 => ?_⟩
    have k8 := k7.new (o := .tup [.int 0]) h8
    have w8 := w7.trans (same_new (o := .tup [.int 0]) h8)
    have hh8 : H t8 = none := w7.free h8
    have s8 : Same G7 (upd G7 t8 (.tup [.int 0])) := same_new (k7.free h8)
    have f8 : (upd G7 t8 (.tup [.int 0])) t8 = some (.tup [.int 0]) := upd_same
    generalize upd G7 t8 (.tup [.int 0]) = G8 at k8 s8 f8
    refine ⟨(by show 1 ≤ sizeLine; decide), fun t9 h9 => ?_⟩
    have k9 := k8.new (o := .tup [.ref t8]) h9
    have w9 := w8.trans (same_new (o := .tup [.ref t8]) h9)
    have hh9 : H t9 = none := w8.free h9
    have s9 : Same G8 (upd G8 t9 (.tup [.ref t8])) := same_new (k8.free h9)
    have f9 : (upd G8 t9 (.tup [.ref t8])) t9 = some (.tup [.ref t8]) := upd_same
    generalize upd G8 t9 (.tup [.ref t8]) = G9 at k9 s9 f9
    refine ⟨(by show 2 ≤ sizeLine; decide), fun t10 h10 => ?_⟩
    have k10 := k9.new (o := .tup [.int 1, .int 0]) h10
    have w10 := w9.trans (same_new (o := .tup [.int 1, .int 0]) h10)
    have hh10 : H t10 = none := w9.free h10
    have s10 : Same G9 (upd G9 t10 (.tup [.int 1, .int 0])) := same_new (k9.free h10)
    have f10 : (upd G9 t10 (.tup [.int 1, .int 0])) t10 = some (.tup [.int 1, .int 0]) := upd_same
    generalize upd G9 t10 (.tup [.int 1, .int 0]) = G10 at k10 s10 f10
    refine ⟨(by show 1 ≤ sizeLine; decide), fun t11 h11 => ?_⟩
    have k11 := k10.new (o := .tup [.ref t10]) h11
    have w11 := w10.trans (same_new (o := .tup [.ref t10]) h11)
    have hh11 : H t11 = none := w10.free h11
    have s11 : Same G10 (upd G10 t11 (.tup [.ref t10])) := same_new (k10.free h11)
    have f11 : (upd G10 t11 (.tup [.ref t10])) t11 = some (.tup [.ref t10]) := upd_same
    generalize upd G10 t11 (.tup [.ref t10]) = G11 at k11 s11 f11
    refine ⟨(by show 17 ≤ sizeLine; decide), fun t12 h12 => ?_⟩
    have k12 := k11.mono (same_new (o := .lst [.non, .bl true, .bl false, .int (-1), .int 7, .int (10 ^ (30 : Int).toNat), .str "", .str "A", .str "x", .ref t1, .ref t2, .ref t3, .ref t4, .ref t6, .ref t7, .ref t9, .ref t11]) h12)
    have w12 := w11.trans (same_new (o := .lst [.non, .bl true, .bl false, .int (-1), .int 7, .int (10 ^ (30 : Int).toNat), .str "", .str "A", .str "x", .ref t1, .ref t2, .ref t3, .ref t4, .ref t6, .ref t7, .ref t9, .ref t11]) h12)
    refine ⟨.ref d, rfl, .ref t12, rfl, fun t13 h13 => ?_⟩
    refine ⟨upd_same, [(Sum.inl 0, .int 1)], rfl, (by show 1 ≤ 15; decide), ?_⟩
    rw [show mergeK [] [((Sum.inl 0 : Key), V.int 1)] = [(Sum.inl 0, V.int 1)] from rfl, upd_upd]
    have k13 := k12.new (o := .dK [(Sum.inl 0, .int 1)]) h13
    have hh13 : H t13 = none := w12.free h13
    have s13 : Same G11 (upd G11 t13 (.dK [(Sum.inl 0, .int 1)])) := same_new (k12.free h13)
    have f13 : (upd G11 t13 (.dK [(Sum.inl 0, .int 1)])) t13 = some (.dK [(Sum.inl 0, .int 1)]) := upd_same
    have e13 := same_new (o := .dK [(Sum.inl 0, .int 1)]) h13 t12 _ upd_same
    generalize upd G11 t13 (.dK [(Sum.inl 0, .int 1)]) = G13 at k13 s13 f13
    refine ⟨(by show 1 ≤ sizeLine; decide), fun t14 h14 => ?_⟩
    have e14 := same_new (o := .lst [.ref t13]) h14 _ _ e13
    have k14 := k13.mono (same_new (o := .lst [.ref t13]) h14)
    refine ⟨t12, t14, _, [.ref t13], rfl, rfl, e14, upd_same, (by show 17 + 1 ≤ sizeLine; decide), fun t15 h15 => ?_⟩
    have k15 := k14.new (o := .lst ([.non, .bl true, .bl false, .int (-1), .int 7, .int (10 ^ (30 : Int).toNat), .str "", .str "A", .str "x", .ref t1, .ref t2, .ref t3, .ref t4, .ref t6, .ref t7, .ref t9, .ref t11] ++ [.ref t13])) h15
    have s15 : Same G13 (upd G13 t15 (.lst ([.non, .bl true, .bl false, .int (-1), .int 7, .int (10 ^ (30 : Int).toNat), .str "", .str "A", .str "x", .ref t1, .ref t2, .ref t3, .ref t4, .ref t6, .ref t7, .ref t9, .ref t11] ++ [.ref t13]))) := same_new (k14.free h15)
    refine ⟨_, d, c, t15, [.non, .bl true, .bl false, .int (-1), .int 7, .int (10 ^ (30 : Int).toNat), .str "", .str "A", .str "x", .ref t1, .ref t2, .ref t3, .ref t4, .ref t6, .ref t7, .ref t9, .ref t11] ++ [.ref t13], rfl, k15, .inl (.inl upd_same), (by show 0 < 18; decide), (by show 18 ≤ 100000; decide), fun x H' k' hx => ?_⟩
    have k' : Kn G13 H' d c := k'.weak s15
    have z11 := s13
    have z10 := s11.trans z11
    have z9 := s10.trans z10
    have z8 := s9.trans z9
    have z7 := s8.trans z8
    have z6 := s7.trans z7
    have z5 := s6.trans z6
    have z4 := s5.trans z5
    have z3 := s4.trans z4
    have z2 := s3.trans z3
    have z1 := s2.trans z2
    have sG := s1.trans z1
    obtain ⟨F, hF⟩ : ∃ F : Hp, F = fun b => if H b = none then G13 b else none := ⟨_, rfl⟩
    have sF : Same F G13 := fun b o e => by
      subst hF
      dsimp only at e
      split at e
      · exact e
      · cases e
    have oF : ∀ b, H b ≠ none → F b = none := fun b hb => by subst hF; exact if_neg hb
    have iF : ∀ {t : Addr} {o : HO}, H t = none → G13 t = some o → F t = some o := fun {t o} a b => by
      subst hF
      dsimp only
      rw [if_pos a]
      exact b
    have tu : ∀ {t : Addr} {xs : List V}, F t = some (.tup xs) → SqT K F t xs := fun e => .inl (.inl e)
    have li : ∀ {t : Addr} {xs : List V}, F t = some (.lst xs) → SqL K F t xs := fun e => .inl (.inl e)
    have fin : ∀ (y : V) (e : PyData), Lf K F y e → FitE e → Q y H' := fun y e hl hf => q y e _ _ _ sG k' hl sF oF hf
    have pl : ∀ (y : V) (e : PyData), Dp K F y e → e.hasDict = false → FitE e → Q y H' := fun y e hl hn hf => fin y e (.dp hl hn) hf
    simp only [List.cons_append, List.nil_append, List.mem_cons, List.not_mem_nil, or_false] at hx
    rcases hx with rfl | rfl | rfl | rfl | rfl | rfl | rfl | rfl | rfl | rfl | rfl | rfl | rfl | rfl | rfl | rfl | rfl | rfl
    · exact pl _ (.none) (.non) (by decide +kernel) ⟨by decide +kernel, by decide +kernel, by decide +kernel, by decide +kernel⟩
    · exact pl _ (.bool true) (.bl true) (by decide +kernel) ⟨by decide +kernel, by decide +kernel, by decide +kernel, by decide +kernel⟩
    · exact pl _ (.bool false) (.bl false) (by decide +kernel) ⟨by decide +kernel, by decide +kernel, by decide +kernel, by decide +kernel⟩
    · exact pl _ (.int (-1)) (.int _) (by decide +kernel) ⟨by decide +kernel, by decide +kernel, by decide +kernel, by decide +kernel⟩
    · exact pl _ (.int 7) (.int _) (by decide +kernel) ⟨by decide +kernel, by decide +kernel, by decide +kernel, by decide +kernel⟩
    · exact pl _ (.int (10 ^ (30 : Int).toNat)) (.int _) (by decide +kernel) ⟨by decide +kernel, by decide +kernel, by decide +kernel, by decide +kernel⟩
    · exact pl _ (.str "") (.str _) (by decide +kernel) ⟨by decide +kernel, by decide +kernel, by decide +kernel, by decide +kernel⟩
    · exact pl _ (.str "A") (.str _) (by decide +kernel) ⟨by decide +kernel, by decide +kernel, by decide +kernel, by decide +kernel⟩
    · exact pl _ (.str "x") (.str _) (by decide +kernel) ⟨by decide +kernel, by decide +kernel, by decide +kernel, by decide +kernel⟩
    · exact pl _ (.tuple []) (.tup (tu (iF hh1 (z1 _ _ f1))) .nil) (by decide +kernel) ⟨by decide +kernel, by decide +kernel, by decide +kernel, by decide +kernel⟩
    · exact pl _ (.list []) (.lst (li (iF hh2 (z2 _ _ f2))) .nil) (by decide +kernel) ⟨by decide +kernel, by decide +kernel, by decide +kernel, by decide +kernel⟩
    · exact fin _ (.dict []) (.dct (iF hh3 (z3 _ _ f3)) .emp) ⟨by decide +kernel, by decide +kernel, by decide +kernel, by decide +kernel⟩
    · exact pl _ (.tuple [.none]) (.tup (tu (iF hh4 (z4 _ _ f4))) (.cons .non .nil)) (by decide +kernel) ⟨by decide +kernel, by decide +kernel, by decide +kernel, by decide +kernel⟩
    · exact pl _ (.list [.tuple []]) (.lst (li (iF hh6 (z6 _ _ f6))) (.cons (.tup (tu (iF hh5 (z5 _ _ f5))) .nil) .nil)) (by decide +kernel) ⟨by decide +kernel, by decide +kernel, by decide +kernel, by decide +kernel⟩
    · exact pl _ (.tuple [.int 0]) (.tup (tu (iF hh7 (z7 _ _ f7))) (.cons (.int 0) .nil)) (by decide +kernel) ⟨by decide +kernel, by decide +kernel, by decide +kernel, by decide +kernel⟩
    · exact pl _ (.tuple [.tuple [.int 0]]) (.tup (tu (iF hh9 (z9 _ _ f9))) (.cons (.tup (tu (iF hh8 (z8 _ _ f8))) (.cons (.int 0) .nil)) .nil)) (by decide +kernel) ⟨by decide +kernel, by decide +kernel, by decide +kernel, by decide +kernel⟩
    · exact pl _ (.tuple [.tuple [.int 1, .int 0]]) (.tup (tu (iF hh11 (z11 _ _ f11))) (.cons (.tup (tu (iF hh10 (z10 _ _ f10))) (.cons (.int 1) (.cons (.int 0) .nil))) .nil)) (by decide +kernel) ⟨by decide +kernel, by decide +kernel, by decide +kernel, by decide +kernel⟩
    · exact fin _ (.dict [(.int 0, .int 1)]) (.dct (iF hh13 f13) .one) ⟨by decide +kernel, by decide +kernel, by decide +kernel, by decide +kernel⟩
end

section
variable {P : Program} {w : World} {K : PySem.W.Frag} {mg : Str → Option Value} {base : Heap}
/-- the things in a drawn order -/
def spMixedT (K : PySem.W.Frag) : Sp := fun vs H Q _ => ∃ (G : Hp) (d c a : Addr) (xs : List V), vs = [.ref d, .ref a] ∧ Kn G H d c ∧ SqT K G a xs ∧ xs.length ≤ 1000 ∧
  ∀ (l : Addr) (ys : List V) (G' H' : Hp), Same G G' → Kn G' H' d c → G' l = some (.lst ys) → ys.Perm xs → G l = none → Q (.ref l) H'
theorem ok_mixedT (T : Tx K mg) : FnOk P w K mg base CX0 2 T.f_l_mixed T.d_l_mixed ["_law_source_here", "_law_things"] (spMixedT K) := by
  have G_l_pick := ok_pick (P := P) (w := w) (base := base) T
  refine T.F_l_mixed.ok sc_l_mixed (fun vs H Q E h => ?_) (fun cdv A outer s H vs Q E hr h => ?_)
  · obtain ⟨G, d, c, a, xs, rfl, _⟩ := h
    rfl
  · obtain ⟨G, d, c, a, xs, rfl, k, hS, hl, q⟩ := h
    refine ⟨_, (pss_cons (ps_set (i := 2) sc_l_mixed.nd rfl (Or.inr rfl) (pe_callTy call_list_of (by rfl) T.z_list (by decide +kernel) (pa_cons (pv 1) pa_nil)))
    (pss_one (ps_ret (pe_lc (own := [("_law_lap", 3)]) (g := gName 3) rfl sc_l_mixed.nd (pi_range1 rfl T.z_range (pa_cons (pe_callB call_len_seq (by rfl) T.z_len PySem.boot_len (pa_cons (pv 2) pa_nil)) pa_nil)) (blkOk_by (own := [("_law_lap", 3)]) (N := ["_law_source_here", "_law_things", "_law_rest", "_law_lap"]) (sc := defScope s_l_mixed) (by decide +kernel)) (fun _ _ _ _ _ => (pg_name (i := 3) sc_l_mixed.nd rfl (Or.inl rfl))) (fun _ _ _ _ _ => pts_nil) (fun _ _ _ _ _ => (show PE _ _ (tBM K "list" rPopAt _ _) from (pe_bm PySem.F.plainAttrs_list PySem.F.slot_list_pop PySem.F.type_list_pop mt_popAt (pv 2) (pa_cons (pe_call G_l_pick (hr.mono (by decide)) (by rfl) T.g_l_pick T.F_l_pick.kp T.b_l_pick .nil pass0 (pa_cons (pv 0) (pa_cons (pe_callB (show CallR _ _ (rLenOf K) from call_lenOf) (by rfl) T.z_len PySem.boot_len (pa_cons (pv 2) pa_nil)) pa_nil))) pa_nil)))))))), ?_⟩
    refine ⟨.ref a, rfl, a, xs, rfl, .inr (sameT k.le hS), fun r hr0 => ?_⟩
    have k1 := k.new (o := .lst xs) hr0
    have gr : G r = none := k.free hr0
    have h1 : (upd H r (.lst xs)) r = some (.lst xs) := upd_same
    generalize upd H r (.lst xs) = H1 at k1 h1
    refine ⟨.ref r, rfl, r, xs, rfl, .inl (.inl (.inl h1)), (xs.length : Int), rfl, by omega, by omega, fun D hD => ?_⟩
    have hDr : D ≠ r := fun e => by rw [e, h1] at hD; cases hD
    have gD : G D = none := k1.weak (same_new gr) |>.free hD
    refine lc_range (lo := 0) (n := (xs.length : Int).toNat) (fun i H' => ∃ ys zs : List V, Kn (upd (upd G r (.lst zs)) D (.lst ys)) H' d c ∧ (ys ++ zs).Perm xs ∧ zs.length + i = xs.length ∧ ys.length = i) ⟨[], xs, k1.new hD, by simp, by simp, rfl⟩ ?_ ?_
    · rintro i H2 hi ⟨ys, zs, k2, pm, e1, e2⟩
      have hz : 0 < zs.length := by omega
      have hr2 := k2.le r _ (by rw [upd_ne hDr.symm, upd_same])
      have hD2 := k2.le D _ upd_same
      refine ⟨rfl, tyes ?_⟩
      refine ⟨.ref r, rfl, .inl ⟨rfl, _, .inl (.inl hr2)⟩, ?_⟩
      refine ⟨.ref d, rfl, .ref r, rfl, r, zs, rfl, .inl (.inl (.inl hr2)), _, d, c, (zs.length : Nat), rfl, k2, by omega, fun j H3 k3 j0 j1 => ?_⟩
      have hr3 := k3.le r _ (by rw [upd_ne hDr.symm, upd_same])
      have hjl : j < (zs.length : Nat) := by omega
      have hj : j.toNat < zs.length := by omega
      refine ⟨r, zs, j, j.toNat, zs[j.toNat], rfl, rfl, hr3, by omega, by omega, six_at j0 hjl, List.getElem?_eq_getElem hj, ?_⟩
      have k4 := k3.put (o' := .lst (zs.eraseIdx j.toNat)) (p := r) (by rw [upd_ne hDr.symm, upd_same])
      rw [upd_swap hDr.symm] at k4
      have k5 := k4.put (o' := .lst (ys ++ [zs[j.toNat]])) (p := D) upd_same
      rw [upd_upd] at k5
      refine ⟨ys, k4.le D _ upd_same, ?_, ys ++ [zs[j.toNat]], zs.eraseIdx j.toNat, k5, perm_pop pm (List.getElem?_eq_getElem hj), ?_, ?_⟩
      · exact small1000' (by omega)
      · rw [List.length_eraseIdx_of_lt hj]
        omega
      · rw [List.length_append, List.length_singleton, e2]
    · rintro H2 ⟨ys, zs, k2, pm, e1, e2⟩
      have hz : zs = [] := List.eq_nil_of_length_eq_zero (by omega)
      subst hz
      rw [List.append_nil] at pm
      exact q D ys _ H2 ((same_new gr).trans (same_new (by rw [upd_ne hDr]; exact gD))) k2 upd_same pm gD
end

section
variable {P : Program} {w : World} {K : PySem.W.Frag} {mg : Str → Option Value} {base : Heap}
def cutIO (r : List Int) (lo hi : Option Int) : List Int := (r.drop (HT.sIx r.length 0 lo)).take (HT.sIx r.length r.length hi - HT.sIx r.length 0 lo)
theorem cut_intsO (r : List Int) (lo hi : Option Int) : cutV (r.map V.int) lo hi = (cutIO r lo hi).map V.int := by
  unfold cutV cutIO
  rw [List.length_map, List.map_take, List.map_drop]
theorem hd_row (r : List Int) : PyData.hasDict (dR r) = false := by
  unfold dR
  simp only [PyData.hasDict]
  exact hd_ints r
theorem hd_list (r : List Int) : PyData.hasDict (.list (r.map PyData.int)) = false := by
  simp only [PyData.hasDict]
  exact hd_ints r
theorem cutIO_len (r : List Int) (lo hi : Option Int) : (cutIO r lo hi).length ≤ r.length := by
  unfold cutIO
  rw [List.length_take, List.length_drop]
  omega
theorem no_atO {G H : Hp} {d c D : Addr} {xs : List V} (k : Kn (upd G D (.lst xs)) H d c) : H D ≠ none := fun z => by
  have := k.le D _ upd_same
  rw [z] at this
  cases this

def turns (r : List Int) : Int := 2 * (if (!PyData.eqv (dR r) (.tuple [])) = true then 1 else 0)
def VlsO (K : PySem.W.Frag) (G : Hp) (vs : List V) : Prop := ∀ v ∈ vs, ∃ e, Vl K G v e
theorem VlsO.mono {K : PySem.W.Frag} {G G' : Hp} {vs : List V} (h : VlsO K G vs) (e : Same G G') : VlsO K G' vs := fun v hv => let ⟨d, a⟩ := h v hv; ⟨d, a.mono e⟩
/-- an order with something otherwise, or something odd -/
def spBentO (K : PySem.W.Frag) : Sp := fun vs H Q _ => ∃ (G : Hp) (d c t : Addr) (o : List Int), vs = [.ref d, .ref t] ∧ Kn G H d c ∧ SqT K G t (o.map V.int) ∧ o.length ≤ 30 ∧ (∀ x ∈ o, 0 ≤ x ∧ x < 1000) ∧
  ∀ (v : V) (e : PyData) (G' H' : Hp), Same G G' → Kn G' H' d c → Vl K G' v e → Q v H'
theorem ok_bent_order (T : Tx K mg) : FnOk P w K mg base CX0 4 T.f_l_bent_order T.d_l_bent_order ["_law_source_here", "_law_order"] (spBentO K) := by
  have G_l_pick := ok_pick (P := P) (w := w) (base := base) T
  have G_l_of := ok_of (P := P) (w := w) (base := base) T
  have G_l_odd := ok_odd (P := P) (w := w) (base := base) T
  have G_l_mixed := ok_mixedT (P := P) (w := w) (base := base) T
  refine T.F_l_bent_order.ok sc_l_bent_order (fun vs H Q E h => ?_) (fun cdv A outer s H vs Q E hr h => ?_)
  · obtain ⟨G, d, c, t, o, rfl, _⟩ := h
    rfl
  · obtain ⟨G, d, c, t, o, rfl, k, hT, ol, ob, q⟩ := h
    refine ⟨_, (pss_cons (ps_set (i := 2) sc_l_bent_order.nd rfl (Or.inl rfl) (pe_lst (pa_cons (pe_callTy call_list_of (by rfl) T.z_list (by decide +kernel) (pa_cons (pv 1) pa_nil)) (pa_cons (pe_slice sl_tupA (pv 1) po_none (po_some (pe_un un_neg pe_int))) (pa_cons (pe_op op_catA (pv 1) (pe_tup (pa_cons (pe_callB call_len_seq (by rfl) T.z_len PySem.boot_len (pa_cons (pv 1) pa_nil)) pa_nil))) (pa_cons (pe_call G_l_odd (hr.mono (by decide)) (by rfl) T.g_l_odd T.F_l_odd.kp T.b_l_odd .nil pass0 (pa_cons (pv 0) pa_nil)) (pa_cons (pe_callTy call_tuple_of (by rfl) T.z_tuple (by decide +kernel) (pa_cons (pe_call G_l_mixed (hr.mono (by decide)) (by rfl) T.g_l_mixed T.F_l_mixed.kp T.b_l_mixed .nil pass0 (pa_cons (pv 0) (pa_cons (pv 1) pa_nil))) pa_nil)) pa_nil)))))))
    (pss_cons (ps_if (pt_cmpR op_gt (pe_callB call_len_seq (by rfl) T.z_len PySem.boot_len (pa_cons (pv 1) pa_nil)) pe_int (nomark _)) (pss_cons (ps_set (i := 3) sc_l_bent_order.nd rfl (Or.inl rfl) (pe_call G_l_pick (hr.mono (by decide)) (by rfl) T.g_l_pick T.F_l_pick.kp T.b_l_pick .nil pass0 (pa_cons (pv 0) (pa_cons (pe_callB call_len_seq (by rfl) T.z_len PySem.boot_len (pa_cons (pv 1) pa_nil)) pa_nil))))
    (pss_one (ps_for PassesOwn.never rfl (pi_list (pe_lst (pa_cons pe_bl (pa_cons pe_bl (pa_cons (pe_un un_neg pe_int) (pa_cons pe_non (pa_cons (pe_callTy call_str_int (by rfl) T.z_str (by decide +kernel) (pa_cons (pe_ix ix_tup (pv 1) (pv 3) (fun _ _ => rfl)) pa_nil)) (pa_cons (pe_lst pa_nil) (pa_cons (pe_ix ix_tup (pv 1) (pe_op op_sub (pv 3) pe_int) (fun _ _ => rfl)) (pa_cons (pe_callB call_len_seq (by rfl) T.z_len PySem.boot_len (pa_cons (pv 1) pa_nil)) (pa_cons (pe_tup (pa_cons (pe_ix ix_tup (pv 1) (pv 3) (fun _ _ => rfl)) pa_nil)) pa_nil))))))))))) (pg_name (i := 4) sc_l_bent_order.nd rfl (Or.inl rfl))
    (pss_one (ps_expr (pe_bm PySem.F.plainAttrs_list PySem.F.slot_list_append PySem.F.type_list_append mt_append (pv 2) (pa_cons (pe_op op_catA (pe_op op_catA (pe_slice sl_tupA (pv 1) po_none (po_some (pv 3))) (pe_tup (pa_cons (pv 4) pa_nil))) (pe_slice sl_tupA (pv 1) (po_some (pe_op op_add (pv 3) pe_int)) po_none)) pa_nil))))))) pss_nil)
    (pss_one (ps_ret (pe_call G_l_of (hr.mono (by decide)) (by rfl) T.g_l_of T.F_l_of.kp T.b_l_of .nil pass0 (pa_cons (pv 0) (pa_cons (pv 2) pa_nil))))))), ?_⟩
    refine ⟨.ref t, rfl, t, _, rfl, .inr (sameT k.le hT), fun p1 hp1 => ?_⟩
    -- list(order)
    have g1 : G p1 = none := k.free hp1
    have k1 := k.new (o := .lst (o.map V.int)) hp1
    have s1 : Same G (upd G p1 (.lst (o.map V.int))) := same_new g1
    have f1 : (upd G p1 (.lst (o.map V.int))) p1 = some (.lst (o.map V.int)) := upd_same
    generalize upd H p1 (.lst (o.map V.int)) = H1 at k1
    generalize upd G p1 (.lst (o.map V.int)) = G1 at k1 s1 f1
    have hT1 := sameT s1 hT
    -- order[:-1]
    refine ⟨.ref t, rfl, np_i ⟨1, rfl, -1, rfl, ?_⟩⟩
    refine sl_any (sameT k1.le hT1) fun t2 H2 b2 ht2 => ?_
    rw [cut_intsO] at ht2
    -- order + (len(order),)
    refine ⟨.ref t, rfl, .ref t, rfl, t, _, rfl, .inr (sameT (k1.le.trans b2) hT1), (by show 1 ≤ sizeLine; decide), fun u3 hu3 => ?_⟩
    rw [List.length_map]
    have b3 : Same H2 (upd H2 u3 (.tup [.int ((o.length : Nat) : Int)])) := same_new hu3
    refine cat_any (sameT ((k1.le.trans b2).trans b3) hT1) (ys := [.int ((o.length : Nat) : Int)]) (.inl (.inl upd_same)) (by rw [List.length_map]; exact Nat.le_of_lt (small1000 (by show _ + 1 ≤ 1000; omega))) fun t3 H3 b4 ht3 => ?_
    have bA := (b2.trans b3).trans b4
    have k3 := k1.mono bA
    have kk3 := know k3
    have s3 := know_le k3
    have ht2' := know_t k3 (sameT (b3.trans b4) ht2)
    have ht3' := know_t k3 ht3
    generalize hide H3 d c = G3 at kk3 s3 ht2' ht3'
    -- something odd
    refine ⟨.ref d, rfl, G3, d, c, rfl, kk3, fun v4 e4 F4 G4 H4 s4 k4 hv4 sF4 _ hf4 => ?_⟩
    have hv4' := hv4.mono sF4
    -- mixed
    have hT4 := sameT (s3.trans s4) hT1
    refine ⟨.ref d, rfl, .ref t, rfl, G4, d, c, t, _, rfl, k4, hT4, by rw [List.length_map]; omega, fun l5 ys G5 H5 s5 k5 hl5 pm _ => ?_⟩
    obtain ⟨zs, rfl, pz⟩ := perm_ints pm
    refine ⟨l5, _, rfl, .inl ⟨.inl (.inl (k5.le _ _ hl5)), fun t6 ht6 => ?_⟩⟩
    have k6 := k5.new (o := .tup (zs.map V.int)) ht6
    have s6 : Same G5 (upd G5 t6 (.tup (zs.map V.int))) := same_new (k5.free ht6)
    have f6 : (upd G5 t6 (.tup (zs.map V.int))) t6 = some (.tup (zs.map V.int)) := upd_same
    generalize upd H5 t6 (.tup (zs.map V.int)) = H6 at k6
    generalize upd G5 t6 (.tup (zs.map V.int)) = G6 at k6 s6 f6
    refine ⟨(by show 5 ≤ sizeLine; decide), fun D hD => ?_⟩
    have gD : G6 D = none := k6.free hD
    have k7 := k6.new (o := .lst [.ref p1, .ref t2, .ref t3, v4, .ref t6]) hD
    generalize upd H6 D (.lst [.ref p1, .ref t2, .ref t3, v4, .ref t6]) = H7 at k7
    have s46 := s5.trans s6
    have s36 := s4.trans s46
    have s16 := s3.trans s36
    have vl0 : VlsO K G6 [.ref p1, .ref t2, .ref t3, v4, .ref t6] := by
      intro v hv
      simp only [List.mem_cons, List.not_mem_nil, or_false] at hv
      rcases hv with rfl | rfl | rfl | rfl | rfl
      · exact ⟨.list (o.map PyData.int), .lf (.dp (.lst (.inl (.inl (s16 _ _ f1))) (dp_ints o)) (hd_list o))⟩
      · exact ⟨_, .lf (.dp (dp_row (sameT s36 ht2')) (hd_row _))⟩
      · exact ⟨dR (o ++ [(o.length : Int)]), .lf (.dp (dp_row (by rw [List.map_append]; exact sameT s36 ht3')) (hd_row _))⟩
      · exact ⟨_, .lf (hv4'.mono s46)⟩
      · exact ⟨_, .lf (.dp (dp_row (.inl (.inl f6))) (hd_row zs))⟩
    have hT6 := sameT s16 hT1
    have s06 : Same G G6 := s1.trans s16
    refine ⟨.ref t, rfl, t, _, rfl, .inr (sameT ((same_new gD).trans k7.le) hT6), _, _, rfl, rfl, _, rfl, ?_⟩
    have fin : ∀ (vs : List V) (G : Hp) (Hx : Hp), Same G6 G → G D = none → Kn (upd G D (.lst vs)) Hx d c → VlsO K G vs → 0 < vs.length → vs.length ≤ 1000 → spOf K [.ref d, .ref D] Hx Q fun _ _ _ => False := fun vs G Hx sG gD' kx vl l0 l1 =>
      ⟨upd G D (.lst vs), d, c, D, vs, rfl, kx, .inl (.inl upd_same), l0, by omega, fun x H' k' hx => by
        obtain ⟨e, he⟩ := vl x hx
        exact q x e (upd G D (.lst vs)) H' (s06.trans (sG.trans (same_new gD'))) k' (he.mono (same_new gD'))⟩
    rw [List.length_map]
    by_cases h0 : o.length = 0
    · rw [decide_eq_false (by omega)]
      exact iteF ⟨.ref d, rfl, .ref D, rfl, fin _ G6 H7 (Same.refl _) gD k7 vl0 (by show 0 < 5; decide) (by show 5 ≤ 1000; decide)⟩
    · rw [decide_eq_true (by omega)]
      refine iteT ?_
      refine ⟨.ref d, rfl, .ref t, rfl, t, _, rfl, .inr (sameT ((same_new gD).trans k7.le) hT6), _, d, c, _, rfl, k7, (by rw [List.length_map]; omega), fun ati H8 k8 at0 at1 => ?_⟩
      rw [List.length_map] at at1
      obtain ⟨m, rfl⟩ : ∃ m : Nat, ati = m := ⟨ati.toNat, by omega⟩
      have hm : m < o.length := by omega
      have a1 : atI (o.map V.int) (m : Int) = some (.int (o.getD m 0)) := o_at hm
      obtain ⟨z2, hz2⟩ : ∃ z2 : Int, atI (o.map V.int) ((m : Int) - 1) = some (.int z2) := by
        cases m with
        | zero =>
          rcases List.eq_nil_or_concat o with e | ⟨i, x, e⟩
          · rw [e] at hm; exact absurd hm (Nat.not_lt_zero _)
          · refine ⟨x, ?_⟩
            rw [e, List.concat_eq_append, List.map_append]
            exact last_at _ _
        | succ m' =>
          refine ⟨o.getD m' 0, ?_⟩
          rw [show ((m' + 1 : Nat) : Int) - 1 = (m' : Int) by omega]
          exact o_at (by omega)
      have zb : 0 ≤ o.getD m 0 ∧ o.getD m 0 < 1000 := by
        rw [List.getD_eq_getElem?_getD, List.getElem?_eq_getElem hm]
        exact ob _ (List.getElem_mem hm)
      have hT8 : ∀ {H' : Hp}, Same H8 H' → SqT K H' t (o.map V.int) := fun e => sameT (((same_new gD).trans k8.le).trans e) hT6
      generalize o.getD m 0 = z1 at a1 zb
      -- the members
      refine ⟨1, rfl, .ref t, rfl, .int (m : Nat), rfl, t, _, _, _, rfl, rfl, hT8 (Same.refl _), a1, z1, rfl, ?_, ?_⟩
      · exact Nat.lt_of_le_of_lt (Nat.log2_le_self _) (by omega)
      refine ⟨Nat.zero_le _, fun l9 hl9 => ?_⟩
      have c1 := same_new (o := .lst []) hl9
      have f9 : (upd H8 l9 (.lst [])) l9 = some (.lst []) := upd_same
      have n9 : l9 ≠ d ∧ l9 ≠ c ∧ l9 ≠ D := ⟨k8.src.some_d hl9, k8.src.some_c hl9, fun e => no_atO k8 (e ▸ hl9)⟩
      generalize upd H8 l9 (.lst []) = H9 at c1 f9
      refine ⟨.ref t, rfl, .int (m : Nat), rfl, _, _, rfl, rfl, t, _, _, _, rfl, rfl, hT8 c1, hz2, .ref t, rfl, t, _, rfl, .inr (hT8 c1), ?_⟩
      rw [List.length_map]
      refine ⟨.ref t, rfl, .int (m : Nat), rfl, t, _, _, _, rfl, rfl, hT8 c1, a1, (by show 1 ≤ sizeLine; decide), fun u9 hu9 => ?_⟩
      have c2 := same_new (o := .tup [.int z1]) hu9
      have fu9 : (upd H9 u9 (.tup [.int z1])) u9 = some (.tup [.int z1]) := upd_same
      generalize upd H9 u9 (.tup [.int z1]) = H10 at c2 fu9
      refine ⟨(by show 9 ≤ sizeLine; decide), fun L hL => ?_⟩
      obtain ⟨es, hes⟩ : ∃ es : List V, es = [.bl true, .bl false, .int (-1), .non, .str (Str.ofString (toString z1)), .ref l9, .int z2, .int ((o.length : Nat) : Int), .ref u9] := ⟨_, rfl⟩
      rw [← hes]
      have c3 := same_new (o := .lst es) hL
      have k8b := k8.mono (c1.trans c2)
      have nL : L ≠ d ∧ L ≠ c ∧ L ≠ D := ⟨k8b.src.some_d hL, k8b.src.some_c hL, fun e => no_atO k8b (e ▸ hL)⟩
      have k11 := k8b.mono c3
      obtain ⟨kE, gDE, sE⟩ := know3 k11 gD
      have f9' := know3_o k11 (c3 _ _ (c2 _ _ f9)) n9.1 n9.2.1 n9.2.2
      have fu' := know3_t (K := K) k11 (t := u9) (.inl (.inl (c3 _ _ fu9)))
      have fL := know3_o k11 (t := L) (o := .lst es) upd_same nL.1 nL.2.1 nL.2.2
      generalize upd H10 L (.lst es) = H11 at k11 kE gDE sE f9' fu' fL
      generalize hide3 H11 d c D = G11 at kE gDE sE f9' fu' fL
      have ents : ∀ x ∈ es, ∃ e, Lf K G11 x e := by
        subst hes
        intro x hx
        simp only [List.mem_cons, List.not_mem_nil, or_false] at hx
        rcases hx with rfl | rfl | rfl | rfl | rfl | rfl | rfl | rfl | rfl
        · exact ⟨_, .dp (.bl true) rfl⟩
        · exact ⟨_, .dp (.bl false) rfl⟩
        · exact ⟨_, .dp (.int _) rfl⟩
        · exact ⟨_, .dp .non rfl⟩
        · exact ⟨_, .dp (.str _) rfl⟩
        · exact ⟨.list [], .dp (.lst (.inl (.inl f9')) .nil) rfl⟩
        · exact ⟨_, .dp (.int _) rfl⟩
        · exact ⟨_, .dp (.int _) rfl⟩
        · exact ⟨.tuple [.int z1], .dp (.tup fu' (.cons (.int _) .nil)) rfl⟩
      have esl : es.length = 9 := by rw [hes]; rfl
      refine ⟨L, rfl, ⟨es, .inl (.inl (kE.le _ _ (same_new gDE _ _ fL)))⟩, for_list (K := K) (a := L) (xs := es) (fun i σ H' => ∃ (v4 : Option V) (G : Hp) (vs : List V), σ = [some (.ref d), some (.ref t), some (.ref D), some (.int (m : Nat)), v4] ∧ Kn (upd G D (.lst vs)) H' d c ∧ G D = none ∧ Same G11 G ∧ VlsO K G vs ∧ vs.length = 5 + i) ⟨none, G11, _, rfl, kE, gDE, Same.refl _, vl0.mono sE, rfl⟩ (fun i σ H' _ ⟨_, G, _, _, k, gD', s, _⟩ => .inl (.inl (k.le _ _ (same_new gD' _ _ (s _ _ fL))))) ?_ ?_⟩
      · rintro j x σ H12 hx ⟨v4', G12, vs2, rfl, k12, gD2, s12, vls2, vl2⟩
        have hj9 : j < 9 := by have := at_lt hx; omega
        obtain ⟨e, hxe⟩ := ents x (List.mem_of_getElem? hx)
        have htC : ∀ {H' : Hp}, Same H12 H' → SqT K H' t (o.map V.int) := fun b => sameT (((sE.trans s12).trans (same_new gD2)).trans (k12.le.trans b)) hT6
        refine ⟨.ref D, rfl, .inl ⟨rfl, _, .inl (.inl (k12.le _ _ upd_same))⟩, .ref t, rfl, ?_⟩
        refine np_i ⟨.int (m : Nat), rfl, (m : Int), rfl, ?_⟩
        refine sl_any (htC (Same.refl _)) fun q1 H13 b1 hq1 => ?_
        rw [cut_intsO] at hq1
        refine ⟨x, rfl, (by show 1 ≤ sizeLine; decide), fun q2 hq2 => ?_⟩
        have b2 : Same H13 (upd H13 q2 (.tup [x])) := same_new hq2
        have r1 := cutIO_len o none (some (m : Int))
        refine cat_any (sameT b2 hq1) (ys := [x]) (.inl (.inl upd_same)) (by rw [List.length_map]; exact Nat.le_of_lt (small1000 (by show _ + 1 ≤ 1000; omega))) fun q3 H14 b3 hq3 => ?_
        refine ⟨.ref t, rfl, .int (m : Nat), rfl, (m : Int), 1, rfl, rfl, (m : Int) + 1, rfl, ?_⟩
        refine np_i (sl_any (htC ((b1.trans b2).trans b3)) fun q4 H15 b4 hq4 => ?_)
        rw [cut_intsO] at hq4
        have r2 := cutIO_len o (some ((m : Int) + 1)) none
        refine cat_any (sameT b4 hq3) hq4 (by rw [List.length_append, List.length_map, List.length_map]; exact Nat.le_of_lt (small1000 (by show _ + 1 + _ ≤ 1000; omega))) fun ft H16 b5 hft => ?_
        have k16 := k12.mono ((((b1.trans b2).trans b3).trans b4).trans b5)
        refine nil_i ⟨D, vs2, .ref ft, rfl, rfl, k16.le _ _ upd_same, small1000 (by omega), ?_⟩
        obtain ⟨kF, gDF, sF⟩ := know3 k16 gD2
        have hfE := know3_t (K := K) k16 hft
        refine ⟨_, hide3 H16 d c D, vs2 ++ [.ref ft], rfl, kF.set, gDF, s12.trans sF, fun v hv => ?_, by rw [List.length_append, List.length_singleton]; omega⟩
        rcases List.mem_append.mp hv with hv | hv
        · exact (vls2.mono sF) v hv
        · rw [List.mem_singleton] at hv
          subst hv
          exact ⟨_, .mix (pre := cutIO o none (some (m : Int))) (post := cutIO o (some ((m : Int) + 1)) none) (by rw [List.append_assoc] at hfE; exact hfE) (hxe.mono (s12.trans sF))⟩
      · rintro σ H12 ⟨v4', G12, vs2, rfl, k12, gD2, s12, vls2, vl2⟩
        exact ⟨.ref d, rfl, .ref D, rfl, fin _ G12 H12 (sE.trans s12) gD2 k12 vls2 (by omega) (by omega)⟩
end

section
variable {P : Program} {w : World} {K : PySem.W.Frag} {mg : Str → Option Value} {base : Heap}
def spLBk (K : PySem.W.Frag) : Sp := fun vs H Q _ => ∃ (t : Addr) (o : List Int), vs = [.ref t] ∧ TpF H t (o.map V.int) ∧ o.length ≤ 100 ∧ Ordr o ∧ ∀ u H', Same H H' → H' u = some (.tup ((plc o).map V.int)) → Q (.ref u) H'
theorem ok_l_back (T : Tx K mg) : FnOk P w K mg base CX0 1 T.f_l_back T.d_l_back ["_law_order"] (spLBk K) := by
  refine T.F_l_back.ok sc_l_back (fun vs H Q E h => ?_) (fun cdv A outer s H vs Q E hr h => ?_)
  · obtain ⟨t, o, rfl, _⟩ := h
    rfl
  · obtain ⟨t, o, rfl, hF, ol, ho, q⟩ := h
    have hT : SqT K H t (o.map V.int) := hF.sq
    refine ⟨_, (pss_one (ps_ret (pe_callTy call_tuple_of (by rfl) T.z_tuple (by decide +kernel) (pa_cons (pe_lc (own := [("_law_k", 1)]) (g := gName 1) rfl sc_l_back.nd (pi_range1 rfl T.z_range (pa_cons (pe_callB call_len_seq (by rfl) T.z_len PySem.boot_len (pa_cons (pv 0) pa_nil)) pa_nil)) (blkOk_by (own := [("_law_k", 1)]) (N := ["_law_order", "_law_k"]) (sc := defScope s_l_back) (by decide +kernel)) (fun _ _ _ _ _ => (pg_name (i := 1) sc_l_back.nd rfl (Or.inl rfl))) (fun _ _ _ _ _ => pts_nil) (fun _ _ _ _ _ => (show PE _ _ (tBMF (rTupIdx K) _ _) from (pe_bmF PySem.F.plainAttrs_tuple PySem.F.slot_tuple_index PySem.F.type_tuple_index mt_tupIdx (pv 0) (pa_cons (pv 1) pa_nil))))) pa_nil)))), ?_⟩
    refine ⟨.ref t, rfl, t, _, rfl, .inr hT, o.length, by rw [List.length_map], by omega, by omega, fun D hD => ?_⟩
    refine lc_range (lo := 0) (n := (o.length : Int).toNat) (fun i H' => (∀ b x, H b = some x → H' b = some x) ∧ H' D = some (.lst (((List.range i).map fun (x : Nat) => ((o.idxOf (x : Int) : Nat) : Int)).map V.int))) ⟨same_new hD, upd_same⟩ ?_ ?_
    · rintro i H1 hi ⟨sm, hL⟩
      have hi' : i < o.length := by omega
      rw [Int.zero_add]
      have sm1 : Same H H1 := sm
      refine ⟨rfl, tyes ?_⟩
      refine ⟨.ref t, rfl, ⟨t, _, rfl, hF.mono sm1⟩, .int (i : Nat), rfl, t, o, _, rfl, rfl, sameT sm1 hT, ho.mem hi', ?_⟩
      refine ⟨_, hL, by rw [List.length_map, List.length_map, List.length_range]; exact small1000 (by omega), fun b x e => ?_, ?_⟩
      · rw [upd_ne (ne_of_none e hD)]
        exact sm _ _ e
      · rw [upd_same, List.range_succ, List.map_append, List.map_append]
        rfl
    · rintro H1 ⟨sm, hL⟩
      rw [show (o.length : Int).toNat = o.length by omega] at hL
      refine nil_i ⟨D, _, rfl, .inl ⟨.inl (.inl hL), fun u hu => ?_⟩⟩
      exact q u _ (Same.trans sm (same_new hu)) upd_same
theorem invn_le (o : List Int) (h : o.length ≤ 30) : 0 ≤ invn o ∧ invn o < 1000000 := by
  rw [← fp_count]
  have a : (fpR o).length ≤ 900 := by
    unfold fpR
    rw [List.length_map]
    exact Nat.le_trans (List.length_filter_le _ _) (Nat.le_trans (prs_len _) (Nat.mul_le_mul h h))
  omega
def spAsk (K : PySem.W.Frag) : Sp := fun vs H Q _ => ∃ (t : Addr) (o : List Int), vs = [.ref t] ∧ TpF H t (o.map V.int) ∧ o.length ≤ 30 ∧ Ordr o ∧ ∀ H', Same H H' → Q (.bl true) H'
theorem ok_asked (T : Tx K mg) : FnG P w K mg base CX0 5 T.f_l_asked_right T.d_l_asked_right ["_law_order"] (spAsk K) := by
  have G_is_order := ok_is_order (P := P) (w := w) (base := base) T
  have G_inversions := ok_inversions (P := P) (w := w) (base := base) T
  have G_l_inversions := ok_linv (P := P) (w := w) (base := base) T
  have G_turned_back := ok_tback (P := P) (w := w) (base := base) T
  have G_l_back := ok_l_back (P := P) (w := w) (base := base) T
  have G_sorting_steps := ok_sorting_steps (P := P) (w := w) (base := base) T
  have G_l_steps := ok_lsteps (P := P) (w := w) (base := base) T
  have G_stepped := ok_stepped (P := P) (w := w) (base := base) T
  have G_l_stepped := ok_lstepped (P := P) (w := w) (base := base) T
  refine okG_nox T.F_l_asked_right sc_l_asked_right (fun vs H Q E h => ?_) (fun cdv A0 outer s H vs Q E hgd hr h => ?_)
  · obtain ⟨t, o, rfl, _⟩ := h
    rfl
  · obtain ⟨t, o, rfl, hF, ol, ho, q⟩ := h
    have hu := hu_of hr
    have hu66 : (A0.deeper (PyProof.Rows.envOfC "_law_asked_right" (defScope s_l_asked_right) s.heap.objs.size T.f_l_asked_right cdv)).units + 66 < cLine := by have := hr.un; omega
    have hT : SqT K H t (o.map V.int) := hF.sq
    refine ⟨_, (pss_cons (ps_set (i := 1) sc_l_asked_right.nd rfl (Or.inl rfl) (pe_callB call_len_seq (by rfl) T.z_len PySem.boot_len (pa_cons (pv 0) pa_nil)))
    (pss_cons (ps_if (PW.pt (pw_or (pt_not (pt_val (pe_call G_is_order (hr.mono (by decide)) (by rfl) T.g_is_order T.F_is_order.kp T.b_is_order .nil pass0 (pa_cons (pv 1) (pa_cons (pv 0) pa_nil))))) (pw_or (pt_val (pe_call G_is_order (hr.mono (by decide)) (by rfl) T.g_is_order T.F_is_order.kp T.b_is_order .nil pass0 (pa_cons (pe_op op_add (pv 1) pe_int) (pa_cons (pv 0) pa_nil)))) (pw_or1 (pt_cmpR op_ne (pe_callB (call_reprD hgd hu66) (by rfl) T.z_repr (by decide +kernel) (pa_cons (pe_call G_inversions (hr.mono (by decide)) (by rfl) T.g_inversions T.F_inversions.kp T.b_inversions .nil pass0 (pa_cons (pv 0) pa_nil)) pa_nil)) (pe_callB (call_reprD hgd hu66) (by rfl) T.z_repr (by decide +kernel) (pa_cons (pe_call G_l_inversions (hr.mono (by decide)) (by rfl) T.g_l_inversions T.F_l_inversions.kp T.b_l_inversions .nil pass0 (pa_cons (pv 0) pa_nil)) pa_nil)) (nomark _)))))) (pss_one (ps_ret pe_bl)) pss_nil)
    (pss_cons (ps_if (pt_cmpR op_ne (pe_callB (call_reprD hgd hu66) (by rfl) T.z_repr (by decide +kernel) (pa_cons (pe_call G_turned_back (hr.mono (by decide)) (by rfl) T.g_turned_back T.F_turned_back.kp T.b_turned_back .nil pass0 (pa_cons (pv 0) pa_nil)) pa_nil)) (pe_callB (call_reprD hgd hu66) (by rfl) T.z_repr (by decide +kernel) (pa_cons (pe_call G_l_back (hr.mono (by decide)) (by rfl) T.g_l_back T.F_l_back.kp T.b_l_back .nil pass0 (pa_cons (pv 0) pa_nil)) pa_nil)) (nomark _)) (pss_one (ps_ret pe_bl)) pss_nil)
    (pss_cons (ps_for PassesOwn.never rfl (pi_range1 rfl T.z_range (pa_cons pe_int pa_nil)) (pg_name (i := 2) sc_l_asked_right.nd rfl (Or.inl rfl))
    (pss_cons (ps_set (i := 3) sc_l_asked_right.nd rfl (Or.inl rfl) (pe_call G_sorting_steps (hr.mono (by decide)) (by rfl) T.g_sorting_steps T.F_sorting_steps.kp T.b_sorting_steps .nil pass0 (pa_cons (pv 0) pa_nil)))
    (pss_cons (ps_if (pt_cmpR op_ne (pe_callB (call_reprD hgd hu66) (by rfl) T.z_repr (by decide +kernel) (pa_cons (pv 3) pa_nil)) (pe_callB (call_reprD hgd hu66) (by rfl) T.z_repr (by decide +kernel) (pa_cons (pe_call G_l_steps (hr.mono (by decide)) (by rfl) T.g_l_steps T.F_l_steps.kp T.b_l_steps .nil pass0 (pa_cons (pv 0) pa_nil)) pa_nil)) (nomark _)) (pss_one (ps_ret pe_bl)) pss_nil)
    (pss_one (ps_expr (pe_bm PySem.F.plainAttrs_list PySem.F.slot_list_append PySem.F.type_list_append mt_append (pv 3) (pa_cons pe_non pa_nil)))))))
    (pss_cons (ps_for PassesOwn.never rfl (pi_range2 (by rfl) T.z_range (pa_cons pe_int (pa_cons (pv 1) pa_nil))) (pg_name (i := 4) sc_l_asked_right.nd rfl (Or.inl rfl))
    (pss_one (ps_if (pt_cmpR op_ne (pe_callB (call_reprD hgd hu66) (by rfl) T.z_repr (by decide +kernel) (pa_cons (pe_call G_stepped (hr.mono (by decide)) (by rfl) T.g_stepped T.F_stepped.kp T.b_stepped .nil pass0 (pa_cons (pv 0) (pa_cons (pv 4) pa_nil))) pa_nil)) (pe_callB (call_reprD hgd hu66) (by rfl) T.z_repr (by decide +kernel) (pa_cons (pe_call G_l_stepped (hr.mono (by decide)) (by rfl) T.g_l_stepped T.F_l_stepped.kp T.b_l_stepped .nil pass0 (pa_cons (pv 0) (pa_cons (pv 4) pa_nil))) pa_nil)) (nomark _)) (pss_one (ps_ret pe_bl)) pss_nil)))
    (pss_one (ps_ret pe_bl))))))), ?_⟩
    have ob : ∀ x ∈ o, 0 ≤ x ∧ x < 1000000 := fun x hx => by
      obtain ⟨j, hj, rfl⟩ := List.mem_iff_getElem.mp hx
      have := ho.at hj
      omega
    have kd : ∀ {H' : Hp}, Same H H' → Kd K H' (.ref t) (dR o) := fun s => .tup (sameT s hT) (by rw [List.length_map, List.length_map]) fun j x hx => by
      obtain ⟨z, rfl, hz⟩ := ints_at hx
      exact ⟨.int z, by rw [List.getElem?_map, hz]; rfl, .dp (.int z) rfl⟩
    have good : GoodO o.length (dR o) := ⟨o, rfl, rfl, ho⟩
    have nogood : ¬ GoodO (o.length + 1) (dR o) := fun ⟨o2, e, l2, _⟩ => by
      have e2 : (o.map PyData.int).length = (o2.map PyData.int).length := congrArg List.length (by injection e)
      rw [List.length_map, List.length_map] at e2
      omega
    have pb : ∀ x ∈ plc o, 0 ≤ x ∧ x < 1000000 := fun x hx => by
      obtain ⟨i, hi, rfl⟩ := List.mem_map.mp hx
      have := List.idxOf_lt_length_of_mem (ho.mem (List.mem_range.mp hi))
      omega
    have sb : ∀ x ∈ stps o, 0 ≤ x ∧ x < 1000000 := fun x hx => by
      have := stps_lo hx
      omega
    have sl : (stps o).length ≤ 1000 := by
      unfold stps
      rw [List.length_map]
      refine Nat.le_trans (List.length_filter_le _ _) ?_
      rw [List.length_range]
      omega
    have invb := invn_le o ol
    have pl20 : (plc o).length ≤ 2 ^ 20 := by
      have : (plc o).length ≤ 30 := by
        unfold plc
        rw [List.length_map, List.length_range]
        exact ol
      omega
    refine ⟨.ref t, rfl, t, _, rfl, .inr hT, ?_⟩
    rw [List.length_map]
    refine ⟨.int (o.length : Nat), rfl, .ref t, rfl, o.length, .ref t, dR o, rfl, kd (Same.refl H), by omega, fun H1 s1 _ => ⟨true, rfl, iteF ?_⟩, fun _ _ ng => absurd good ng⟩
    refine ⟨.int (o.length : Nat), rfl, _, 1, rfl, rfl, .ref t, rfl, o.length + 1, .ref t, dR o, by push_cast; rfl, kd s1, by omega, fun _ _ g => absurd g nogood, fun H2 s2 _ => ⟨false, rfl, iteF ?_⟩⟩
    have s02 := s1.trans s2
    refine ⟨.ref t, rfl, t, o, rfl, sameT s02 hT, ol, fun H3 s3 => nil_i (repr_ok (.int _) (shw_int invb.1 invb.2) (by decide) (by decide) ?_)⟩
    have s03 := s02.trans s3
    refine ⟨.ref t, rfl, t, o, rfl, sameT s03 hT, by omega, fun H4 s4 => nil_i (repr_ok (.int _) (shw_int invb.1 invb.2) (by decide) (by decide) ?_)⟩
    have s04 := s03.trans s4
    refine ⟨rfl, _, rfl, ne_no ?_⟩
    refine ⟨.ref t, rfl, t, o, rfl, sameT s04 hT, by omega, ho, fun u5 H5 s5 hu5 => nil_i (repr_ok (dp_row (.inl (.inl hu5))) (shw_row pb) (by decide) pl20 ?_)⟩
    have s05 := s04.trans s5
    refine ⟨.ref t, rfl, t, o, rfl, hF.mono s05, by omega, ho, fun u6 H6 s6 hu6 => nil_i (repr_ok (dp_row (.inl (.inl hu6))) (shw_row pb) (by decide) pl20 ?_)⟩
    have s06 := s05.trans s6
    refine ⟨rfl, _, rfl, ne_no ?_⟩
    refine ⟨2, rfl, by decide, by decide, for_range (lo := 0) (n := 2) (fun i σ H' => ∃ v2 v3 : Option V, σ = [some (.ref t), some (.int (o.length : Nat)), v2, v3, none] ∧ Same H H') ⟨none, none, rfl, s06⟩ ?_ ?_⟩
    · rintro i σ H7 hi ⟨v2, v3, rfl, s7⟩
      refine ⟨.ref t, rfl, t, o, rfl, sameT s7 hT, by omega, fun l8 H8 s8 l80 hl8 => ?_⟩
      have s08 := s7.trans s8
      refine ⟨.ref l8, rfl, nil_i (repr_ok (.lst (.inl (.inl hl8)) (dp_ints _)) (shw_ints sb).lst (by decide) (by omega) ?_)⟩
      refine ⟨.ref t, rfl, t, o, rfl, sameT s08 hT, by omega, fun l9 H9 s9 _ hl9 => nil_i (repr_ok (.lst (.inl (.inl hl9)) (dp_ints _)) (shw_ints sb).lst (by decide) (by omega) ?_)⟩
      have s09 := s08.trans s9
      refine ⟨rfl, _, rfl, ne_no ?_⟩
      have hl9' := s9 _ _ hl8
      refine ⟨.ref l8, rfl, .inl ⟨rfl, _, .inl (.inl hl9')⟩, l8, _, _, rfl, rfl, hl9', by rw [List.length_map]; exact small1000' (by omega), ?_⟩
      refine ⟨_, _, rfl, fun b x e => ?_⟩
      rw [upd_ne (ne_of_none (s7 _ _ e) l80)]
      exact s09 _ _ e
    · rintro σ H7 ⟨v2, v3, rfl, s7⟩
      refine ⟨.int (o.length : Nat), rfl, 1, (o.length : Int), rfl, ⟨by decide, by decide, by omega, by omega⟩, for_range (lo := 1) (n := ((o.length : Int) - 1).toNat) (fun i σ H' => ∃ v4 : Option V, σ = [some (.ref t), some (.int (o.length : Nat)), v2, v3, v4] ∧ Same H H') ⟨none, rfl, s7⟩ ?_ ?_⟩
      · rintro i σ H8 hi ⟨v4, rfl, s8⟩
        have hi2 : i + 1 < o.length := by omega
        have stb : ∀ x ∈ stp o (1 + (i : Int)), 0 ≤ x ∧ x < 1000000 := fun x hx => by
          rw [stp_one] at hx
          exact ob x ((stpN_perm hi2).mem_iff.mp hx)
        have stl : (stp o (1 + (i : Int))).length ≤ 30 := by
          rw [stp_one, (stpN_perm hi2).length_eq]
          exact ol
        refine ⟨.ref t, rfl, .int (1 + (i : Int)), rfl, t, o, 1 + (i : Int), rfl, sameT s8 hT, by omega, by omega, by omega, fun u H9 s9 hu9 => nil_i (repr_ok (dp_row hu9) (shw_row stb) (by decide) (by omega) ?_)⟩
        have s09 := s8.trans s9
        refine ⟨.ref t, rfl, .int (1 + (i : Int)), rfl, t, o, 1 + (i : Int), rfl, sameT s09 hT, by omega, by omega, by omega, fun u2 H10 s10 hu10 => nil_i (repr_ok (dp_row hu10) (shw_row stb) (by decide) (by omega) ?_)⟩
        refine ⟨rfl, _, rfl, ne_no ?_⟩
        exact ⟨_, rfl, s09.trans s10⟩
      · rintro σ H8 ⟨v4, rfl, s8⟩
        exact q H8 s8
end

section
open LamX
variable {P : Program} {w : World} {K : PySem.W.Frag} {mg : Str → Option Value} {base : Heap}
/-- the odd values as levels -/
def Odds (H : Hp) (e2 e3 e4 : Addr) : Prop := H e2 = some (.lst [.int 1]) ∧ H e3 = some (.dK []) ∧ H e4 = some (.tup [.int 1])
def oddL (n : Nat) (e2 e3 e4 : Addr) : List V := [.int 0, .int (n : Nat), .int ((n : Int) + 1), .int (10 ^ 30), .int (-1), .bl true, .non, .str "1", .ref e2, .ref e3, .ref e4]
/-- it may be shown in a list -/
structure ShL (d : PyData) : Prop where
  sh : (PyData.list [d]).showable = true
  dp : (PyData.list [d]).depth ≤ 64
  ln : (PyData.list [d]).shown.length ≤ sizeLine
theorem shl_i {i : Int} (h0 : 0 ≤ i) (h : i < 1000000) : ShL (.int i) := by
  have s := (ShwA.cons (shw_int h0 h) ShwA.nil).lst
  exact ⟨s.sh, Nat.le_trans s.dp (by decide), s.fits (by decide)⟩
theorem odd_lf {n : Nat} {e2 e3 e4 : Addr} (n5 : n ≤ 30) {i : Nat} {x : V} (h : (oddL n e2 e3 e4)[i]? = some x) : ∃ d : PyData, (∀ H : Hp, Odds H e2 e3 e4 → Lf K H x d) ∧ BadS n x d ∧ ShL d := by
  match i, h with
  | n + 11, h => simp [oddL] at h
  | 0, h =>
    cases h
    exact ⟨.int 0, fun H o => .dp (.int _) rfl, .inr ⟨_, rfl, rfl, by omega⟩, by decide +kernel, by decide +kernel, by decide +kernel⟩
  | 1, h =>
    cases h
    exact ⟨.int (n : Int), fun H o => .dp (.int _) rfl, .inr ⟨_, rfl, rfl, by omega⟩, shl_i (by omega) (by omega)⟩
  | 2, h =>
    cases h
    exact ⟨.int ((n : Int) + 1), fun H o => .dp (.int _) rfl, .inr ⟨_, rfl, rfl, by omega⟩, shl_i (by omega) (by omega)⟩
  | 3, h =>
    cases h
    exact ⟨.int (10 ^ 30), fun H o => .dp (.int _) rfl, .inr ⟨_, rfl, rfl, fun ⟨_, z⟩ => absurd (Int.lt_trans z (Int.lt_of_le_of_lt (show (n : Int) ≤ 30 by omega) (show (30 : Int) < 10 ^ 30 by decide))) (Int.lt_irrefl _)⟩, by decide +kernel, by decide +kernel, by decide +kernel⟩
  | 4, h =>
    cases h
    exact ⟨.int (-1), fun H o => .dp (.int _) rfl, .inl rfl, by decide +kernel, by decide +kernel, by decide +kernel⟩
  | 5, h =>
    cases h
    exact ⟨.bool true, fun H o => .dp (.bl _) rfl, .inl rfl, by decide +kernel, by decide +kernel, by decide +kernel⟩
  | 6, h =>
    cases h
    exact ⟨.none, fun H o => .dp .non rfl, .inl rfl, by decide +kernel, by decide +kernel, by decide +kernel⟩
  | 7, h =>
    cases h
    exact ⟨.str "1", fun H o => .dp (.str _) rfl, .inl rfl, by decide +kernel, by decide +kernel, by decide +kernel⟩
  | 8, h =>
    cases h
    exact ⟨.list [.int 1], fun H o => .dp (.lst (.inl (.inl o.1)) (.cons (.int 1) .nil)) rfl, .inl rfl, by decide +kernel, by decide +kernel, by decide +kernel⟩
  | 9, h =>
    cases h
    exact ⟨.dict [], fun H o => .dct o.2.1 .emp, .inl rfl, by decide +kernel, by decide +kernel, by decide +kernel⟩
  | 10, h =>
    cases h
    exact ⟨.tuple [.int 1], fun H o => .dp (.tup (.inl (.inl o.2.2)) (.cons (.int 1) .nil)) rfl, .inl rfl, by decide +kernel, by decide +kernel, by decide +kernel⟩
theorem shw_bl (b : Bool) : Shw (.bool b) 5 10 := ⟨by cases b <;> decide +kernel, by cases b <;> decide +kernel, by cases b <;> decide +kernel, by cases b <;> decide +kernel, by cases b <;> decide +kernel⟩
def spLaw (K : PySem.W.Frag) (p0 : Addr) : Sp := fun vs H Q _ => ∃ (a : Addr) (ns : List Int), vs = [.ref a] ∧ SqL K H a (ns.map V.int) ∧ ns.length ≤ 63 ∧ H p0 = some (.tbl #[]) ∧ ∀ H', Q (.bl true) H'
theorem ok_law (T : Tx K mg) {c0 p0 : Addr} (hc : T.d_law.code = .ref c0) (TB : TabB base mg c0 p0) : FnG P w K mg base CX0 14 T.f_law T.d_law ["_law_script"] (spLaw K p0) := by
  have G_l_source := ok_source (P := P) (w := w) (base := base) T
  have G_l_of := ok_of (P := P) (w := w) (base := base) T
  have G_l_any_order := ok_any_order (P := P) (w := w) (base := base) T
  have G_l_asked_right := ok_asked (P := P) (w := w) (base := base) T
  have G_l_bent_order := ok_bent_order (P := P) (w := w) (base := base) T
  have G_is_order := ok_is_order (P := P) (w := w) (base := base) T
  have G_l_is_order := ok_lis_order (P := P) (w := w) (base := base) T
  have G_stepped_odd := ok_stepped_odd (P := P) (w := w) (base := base) T
  refine okG_lam T.F_law hc sc_law (fun vs H Q E h => ?_) (fun A0 outer s H vs Q E hgd hr h => ?_)
  · obtain ⟨a, ns, rfl, _⟩ := h
    rfl
  · obtain ⟨a, ns, rfl, hS, hlen, hp0, q⟩ := h
    have hu := hu_of hr
    have hu66 : (A0.deeper (PyProof.Rows.envOfC "law" (defScope s_law) s.heap.objs.size T.f_law (.ref c0))).units + 66 < cLine := by have := hr.un; omega
    refine ⟨_, (pss_cons (ps_set (i := 1) sc_law.nd rfl (Or.inl rfl) (pe_call G_l_source (hr.mono (by decide)) (by rfl) T.g_l_source T.F_l_source.kp T.b_l_source .nil pass0 (pa_cons (pv 0) pa_nil)))
    (pss_cons (ps_for PassesOwn.never rfl (pi_range1 rfl T.z_range (pa_cons pe_int pa_nil)) (pg_name (i := 2) sc_law.nd rfl (Or.inl rfl))
    (pss_cons (ps_set (i := 3) sc_law.nd rfl (Or.inr rfl) (pe_call G_l_any_order (hr.mono (by decide)) (by rfl) T.g_l_any_order T.F_l_any_order.kp T.b_l_any_order .nil pass0 (pa_cons (pv 1) (pa_cons (pe_call G_l_of (hr.mono (by decide)) (by rfl) T.g_l_of T.F_l_of.kp T.b_l_of .nil pass0 (pa_cons (pv 1) (pa_cons (pe_lst (pa_cons pe_int (pa_cons pe_int (pa_cons pe_int (pa_cons pe_int (pa_cons pe_int (pa_cons pe_int (pa_cons pe_int (pa_cons pe_int pa_nil))))))))) pa_nil))) pa_nil))))
    (pss_cons (ps_if (pt_not (pt_val (pe_callG G_l_asked_right hgd (hr.mono (by decide)) (by rfl) T.g_l_asked_right T.F_l_asked_right.kp T.b_l_asked_right .nil pass0 (pa_cons (pv 3) pa_nil)))) (pss_one (ps_ret pe_bl)) pss_nil)
    (pss_cons (ps_for PassesOwn.never rfl (pi_range1 rfl T.z_range (pa_cons pe_int pa_nil)) (pg_name (i := 4) sc_law.nd rfl (Or.inl rfl))
    (pss_cons (ps_par (i := 5) (j := 6) (by rfl) sc_law.nd rfl rfl (by decide) rfl rfl (pa_cons (pe_call G_l_bent_order (hr.mono (by decide)) (by rfl) T.g_l_bent_order T.F_l_bent_order.kp T.b_l_bent_order .nil pass0 (pa_cons (pv 1) (pa_cons (pv 3) pa_nil))) (pa_cons (pe_callB call_len_seq (by rfl) T.z_len PySem.boot_len (pa_cons (pv 3) pa_nil)) pa_nil)) (by rfl))
    (pss_one (ps_if (pt_cmpR op_ne (pe_callB (call_reprD hgd hu66) (by rfl) T.z_repr (by decide +kernel) (pa_cons (pe_call G_is_order (hr.mono (by decide)) (by rfl) T.g_is_order T.F_is_order.kp T.b_is_order .nil pass0 (pa_cons (pv 6) (pa_cons (pv 5) pa_nil))) pa_nil)) (pe_callB (call_reprD hgd hu66) (by rfl) T.z_repr (by decide +kernel) (pa_cons (pe_call G_l_is_order (hr.mono (by decide)) (by rfl) T.g_l_is_order T.F_l_is_order.kp T.b_l_is_order .nil pass0 (pa_cons (pv 6) (pa_cons (pv 5) pa_nil))) pa_nil)) (nomark _)) (pss_one (ps_ret pe_bl)) pss_nil))))
    (pss_one (ps_for PassesOwn.never rfl (pi_list (pe_lst (pa_cons pe_int (pa_cons (pe_callB call_len_seq (by rfl) T.z_len PySem.boot_len (pa_cons (pv 3) pa_nil)) (pa_cons (pe_op op_add (pe_callB call_len_seq (by rfl) T.z_len PySem.boot_len (pa_cons (pv 3) pa_nil)) pe_int) (pa_cons (pe_op op_pow pe_int pe_int) (pa_cons (pe_un un_neg pe_int) (pa_cons pe_bl (pa_cons pe_non (pa_cons pe_str (pa_cons (pe_lst (pa_cons pe_int pa_nil)) (pa_cons pe_dnewK (pa_cons (pe_tup (pa_cons pe_int pa_nil)) pa_nil))))))))))))) (pg_name (i := 7) sc_law.nd rfl (Or.inr rfl))
    (pss_one (ps_if (pt_cmpR op_ne (pe_callB (call_reprE hgd hu66) (by rfl) T.z_repr (by decide +kernel) (pa_cons (pe_lamF (Ts := [(p0, (("law" : Str) ++ ".<locals>.") ++ "<lambda>")]) (TT := TNol T.C_NoLevel) (by rfl) T.g_l_no_level T.F_l_no_level T.b_l_no_level sc_l_no_level rfl (Or.inl rfl) (fun cdv => nol_gives T.y_NoLevel.g T.y_NoLevel.me T.y_NoLevel.xf T.y_NoLevel.np) TB rfl (List.Mem.head _) (fun p hp _ => by rw [List.mem_singleton.mp hp]; rfl) (k := 4) (hr.mono (by decide)) (by show lamSB (defScope s_law) _ = true; decide +kernel) rfl (fun _ _ _ _ _ => rfl) (fun A1 o1 s1 H1 E1 f1 c1 hr1 => pe_call G_stepped_odd (hr1.mono (by decide)) (by rfl) T.g_stepped T.F_stepped.kp T.b_stepped .nil pass_lam (pa_cons (pv 3) (pa_cons (pv 7) pa_nil)))) pa_nil)) (pe_callB (call_reprE hgd hu66) (by rfl) T.z_repr (by decide +kernel) (pa_cons (pe_lst (pa_cons (pv 7) pa_nil)) pa_nil)) (nomark _)) (pss_one (ps_ret pe_bl)) pss_nil))))))))
    (pss_one (ps_ret (pe_and (pe_call G_is_order (hr.mono (by decide)) (by rfl) T.g_is_order T.F_is_order.kp T.b_is_order .nil pass0 (pa_cons pe_int (pa_cons (pe_tup pa_nil) pa_nil))) (pe_and (pe_call G_is_order (hr.mono (by decide)) (by rfl) T.g_is_order T.F_is_order.kp T.b_is_order .nil pass0 (pa_cons pe_int (pa_cons (pe_tup (pa_cons pe_int pa_nil)) pa_nil))) (pe_and (pe_not (pe_call G_is_order (hr.mono (by decide)) (by rfl) T.g_is_order T.F_is_order.kp T.b_is_order .nil pass0 (pa_cons pe_int (pa_cons (pe_tup (pa_cons pe_bl pa_nil)) pa_nil)))) (pe_one (pe_not (pe_call G_is_order (hr.mono (by decide)) (by rfl) T.g_is_order T.F_is_order.kp T.b_is_order .nil pass0 (pa_cons pe_int (pa_cons (pe_tup (pa_cons pe_int (pa_cons pe_bl pa_nil))) pa_nil)))))))))))), ?_⟩
    refine ⟨.ref a, rfl, a, ns, rfl, hS, hlen, fun d c H1 k1 => ?_⟩
    obtain ⟨Ts, hTs⟩ : ∃ Ts : List (Addr × Str), Ts = [(p0, (("law" : Str) ++ ".<locals>.") ++ "<lambda>")] := ⟨_, rfl⟩
    have tH : Tabs Ts H := fun p hp => by
      rw [hTs] at hp
      rw [List.mem_singleton.mp hp]
      exact TabS.nil hp0
    refine ⟨6, rfl, by decide, by decide, for_range (lo := 0) (n := 6) (fun i σ H' => ∃ (v2 v3 v4 v5 v6 v7 : Option V) (G : Hp), σ = [some (.ref a), some (.ref d), v2, v3, v4, v5, v6, v7] ∧ Kn G H' d c ∧ Tabs Ts G) ⟨_, _, _, _, _, _, H, rfl, k1, tH⟩ ?_ ?_⟩
    · rintro i σ H2 hi ⟨v2, v3, v4, v5, v6, v7, G, rfl, k2, tG⟩
      refine ⟨.ref d, rfl, .ref d, rfl, (by show 8 ≤ sizeLine; decide), fun L hL => ?_⟩
      have k3 := k2.new (o := .lst [.int 0, .int 1, .int 2, .int 3, .int 4, .int 6, .int 9, .int 29]) hL
      have gL : G L = none := k2.free hL
      have sL : Same G (upd G L (.lst [.int 0, .int 1, .int 2, .int 3, .int 4, .int 6, .int 9, .int 29])) := same_new gL
      refine ⟨_, d, c, L, _, rfl, k3, .inl (.inl upd_same), by show 0 < 8; decide, by show 8 ≤ 100000; decide, fun x H3 k4 hx => ?_⟩
      obtain ⟨n, rfl, hn⟩ : ∃ n : Nat, x = .int (n : Nat) ∧ n ≤ 29 := by
        simp only [List.mem_cons, List.not_mem_nil, or_false] at hx
        rcases hx with rfl | rfl | rfl | rfl | rfl | rfl | rfl | rfl
        · exact ⟨0, rfl, by decide⟩
        · exact ⟨1, rfl, by decide⟩
        · exact ⟨2, rfl, by decide⟩
        · exact ⟨3, rfl, by decide⟩
        · exact ⟨4, rfl, by decide⟩
        · exact ⟨6, rfl, by decide⟩
        · exact ⟨9, rfl, by decide⟩
        · exact ⟨29, rfl, by decide⟩
      generalize upd G L (.lst [.int 0, .int 1, .int 2, .int 3, .int 4, .int 6, .int 9, .int 29]) = G1 at k3 k4 sL
      refine ⟨_, d, c, n, rfl, k4, by omega, fun t o G2 H4 s4 k5 hF pm => ?_⟩
      have ol : o.length = n := by rw [pm.length_eq, rgI_len]
      have ho : Ordr o := by
        unfold Ordr
        rw [ol]
        exact pm
      have ob : ∀ x ∈ o, 0 ≤ x ∧ x < 1000 := fun x hx => by
        obtain ⟨j, hj, rfl⟩ := List.mem_iff_getElem.mp hx
        have := ho.at hj
        omega
      have tG2 := (tG.ext sL).ext s4
      refine ⟨.ref t, rfl, t, o, rfl, hF.mono k5.le, by omega, ho, fun H5 s5 => ⟨true, rfl, iteF ?_⟩⟩
      have k6 := k5.mono s5
      refine ⟨4, rfl, by decide, by decide, for_range (lo := 0) (n := 4) (fun j σ H' => ∃ (v4 v5 v6 : Option V) (G : Hp), σ = [some (.ref a), some (.ref d), some (.int (0 + (i : Int))), some (.ref t), v4, v5, v6, v7] ∧ Kn G H' d c ∧ Same G2 G) ⟨_, _, _, G2, rfl, k6, Same.refl _⟩ ?_ ?_⟩
      · rintro j σ H6 hj ⟨v4', v5', v6', G3, rfl, k7, s23⟩
        refine ⟨.ref d, rfl, .ref t, rfl, G3, d, c, t, o, rfl, k7, (hF.mono s23).sq, by omega, ob, fun v e G4 H7 s34 k8 hv => ?_⟩
        have hT8 : SqT K H7 t (o.map V.int) := (hF.mono ((s23.trans s34).trans k8.le)).sq
        refine ⟨.ref t, rfl, t, _, rfl, .inr hT8, _, _, rfl, ?_⟩
        have hk : ∀ {H' : Hp}, Same H7 H' → Kd K H' v e := fun s => vl_kd (hv.mono (k8.le.trans s))
        have end1 : ∀ {H' : Hp}, Same H7 H' → ∃ (u4 u5 u6 : Option V) (G : Hp), [some (.ref a), some (.ref d), some (.int (0 + (i : Int))), some (.ref t), some (.int (0 + (j : Int))), some v, some (.int ((o.map V.int).length : Nat)), v7] = [some (.ref a), some (.ref d), some (.int (0 + (i : Int))), some (.ref t), u4, u5, u6, v7] ∧ Kn G H' d c ∧ Same G2 G := fun s => ⟨_, _, _, G4, rfl, k8.mono s, s23.trans s34⟩
        refine ⟨.int ((o.map V.int).length : Nat), rfl, v, rfl, (o.map V.int).length, v, e, rfl, hk (Same.refl _), by rw [List.length_map]; omega, fun H8 s8 g => ?_, fun H8 s8 ng => ?_⟩
        · refine nil_i (repr_ok (.bl true) (shw_bl true) (by decide) (by decide) ?_)
          refine ⟨.int ((o.map V.int).length : Nat), rfl, v, rfl, (o.map V.int).length, v, e, rfl, hk s8, by rw [List.length_map]; omega, fun H9 s9 _ => nil_i (repr_ok (.bl true) (shw_bl true) (by decide) (by decide) ?_), fun _ _ ng => absurd g ng⟩
          exact ⟨rfl, _, rfl, ne_no (end1 (s8.trans s9))⟩
        · refine nil_i (repr_ok (.bl false) (shw_bl false) (by decide) (by decide) ?_)
          refine ⟨.int ((o.map V.int).length : Nat), rfl, v, rfl, (o.map V.int).length, v, e, rfl, hk s8, by rw [List.length_map]; omega, fun _ _ g => absurd g ng, fun H9 s9 _ => nil_i (repr_ok (.bl false) (shw_bl false) (by decide) (by decide) ?_)⟩
          exact ⟨rfl, _, rfl, ne_no (end1 (s8.trans s9))⟩
      · rintro σ H6 ⟨v4', v5', v6', G3, rfl, k7, s23⟩
        have hT6 : SqT K H6 t (o.map V.int) := (hF.mono (s23.trans k7.le)).sq
        have t6 : Tabs Ts H6 := (tG2.ext s23).ext k7.le
        refine ⟨.ref t, rfl, t, _, rfl, .inr hT6, .ref t, rfl, t, _, rfl, .inr hT6, _, 1, rfl, rfl, 10, 30, rfl, rfl, (by unfold CPow; decide), 1, rfl, ?_⟩
        rw [List.length_map]
        refine ⟨(by show 1 ≤ sizeLine; decide), fun e2 he2 => ?_⟩
        have t2 := same_new (o := .lst [.int 1]) he2
        have o2 : (upd H6 e2 (.lst [.int 1])) e2 = some (.lst [.int 1]) := upd_same
        generalize upd H6 e2 (.lst [.int 1]) = H7 at t2 o2
        intro e3 he3
        have t3 := same_new (o := .dK []) he3
        have o3 : (upd H7 e3 (.dK [])) e3 = some (.dK []) := upd_same
        generalize upd H7 e3 (.dK []) = H8 at t3 o3
        refine ⟨(by show 1 ≤ sizeLine; decide), fun e4 he4 => ?_⟩
        have t4 := same_new (o := .tup [.int 1]) he4
        have o4 : (upd H8 e4 (.tup [.int 1])) e4 = some (.tup [.int 1]) := upd_same
        generalize upd H8 e4 (.tup [.int 1]) = H9 at t4 o4
        refine ⟨(by show 11 ≤ sizeLine; decide), fun L2 hL2 => ?_⟩
        have t5 := same_new (o := .lst (oddL o.length e2 e3 e4)) hL2
        have hL3 : (upd H9 L2 (.lst (oddL o.length e2 e3 e4))) L2 = some (.lst (oddL o.length e2 e3 e4)) := upd_same
        have od9 : Odds H9 e2 e3 e4 := ⟨t4 _ _ (t3 _ _ o2), t4 _ _ o3, o4⟩
        have odM : ∀ {A B : Hp}, ExtN A B → Odds A e2 e3 e4 → Odds B e2 e3 e4 := fun e o => ⟨e _ _ o.1 (fun _ z => nomatch z), e _ _ o.2.1 (fun _ z => nomatch z), e _ _ o.2.2 (fun _ z => nomatch z)⟩
        have od10 := odM (ExtN.of t5) od9
        have s610 : Same H6 (upd H9 L2 (.lst (oddL o.length e2 e3 e4))) := ((t2.trans t3).trans t4).trans t5
        have nV : (oddL o.length e2 e3 e4) = [V.int 0, V.int ((o.length : Nat) : Int), (fun (i j : Int) => V.int (i + j)) (o.length : Int) 1, (fun (i j : Int) => V.int (i ^ j.toNat)) 10 30, (fun (i : Int) => V.int (-i)) 1, V.bl true, V.non, V.str "1", V.ref e2, V.ref e3, V.ref e4] := rfl
        rw [← nV]
        have t10 : Tabs Ts (upd H9 L2 (.lst (oddL o.length e2 e3 e4))) := t6.ext s610
        have hT10 := sameT s610 hT6
        have k10 := k7.mono s610
        generalize upd H9 L2 (.lst (oddL o.length e2 e3 e4)) = H10 at hL3 od10 s610 t10 hT10 k10
        refine ⟨L2, rfl, ⟨_, .inl (.inl hL3)⟩, for_list (K := K) (a := L2) (xs := oddL o.length e2 e3 e4) (fun i2 σ H' => ∃ u7 : Option V, σ = [some (.ref a), some (.ref d), some (.int (0 + (i : Int))), some (.ref t), v4', v5', v6', u7] ∧ ExtN H10 H' ∧ Tabs Ts H') ⟨_, rfl, ExtN.refl _, t10⟩ (fun i2 σ H' _ ⟨_, _, e, _⟩ => .inl (.inl (e _ _ hL3 (fun _ z => nomatch z)))) ?_ ?_⟩
        · rintro i2 v σ H11 hv ⟨u7, rfl, e11, t11⟩
          obtain ⟨dd, lf, bad, sl⟩ := odd_lf (K := K) (by omega) hv
          subst hTs
          refine ⟨t11, fun H12 e12 t12 l0 hl0 => ?_⟩
          have e13 := (e11.trans e12).trans (ExtN.of (same_new (o := .lst []) hl0))
          have t13 := t12.ext (same_new (o := .lst []) hl0)
          generalize upd H12 l0 (.lst []) = H13 at e13 t13
          refine ⟨.ref t, rfl, v, rfl, t, o, v, dd, rfl, extN_t e13 hT10, lf _ (odM e13 od10), bad, fun cls dx H14 th => ?_⟩
          obtain ⟨d0, rfl, hd0⟩ := th.f
          refine ⟨th.c, d0, v, rfl, hd0, fun l2 hl2 => nil_i (.inl ?_)⟩
          have s15 := same_new (o := .lst [v]) hl2
          have e15 := e13.trans (ExtN.of (th.s.trans s15))
          have t15 := t13.ext (th.s.trans s15)
          refine ⟨l2, [], [], v, dd, rfl, .inl (.inl upd_same), lf _ (odM e15 od10), sl.sh, sl.dp, sl.ln, ?_⟩
          generalize upd H14 l2 (.lst [v]) = H15 at s15 e15 t15
          refine ⟨v, rfl, (by show 1 ≤ sizeLine; decide), fun l3 hl3 => nil_i (.inl ?_)⟩
          have s16 := same_new (o := .lst [v]) hl3
          have e16 := e15.trans (ExtN.of s16)
          refine ⟨l3, [], [], v, dd, rfl, .inl (.inl upd_same), lf _ (odM e16 od10), sl.sh, sl.dp, sl.ln, ?_⟩
          refine ⟨rfl, _, rfl, ne_no ?_⟩
          exact ⟨_, rfl, e16, t15.ext s16⟩
        · rintro σ H11 ⟨u7, rfl, e11, t11⟩
          obtain ⟨kE, _⟩ := extN_kn k10 e11
          have kN : Kn (fun _ => none) H11 d c := ⟨fun b o z => (nomatch z), rfl, rfl, extN_src k10.src e11⟩
          exact ⟨_, _, _, _, _, _, hide H11 d c, rfl, kE, tabs_hide kN t11⟩
    · rintro σ H2 ⟨v2, v3, v4, v5, v6, v7, G, rfl, k2, tG⟩
      refine ⟨Nat.zero_le _, fun u1 hu1 => ?_⟩
      have kd1 : Kd K (upd H2 u1 (.tup [])) (.ref u1) (.tuple []) := lf_kd (.dp (.tup (.inl (.inl upd_same)) .nil) rfl)
      refine ⟨0, .ref u1, .tuple [], rfl, kd1, by decide, fun H3 s3 _ => ⟨true, rfl, iteT ?_⟩, fun _ _ ng => absurd ⟨[], rfl, rfl, List.Perm.refl _⟩ ng⟩
      refine ⟨(by show 1 ≤ sizeLine; decide), fun u2 hu2 => ?_⟩
      have kd2 : Kd K (upd H3 u2 (.tup [.int 0])) (.ref u2) (.tuple [.int 0]) := lf_kd (.dp (.tup (.inl (.inl upd_same)) (.cons (.int 0) .nil)) rfl)
      refine ⟨1, .ref u2, .tuple [.int 0], rfl, kd2, by decide, fun H4 s4 _ => ⟨true, rfl, iteT ?_⟩, fun _ _ ng => absurd ⟨[0], rfl, rfl, List.Perm.refl _⟩ ng⟩
      refine ⟨(by show 1 ≤ sizeLine; decide), fun u3 hu3 => ?_⟩
      have kd3 : Kd K (upd H4 u3 (.tup [.bl false])) (.ref u3) (.tuple [.bool false]) := lf_kd (.dp (.tup (.inl (.inl upd_same)) (.cons (.bl false) .nil)) rfl)
      have n3 : ¬ GoodO 1 (.tuple [.bool false]) := fun ⟨o, e, _, _⟩ => by
        injection e with e
        cases o with
        | nil => cases e
        | cons x o => injection e with e; cases e
      have n4 : ¬ GoodO 2 (.tuple [.int 0, .bool true]) := fun ⟨o, e, _, _⟩ => by
        injection e with e
        cases o with
        | nil => cases e
        | cons x o =>
          injection e with e f
          cases o with
          | nil => cases f
          | cons y o => injection f with f; cases f
      refine ⟨1, .ref u3, .tuple [.bool false], rfl, kd3, by decide, fun _ _ g => absurd g n3, fun H5 s5 _ => ?_⟩
      refine ⟨false, rfl, true, rfl, iteT ?_⟩
      refine ⟨(by show 2 ≤ sizeLine; decide), fun u4 hu4 => ?_⟩
      have kd4 : Kd K (upd H5 u4 (.tup [.int 0, .bl true])) (.ref u4) (.tuple [.int 0, .bool true]) := lf_kd (.dp (.tup (.inl (.inl upd_same)) (.cons (.int 0) (.cons (.bl true) .nil))) rfl)
      exact ⟨2, .ref u4, .tuple [.int 0, .bool true], rfl, kd4, by decide, fun _ _ g => absurd g n4, fun H6 s6 _ => ⟨false, rfl, q _⟩⟩
end

theorem fin_ok {l : PySem.W.OpenLaw} {q : Program} {w : World} {K : PySem.W.Frag} {mg : Str → Option Value} {fa : Addr} {h : Heap} (KX : K.In h) (nt : noTab K = true) (D : DefTabs q mg h) (hq : ((PyProof.Rows.recsOf q).any fun e => e.name == ("law" : Str)) = true) (T : Tx K mg) (hfa : mg "law" = some (.ref fa)) :
    LawT l w K CX0 14 63 "_law_script" mg fa h := by
  have e := hfa.symm.trans T.g_law
  cases e
  obtain ⟨p, hc, hO⟩ := tab_get D KX nt T.F_law T.g_law hq
  refine ⟨T.d_law, [p], spLaw K p.2, fun r hr => ?_, fun s v => ?_, fun H a ns hl hp hS => ⟨a, ns, rfl, hS, hl, hp p (List.mem_singleton.mpr rfl), fun _ => rfl⟩, fun base _ _ hTB => ok_law T hc (hTB p (List.mem_singleton.mpr rfl))⟩
  · rw [List.mem_singleton.mp hr]
    exact hO
  · obtain ⟨oc, od, kV, doc, pm, an, cdv, ct, osl, ed, lk, hcd⟩ := T.F_law.ex
    rw [ed]
    exact .of_eq rfl
end Lw
open PySem PySem.W PyProof.Rows
set_option maxHeartbeats 0 in
theorem PySem.Challenge.cw_codenests_k29_orders_asked_holds : PySem.Challenge.rw_codenests_k29_orders_asked.Holds := by
  w_on; o_law; k_head; (case hw => w_witness2)
  k_fill
  refine Lw.walk_T (l := PySem.Challenge.rw_codenests_k29_orders_asked) (n := 63) (k := 14) (x := "_law_script") (CX := fun _ => L2.CX0) rfl (by decide) rfl ⟨rfl, by decide, by decide⟩ (fun w h Y => by first | exact PySem.W.kIn_of Y | exact PySem.W.km_in_of Y) ?F (fun _ _ _ _ _ h => h)
  case F =>
    intro w mg fa h KX G hmg D
    refine' Lw.fin_ok KX (by first | rfl | decide +kernel) D (by first | rfl | decide +kernel) (Lw.tx_mk KX G ?a_NoLevel ?yim_NoLevel ?yov_NoLevel ?ytk_NoLevel ?ysa_NoLevel ?yga_NoLevel ?ygg_NoLevel ?ynp_NoLevel ?yin_NoLevel ?yti_NoLevel ?ykC_NoLevel ?yeC_NoLevel ?ytC_NoLevel ?yhC_NoLevel ?yiC_NoLevel ?xs_NoLevel ?l_NoLevel_init ?c_NoLevel_init ?k_NoLevel_init ?a_is_number ?l_is_number ?c_is_number ?k_is_number ?a_order_fault ?l_order_fault ?c_order_fault ?k_order_fault ?a_is_order ?l_is_order ?c_is_order ?k_is_order ?a_falling_pairs ?l_falling_pairs ?c_falling_pairs ?k_falling_pairs ?a_inversions ?l_inversions ?c_inversions ?k_inversions ?a_turned_back ?l_turned_back ?c_turned_back ?k_turned_back ?a_sorting_steps ?l_sorting_steps ?c_sorting_steps ?k_sorting_steps ?a_stepped ?l_stepped ?c_stepped ?k_stepped ?a_l_source ?l_l_source ?c_l_source ?k_l_source ?a_l_pick ?l_l_pick ?c_l_pick ?k_l_pick ?a_l_of ?l_l_of ?c_l_of ?k_l_of ?a_l_mixed ?l_l_mixed ?c_l_mixed ?k_l_mixed ?a_l_odd ?l_l_odd ?c_l_odd ?k_l_odd ?a_l_any_order ?l_l_any_order ?c_l_any_order ?k_l_any_order ?a_l_inversions ?l_l_inversions ?c_l_inversions ?k_l_inversions ?a_l_stepped ?l_l_stepped ?c_l_stepped ?k_l_stepped ?a_l_steps ?l_l_steps ?c_l_steps ?k_l_steps ?a_l_no_level ?l_l_no_level ?c_l_no_level ?k_l_no_level ?a_l_is_order ?l_l_is_order ?c_l_is_order ?k_l_is_order ?a_l_bent_order ?l_l_bent_order ?c_l_bent_order ?k_l_bent_order ?a_l_back ?l_l_back ?c_l_back ?k_l_back ?a_l_asked_right ?l_l_asked_right ?c_l_asked_right ?k_l_asked_right ?a_law ?l_law ?c_law ?k_law ?z_len ?z_range ?z_int ?z_bool ?z_tuple ?z_list ?z_isinstance ?z_abs ?z_max ?z_enumerate ?z_repr ?z_sum ?z_sorted ?z_str ?a_combinations) hmg
    (case a_NoLevel => k_is)
    (case yim_NoLevel => kx_is)
    (case yov_NoLevel => kx_is)
    (case ytk_NoLevel => k_is)
    (case ysa_NoLevel => k_is)
    (case yga_NoLevel => k_is)
    (case ygg_NoLevel => k_is)
    (case ynp_NoLevel => k_is)
    (case yin_NoLevel => k_is)
    (case yti_NoLevel => k_is)
    (case ykC_NoLevel => k_is)
    (case yeC_NoLevel => k_is)
    (case ytC_NoLevel => k_is)
    (case yhC_NoLevel => k_is)
    (case yiC_NoLevel => k_is)
    (case xs_NoLevel => first | rfl | k_is)
    (case l_NoLevel_init => k_is)
    (case c_NoLevel_init => k_is)
    (case k_NoLevel_init => k_is)
    (case a_is_number => k_is)
    (case l_is_number => k_is)
    (case c_is_number => k_is)
    (case k_is_number => k_is)
    (case a_order_fault => k_is)
    (case l_order_fault => k_is)
    (case c_order_fault => k_is)
    (case k_order_fault => k_is)
    (case a_is_order => k_is)
    (case l_is_order => k_is)
    (case c_is_order => k_is)
    (case k_is_order => k_is)
    (case a_falling_pairs => k_is)
    (case l_falling_pairs => k_is)
    (case c_falling_pairs => k_is)
    (case k_falling_pairs => k_is)
    (case a_inversions => k_is)
    (case l_inversions => k_is)
    (case c_inversions => k_is)
    (case k_inversions => k_is)
    (case a_turned_back => k_is)
    (case l_turned_back => k_is)
    (case c_turned_back => k_is)
    (case k_turned_back => k_is)
    (case a_sorting_steps => k_is)
    (case l_sorting_steps => k_is)
    (case c_sorting_steps => k_is)
    (case k_sorting_steps => k_is)
    (case a_stepped => k_is)
    (case l_stepped => k_is)
    (case c_stepped => k_is)
    (case k_stepped => k_is)
    (case a_l_source => k_is)
    (case l_l_source => k_is)
    (case c_l_source => k_is)
    (case k_l_source => k_is)
    (case a_l_pick => k_is)
    (case l_l_pick => k_is)
    (case c_l_pick => k_is)
    (case k_l_pick => k_is)
    (case a_l_of => k_is)
    (case l_l_of => k_is)
    (case c_l_of => k_is)
    (case k_l_of => k_is)
    (case a_l_mixed => k_is)
    (case l_l_mixed => k_is)
    (case c_l_mixed => k_is)
    (case k_l_mixed => k_is)
    (case a_l_odd => k_is)
    (case l_l_odd => k_is)
    (case c_l_odd => k_is)
    (case k_l_odd => k_is)
    (case a_l_any_order => k_is)
    (case l_l_any_order => k_is)
    (case c_l_any_order => k_is)
    (case k_l_any_order => k_is)
    (case a_l_inversions => k_is)
    (case l_l_inversions => k_is)
    (case c_l_inversions => k_is)
    (case k_l_inversions => k_is)
    (case a_l_stepped => k_is)
    (case l_l_stepped => k_is)
    (case c_l_stepped => k_is)
    (case k_l_stepped => k_is)
    (case a_l_steps => k_is)
    (case l_l_steps => k_is)
    (case c_l_steps => k_is)
    (case k_l_steps => k_is)
    (case a_l_no_level => k_is)
    (case l_l_no_level => k_is)
    (case c_l_no_level => k_is)
    (case k_l_no_level => k_is)
    (case a_l_is_order => k_is)
    (case l_l_is_order => k_is)
    (case c_l_is_order => k_is)
    (case k_l_is_order => k_is)
    (case a_l_bent_order => k_is)
    (case l_l_bent_order => k_is)
    (case c_l_bent_order => k_is)
    (case k_l_bent_order => k_is)
    (case a_l_back => k_is)
    (case l_l_back => k_is)
    (case c_l_back => k_is)
    (case k_l_back => k_is)
    (case a_l_asked_right => k_is)
    (case l_l_asked_right => k_is)
    (case c_l_asked_right => k_is)
    (case k_l_asked_right => k_is)
    (case a_law => k_is)
    (case l_law => k_is)
    (case c_law => k_is)
    (case k_law => k_is)
    (case z_len => k_is)
    (case z_range => k_is)
    (case z_int => k_is)
    (case z_bool => k_is)
    (case z_tuple => k_is)
    (case z_list => k_is)
    (case z_isinstance => k_is)
    (case z_abs => k_is)
    (case z_max => k_is)
    (case z_enumerate => k_is)
    (case z_repr => k_is)
    (case z_sum => k_is)
    (case z_sorted => k_is)
    (case z_str => k_is)
    (case a_combinations => k_is)
