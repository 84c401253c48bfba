import PyProof.Rows.All
import Wide.All
import OpenK.AllK
import Wide.FinOn
import HandS.ForMost
import HandS.Style
import HandS.IsInst
import HandS.Exc
import HandS.ExcOwn
import HandS.TryOnly
import HandS.WordsExc
import HandS.TupAny
import HandS.Steps
import HandS.TupMul
import HandS.Small
import HandS.RaiseMore
import HandS.Zip
import KE.GoesEnum
import KE.GoesMore
import KE.GoesZip
import HandS.ExcInit
import HandS.ExcField
import HandS.Wide
import HandS.Sort
import HandS.TupSets
import HandS.SortOrd
import HandS.SortRule
import HandS.Conv
import HandS.Gcd
import HandS.Deep
import PySem.Challenge.RW_codenests_k56_nests_so_many_deeds_away
set_option Elab.async false
set_option linter.all false
set_option maxRecDepth 100000
set_option maxHeartbeats 4000000
namespace Lw
open PySem L2
/-! ### the drawn source -/
abbrev ks (x : Str) : Key := Sum.inr x
theorem zCL : ¬ Str.ofString "cells" = Str.ofString "left" := by decide +kernel
theorem zCM : ¬ Str.ofString "cells" = Str.ofString "mixed" := by decide +kernel
theorem zCT : ¬ Str.ofString "cells" = Str.ofString "turn" := by decide +kernel
theorem zLC : ¬ Str.ofString "left" = Str.ofString "cells" := by decide +kernel
theorem zLM : ¬ Str.ofString "left" = Str.ofString "mixed" := by decide +kernel
theorem zLT : ¬ Str.ofString "left" = Str.ofString "turn" := by decide +kernel
theorem zMC : ¬ Str.ofString "mixed" = Str.ofString "cells" := by decide +kernel
theorem zML : ¬ Str.ofString "mixed" = Str.ofString "left" := by decide +kernel
theorem zMT : ¬ Str.ofString "mixed" = Str.ofString "turn" := by decide +kernel
theorem zTC : ¬ Str.ofString "turn" = Str.ofString "cells" := by decide +kernel
theorem zTL : ¬ Str.ofString "turn" = Str.ofString "left" := by decide +kernel
theorem zTM : ¬ Str.ofString "turn" = Str.ofString "mixed" := by decide +kernel
theorem kCL : ¬ ks "cells" = ks "left" := fun h => absurd (Sum.inr.inj h) (by decide +kernel)
theorem kCM : ¬ ks "cells" = ks "mixed" := fun h => absurd (Sum.inr.inj h) (by decide +kernel)
theorem kCT : ¬ ks "cells" = ks "turn" := fun h => absurd (Sum.inr.inj h) (by decide +kernel)
theorem kLM : ¬ ks "left" = ks "mixed" := fun h => absurd (Sum.inr.inj h) (by decide +kernel)
theorem kLT : ¬ ks "left" = ks "turn" := fun h => absurd (Sum.inr.inj h) (by decide +kernel)
theorem kMT : ¬ ks "mixed" = ks "turn" := fun h => absurd (Sum.inr.inj h) (by decide +kernel)
theorem kLC : ¬ ks "left" = ks "cells" := fun h => kCL h.symm
theorem kMC : ¬ ks "mixed" = ks "cells" := fun h => kCM h.symm
theorem kTC : ¬ ks "turn" = ks "cells" := fun h => kCT h.symm
theorem kML : ¬ ks "mixed" = ks "left" := fun h => kLM h.symm
theorem kTL : ¬ ks "turn" = ks "left" := fun h => kLT h.symm
theorem kTM : ¬ ks "turn" = ks "mixed" := fun h => kMT h.symm
def srcK (c : Addr) (l m t : Int) : List (Key × V) := [(ks "cells", .ref c), (ks "left", .int l), (ks "mixed", .int m), (ks "turn", .int t)]
theorem src_cells (c : Addr) (l m t : Int) : valV (srcK c l m t) (ks "cells") = some (.ref c) := valV_pos rfl
theorem src_left (c : Addr) (l m t : Int) : valV (srcK c l m t) (ks "left") = some (.int l) := (valV_neg kCL).trans (valV_pos rfl)
theorem src_mixed (c : Addr) (l m t : Int) : valV (srcK c l m t) (ks "mixed") = some (.int m) := (valV_neg kCM).trans ((valV_neg kLM).trans (valV_pos rfl))
theorem src_turn (c : Addr) (l m t : Int) : valV (srcK c l m t) (ks "turn") = some (.int t) := (valV_neg kCT).trans ((valV_neg kLT).trans ((valV_neg kMT).trans (valV_pos rfl)))
theorem put_left (c : Addr) (l m t z : Int) : putK (srcK c l m t) (ks "left") (.int z) = srcK c z m t := by
  simp [putK, srcK, zCL, zCM, zCT, zLC, zLM, zLT, zMC, zML, zMT, zTC, zTL, zTM]
theorem put_mixed (c : Addr) (l m t z : Int) : putK (srcK c l m t) (ks "mixed") (.int z) = srcK c l z t := by
  simp [putK, srcK, zCL, zCM, zCT, zLC, zLM, zLT, zMC, zML, zMT, zTC, zTL, zTM]
theorem put_turn (c : Addr) (l m t z : Int) : putK (srcK c l m t) (ks "turn") (.int z) = srcK c l m z := by
  simp [putK, srcK, zCL, zCM, zCT, zLC, zLM, zLT, zMC, zML, zMT, zTC, zTL, zTM]
theorem merge_src (c : Addr) (l m t : Int) : mergeK [] (srcK c l m t) = srcK c l m t := by
  simp [mergeK, putK, srcK, zCL, zCM, zCT, zLC, zLM, zLT, zMC, zML, zMT, zTC, zTL, zTM]
theorem get_cells {H : Hp} {d c : Addr} {l m t : Int} (e : H d = some (.dK (srcK c l m t))) : DGet H d (.str "cells") (some (.ref c)) := by
  have h := DGet.k (k := ks "cells") e
  rw [src_cells] at h
  exact h
theorem get_left {H : Hp} {d c : Addr} {l m t : Int} (e : H d = some (.dK (srcK c l m t))) : DGet H d (.str "left") (some (.int l)) := by
  have h := DGet.k (k := ks "left") e
  rw [src_left] at h
  exact h
theorem get_mixed {H : Hp} {d c : Addr} {l m t : Int} (e : H d = some (.dK (srcK c l m t))) : DGet H d (.str "mixed") (some (.int m)) := by
  have h := DGet.k (k := ks "mixed") e
  rw [src_mixed] at h
  exact h
theorem get_turn {H : Hp} {d c : Addr} {l m t : Int} (e : H d = some (.dK (srcK c l m t))) : DGet H d (.str "turn") (some (.int t)) := by
  have h := DGet.k (k := ks "turn") e
  rw [src_turn] at h
  exact h
theorem dput_left {H : Hp} {d c : Addr} {l m t z : Int} (e : H d = some (.dK (srcK c l m t))) : DPut H d (.str "left") (.int z) (upd H d (.dK (srcK c z m t))) := by
  have h := DPut.k (k := ks "left") (v := .int z) e (small1000 (by show 4 ≤ 1000; decide))
  rw [put_left] at h
  exact h
theorem dput_mixed {H : Hp} {d c : Addr} {l m t z : Int} (e : H d = some (.dK (srcK c l m t))) : DPut H d (.str "mixed") (.int z) (upd H d (.dK (srcK c l z t))) := by
  have h := DPut.k (k := ks "mixed") (v := .int z) e (small1000 (by show 4 ≤ 1000; decide))
  rw [put_mixed] at h
  exact h
theorem dput_turn {H : Hp} {d c : Addr} {l m t z : Int} (e : H d = some (.dK (srcK c l m t))) : DPut H d (.str "turn") (.int z) (upd H d (.dK (srcK c l m z))) := by
  have h := DPut.k (k := ks "turn") (v := .int z) e (small1000 (by show 4 ≤ 1000; decide))
  rw [put_turn] at h
  exact h
/-- the drawn source stands at d, its cells at c -/
def Src (H : Hp) (d c : Addr) : Prop := ∃ (xs : List Int) (l m t : Int), H d = some (.dK (srcK c l m t)) ∧ H c = some (.lst (xs.map V.int)) ∧ xs.length ≤ 63 ∧ (∀ x ∈ xs, 0 ≤ x) ∧ 0 ≤ l ∧ 0 ≤ m ∧ m < 2147483647
/-- G is known: it stands in H whatever is drawn; the source itself is apart from it -/
structure Kn (G H : Hp) (d c : Addr) : Prop where
  le : Same G H
  gd : G d = none
  gc : G c = none
  src : Src H d c
section
variable {G H H' : Hp} {d c p : Addr} {o o' : HO}
theorem Src.ne (s : Src H d c) : c ≠ d := by
  obtain ⟨xs, l, m, t, h1, h2, _⟩ := s
  exact ne_of h2 h1 (by intro z; cases z)
theorem Src.some_d (s : Src H d c) (hp : H p = none) : p ≠ d := by
  obtain ⟨xs, l, m, t, h1, h2, _⟩ := s
  exact fun e => by rw [e, h1] at hp; cases hp
theorem Src.some_c (s : Src H d c) (hp : H p = none) : p ≠ c := by
  obtain ⟨xs, l, m, t, h1, h2, _⟩ := s
  exact fun e => by rw [e, h2] at hp; cases hp
theorem Src.same (s : Src H d c) (e : Same H H') : Src H' d c := by
  obtain ⟨xs, l, m, t, h1, h2, r⟩ := s
  exact ⟨xs, l, m, t, e _ _ h1, e _ _ h2, r⟩
theorem Src.off (s : Src H d c) (h1 : p ≠ d) (h2 : p ≠ c) : Src (upd H p o) d c := by
  obtain ⟨xs, l, m, t, e1, e2, r⟩ := s
  exact ⟨xs, l, m, t, by rw [upd_ne h1.symm]; exact e1, by rw [upd_ne h2.symm]; exact e2, r⟩
theorem same_new (h : H p = none) : Same H (upd H p o) := fun b x e => by
  rw [upd_ne (ne_of_none e h)]
  exact e
theorem Kn.mono (k : Kn G H d c) (e : Same H H') : Kn G H' d c := ⟨k.le.trans e, k.gd, k.gc, k.src.same e⟩
/-- a new object, remembered -/
theorem Kn.new (k : Kn G H d c) (hp : H p = none) : Kn (upd G p o) (upd H p o) d c := by
  refine ⟨fun b x e => ?_, ?_, ?_, k.src.same (same_new hp)⟩
  · by_cases hb : b = p
    · subst hb
      rw [upd_same] at e ⊢
      exact e
    · rw [upd_ne hb] at e ⊢
      exact k.le _ _ e
  · rw [upd_ne (k.src.some_d hp).symm]
    exact k.gd
  · rw [upd_ne (k.src.some_c hp).symm]
    exact k.gc
/-- an object made meanwhile, remembered -/
theorem Kn.add (k : Kn G H d c) (e : Same H H') (hp : H p = none) (h : H' p = some o) : Kn (upd G p o) H' d c := by
  refine ⟨fun b x q => ?_, ?_, ?_, k.src.same e⟩
  · by_cases hb : b = p
    · subst hb
      rw [upd_same] at q
      cases q
      exact h
    · rw [upd_ne hb] at q
      exact e _ _ (k.le _ _ q)
  · rw [upd_ne (k.src.some_d hp).symm]
    exact k.gd
  · rw [upd_ne (k.src.some_c hp).symm]
    exact k.gc
theorem Kn.nd (k : Kn G H d c) (h : G p = some o) : p ≠ d := fun e => by
  rw [e, k.gd] at h
  cases h
theorem Kn.nc (k : Kn G H d c) (h : G p = some o) : p ≠ c := fun e => by
  rw [e, k.gc] at h
  cases h
/-- a remembered object changes -/
theorem Kn.set (k : Kn (upd G p o) H d c) : Kn (upd G p o') (upd H p o') d c := by
  have n1 : p ≠ d := k.nd upd_same
  have n2 : p ≠ c := k.nc upd_same
  refine ⟨fun b x e => ?_, ?_, ?_, k.src.off n1 n2⟩
  · by_cases hb : b = p
    · subst hb
      rw [upd_same] at e ⊢
      exact e
    · rw [upd_ne hb] at e ⊢
      refine k.le _ _ ?_
      rw [upd_ne hb]
      exact e
  · have := k.gd
    rw [upd_ne n1.symm] at this ⊢
    exact this
  · have := k.gc
    rw [upd_ne n2.symm] at this ⊢
    exact this
/-- an object that nobody remembers changes -/
theorem Kn.mut (k : Kn G H d c) (g : G p = none) (n1 : p ≠ d) (n2 : p ≠ c) : Kn G (upd H p o) d c :=
  ⟨fun b x e => by rw [upd_ne (ne_of_none e g)]; exact k.le _ _ e, k.gd, k.gc, k.src.off n1 n2⟩
/-- a remembered object becomes another -/
theorem Kn.put (k : Kn G H d c) (g : G p = some o) : Kn (upd G p o') (upd H p o') d c := by
  have n1 : p ≠ d := k.nd g
  have n2 : p ≠ c := k.nc g
  refine ⟨fun b x e => ?_, by rw [upd_ne n1.symm]; exact k.gd, by rw [upd_ne n2.symm]; exact k.gc, k.src.off n1 n2⟩
  by_cases hb : b = p
  · subst hb
    rw [upd_same] at e ⊢
    exact e
  · rw [upd_ne hb] at e ⊢
    exact k.le _ _ e
/-- all that stands but the source is known -/
def hide (H : Hp) (d c : Addr) : Hp := fun b => if b = d ∨ b = c then none else H b
theorem know (k : Kn G H d c) : Kn (hide H d c) H d c :=
  ⟨fun b x e => by
    unfold hide at e
    split at e
    · cases e
    · exact e, by simp [hide], by simp [hide], k.src⟩
theorem know_le (k : Kn G H d c) : Same G (hide H d c) := fun b x e => by
  have h1 : b ≠ d := k.nd e
  have h2 : b ≠ c := k.nc e
  unfold hide
  rw [if_neg (by simp [h1, h2])]
  exact k.le _ _ e
theorem know_t {K : PySem.W.Frag} {t : Addr} {xs : List V} (k : Kn G H d c) (h : SqT K H t xs) : SqT K (hide H d c) t xs := by
  obtain ⟨ys, l, m, z, h1, h2, _⟩ := k.src
  have off : ∀ {o : HO}, H t = some o → (∀ q, o ≠ .dK q) → (∀ q, o ≠ .lst q) → (hide H d c) t = some o := fun {o} e n1 n2 => by
    have a1 : t ≠ d := fun q => by rw [q, h1] at e; exact n1 _ (Option.some.inj e).symm
    have a2 : t ≠ c := fun q => by rw [q, h2] at e; exact n2 _ (Option.some.inj e).symm
    unfold hide
    rw [if_neg (by simp [a1, a2])]
    exact e
  rcases h with (h | ⟨o, h⟩) | h
  · exact .inl (.inl (off h (fun _ q => nomatch q) (fun _ q => nomatch q)))
  · exact .inl (.inr ⟨o, off h (fun _ q => nomatch q) (fun _ q => nomatch q)⟩)
  · exact .inr h
/-- one forgets -/
theorem Kn.weak {G' : Hp} (k : Kn G H d c) (e : Same G' G) : Kn G' H d c := ⟨e.trans k.le, e.free k.gd, e.free k.gc, k.src⟩
theorem Kn.free (k : Kn G H d c) (hp : H p = none) : G p = none := k.le.free hp
end
theorem ints_at {ns : List Int} {i : Nat} {y : V} (h : (ns.map V.int)[i]? = some y) : ∃ z, y = V.int z ∧ ns[i]? = some z := by
  rw [List.getElem?_map] at h
  cases e : ns[i]? with
  | none =>
    rw [e] at h
    cases h
  | some z =>
    rw [e] at h
    exact ⟨z, (Option.some.inj h).symm, rfl⟩
theorem at_lt {α : Type} {l : List α} {i : Nat} {x : α} (h : l[i]? = some x) : i < l.length := (List.getElem?_eq_some_iff.mp h).1
/-! ### values and tests that leave the heap -/
section
variable {σ : L2.St} {H : Hp} {x y z v : V} {ta tb td ty : TE} {d : Addr} {b : Bool}
theorem val_dget (h : Val td σ H (.ref d)) (hy : Val ty σ H y) (g : DGet H d y (some v)) : Val (tDGet td ty) σ H v := fun Q q => by
  refine h _ ?_
  refine hy _ ?_
  exact ⟨d, v, rfl, g, q⟩
theorem val_cb1 {r : List V → Hp → VK → Prop} (h : Val ta σ H x) (hr : ∀ Q : VK, Q z H → r [x] H Q) : Val (tCB r (tCons ta tNil)) σ H z := fun Q q => by
  refine h _ ?_
  exact hr Q q
theorem val_cb2 {r : List V → Hp → VK → Prop} (h : Val ta σ H x) (h2 : Val tb σ H y) (hr : ∀ Q : VK, Q z H → r [x, y] H Q) : Val (tCB r (tCons ta (tCons tb tNil))) σ H z := fun Q q => by
  refine h _ ?_
  refine h2 _ ?_
  exact hr Q q
theorem tyes {A B : Hp → Prop} (h : A H) : tYes σ H (fun b H3 => if b = true then A H3 else B H3) := by
  show (if true = true then A H else B H)
  exact iteT h
theorem ans_or2 {t u : TT} {b1 b2 : Bool} (h1 : Ans t σ H b1) (h2 : Ans u σ H b2) : Ans (tOr t u) σ H (b1 || b2) := by
  cases b1 with
  | true => exact ans_or1 h1
  | false => exact ans_or h1 h2
/-- an expression by two ways, one behind -/
theorem ifx {c : Bool} {te tf : TE} {X : VK} (P : V → Hp → Prop) (h : ∀ v H', P v H' → X v H') (h1 : c = true → ∀ Y : VK, (∀ v H', P v H' → Y v H') → te σ H Y) (h2 : c = false → ∀ Y : VK, (∀ v H', P v H' → Y v H') → tf σ H Y) :
    if c = true then te σ H X else tf σ H X := by
  cases c with
  | true => exact iteT (h1 rfl X h)
  | false => exact iteF (h2 rfl X h)
/-- a statement by two ways, one behind -/
theorem ifs {c : Bool} {tA tB : TS} {D : Ends} (P : L2.St → Hp → Prop) (h : ∀ σ' H', P σ' H' → D.nx σ' H') (h1 : c = true → ∀ N : L2.St → Hp → Prop, (∀ σ' H', P σ' H' → N σ' H') → tA { D with nx := N } σ H) (h2 : c = false → ∀ N : L2.St → Hp → Prop, (∀ σ' H', P σ' H' → N σ' H') → tB { D with nx := N } σ H) :
    if c = true then tA D σ H else tB D σ H := by
  cases c with
  | true => exact iteT (h1 rfl D.nx h)
  | false => exact iteF (h2 rfl D.nx h)
/-- one test, then another, whatever they say -/
theorem ift {c : Bool} {u : TT} {X : Bool → Hp → Prop} (P : Bool → Hp → Prop) (p : P false H) (h : ∀ b H', P b H' → X b H') (h1 : ∀ Y : Bool → Hp → Prop, (∀ b H', P b H' → Y b H') → u σ H Y) :
    if c = true then u σ H X else X false H := by
  cases c with
  | true => exact iteT (h1 X h)
  | false => exact iteF (h _ _ p)
theorem Val.to (h : Val ta σ H x) (e : x = y) : Val ta σ H y := e ▸ h
theorem val_is (h : Val ta σ H x) {Q : VK} (q : Q x H) : ta σ H Q := h Q q
end
end Lw

namespace Lw
open PySem L2 PySem.Spec PyProof.Rows
/-- a tuple of one item, none times -/
theorem tm_none (l : Addr) (items : Array Value) (n : Nat) (dd : Option Addr) (sl : Array (Option Value)) (u : Tok) (he : items.isEmpty = false) :
    Meets (Builtin.«tuple.__mul__» ⟨[.ref l, .int 0 u], []⟩) (fun _ R s => s.heap.get? l = some { cls := .type "tuple", dict := dd, data := .seq items n, slots := sl } ∧
      R (.ok (.ret (Value.ref s.heap.objs.size))) { s with heap := s.heap.push { cls := Value.type "tuple", data := Data.seq #[] }, toks := s.toks }) :=
  .of_wp fun prog w A R s z => by
    obtain ⟨h1, h2, h3, h4, h5⟩ := s
    obtain ⟨hl, z⟩ := z
    have f1 := AutoSeq1.idx_int
    have c1 : (items.isEmpty || (0 : Int) == 1) = false := by rw [he]; rfl
    wp_walk using wpAny_loadPart' hl
    repeat (first
      | (refine wpAny_ite_false (decide_eq_false (by rw [c1]; exact Bool.false_ne_true)) ?_; wp_walk using wpAny_loadPart' hl)
      | (refine wpAny_ite_true (decide_eq_true (by decide)) ?_; wp_walk using wpAny_loadPart' hl)
      | (refine wpAny_ite_false (decide_eq_false (by decide)) ?_; wp_walk using wpAny_loadPart' hl))
    exact ⟨_, rfl, z⟩
/-- a tuple of one item, once: itself -/
theorem tm_once (l : Addr) (items : Array Value) (n : Nat) (dd : Option Addr) (sl : Array (Option Value)) (u : Tok) :
    Meets (Builtin.«tuple.__mul__» ⟨[.ref l, .int 1 u], []⟩) (fun _ R s => s.heap.get? l = some { cls := .type "tuple", dict := dd, data := .seq items n, slots := sl } ∧ ∀ k, R (.ok (.ret (Value.ref l))) { s with toks := k }) :=
  .of_wp fun prog w A R s z => by
    obtain ⟨h1, h2, h3, h4, h5⟩ := s
    obtain ⟨hl, z⟩ := z
    have f1 := AutoSeq1.idx_int
    have c1 : (items.isEmpty || (1 : Int) == 1) = true := by rw [show ((1 : Int) == 1) = true from rfl, Bool.or_true]
    wp_walk using wpAny_loadPart' hl
    repeat (first
      | (refine wpAny_ite_true (decide_eq_true (by rw [c1])) ?_; wp_walk using wpAny_loadPart' hl)
      | (refine wpAny_ite_false (decide_eq_false (by decide)) ?_; wp_walk using wpAny_loadPart' hl))
    exact ⟨_, rfl, z _⟩
/-- (v,) * k -/
def rRep1 (K : PySem.W.Frag) : R2 := fun x y H Q => ∃ l k v, x = .ref l ∧ y = .int k ∧ SqT K H l [v] ∧ 0 ≤ k ∧ k ≤ 1000 ∧ ∀ t H', Same H H' → SqT K H' t (List.replicate k.toNat v) → Q (.ref t) H'
section
variable {X : Cx}
theorem op_rep1 : OpR X (binaryOp .Mult) (rRep1 X.K) := by
  intro pins s σ H x y v u Q I rx ry h
  obtain ⟨l, k, z, rfl, rfl, hT, h0, h1, q⟩ := id h
  by_cases h2 : 2 ≤ k
  · refine op_repT pins s σ H _ _ v u Q I rx ry ⟨l, k, [z], rfl, rfl, hT, by simp, h2, h1, by simp, fun p hp => q p _ (same_new hp) (.inl (.inl ?_))⟩
    rw [upd_same]
    congr 2
    induction k.toNat with
    | zero => rfl
    | succ m ih => rw [List.replicate_succ, List.flatten_cons, ih, List.replicate_succ]; rfl
  · cases rx
    obtain ⟨t, rfl⟩ := ry
    obtain ⟨its, r, ⟨⟨cls, dd, data, sl⟩, ho, hc, n, hd⟩, hs⟩ := I.tuple hT
    simp only at hc hd
    subst hc hd
    have hn : its.toArray.isEmpty = false := by
      cases r with
      | cons _ _ => rfl
    rcases (by omega : k = 0 ∨ k = 1) with rfl | rfl
    · refine wpAny_binaryOp_repeat_ref (T := "tuple") (U := "int") (by decide) ⟨_, ho, rfl⟩ (fun s' => typeIs_int s' 0 t) noFill_tuple_mul F.fills_int_mul F.slot_int_rmul repeat_tuple F.slot_int_index.lookup
        (call_meets F.slot_int_rmul (typeIs_int s 0 t) F.entry_int_rmul (F.args_int_rmul_2 _ _) (int_rmul_tuple 0 t l its.toArray n dd sl)
          ⟨ho, rfl, ⟨_, ho, rfl⟩, call_meets F.slot_tuple_mul ⟨_, ho, rfl⟩ F.entry_tuple_mul (F.args_tuple_mul_2 _ _) (tm_none l its.toArray n dd sl t hn) ⟨ho, ?_⟩⟩)
      have hf := I.hok.fresh (Nat.le_refl s.heap.objs.size)
      refine ⟨.ref s.heap.objs.size, upd H s.heap.objs.size (.tup []), I.laid (t' := s.toks) (o := .tup []) (fun b ob q => Heap.get?_push_of_some _ q) (Nat.le_refl _) ?_, rfl, q _ _ (same_new hf) (.inl (.inl upd_same))⟩
      exact ⟨Nat.zero_le _, [], .nil, IsTup.new _ _⟩
    · refine wpAny_binaryOp_repeat_ref (T := "tuple") (U := "int") (by decide) ⟨_, ho, rfl⟩ (fun s' => typeIs_int s' 1 t) noFill_tuple_mul F.fills_int_mul F.slot_int_rmul repeat_tuple F.slot_int_index.lookup
        (call_meets F.slot_int_rmul (typeIs_int s 1 t) F.entry_int_rmul (F.args_int_rmul_2 _ _) (int_rmul_tuple 1 t l its.toArray n dd sl)
          ⟨ho, rfl, ⟨_, ho, rfl⟩, call_meets F.slot_tuple_mul ⟨_, ho, rfl⟩ F.entry_tuple_mul (F.args_tuple_mul_2 _ _) (tm_once l its.toArray n dd sl t) ⟨ho, fun k => ?_⟩⟩)
      exact ⟨.ref l, H, I.tok k, rfl, q _ _ (Same.refl _) hT⟩
end
end Lw

namespace Lw
open PySem L2
/-! ### rows as data -/
def dR (r : List Int) : PyData := .tuple (r.map .int)
def dRs (rs : List (List Int)) : PyData := .list (rs.map dR)
theorem dp_ints {K : PySem.W.Frag} {H : Hp} : ∀ ns : List Int, DpAll K H (ns.map V.int) (ns.map PyData.int)
  | [] => .nil
  | n :: ns => .cons (.int n) (dp_ints ns)
theorem dp_row {K : PySem.W.Frag} {H : Hp} {t : Addr} {r : List Int} (h : SqT K H t (r.map V.int)) : Dp K H (.ref t) (dR r) := .tup h (dp_ints r)
/-- at ts stand the rows -/
inductive Rows (K : PySem.W.Frag) (H : Hp) : List V → List (List Int) → Prop where
  | nil : Rows K H [] []
  | cons {t : Addr} {ts : List V} {r : List Int} {rs : List (List Int)} : SqT K H t (r.map V.int) → Rows K H ts rs → Rows K H (.ref t :: ts) (r :: rs)
theorem sameT {K : PySem.W.Frag} {H H' : Hp} {a : Addr} {xs : List V} (e : Same H H') (h : SqT K H a xs) : SqT K H' a xs := by
  rcases h with (h | ⟨o, h⟩) | h
  · exact .inl (.inl (e _ _ h))
  · exact .inl (.inr ⟨o, e _ _ h⟩)
  · exact .inr h
theorem Rows.mono {K : PySem.W.Frag} {H H' : Hp} (e : Same H H') : ∀ {ts : List V} {rs : List (List Int)}, Rows K H ts rs → Rows K H' ts rs
  | _, _, .nil => .nil
  | _, _, .cons h t => .cons (sameT e h) (Rows.mono e t)
theorem Rows.append {K : PySem.W.Frag} {H : Hp} : ∀ {ts us : List V} {rs qs : List (List Int)}, Rows K H ts rs → Rows K H us qs → Rows K H (ts ++ us) (rs ++ qs)
  | _, _, _, _, .nil, k => k
  | _, _, _, _, .cons h t, k => .cons h (Rows.append t k)
theorem Rows.one {K : PySem.W.Frag} {H : Hp} {t : Addr} {r : List Int} (h : SqT K H t (r.map V.int)) : Rows K H [.ref t] [r] := .cons h .nil
theorem Rows.len {K : PySem.W.Frag} {H : Hp} : ∀ {ts : List V} {rs : List (List Int)}, Rows K H ts rs → ts.length = rs.length
  | _, _, .nil => rfl
  | _, _, .cons _ t => by rw [List.length_cons, List.length_cons, Rows.len t]
theorem Rows.get {K : PySem.W.Frag} {H : Hp} : ∀ {ts : List V} {rs : List (List Int)} {i : Nat} {x : V}, Rows K H ts rs → ts[i]? = some x → ∃ t r, x = .ref t ∧ rs[i]? = some r ∧ SqT K H t (r.map V.int)
  | _, _, _, _, .nil, e => by simp at e
  | _, _, 0, _, .cons h _, e => by simp at e; exact ⟨_, _, e.symm, rfl, h⟩
  | _, _, i + 1, _, .cons _ t, e => by
    obtain ⟨a, r, h1, h2, h3⟩ := Rows.get (i := i) t (by simpa using e)
    exact ⟨a, r, h1, by simpa using h2, h3⟩
theorem dp_rows {K : PySem.W.Frag} {H : Hp} : ∀ {ts : List V} {rs : List (List Int)}, Rows K H ts rs → DpAll K H ts (rs.map dR)
  | _, _, .nil => .nil
  | _, _, .cons h t => .cons (dp_row h) (dp_rows t)
theorem sqt_off {K : PySem.W.Frag} {H : Hp} {D a : Addr} {xs ys zs : List V} (hD : H D = some (.lst xs)) (h : SqT K H a zs) : SqT K (upd H D (.lst ys)) a zs := by
  rcases h with (h | ⟨o, h⟩) | h
  · exact .inl (.inl (by rw [upd_ne (ne_of h hD (by intro z; cases z))]; exact h))
  · exact .inl (.inr ⟨o, by rw [upd_ne (ne_of h hD (by intro z; cases z))]; exact h⟩)
  · exact .inr h
/-- the rows stand, whatever a list becomes -/
theorem rows_off {K : PySem.W.Frag} {H : Hp} {D : Addr} {xs ys : List V} (hD : H D = some (.lst xs)) : ∀ {ts : List V} {rs : List (List Int)}, Rows K H ts rs → Rows K (upd H D (.lst ys)) ts rs
  | _, _, .nil => .nil
  | _, _, .cons h t => .cons (sqt_off hD h) (rows_off hD t)
theorem small1000' {n : Nat} (h : n ≤ 10000) : n < sizeLine := Nat.lt_of_le_of_lt h (by decide)
theorem can_ints : ∀ ns : List Int, PyData.canLayAll0 (ns.map PyData.int) = true
  | [] => rfl
  | n :: ns => by
    show (PyData.canLay0 (.int n) && PyData.canLayAll0 (ns.map PyData.int)) = true
    rw [can_ints ns]
    rfl
theorem dep_ints : ∀ ns : List Int, PyData.depthAll (ns.map PyData.int) ≤ 1
  | [] => by decide
  | n :: ns => by
    have ih := dep_ints ns
    have h1 : PyData.depth (.int n) ≤ 1 := by simp [PyData.depth]
    simp only [List.map_cons, PyData.depthAll]
    omega
theorem can_rows : ∀ rs : List (List Int), PyData.canLayAll0 (rs.map dR) = true
  | [] => rfl
  | r :: rs => by
    show (PyData.canLay0 (dR r) && PyData.canLayAll0 (rs.map dR)) = true
    rw [can_rows rs, Bool.and_true]
    show PyData.canLayAll0 (r.map PyData.int) = true
    exact can_ints r
theorem dep_row (r : List Int) : PyData.depth (dR r) ≤ 2 := by
  have h := dep_ints r
  unfold dR
  simp only [PyData.depth]
  omega
theorem dep_rows : ∀ rs : List (List Int), PyData.depthAll (rs.map dR) ≤ 2
  | [] => by decide
  | r :: rs => by
    have ih := dep_rows rs
    have h1 := dep_row r
    simp only [List.map_cons, PyData.depthAll]
    omega
theorem shp_row (r : List Int) : SeqAt.shaped (dR r) = true := by
  unfold SeqAt.shaped
  rw [Bool.and_eq_true]
  exact ⟨can_ints r, decide_eq_true (Nat.le_trans (dep_row r) (by decide))⟩
theorem shp_rows (rs : List (List Int)) : SeqAt.shaped (dRs rs) = true := by
  unfold SeqAt.shaped
  rw [Bool.and_eq_true]
  refine ⟨can_rows rs, decide_eq_true ?_⟩
  have h := dep_rows rs
  unfold dRs
  simp only [PyData.depth]
  omega
theorem eqv_same {d : PyData} (h : SeqAt.shaped d = true) : PyData.eqv d d = true := SeqAt.eqv_refl d (SeqAt.canLay_of_shaped h)
theorem neD_no {d : PyData} (h : SeqAt.shaped d = true) {A B : Prop} (b : B) : if (!PyData.eqv d d) = true then A else B := by
  rw [eqv_same h]
  exact iteF b
theorem ne_no {x : V} {A B : Prop} (b : B) : if (!decide (x = x)) = true then A else B := by
  rw [decide_eq_true rfl]
  exact iteF b
theorem know_rows {K : PySem.W.Frag} {G H : Hp} {d c : Addr} (k : Kn G H d c) : ∀ {ts : List V} {rs : List (List Int)}, Rows K H ts rs → Rows K (hide H d c) ts rs
  | _, _, .nil => .nil
  | _, _, .cons h t => .cons (know_t k h) (know_rows k t)
theorem rows_set {K : PySem.W.Frag} {H : Hp} {t : Addr} {r : List Int} : ∀ {ts : List V} {rs : List (List Int)} {i : Nat}, Rows K H ts rs → SqT K H t (r.map V.int) → Rows K H (ts.set i (.ref t)) (rs.set i r)
  | _, _, _, .nil, _ => by simpa using Rows.nil
  | _, _, 0, .cons _ tl, h => by simpa using Rows.cons h tl
  | _, _, i + 1, .cons h0 tl, h => by simpa using Rows.cons h0 (rows_set (i := i) tl h)
theorem s_off {H H' : Hp} {D : Addr} {o : HO} (s : Same H H') (h : H D = none) : Same H (upd H' D o) := fun b x e => by
  rw [upd_ne (ne_of_none e h)]
  exact s _ _ e
theorem at_nat {us : List V} {i : Nat} {x : V} (h : us[i]? = some x) : atI us (i : Int) = some x := atI_nat h
theorem ixN_nat {n i : Nat} (h : i < n) : ixN n (i : Int) = some i := by
  unfold ixN
  rw [if_pos (by omega), if_pos (by omega)]
  simp
theorem rows_take {K : PySem.W.Frag} {H : Hp} : ∀ {ts : List V} {rs : List (List Int)} {j : Nat}, Rows K H ts rs → Rows K H (ts.take j) (rs.take j)
  | _, _, _, .nil => by simpa using Rows.nil
  | _, _, 0, .cons _ _ => .nil
  | _, _, j + 1, .cons h t => .cons h (rows_take t)
theorem six_nat {n d m : Nat} (h : m ≤ n) : HT.sIx n d (some (m : Int)) = m := by
  rw [HT.sIx_nat]
  omega
theorem cut_from (us : List V) (n : Nat) (h : n ≤ us.length) : cutV us (some (n : Int)) none = us.drop n := by
  unfold cutV
  rw [show HT.sIx us.length 0 (some (n : Int)) = n from six_nat h, show HT.sIx us.length us.length none = us.length from rfl]
  exact List.take_of_length_le (by rw [List.length_drop]; exact Nat.le_refl _)
theorem cut_to (us : List V) (x : Int) : ∃ j, cutV us none (some x) = us.take j := by
  unfold cutV
  exact ⟨_, by rw [show HT.sIx us.length 0 none = 0 from rfl, List.drop_zero]⟩
theorem rows_drop {K : PySem.W.Frag} {H : Hp} : ∀ {ts : List V} {rs : List (List Int)} {j : Nat}, Rows K H ts rs → Rows K H (ts.drop j) (rs.drop j)
  | _, _, _, .nil => by simpa using Rows.nil
  | _, _, 0, .cons h t => .cons h t
  | _, _, j + 1, .cons _ t => by simpa using rows_drop (j := j) t
theorem cut_nat (us : List V) (m : Nat) : cutV us none (some (m : Int)) = us.take m := by
  unfold cutV
  rw [show HT.sIx us.length 0 none = 0 from rfl, List.drop_zero, HT.sIx_nat, Nat.sub_zero]
  by_cases h : m ≤ us.length
  · rw [Nat.min_eq_left h]
  · rw [Nat.min_eq_right (by omega), List.take_of_length_le (Nat.le_refl _), List.take_of_length_le (by omega)]
end Lw

namespace Lw
open PySem L2 PySem.Spec PyProof.Rows
/-- X(), X an own exception class without own __init__ -/
theorem pmk_none {X : Cx} {pos : Pos} {C : Addr} {bmB : List Value} {B newId initId : String} {x : Str} {p : Pos} (F : ExcBaseFacts B newId initId bmB) (e : PySem.W.excIn X.K C bmB newId = true) (gC : X.mg x = some (.ref C))
    (kC : PySem.W.keepIn X.K (.ref C) = true) (rs : Raises X (.ref C)) (hg : Gl X x) (hdb : (x == ("__debug__" : Str)) = false := by decide) :
    PMk X (.Call (.Name x p) [] [] pos) (fun _ H Q => Q (.ref C) none H) := by
  intro pins s σ H Q I h
  refine wpAny_Call_Name_kw (ld_glob I hg gC ?_ hdb)
  refine PySem.W.callWith_K0 I.kIn kC ?_
  show wpAny _ _ (call (.ref C) []) _ _ _
  obtain ⟨bm, N, nm, qn, bs, hdct, sn, sub, ab, col, dd, k0, k1, k2, k3, k5, mN, hC, hN, hni, T⟩ := exc_obj I.kIn e
  exact wpAny_call_exc_subT F T hC hN hni (fun h' a hm => mk_of I hm rs h (I.hok.gone hm.new)) (Nat.zero_le _)
/-- what the written part says of an own exception class over ValueError -/
structure OwnX (K : PySem.W.Frag) (mg : Str → Option Value) (x : Str) (C : Addr) : Prop where
  g : mg x = some (.ref C)
  ex : PySem.W.excIn K C [.type "ValueError", .type "Exception", .type "BaseException", .type "object"] "ValueError.__new__" = true
  kp : PySem.W.keepIn K (.ref C) = true
  bE : PySem.W.subIn K (.ref C) (.type "BaseException") = some true
  tE : PySem.W.typeIn K (.ref C) = some (.type "type")
  iE : PySem.W.isClsIn K C = true
  sE : PySem.W.subIn K (.ref C) (.ref C) = some true
theorem OwnX.me {K : PySem.W.Frag} {mg : Str → Option Value} {x : Str} {C : Addr} (o : OwnX K mg x C) : PySem.W.exmOne K (.ref C) (.ref C) = some true := by
  have e1 : (PySem.W.subIn K (.ref C) (.type "BaseException") == some true) = true := by rw [o.bE]; rfl
  have e3 : (PySem.W.clsIn K C).isSome = true := o.iE
  have e2 : ((PySem.W.clsIn K C).isSome && PySem.W.typeIn K (.ref C) == some (.type "type")) = true := by rw [e3, o.tE]; rfl
  show (if _ then (if _ then _ else _) else _) = some true
  rw [if_pos e1, if_pos e2]
  exact o.sE
end Lw

/-! ### defs that may show data: nothing is being shown around them -/
namespace Lw
open PySem L2 PySem.Spec PyProof.Rows
/-- a def's promise where nothing is being shown around it -/
structure FnG (P : Program) (w : World) (K : PySem.W.Frag) (mg : Str → Option Value) (base : Heap) (CX : CXT) (k : Nat) (f : Addr) (fd : FuncData) (ps : List Str) (sp : Sp) : Prop where
  len : ∀ vs H Q E, sp vs H Q E → vs.length = ps.length
  run : ∀ (A : Around) (outer : List Env) (s : Shared) (H : Hp) (args : Args) (us : List Value) (vs : List V) (Q : VK) (E : XK), A.guards = some [] → Room k A → Env0 P w K mg base A outer s H → BindsTo s fd args (ps.zip us) → Vals vs us →
    sp vs H Q E → codeAny (model P w) A (.call (.ref f) args) (CR CX outer P w H s Q E) s
section
variable {P : Program} {w : World} {K : PySem.W.Frag} {mg : Str → Option Value} {base : Heap} {CX : CXT}
theorem FnG.of {k : Nat} {f : Addr} {fd : FuncData} {ps : List Str} {sp : Sp} (F : FnOk P w K mg base CX k f fd ps sp) : FnG P w K mg base CX k f fd ps sp :=
  ⟨F.len, fun A outer s H args us vs Q E _ hr e0 hb r h => F.run A outer s H args us vs Q E hr e0 hb r h⟩
/-- a def by its body, the guards known -/
theorem okG_of {x qual : Str} {st : Stmt} {f : Addr} {fd : FuncData} {N ps : List Str} {k : Nat} {sp : Sp} (F : Fun K x qual st f fd) (S : FnScope N ps (defScope st)) (len : ∀ vs H Q E, sp vs H Q E → vs.length = ps.length)
    (hbody : ∀ (cdv : Value) (A : Around) (outer : List Env) (s : Shared) (H : Hp) (vs : List V) (Q : VK) (E : XK), A.guards = some [] → Room k (A.deeper (envOfC qual (defScope st) s.heap.objs.size f cdv)) → sp vs H Q E →
      ∃ t, PSs (cxOf CX P w K mg base N qual (defScope st) f cdv A outer s H E) (defBody st) t ∧ t { nx := fun _ H' => Q .non H', rt := Q } (start N vs) H) :
    FnG P w K mg base CX (k + 1) f fd ps sp := by
  obtain ⟨oc, od, kV, doc, pm, an, cdv, ct, osl, rfl, lk, hcd⟩ := F.ex
  refine ⟨len, fun A outer s H args us vs Q E hG hR e0 hb r hsp => ?_⟩
  have X1 : K.In s.heap := e0.mod.kin.keeps fun b o e => (e0.bs b o e).1
  have lim : s.heap.NoLimit := e0.mod.nolimit.keeps fun b o e => (e0.bs b o e).1
  have kinds : ∀ y ∈ ps.zip us, (defScope st).names.lookup y.1 = some .local ∨ ((defScope st).names.lookup y.1 = some .cell ∧ ((cellsFrom (s.heap.objs.size + 1) (defScope st).names []).lookup y.1).isSome = true) := by
    rintro ⟨n, v⟩ hy
    cases S.par n (List.of_mem_zip hy).1 with
    | inl q => exact .inl q
    | inr q => exact .inr ⟨q, PySem.W.cellsFrom_some _ _ _ (.inl q)⟩
  refine codeAny_call_function hR.depth (X1 _ _ lk) rfl S.co S.gen rfl (PySem.W.codeRec_of X1 hcd) (hb _ _ _ _ ?_)
  refine wpAny_newFunctionEnv_cells S.kind kinds fun env he s1 ic => ?_
  subst he
  refine ⟨lim.keeps ic.toInCall.keep, codeAny_func ?_⟩
  obtain ⟨t, ht, hq⟩ := hbody cdv A outer s H vs Q E hG (hR.deeper _) hsp
  have I := inv_start (CX := CX) (E := E) S hR.hd e0 (len _ _ _ _ hsp) r ic
  refine wpAny_mono (ht.run [] s1 (start N vs) H _ I hq) (fun fl s' hs => ?_) fun e s' hs => hs
  cases fl with
  | ret u =>
    obtain ⟨v, σ', H', J, rv, q⟩ := hs
    exact ⟨v, H', J.os, J.bare, J.base, J.hok, rv, q⟩
  | next =>
    obtain ⟨σ', H', J, q⟩ := hs
    exact ⟨V.non, H', J.os, J.bare, J.base, J.hok, (rfl : Value.none = Value.none), q⟩
  | brk =>
    obtain ⟨_, _, _, q⟩ := hs
    exact False.elim q
  | cont =>
    obtain ⟨_, _, _, q⟩ := hs
    exact False.elim q
end
section
variable {P : Program} {w : World} {K : PySem.W.Frag} {mg : Str → Option Value} {base : Heap}
/-- the same where nothing is raised -/
theorem okG_nox {x qual : Str} {st : Stmt} {f : Addr} {fd : FuncData} {N ps : List Str} {k : Nat} {sp : Sp} (F : Fun K x qual st f fd) (S : FnScope N ps (defScope st)) (len : ∀ vs H Q E, sp vs H Q E → vs.length = ps.length)
    (hbody : ∀ (cdv : Value) (A : Around) (outer : List Env) (s : Shared) (H : Hp) (vs : List V) (Q : VK) (E : XK), A.guards = some [] → Room k (A.deeper (envOfC qual (defScope st) s.heap.objs.size f cdv)) → sp vs H Q E →
      ∃ t, PSs (cxOf CX0 P w K mg base N qual (defScope st) f cdv A outer s H E).nox (defBody st) t ∧ t { nx := fun _ H' => Q .non H', rt := Q } (start N vs) H) : FnG P w K mg base CX0 (k + 1) f fd ps sp :=
  okG_of F S len fun cdv A outer s H vs Q E hG hr h => by
    obtain ⟨t, ht, q⟩ := hbody cdv A outer s H vs Q E hG hr h
    exact ⟨t, ht.nox, q⟩
end
section
variable {X : Cx} {CX : CXT} {k : Nat} {f : Addr} {fd : FuncData} {ps : List Str} {sp : Sp} {dvs : List V} {ds : List Value} {E : XK} {x : Str} {p pos : Pos} {e : Expr} {es : List Expr} {t : TA}
/-- a call of such a def from a body around which nothing is being shown -/
theorem pe_callG (F : FnG X.prog X.w X.K X.mg X.base CX k f fd ps sp) (hG : X.A.guards = some []) (hr : Room k X.A) (hg : Gl X x) (hm : X.mg x = some (.ref f)) (hk : PySem.W.keepIn X.K (.ref f) = true) (hb : Binds X.K fd ps ds) (hd : Vals dvs ds) (hx : Passes CX X E)
    (ha : PA X (e :: es) t) (hdb : (x == ("__debug__" : Str)) = false := by decide) (he : starEach (e :: es) X.env = (false, eval e X.env) :: starEach es X.env := by rfl) (hpl : (backTo pos (starEach es X.env)).any (·.1) = false := by rfl) :
    PE X (.Call (.Name x p) (e :: es) [] pos) (tCall sp dvs E t) := by
  constructor
  intro pins s σ H Q I h
  refine wpAny_Call_Name_kw (ld_glob I hg hm ?_ hdb)
  refine PySem.W.callWith_K (h₀ := X.base) I.ok.mod.kin hk (thn (ha.run pos pins s σ H _ I h) ?_) he hpl
  rintro us s1 ⟨vs, H1, I1, r, q⟩
  refine ⟨I1.kIn, ?_⟩
  have r2 := r.append hd
  have hl : (us ++ ds).length = ps.length := r2.length.symm.trans (F.len _ _ _ _ q)
  refine wpAny_call (codeAny_mono (F.run X.A X.stack s1 H1 ⟨us, []⟩ _ _ Q E hG hr I1.env0 (hb s1 us I1.kIn hl) r2 q) ?_)
  intro res s' hq
  cases res with
  | error e' => exact hx pins σ H1 s1 e' s' I1 hq
  | ok fl =>
    cases fl with
    | ret u => exact I1.after hq
    | next => cases hq
    | brk => cases hq
    | cont => cases hq
/-- repr of data -/
def rReprD (K : PySem.W.Frag) : List V → Hp → VK → Prop := fun xs H Q => ∃ (v : V) (d : PyData), xs = [v] ∧ Dp K H v d ∧ d.showable = true ∧ d.canLay0 = true ∧ d.depth ≤ 64 ∧ d.shown.length ≤ sizeLine ∧ Q (.str d.shown) H
theorem call_reprD (hG : X.A.guards = some []) (hu : X.A.units + 66 < cLine) : CallR X (.builtin "repr") (rReprD X.K) := by
  intro pins s σ H xs us Q I r h
  obtain ⟨v, d, rfl, hd, hs, hc, hp, hz, q⟩ := h
  obtain ⟨u, rfl, ru⟩ := vals1 r
  cases hd with
  | non =>
    cases (show u = Value.none from ru)
    exact PySem.P.repr_of_none ⟨.str _, H, I.tok _, ⟨_, rfl⟩, q⟩
  | bl b =>
    cases (show u = Value.bool b from ru)
    exact PySem.P.repr_of_bool ⟨.str _, H, I.tok _, ⟨_, rfl⟩, q⟩
  | int i =>
    obtain ⟨t, rfl⟩ := ru
    exact PySem.P.repr_of_int (of_decide_eq_true hs) ⟨.str _, H, I.tok _, ⟨_, rfl⟩, q⟩
  | str x =>
    obtain ⟨t, rfl⟩ := ru
    exact PySem.P.repr_of_str ⟨.str _, H, I.tok _, ⟨_, rfl⟩, q⟩ hz
  | @lst a xs ds h1 h2 =>
    obtain ⟨as, hr⟩ := Dp.reads I _ _ u (.lst h1 h2) ru
    cases (show u = Value.ref a from ru)
    exact repr_of_reads' hr hs (PyData.noDict_hsm (PyData.hasDict_of_canLay _ hc)) hG (by omega) (fun _ _ z => z) (fun h' k tk hk => ⟨.str _, H, I.kept (t' := tk) hk, ⟨_, rfl⟩, q⟩) hz
  | @tup a xs ds h1 h2 =>
    obtain ⟨as, hr⟩ := Dp.reads I _ _ u (.tup h1 h2) ru
    cases (show u = Value.ref a from ru)
    exact repr_of_reads' hr hs (PyData.noDict_hsm (PyData.hasDict_of_canLay _ hc)) hG (by omega) (fun _ _ z => z) (fun h' k tk hk => ⟨.str _, H, I.kept (t' := tk) hk, ⟨_, rfl⟩, q⟩) hz
end
end Lw

/-! ### the end of a law's row, the guards known -/
namespace Lw
open PySem L2 PySem.Spec PyProof.Rows
theorem end_call {P : Program} {w : World} {K : PySem.W.Frag} {mg mb : Str → Option Value} {CX : CXT} {k : Nat} {fa a : Addr} {fd : FuncData} {x : Str} {sp : Sp} {s₁ : Shared} {vs : List Value} {ns : List Int}
    (KX : K.In s₁.heap) (hns : s₁.heap.Ns mainGlobals mg) (hb : s₁.heap.Ns builtinsNs mb) (hbb : ∀ x : Str, x ≠ "__name__" → mb x = bootBuiltins x) (hlim : s₁.heap.NoLimit) (hg : s₁.gens = #[])
    (ha : s₁.heap.get? a = some { cls := .type "list", data := .seq vs.toArray }) (hi : IntsAre vs ns) (hl : ns.length ≤ sizeLine) (hr : Room k callerA)
    (F : ∀ base : Heap, K.In base → base.Ns mainGlobals mg → FnG P w K mg base CX k fa fd [x] sp) (hbind : ∀ (s : Shared) (u : Value), BindsTo s fd ⟨[u], []⟩ [(x, u)])
    (hsp : ∀ H : Hp, SqL K H a (ns.map V.int) → sp [.ref a] H (fun v _ => v = .bl true) fun _ _ _ => False)
    (hCX : ∀ H e s', CX [] H s₁ (fun _ _ _ => False) e s' → False) :
    codeAny (model P w) callerA (.call (.ref fa) ⟨[.ref a], []⟩) (fun r s' => r = .ok (.ret (.bool true)) ∧ OldK s₁.heap s'.heap ∧ s'.os = s₁.os ∧ AllBare s'.gens) s₁ := by
  have rv := vals_ints hi
  have lenV := hi.length
  have core : ∀ H : Hp, Only H → SqL K H a (ns.map V.int) → HOk P w H s₁.heap → (∀ b, H b ≠ none → b = a) → (H a ≠ none → K.lookup a = none) →
      codeAny (model P w) callerA (.call (.ref fa) ⟨[.ref a], []⟩) (fun r s' => r = .ok (.ret (.bool true)) ∧ OldK s₁.heap s'.heap ∧ s'.os = s₁.os ∧ AllBare s'.gens) s₁ := by
    intro H hO hS hok hA hK
    -- a tracked thing is the script
    have isA : ∀ {b : Addr} {u : HO}, H b = some u → b = a := fun {b u} q => hA b (by rw [q]; exact fun z => nomatch z)
    have dictOff : ∀ {b : Addr} {o : Obj} {es : Array DictEntry} {ep : Nat}, s₁.heap.get? b = some o → o.data = .dict es ep → H b = none := fun {b o es ep} e d => by
      cases q : H b with
      | none => rfl
      | some u =>
        have eb := isA q
        rw [eb, ha] at e
        cases e
        exact absurd (show Data.seq vs.toArray _ = Data.dict es ep from d) (fun z => nomatch z)
    have nsOff : ∀ {b : Addr} {m : Str → Option Value}, s₁.heap.Ns b m → (hidT s₁.heap H).Ns b m := fun {b m} z => by
      obtain ⟨o, es, ep, e, d, r⟩ := z
      exact ⟨o, es, ep, hidT_get e (dictOff e d), d, r⟩
    have inOff : K.In (hidT s₁.heap H) := fun b o e => by
      refine hidT_get (KX b o e) ?_
      cases q : H b with
      | none => rfl
      | some u =>
        have eb := isA q
        rw [eb] at e q
        rw [hK (by rw [q]; exact fun z => nomatch z)] at e
        cases e
    have hM : Mod K mg (hidT s₁.heap H) := by
      obtain ⟨mc, h1, h2⟩ := hlim
      exact ⟨inOff, nsOff hns, ⟨mb, nsOff hb, hbb⟩, ⟨mc, nsOff h1, h2⟩⟩
    have e0 : Env0 P w K mg (hidT s₁.heap H) callerA [] s₁ H := by
      refine ⟨rfl, hM, fun b o e => of_hidT e, Nat.le_of_eq (hidT_size _ _), trivial, fun b z => ?_, hok, .of_eq hg⟩
      cases (show b ∈ ([] : List Addr) from z)
    refine codeAny_mono ((F _ inOff (nsOff hns)).run callerA [] s₁ H ⟨[.ref a], []⟩ [.ref a] [.ref a] _ _ rfl hr e0 (hbind s₁ (.ref a)) (.cons rfl .nil) (hsp H hS)) ?_
    intro r s' h
    cases r with
    | error e => exact (hCX H e s' h).elim
    | ok fl =>
      cases fl with
      | next => cases h
      | brk => cases h
      | cont => cases h
      | ret u =>
        obtain ⟨v, H', os, bare, un, hok', r', rfl⟩ := h
        obtain rfl : u = Value.bool true := r'
        refine ⟨rfl, OldK.of_keep fun b o e => ?_, os, bare⟩
        cases q : H b with
        | none => exact un.keep b o e q (fun z => by cases (show b ∈ ([] : List Addr) from z)) (fun z => by cases z)
        | some u =>
          cases hO b with
          | inl z => rw [q] at z; cases z
          | inr z =>
            obtain ⟨ob, xs, z⟩ := z
            obtain ⟨e1, _⟩ := hok b _ z
            obtain ⟨e2, _⟩ := hok' b _ (un.frzs b ob _ z)
            rw [e] at e1
            cases e1
            exact e2
  cases hk : K.lookup a with
  | some o =>
    have e := KX a o hk
    rw [ha] at e
    cases e
    refine core (fun _ => none) (fun _ => .inl rfl) (.inr ⟨_, vs.toArray, _, hk, rfl, rfl, rfl, by rw [List.size_toArray, lenV]; exact hl, by simpa using rv⟩) (fun b u z => nomatch z) (fun b z => absurd rfl z) fun z => absurd rfl z
  | none =>
    refine core (upd (fun _ => none) a (.frz { cls := .type "list", data := .seq vs.toArray } (.lst (ns.map V.int)))) (fun b => ?_) (.inl (.inr ⟨{ cls := .type "list", data := .seq vs.toArray }, upd_same⟩)) (fun b u z => ?_) (fun b z => ?_) fun _ => hk
    · by_cases hba : b = a
      · subst hba
        exact .inr ⟨_, _, upd_same⟩
      · exact .inl (upd_ne hba)
    · by_cases hba : b = a
      · subst hba
        rw [upd_same] at z
        cases z
        exact ⟨ha, by rw [List.length_map]; exact hl, vs, _, rv, ha⟩
      · rw [upd_ne hba] at z
        cases z
    · by_cases hba : b = a
      · exact hba
      · exact absurd (upd_ne hba) z
theorem walk_G {l : PySem.W.OpenLaw} {n k : Nat} {q : Program} {loose : List Str} {XP : (Str → Option Value) → Heap → Prop} {YP : World → Heap → Prop} {d : DefRec} {K : Params → PySem.W.Frag} {CX : World → CXT} {sp : World → Sp} {x : Str}
    (hn : l.most = some n) (hn2 : n ≤ sizeLine) (hdf : d.params.defaults = []) (hr : Room k callerA)
    (hY : ∀ (w : World) (h : Heap), YP w h → (K w.params).In h)
    (F : ∀ (w : World) (mg : Str → Option Value) (fa : Addr) (h : Heap), (K w.params).In h → h.Ns mainGlobals mg → mg d.name = some (.ref fa) →
      ∃ fd : FuncData, (∀ (s : Shared) (u : Value), BindsTo s fd ⟨[u], []⟩ [(x, u)]) ∧
        ∀ base : Heap, (K w.params).In base → base.Ns mainGlobals mg → FnG l.prog w (K w.params) mg base (CX w) k fa fd [x] (sp w))
    (hsp : ∀ (w : World) (H : Hp) (a : Addr) (ns : List Int), ns.length ≤ n → SqL (K w.params) H a (ns.map V.int) → sp w [.ref a] H (fun v _ => v = .bl true) fun _ _ _ => False)
    (hCX : ∀ (w : World) (H : Hp) (s : Shared) (e : Value) (s' : Shared), CX w [] H s (fun _ _ _ => False) e s' → False) :
    PySem.W.WalkO q loose XP YP l.row.toRowW d [] (fun f vs => PySem.call f vs) := by
  refine Att.attach_call hn hdf ?_
  intro w s₀ s₁ mg mb fa o pm cd doc a vs ns G Y ho hd hcd hmg hobj hints hlen hg
  have KX := hY w _ Y
  obtain ⟨fd, hb, hF⟩ := F w mg fa _ KX G.T.g hmg
  exact end_call KX G.T.g G.T.b G.T.builtins G.T.nolimit hg hobj hints (Nat.le_trans hlen hn2) hr hF hb (fun H hS => hsp w H a ns hlen hS) fun H e s' => hCX w H s₁ e s'
end Lw

/-! ### zip of lists and tuples in any mix; enumerate of a tuple -/
namespace Lw
open PySem L2 PySem.Spec PyProof.Rows
/-- a list (true), a tuple (false) -/
def SqK (K : PySem.W.Frag) (k : Bool) (H : Hp) (a : Addr) (xs : List V) : Prop := match k with
  | true => SqL K H a xs
  | false => SqT K H a xs
def ItK (k : Bool) (h : Heap) (it l : Addr) (i : Nat) : Prop := match k with
  | true => h.IsListIter it l i
  | false => h.IsTupleIter it l i
def AtK (k : Bool) (h : Heap) (l : Addr) (its : Array Value) : Prop := match k with
  | true => h.IsList l its
  | false => h.IsTuple l its
theorem SqK.same {K : PySem.W.Frag} {k : Bool} {H H' : Hp} {a : Addr} {xs : List V} (e : Same H H') (h : SqK K k H a xs) : SqK K k H' a xs := by
  cases k with
  | true => exact e.seq h
  | false => exact sameT e h
section
variable {X : Cx} {pins : List (Addr × Obj)} {σ : L2.St} {H : Hp} {s : Shared} {a : Addr} {xs ys : List V} {k : Bool}
theorem sq_at (I : Inv X pins σ H s) (h : SqK X.K k H a xs) : ∃ its : List Value, Vals xs its ∧ AtK k s.heap a its.toArray ∧ a < s.heap.objs.size := by
  cases k with
  | true =>
    obtain ⟨its, rv, p, _⟩ := I.list h
    exact ⟨its, rv, p.isList, p.lt⟩
  | false =>
    obtain ⟨its, rv, p, _⟩ := I.tuple h
    obtain ⟨o, ho, q⟩ := id p
    exact ⟨its, rv, p, Heap.lt_size ho⟩
theorem sq_inj (I : Inv X pins σ H s) (h : SqK X.K k H a xs) (h' : SqK X.K k H a ys) : xs = ys := by
  cases k with
  | true => exact I.list_inj h h'
  | false => exact I.tuple_inj h h'
end
theorem drK {prog : Program} {w : World} {A : Around} (k : Bool) (hh : A.handled = none) (it l : Addr) (hne : l ≠ it) (items : Array Value) :
    Draws prog w A it [it, l] items.size (fun i v => items[i]? = some v) (fun i h => ItK k h it l i ∧ AtK k h l items) := by
  cases k with
  | true => exact Draws.list hh it l hne items
  | false => exact Draws.tuple hh it l hne items
theorem ItK.obj {k : Bool} {h : Heap} {it l : Addr} {i : Nat} (z : ItK k h it l i) : ∃ o, h.get? it = some o ∧ ∀ v, o.data ≠ .cell v := by
  cases k with
  | true =>
    obtain ⟨o, e, _, d⟩ := z
    exact ⟨o, e, fun v q => by rw [d] at q; cases q⟩
  | false =>
    obtain ⟨o, e, _, d⟩ := z
    exact ⟨o, e, fun v q => by rw [d] at q; cases q⟩
theorem ItK.at {k : Bool} {h h' : Heap} {it l : Addr} {i : Nat} (z : ItK k h it l i) (e : ∀ o, h.get? it = some o → h'.get? it = some o) : ItK k h' it l i := by
  cases k with
  | true => exact Heap.IsListIter.at z e
  | false => exact Heap.IsTupleIter.at z e
/-- what zip goes through -/
def ItzM (K : PySem.W.Frag) (k1 k2 : Bool) (a b : Addr) : It :=
  ⟨fun i H => ∃ (xs ys : List V) (x y : V), SqK K k1 H a xs ∧ SqK K k2 H b ys ∧ xs[i]? = some x ∧ ys[i]? = some y,
    fun i H v H' => ∃ T x y, v = .ref T ∧ H T = none ∧ H' = upd H T (.tup [x, y]) ∧ (∀ xs, SqK K k1 H a xs → xs[i]? = some x) ∧ ∀ ys, SqK K k2 H b ys → ys[i]? = some y,
    fun i H => ∃ xs ys : List V, SqK K k1 H a xs ∧ SqK K k2 H b ys ∧ (xs.length = i ∨ ys.length = i) ∧ i ≤ xs.length ∧ i ≤ ys.length⟩
theorem turn_zipM {P : Program} {w : World} {K : PySem.W.Frag} {elts : List Expr} {kk : Nat} {tpos : Pos} {k1 k2 : Bool} {a b z TI TO i1 i2 : Addr} (D : ZipSep2 z TI TO i1 i2 [i1, a] [i2, b]) (n1 : a ≠ i1) (n2 : b ≠ i2) :
    Turn P w K (.Tuple elts kk tpos) (ItzM K k1 k2 a b) [z, TI, TO, i1, i2] z (fun i h => IsZip h z TI TO .none ∧ IsTupOf2 h TI (.ref i1) (.ref i2) ∧ (∃ x y, IsTupOf2 h TO x y) ∧ ItK k1 h i1 a i ∧ ItK k2 h i2 b i) where
  mem := by simp
  obj := fun i h st c hc => by
    obtain ⟨hz, hTI, ⟨x, y, hTO⟩, g1, g2⟩ := st
    simp only [List.mem_cons, List.not_mem_nil, or_false] at hc
    rcases hc with rfl | rfl | rfl | rfl | rfl
    · exact ⟨_, hz, fun v q => nomatch q⟩
    · exact ⟨_, hTI, fun v q => nomatch q⟩
    · exact ⟨_, hTO, fun v q => nomatch q⟩
    · exact g1.obj
    · exact g2.obj
  keep := fun i h h' st k => by
    obtain ⟨hz, hTI, ⟨x, y, hTO⟩, g1, g2⟩ := st
    exact ⟨k z (by simp) _ hz, k TI (by simp) _ hTI, ⟨x, y, k TO (by simp) _ hTO⟩, g1.at (k i1 (by simp)), g2.at (k i2 (by simp))⟩
  item := by
    rintro X rfl rfl rfl hc i pins s σ H E I hf ⟨hz, hTI, ⟨x0, y0, hTO⟩, g1, g2⟩ ⟨xs, ys, x, y, hqx, hqy, hx, hy⟩
    obtain ⟨its, rv, p, _⟩ := sq_at I hqx
    obtain ⟨its2, rv2, p2, _⟩ := sq_at I hqy
    obtain ⟨u, hu, ru⟩ := rv.get hx
    obtain ⟨u2, hu2, ru2⟩ := rv2.get hy
    have hzl : z < s.heap.objs.size := Heap.lt_size hz
    have hh : X.A.in1.handled = none := I.ok.hd hc
    refine wpAny_pyNext_zipD2_item D (drK k1 hh i1 a n1 its.toArray) (drK k2 hh i2 b n2 its2.toArray) hz hTI hTO ⟨g1, p⟩ ⟨g2, p2⟩ (by simpa using (List.getElem?_eq_some_iff.mp hu).1) (by simpa using (List.getElem?_eq_some_iff.mp hu2).1) ?_
    intro v1 v2 h' tk e1 e2 z' TO' st1 st2 hT hsz hk
    have q1 : v1 = u := by rw [show its.toArray[i]? = some u by simpa using hu] at e1; exact (Option.some.inj e1).symm
    have q2 : v2 = u2 := by rw [show its2.toArray[i]? = some u2 by simpa using hu2] at e2; exact (Option.some.inj e2).symm
    subst q1 q2
    refine ⟨_, rfl, wpAny_letOwnedTupleGo_zip (s := { s with heap := h', toks := tk }) z' fun h'' z'' sb => ?_⟩
    have hT2 : h''.get? s.heap.objs.size = some { cls := .type "tuple", data := .seq #[v1, v2] } := (sb.2 _ (Nat.ne_of_gt hzl)).trans hT
    have new : ObjOk X.prog X.w (upd H s.heap.objs.size (.tup [x, y])) h'' s.heap.objs.size (.tup [x, y]) :=
      ⟨by show 2 ≤ sizeLine; decide, [v1, v2], .cons ru (.cons ru2 .nil), ⟨_, hT2, rfl, _, rfl⟩⟩
    have off : ∀ c o, c ∉ [z, TI, TO, i1, i2] → s.heap.get? c = some o → h''.get? c = some o := fun c o hb q => by
      simp only [List.mem_cons, List.not_mem_nil, or_false, not_or] at hb
      exact (sb.2 c hb.1).trans (hk c o hb.1 hb.2.2.1 hb.2.2.2.1 hb.2.2.2.2 q)
    have I1 : Inv X pins σ (upd H s.heap.objs.size (.tup [x, y])) { s with heap := h'', toks := tk } := I.turnedNew (t' := tk) (ch := [z, TI, TO, i1, i2]) off hf (Nat.le_refl _) new
    refine ⟨.ref s.heap.objs.size, _, I1, rfl, ⟨_, x, y, rfl, I.hok.fresh (Nat.le_refl _), rfl, fun l hl => by rw [sq_inj I hl hqx]; exact hx, fun l hl => by rw [sq_inj I hl hqy]; exact hy⟩, ⟨z'', ?_, ⟨v1, v2, ?_⟩, ?_, ?_⟩, fun c hcm => ?_⟩
    · exact (sb.2 _ D.TIz).trans (hk _ _ D.TIz D.TITO D.TIi1 D.TIi2 hTI)
    · exact (sb.2 _ D.TOz).trans TO'
    · exact st1.1.at fun o q => (sb.2 _ (D.zi1).symm).trans q
    · exact st2.1.at fun o q => (sb.2 _ (D.zi2).symm).trans q
    · have hlt : c < s.heap.objs.size := by
        simp only [List.mem_cons, List.not_mem_nil, or_false] at hcm
        rcases hcm with rfl | rfl | rfl | rfl | rfl
        · exact hzl
        · exact Heap.lt_size hTI
        · exact Heap.lt_size hTO
        · obtain ⟨o, e, _⟩ := g1.obj; exact Heap.lt_size e
        · obtain ⟨o, e, _⟩ := g2.obj; exact Heap.lt_size e
      rw [upd_ne (Nat.ne_of_lt hlt)]
      exact (hf c hcm).1
  done := by
    rintro X rfl rfl rfl hc i pins s σ H E I hf ⟨hz, hTI, ⟨x0, y0, hTO⟩, g1, g2⟩ ⟨xs, ys, hqx, hqy, hend, b1, b2⟩
    obtain ⟨its, rv, p, _⟩ := sq_at I hqx
    obtain ⟨its2, rv2, p2, _⟩ := sq_at I hqy
    have l1 := rv.length
    have l2 := rv2.length
    have hh : X.A.in1.handled = none := I.ok.hd hc
    refine wpAny_pyNext_zipD2_end D (drK k1 hh i1 a n1 its.toArray) (drK k2 hh i2 b n2 its2.toArray) hz hTI hTO ⟨g1, p⟩ ⟨g2, p2⟩ (by simp; omega) (by simp; omega) (by simp; omega) ?_
    intro h' tk hk
    refine ⟨rfl, I.turnedL (t' := tk) (ch := [z, TI, TO, i1, i2]) (fun c o hb q => ?_) hf⟩
    simp only [List.mem_cons, List.not_mem_nil, or_false, not_or] at hb
    exact hk c o hb.1 hb.2.2.1 hb.2.2.2.1 hb.2.2.2.2 q
  self := fun A i s Q E st h => wpAny_pyIter_zip st.1 h
def iZipM (K : PySem.W.Frag) (ta : TA) : TI := fun σ H R => ta σ H fun vs H1 => ∃ k1 k2 a b xs ys, vs = [.ref a, .ref b] ∧ SqK K k1 H1 a xs ∧ SqK K k2 H1 b ys ∧ R (ItzM K k1 k2 a b) H1
theorem bgK (k : Bool) (l : Addr) (items : Array Value) : ∃ o, Begins (.ref l) o (fun h => AtK k h l items) ∧ ∀ (h : Heap) (it : Addr), h.get? it = some o → ItK k h it l 0 := by
  cases k with
  | true => exact ⟨_, begins_list l items, fun h it e => ⟨_, e, rfl, rfl⟩⟩
  | false => exact ⟨_, begins_tuple l items, fun h it e => ⟨_, e, rfl, rfl⟩⟩
theorem neA {x y : Nat} (h : ¬ x = y) : @Ne Addr x y := h
theorem niA {x y z : Nat} (h : ¬ x = y) (g : ¬ x = z) : ¬ @List.Mem Addr x [y, z] := fun q => by
  cases q with
  | head => exact h rfl
  | tail _ q =>
    cases q with
    | head => exact g rfl
    | tail _ q => cases q
theorem sepN (N a b : Nat) (la : a < N) (lb : b < N) : ZipSep2 (N + 4) (N + 2) (N + 3) N (N + 1) [N, a] [N + 1, b] where
  TIz := neA (by omega)
  TOz := neA (by omega)
  TITO := neA (by omega)
  TIi1 := neA (by omega)
  mem1 := List.mem_cons_self
  zf1 := niA (by omega) (by omega)
  Tf1 := niA (by omega) (by omega)
  TIi2 := neA (by omega)
  mem2 := List.mem_cons_self
  zf2 := niA (by omega) (by omega)
  Tf2 := niA (by omega) (by omega)
  sep1_2 := niA (by omega) (by omega)
  sep2_1 := niA (by omega) (by omega)
theorem pi_zipM {X : Cx} {e e2 : Expr} {ta : TA} {p pos tpos : Pos} {elts : List Expr} {kk : Nat} (hg : Gl X "zip") (hm : X.mg "zip" = none) (ha : PA X [e, e2] ta)
    (hs : starEach [e, e2] X.env = (false, eval e X.env) :: starEach [e2] X.env := by rfl) (hpl : (backTo pos (starEach [e2] X.env)).any (·.1) = false := by rfl) :
    PI X (.Tuple elts kk tpos) (.Call (.Name "zip" p) [e, e2] [] pos) (iZipM X.K ta) := by
  constructor
  intro pins s σ H R I h
  refine Call_ (ld_blt I hg hm PyProof.Rows.boot_zip (PyProof.Rows.callWith_type1 (thn (ha.run pos pins s σ H _ I h) ?_) hs hpl))
  rintro us s1 ⟨vs, H1, I1, r1, k1, k2, a, b, xs, ys, rfl, hqx, hqy, q⟩
  obtain ⟨u1, u2, rfl, ra, rb⟩ := vals2 r1
  cases (show u1 = Value.ref a from ra)
  cases (show u2 = Value.ref b from rb)
  obtain ⟨its, rv, p1, la⟩ := sq_at I1 hqx
  obtain ⟨its2, rv2, p2, lb⟩ := sq_at I1 hqy
  obtain ⟨o1, B1, j1⟩ := bgK k1 a its.toArray
  obtain ⟨o2, B2, j2⟩ := bgK k2 b its2.toArray
  refine zip_begins2 B1 B2 p1 p2 ?_
  intro h' hz hTI hTO e1 e2 hsz hk
  refine wpAny_pyIter_zip hz ?_
  have I2 : Inv X pins σ H1 { s1 with heap := h' } := I1.kept (t' := s1.toks) hk
  have sep := sepN s1.heap.objs.size a b la lb
  refine ⟨s1.heap.objs.size + 4, [s1.heap.objs.size + 4, s1.heap.objs.size + 2, s1.heap.objs.size + 3, s1.heap.objs.size, s1.heap.objs.size + 1], _, _, H1, rfl, I2, turn_zipM sep (Nat.ne_of_lt la) (Nat.ne_of_lt (Nat.lt_succ_of_lt lb)), ⟨hz, hTI, ⟨_, _, hTO⟩, j1 _ _ e1, j2 _ _ e2⟩, fun c hcm => ?_, q⟩
  have hle : s1.heap.objs.size ≤ c := by
    simp only [List.mem_cons, List.not_mem_nil, or_false] at hcm
    rcases hcm with rfl | rfl | rfl | rfl | rfl <;> first | exact Nat.le_refl _ | exact Nat.le_add_right _ _
  exact I1.fpOk hle (I1.hok.fresh hle)
/-! ### enumerate of a tuple, of a list -/
theorem meets_enumK {v : Value} {o : Obj} {H : Heap → Prop} (B : Begins v o H) :
    Meets (Builtin.«enumerate.__new__» ⟨[.type "enumerate", v], []⟩) (fun _ R s => H s.heap ∧
      R (.ok (.ret (.ref (s.heap.push o).objs.size))) { s with heap := (s.heap.push o).push { cls := .type "enumerate", data := .fields #[.none, .bool false, .ref s.heap.objs.size, rawInt 0, .none, .none] } }) :=
  .of_wp fun prog w A R s z => by
    obtain ⟨g1, g2, g3, g4, g5⟩ := s
    obtain ⟨h1, z⟩ := z
    have hsub := sub_enumerate
    have q1 : ∀ {A' : Around} {E : Value → Shared → Prop} {Q : Value → Shared → Prop}, Q (.ref g1.objs.size) ⟨g1.push o, g2, g3, g4, g5⟩ → wpAny (model prog w) A' (pyIter v) Q E ⟨g1, g2, g3, g4, g5⟩ :=
      fun q => B.iter prog w _ _ ⟨g1, g2, g3, g4, g5⟩ _ h1 q
    wp_walk using q1
    refine wpAny_stack_any fun st => wpAny_pure ?_
    split
    · rename_i c _ _ _ _ _
      cases (c == Value.type "enumerate")
      · wp_walk using q1
        exact ⟨_, rfl, z⟩
      · wp_walk using q1
        exact ⟨_, rfl, z⟩
    · wp_walk using q1
      exact ⟨_, rfl, z⟩
section
variable {prog : Program} {w : World} {A : Around} {E : Value → Shared → Prop} {s : Shared}
theorem enumK_begins {v : Value} {o : Obj} {H : Heap → Prop} {Q : Value → Shared → Prop} (B : Begins v o H) (h1 : H s.heap)
    (h : ∀ h', IsEnum h' (s.heap.objs.size + 1) s.heap.objs.size 0 .none → h'.get? s.heap.objs.size = some o → (∀ b o, s.heap.get? b = some o → h'.get? b = some o) → Q (.ref (s.heap.objs.size + 1)) { s with heap := h' }) :
    wpAny (model prog w) A (call (.type "enumerate") [v]) Q E s := by
  refine callType_new F.called_enumerate (by decide) (F.typeCall_enumerate_1 _) (F.newCall_enumerate_1 _) (fun obj => F.args_object_init_2 obj _) F.entry_enumerate_new (meets_enumK B) ⟨h1, ?_⟩
  have sz : (s.heap.push o).objs.size = s.heap.objs.size + 1 := Heap.size_push ..
  show _ ∧ _
  rw [sz]
  have en : IsEnum ((s.heap.push o).push { cls := .type "enumerate", data := .fields #[.none, .bool false, .ref s.heap.objs.size, rawInt 0, .none, .none] }) (s.heap.objs.size + 1) s.heap.objs.size 0 .none := by
    have q := Heap.get?_push_size (s.heap.push o) (o := { cls := .type "enumerate", data := .fields #[.none, .bool false, .ref s.heap.objs.size, rawInt 0, .none, .none] }) rfl
    rw [sz] at q
    exact q
  exact ⟨⟨_, en, rfl⟩, h _ en (Heap.get?_push_of_some _ (Heap.get?_push_size _ B.free)) fun b o x => Heap.get?_push_of_some _ (Heap.get?_push_of_some _ x)⟩
end
def IteM (K : PySem.W.Frag) (k : Bool) (a : Addr) : It :=
  ⟨fun i H => ∃ (xs : List V) (x : V), SqK K k H a xs ∧ xs[i]? = some x, fun i H v H' => ∃ T x, v = .ref T ∧ H T = none ∧ H' = upd H T (.tup [.int (i : Nat), x]) ∧ ∀ xs, SqK K k H a xs → xs[i]? = some x, fun i H => ∃ xs : List V, SqK K k H a xs ∧ xs.length = i⟩
theorem turn_enumM {P : Program} {w : World} {K : PySem.W.Frag} {elts : List Expr} {kk : Nat} {tpos : Pos} {k : Bool} (a e it : Addr) (n1 : a ≠ it) (hne : e ≠ it) (hea : e ≠ a) :
    Turn P w K (.Tuple elts kk tpos) (IteM K k a) [e, it] e (fun i h => (∃ old, IsEnum h e it ((i : Nat) : Int) old) ∧ ItK k h it a i) where
  mem := by simp
  obj := fun i h st b hb => by
    obtain ⟨⟨old, he⟩, g⟩ := st
    simp only [List.mem_cons, List.not_mem_nil, or_false] at hb
    rcases hb with rfl | rfl
    · exact ⟨_, he, fun v q => nomatch q⟩
    · exact g.obj
  keep := fun i h h' st k => by
    obtain ⟨⟨old, he⟩, g⟩ := st
    exact ⟨⟨old, k e (by simp) _ he⟩, g.at (k it (by simp))⟩
  item := by
    rintro X rfl rfl rfl hc i pins s σ H E I hf ⟨⟨old, he⟩, g⟩ ⟨xs, x, hq, hx⟩
    obtain ⟨its, rv, p, _⟩ := sq_at I hq
    obtain ⟨u, hu, ru⟩ := rv.get hx
    have hel : e < s.heap.objs.size := Heap.lt_size he
    have hh : X.A.in1.handled = none := I.ok.hd hc
    have hef : e ∉ [it, a] := fun q => by
      cases q with
      | head => exact hne rfl
      | tail _ q =>
        cases q with
        | head => exact hea rfl
        | tail _ q => cases q
    refine wpAny_pyNext_enum_itemD (drK k hh it a n1 its.toArray) he ⟨g, p⟩ (by simpa using (List.getElem?_eq_some_iff.mp hu).1) hne hef ?_
    intro v h' tk e1 ho st hT hsz hk
    have q1 : v = u := by rw [show its.toArray[i]? = some u by simpa using hu] at e1; exact (Option.some.inj e1).symm
    subst q1
    refine ⟨_, rfl, wpAny_letOwnedTupleGo_enum (s := { s with heap := h', toks := tk + 1 }) ho fun h'' he' sb => ?_⟩
    have hT2 : h''.get? s.heap.objs.size = some { cls := .type "tuple", data := .seq #[.int i tk, v] } := (sb.2 _ (Nat.ne_of_gt hel)).trans hT
    have new : ObjOk X.prog X.w (upd H s.heap.objs.size (.tup [.int (i : Nat), x])) h'' s.heap.objs.size (.tup [.int (i : Nat), x]) :=
      ⟨by show 2 ≤ sizeLine; decide, [.int i tk, v], .cons ⟨_, rfl⟩ (.cons ru .nil), ⟨_, hT2, rfl, _, rfl⟩⟩
    have I1 : Inv X pins σ (upd H s.heap.objs.size (.tup [.int (i : Nat), x])) { s with heap := h'', toks := tk + 1 } :=
      I.turnedNew (t' := tk + 1) (ch := [e, it]) (fun b ob hb q => by
        simp only [List.mem_cons, List.not_mem_nil, or_false, not_or] at hb
        exact (sb.2 b hb.1).trans (hk b ob hb.1 hb.2 q)) hf (Nat.le_refl _) new
    refine ⟨.ref s.heap.objs.size, _, I1, rfl, ⟨_, x, rfl, I.hok.fresh (Nat.le_refl _), rfl, fun ys hy => by rw [sq_inj I hy hq]; exact hx⟩, ⟨⟨v, ?_⟩, st.1.at fun o q => (sb.2 it (Ne.symm hne)).trans q⟩, fun b hb => ?_⟩
    · have e2 : ((i + 1 : Nat) : Int) = (i : Int) + 1 := by omega
      rw [e2]
      exact he'
    · have hlt : b < s.heap.objs.size := by
        simp only [List.mem_cons, List.not_mem_nil, or_false] at hb
        rcases hb with rfl | rfl
        · exact hel
        · obtain ⟨o, z, _⟩ := g.obj; exact Heap.lt_size z
      rw [upd_ne (Nat.ne_of_lt hlt)]
      exact (hf b hb).1
  done := by
    rintro X rfl rfl rfl hc i pins s σ H E I hf ⟨⟨old, he⟩, g⟩ ⟨xs, hq, hx⟩
    obtain ⟨its, rv, p, _⟩ := sq_at I hq
    have hl := rv.length
    have hh : X.A.in1.handled = none := I.ok.hd hc
    have ei : i = its.toArray.size := by simp; omega
    refine wpAny_pyNext_enum_endD (drK k hh it a n1 its.toArray) he (by rw [← ei]; exact ⟨g, p⟩) ?_
    intro h' eb
    exact ⟨rfl, I.turnedL (t' := s.toks) (ch := [e, it]) (fun b o hb q => by
      simp only [List.mem_cons, List.not_mem_nil, or_false, not_or] at hb
      exact eb b o hb.2 q) hf⟩
  self := fun A i s Q E st h => by
    obtain ⟨⟨_, he⟩, _⟩ := st
    exact wpAny_pyIter_enum he h
def iEnumM (K : PySem.W.Frag) (ta : TA) : TI := fun σ H R => ta σ H fun vs H1 => ∃ k a xs, vs = [.ref a] ∧ SqK K k H1 a xs ∧ R (IteM K k a) H1
theorem pi_enumM {X : Cx} {e : Expr} {ta : TA} {p pos tpos : Pos} {elts : List Expr} {kk : Nat} (hg : Gl X "enumerate") (hm : X.mg "enumerate" = none) (ha : PA X [e] ta) (hs : starEach [e] X.env = [(false, eval e X.env)] := by rfl) :
    PI X (.Tuple elts kk tpos) (.Call (.Name "enumerate" p) [e] [] pos) (iEnumM X.K ta) := by
  constructor
  intro pins s σ H R I h
  refine Call_ (ld_blt I hg hm boot_enumerate (PyProof.Rows.callWith_type1 (thn (ha.run pos pins s σ H _ I h) ?_) hs rfl))
  rintro us s1 ⟨vs, H1, I1, r1, k, a, xs, rfl, hq, q⟩
  obtain ⟨u1, rfl, ra⟩ := vals1 r1
  cases (show u1 = Value.ref a from ra)
  obtain ⟨its, rv, p1, la⟩ := sq_at I1 hq
  obtain ⟨o1, B1, j1⟩ := bgK k a its.toArray
  refine enumK_begins B1 p1 ?_
  intro h' he e1 hk
  refine wpAny_pyIter_enum he ?_
  have I2 : Inv X pins σ H1 { s1 with heap := h' } := I1.kept (t' := s1.toks) hk
  refine ⟨s1.heap.objs.size + 1, [s1.heap.objs.size + 1, s1.heap.objs.size], _, _, H1, rfl, I2, turn_enumM a (s1.heap.objs.size + 1) s1.heap.objs.size (Nat.ne_of_lt la) (Nat.succ_ne_self _) (Nat.ne_of_gt (Nat.lt_succ_of_lt la)), ⟨⟨.none, he⟩, j1 _ _ e1⟩, fun c hcm => ?_, q⟩
  have hle : s1.heap.objs.size ≤ c := by
    simp only [List.mem_cons, List.not_mem_nil, or_false] at hcm
    rcases hcm with rfl | rfl <;> first | exact Nat.le_refl _ | exact Nat.le_add_right _ _
  exact I1.fpOk hle (I1.hok.fresh hle)
/-! ### loops and comprehensions over them -/
theorem for_zipM {K : PySem.W.Frag} {k1 k2 : Bool} {a b : Addr} {xs ys : List V} {g : TG} {tb : TS} {D : Ends} {σ : L2.St} {H : Hp} (hl : xs.length = ys.length) (Pv : Nat → L2.St → Hp → Prop) (h0 : Pv 0 σ H) (hq : ∀ i σ H, Pv i σ H → SqK K k1 H a xs ∧ SqK K k2 H b ys)
    (hs : ∀ (i : Nat) (x y : V) (T : Addr) (σ : L2.St) (H : Hp), xs[i]? = some x → ys[i]? = some y → Pv i σ H → H T = none → g (.ref T) σ (upd H T (.tup [x, y])) fun σ2 H2 => tb { D with nx := Pv (i + 1), ct := Pv (i + 1), bk := D.nx } σ2 H2) (hd : ∀ σ H, Pv xs.length σ H → D.nx σ H) :
    ∃ W : Nat → Nat → L2.St → Hp → Prop, (∃ m, W 0 m σ H) ∧ ∀ i m σ H, W i m σ H →
      ((ItzM K k1 k2 a b).stop i H ∧ D.nx σ H) ∨ ((ItzM K k1 k2 a b).go i H ∧ ∃ N : L2.St → Hp → Prop, (∀ σ' H', N σ' H' → ∃ m', m' < m ∧ W (i + 1) m' σ' H') ∧ ∀ v H', (ItzM K k1 k2 a b).yld i H v H' → g v σ H' fun σ2 H2 => tb { D with nx := N, ct := N, bk := D.nx } σ2 H2) := by
  refine ⟨fun i m σ H => m = xs.length - i ∧ i ≤ xs.length ∧ Pv i σ H, ⟨_, rfl, Nat.zero_le _, h0⟩, ?_⟩
  rintro i m σ H ⟨rfl, hi, p⟩
  obtain ⟨qx, qy⟩ := hq i σ H p
  by_cases hlt : i < xs.length
  · refine .inr ⟨⟨xs, ys, _, _, qx, qy, List.getElem?_eq_getElem hlt, List.getElem?_eq_getElem (hl ▸ hlt)⟩, Pv (i + 1), fun σ' H' p' => ⟨xs.length - (i + 1), by omega, rfl, hlt, p'⟩, ?_⟩
    rintro v H' ⟨T, x', y', rfl, hT, rfl, f1, f2⟩
    exact hs i x' y' T σ H (f1 xs qx) (f2 ys qy) p hT
  · have e : i = xs.length := by omega
    subst e
    exact .inl ⟨⟨xs, ys, qx, qy, .inl rfl, Nat.le_refl _, Nat.le_of_eq hl⟩, hd σ H p⟩
theorem for_enumM {K : PySem.W.Frag} {k : Bool} {a : Addr} {xs : List V} {g : TG} {tb : TS} {D : Ends} {σ : L2.St} {H : Hp} (Pv : Nat → L2.St → Hp → Prop) (h0 : Pv 0 σ H) (hq : ∀ i σ H, Pv i σ H → SqK K k H a xs)
    (hs : ∀ (i : Nat) (x : V) (T : Addr) (σ : L2.St) (H : Hp), xs[i]? = some x → Pv i σ H → H T = none → g (.ref T) σ (upd H T (.tup [.int (i : Nat), x])) fun σ2 H2 => tb { D with nx := Pv (i + 1), ct := Pv (i + 1), bk := D.nx } σ2 H2) (hd : ∀ σ H, Pv xs.length σ H → D.nx σ H) :
    ∃ W : Nat → Nat → L2.St → Hp → Prop, (∃ m, W 0 m σ H) ∧ ∀ i m σ H, W i m σ H →
      ((IteM K k a).stop i H ∧ D.nx σ H) ∨ ((IteM K k a).go i H ∧ ∃ N : L2.St → Hp → Prop, (∀ σ' H', N σ' H' → ∃ m', m' < m ∧ W (i + 1) m' σ' H') ∧ ∀ v H', (IteM K k a).yld i H v H' → g v σ H' fun σ2 H2 => tb { D with nx := N, ct := N, bk := D.nx } σ2 H2) := by
  refine ⟨fun i m σ H => m = xs.length - i ∧ i ≤ xs.length ∧ Pv i σ H, ⟨_, rfl, Nat.zero_le _, h0⟩, ?_⟩
  rintro i m σ H ⟨rfl, hi, p⟩
  have qx := hq i σ H p
  by_cases hlt : i < xs.length
  · refine .inr ⟨⟨xs, _, qx, List.getElem?_eq_getElem hlt⟩, Pv (i + 1), fun σ' H' p' => ⟨xs.length - (i + 1), by omega, rfl, hlt, p'⟩, ?_⟩
    rintro v H' ⟨T, x', rfl, hT, rfl, f1⟩
    exact hs i x' T σ H (f1 xs qx) p hT
  · have e : i = xs.length := by omega
    subst e
    exact .inl ⟨⟨xs, qx, rfl⟩, hd σ H p⟩
theorem lc_zipM {K : PySem.W.Frag} {k1 k2 : Bool} {a b : Addr} {xs ys : List V} {g : TG} {tt : TT} {te : TE} {vs : List Nat} {σ : L2.St} {H1 : Hp} {D : Addr} {Qd : Hp → Prop} (hl : xs.length = ys.length) (Pv : Nat → Hp → Prop) (h0 : Pv 0 (upd H1 D (.lst []))) (hq : ∀ i H, Pv i H → SqK K k1 H a xs ∧ SqK K k2 H b ys)
    (hs : ∀ (i : Nat) (x y : V) (T : Addr) (H : Hp), xs[i]? = some x → ys[i]? = some y → Pv i H → H T = none → g (.ref T) (wipe σ vs) (upd H T (.tup [x, y])) fun σ2 H2 => wipe σ2 vs = wipe σ vs ∧ tt σ2 H2 fun b H3 =>
      if b = true then te σ2 H3 fun y H4 => ∃ acc, H4 D = some (.lst acc) ∧ acc.length < sizeLine ∧ Pv (i + 1) (upd H4 D (.lst (acc ++ [y]))) else Pv (i + 1) H3) (hd : ∀ H, Pv xs.length H → Qd H) :
    ∃ W : Nat → Nat → Hp → Prop, (∃ m, W 0 m (upd H1 D (.lst []))) ∧ ∀ i m H, W i m H →
      ((ItzM K k1 k2 a b).stop i H ∧ Qd H) ∨ ((ItzM K k1 k2 a b).go i H ∧ ∃ Nx : Hp → Prop, (∀ H', Nx H' → ∃ m', m' < m ∧ W (i + 1) m' H') ∧ ∀ x H', (ItzM K k1 k2 a b).yld i H x H' → g x (wipe σ vs) H' fun σ2 H2 => wipe σ2 vs = wipe σ vs ∧ tt σ2 H2 fun b H3 =>
        if b = true then te σ2 H3 fun y H4 => ∃ acc, H4 D = some (.lst acc) ∧ acc.length < sizeLine ∧ Nx (upd H4 D (.lst (acc ++ [y]))) else Nx H3) := by
  refine ⟨fun i m H => m = xs.length - i ∧ i ≤ xs.length ∧ Pv i H, ⟨_, rfl, Nat.zero_le _, h0⟩, ?_⟩
  rintro i m H ⟨rfl, hi, p⟩
  obtain ⟨qx, qy⟩ := hq i H p
  by_cases hlt : i < xs.length
  · refine .inr ⟨⟨xs, ys, _, _, qx, qy, List.getElem?_eq_getElem hlt, List.getElem?_eq_getElem (hl ▸ hlt)⟩, Pv (i + 1), fun H' p' => ⟨xs.length - (i + 1), by omega, rfl, hlt, p'⟩, ?_⟩
    rintro v H' ⟨T, x', y', rfl, hT, rfl, f1, f2⟩
    exact hs i x' y' T H (f1 xs qx) (f2 ys qy) p hT
  · have e : i = xs.length := by omega
    subst e
    exact .inl ⟨⟨xs, ys, qx, qy, .inl rfl, Nat.le_refl _, Nat.le_of_eq hl⟩, hd H p⟩
end Lw

namespace Lw
/-! ### rows of a ground, reckoned -/
def addR (p : Int) (r s : List Int) : List Int := List.zipWith (fun a b => (a + b) % p) r s
def subR (p : Int) (r s : List Int) : List Int := List.zipWith (fun a b => (a - b) % p) r s
def sclR (p : Int) (k : Int) (r : List Int) : List Int := r.map fun a => k * a % p
def mulR (r s : List Int) : List Int := List.zipWith (fun a b => a * b) r s
def plusR (p : Int) (r : List Int) (t : Int) (s : List Int) : List Int := List.zipWith (fun a b => (a + t * b) % p) r s
def zeroR (n : Nat) : List Int := List.replicate n 0
def combR (p : Int) (n : Nat) : List Int → List (List Int) → List Int := fun ks rs => (ks.zip rs).foldl (fun t kr => addR p t (sclR p kr.1 kr.2)) (zeroR n)
def pivR (r : List Int) : Option Nat := r.findIdx? fun a => a != 0
/-- a row of the ground with p and n -/
def IsRow (p : Int) (n : Nat) (r : List Int) : Prop := r.length = n ∧ ∀ x ∈ r, 0 ≤ x ∧ x < p
theorem IsRow.at {p : Int} {n i : Nat} {r : List Int} {x : Int} (h : IsRow p n r) (e : r[i]? = some x) : 0 ≤ x ∧ x < p := h.2 x (List.mem_of_getElem? e)
theorem get_zw {f : Int → Int → Int} {r s : List Int} {i : Nat} {x y : Int} (hx : r[i]? = some x) (hy : s[i]? = some y) : (List.zipWith f r s)[i]? = some (f x y) := by
  rw [List.getElem?_zipWith, hx, hy]
theorem len_zw {f : Int → Int → Int} {r s : List Int} {n : Nat} (h1 : r.length = n) (h2 : s.length = n) : (List.zipWith f r s).length = n := by
  rw [List.length_zipWith, h1, h2, Nat.min_self]
theorem row_zw {p : Int} (hp : 0 < p) {f : Int → Int → Int} {r s : List Int} {n : Nat} (h1 : r.length = n) (h2 : s.length = n) : IsRow p n (List.zipWith (fun a b => f a b % p) r s) := by
  refine ⟨len_zw h1 h2, fun x hx => ?_⟩
  obtain ⟨i, hi, rfl⟩ := List.getElem_of_mem hx
  rw [List.getElem_zipWith]
  exact ⟨Int.emod_nonneg _ (Int.ne_of_gt hp), Int.emod_lt_of_pos _ hp⟩
theorem row_add {p : Int} (hp : 0 < p) {r s : List Int} {n : Nat} (h1 : r.length = n) (h2 : s.length = n) : IsRow p n (addR p r s) := row_zw hp h1 h2
theorem row_sub {p : Int} (hp : 0 < p) {r s : List Int} {n : Nat} (h1 : r.length = n) (h2 : s.length = n) : IsRow p n (subR p r s) := row_zw hp h1 h2
theorem row_plus {p : Int} (hp : 0 < p) {r s : List Int} {t : Int} {n : Nat} (h1 : r.length = n) (h2 : s.length = n) : IsRow p n (plusR p r t s) := row_zw hp h1 h2
theorem row_scl {p : Int} (hp : 0 < p) {k : Int} {r : List Int} {n : Nat} (h1 : r.length = n) : IsRow p n (sclR p k r) := by
  refine ⟨by simp [sclR, h1], fun x hx => ?_⟩
  obtain ⟨a, _, rfl⟩ := List.mem_map.mp hx
  exact ⟨Int.emod_nonneg _ (Int.ne_of_gt hp), Int.emod_lt_of_pos _ hp⟩
theorem row_zero {p : Int} (hp : 0 < p) (n : Nat) : IsRow p n (zeroR n) := by
  refine ⟨by simp [zeroR], fun x hx => ?_⟩
  have := List.eq_of_mem_replicate hx
  omega
theorem zw_congr {f g : Int → Int → Int} : ∀ {r s : List Int}, (∀ (i : Nat) (x y : Int), r[i]? = some x → s[i]? = some y → f x y = g x y) → List.zipWith f r s = List.zipWith g r s
  | [], _, _ => by simp
  | _ :: _, [], _ => by simp
  | a :: r, b :: s, h => by
    rw [List.zipWith_cons_cons, List.zipWith_cons_cons, h 0 a b rfl rfl, zw_congr fun i x y h1 h2 => h (i + 1) x y h1 h2]
theorem add_plus (p : Int) (r s : List Int) : addR p r s = plusR p r 1 s := by
  unfold addR plusR
  exact zw_congr fun i x y _ _ => by rw [Int.one_mul]
theorem sub_plus (p : Int) (r s : List Int) : subR p r s = plusR p r (p - 1) s := by
  unfold subR plusR
  refine zw_congr fun i x y _ _ => ?_
  rw [Int.sub_mul, Int.one_mul, show x + (p * y - y) = (x - y) + p * y by omega, Int.add_mul_emod_self_left]
theorem scl_plus (p k : Int) : ∀ (n : Nat) (r : List Int), r.length = n → sclR p k r = plusR p (zeroR n) k r
  | 0, r, h => by
    have : r = [] := List.eq_nil_of_length_eq_zero h
    subst this
    rfl
  | n + 1, [], h => by cases h
  | n + 1, a :: r, h => by
    have ih := scl_plus p k n r (by simpa using h)
    unfold sclR plusR zeroR at ih ⊢
    rw [List.map_cons, List.replicate_succ, List.zipWith_cons_cons, ih, Int.zero_add]
theorem add_sub {p : Int} {n : Nat} {r s : List Int} (hp : 0 < p) (h1 : IsRow p n r) (h2 : s.length = n) : addR p (subR p r s) s = r := by
  apply List.ext_getElem?
  intro i
  by_cases hi : i < n
  · have hr : i < r.length := by rw [h1.1]; exact hi
    have hs : i < s.length := by rw [h2]; exact hi
    have e1 : (subR p r s)[i]? = some ((r[i] - s[i]) % p) := get_zw (List.getElem?_eq_getElem hr) (List.getElem?_eq_getElem hs)
    have e2 : (addR p (subR p r s) s)[i]? = some (((r[i] - s[i]) % p + s[i]) % p) := get_zw e1 (List.getElem?_eq_getElem hs)
    have b := h1.2 r[i] (List.getElem_mem hr)
    rw [e2, List.getElem?_eq_getElem hr, Int.emod_add_emod, Int.sub_add_cancel, Int.emod_eq_of_lt b.1 b.2]
  · rw [List.getElem?_eq_none_iff.mpr (by rw [(row_add hp (row_sub hp h1.1 h2).1 h2).1]; omega), List.getElem?_eq_none_iff.mpr (by rw [h1.1]; omega)]
theorem comb_snoc (p : Int) (n : Nat) (ks : List Int) (rs : List (List Int)) (k : Int) (r : List Int) (h : ks.length = rs.length) : combR p n (ks ++ [k]) (rs ++ [r]) = addR p (combR p n ks rs) (sclR p k r) := by
  unfold combR
  rw [List.zip_append h, List.foldl_append]
  rfl
theorem add_scl (p : Int) (t : List Int) (k : Int) (r : List Int) : addR p t (sclR p k r) = plusR p t k r := by
  unfold addR sclR plusR
  rw [List.zipWith_map_right]
  exact zw_congr fun i x y _ _ => by rw [Int.add_emod_emod]
theorem row_comb {p : Int} (hp : 0 < p) {n : Nat} {ks : List Int} {rs : List (List Int)} (h : ∀ r ∈ rs, IsRow p n r) : IsRow p n (combR p n ks rs) := by
  unfold combR
  have : ∀ (l : List (Int × List Int)) (t : List Int), IsRow p n t → (∀ kr ∈ l, IsRow p n kr.2) → IsRow p n (l.foldl (fun t kr => addR p t (sclR p kr.1 kr.2)) t) := by
    intro l
    induction l with
    | nil => intro t ht _; exact ht
    | cons a l ih =>
      intro t ht hl
      exact ih _ (row_add hp ht.1 (row_scl hp (hl a (by simp)).1).1) fun kr hk => hl kr (by simp [hk])
  exact this _ _ (row_zero hp n) fun kr hk => h _ (List.of_mem_zip hk).2
/-- the places with an entry -/
def ents (r : List Int) (m : Nat) : List Int := ((List.range m).filter fun k => (r.getD k 0) != 0).map fun k : Nat => (k : Int)
theorem piv_none {r : List Int} (h : pivR r = none) : ents r r.length = [] := by
  unfold ents
  rw [List.map_eq_nil_iff, List.filter_eq_nil_iff]
  intro k hk
  have hk' : k < r.length := List.mem_range.mp hk
  have := (List.findIdx?_eq_none_iff.mp h) r[k] (List.getElem_mem hk')
  simpa [List.getD_eq_getElem?_getD, hk'] using this
theorem piv_some {r : List Int} {k : Nat} (h : pivR r = some k) : ∃ l, ents r r.length = (k : Int) :: l := by
  obtain ⟨hk, hx, hl⟩ := List.findIdx?_eq_some_iff_getElem.mp h
  have e : List.range r.length = List.range k ++ k :: (List.range (r.length - (k + 1))).map (fun x => (k + 1) + x) := by
    rw [show r.length = (k + 1) + (r.length - (k + 1)) by omega, List.range_add, List.range_succ]
    simp
  unfold ents
  rw [e, List.filter_append, List.filter_cons]
  have h1 : (List.range k).filter (fun k => (r.getD k 0) != 0) = [] := by
    rw [List.filter_eq_nil_iff]
    intro j hj
    have hj' : j < k := List.mem_range.mp hj
    have := hl j hj'
    simpa [List.getD_eq_getElem?_getD, show j < r.length by omega] using this
  have h2 : ((r.getD k 0) != 0) = true := by simpa [List.getD_eq_getElem?_getD, hk] using hx
  rw [h1, if_pos h2]
  exact ⟨_, rfl⟩
end Lw

/-! ### data that may be shown -/
namespace Lw
open PySem L2
structure Shw (d : PyData) (k b : Nat) : Prop where
  sh : d.showable = true
  can : d.canLay0 = true
  dp : d.depth ≤ k
  ls : d.leavesShort 13 = true
  bk : d.bulk ≤ b
structure ShwA (ds : List PyData) (k b : Nat) : Prop where
  sh : PyData.showableAll ds = true
  can : PyData.canLayAll0 ds = true
  dp : PyData.depthAll ds ≤ k
  ls : PyData.leavesShortAll 13 ds = true
  bk : PyData.bulkAll ds ≤ b
theorem Shw.fits {d : PyData} {k b : Nat} (h : Shw d k b) (hb : b ≤ 2 ^ 20) : d.shown.length ≤ sizeLine := PyData.shown_fits_bulk (B := 13) (by decide) (by decide) h.ls (Nat.le_trans h.bk hb)
theorem ShwA.nil : ShwA [] 0 0 := ⟨rfl, rfl, by simp [PyData.depthAll], rfl, by simp [PyData.bulkAll]⟩
theorem ShwA.cons {d : PyData} {ds : List PyData} {k k' b b' : Nat} (h : Shw d k b) (t : ShwA ds k' b') : ShwA (d :: ds) (max k k') (b + 1 + b') := by
  refine ⟨?_, ?_, ?_, ?_, ?_⟩
  · simp only [PyData.showableAll, h.sh, t.sh, Bool.and_self]
  · simp only [PyData.canLayAll0, h.can, t.can, Bool.and_self]
  · have h1 := h.dp; have h2 := t.dp
    simp only [PyData.depthAll]
    omega
  · simp only [PyData.leavesShortAll, h.ls, t.ls, Bool.and_self]
  · have h1 := h.bk; have h2 := t.bk
    simp only [PyData.bulkAll]
    omega
theorem ShwA.mono {ds : List PyData} {k k' b b' : Nat} (t : ShwA ds k b) (h1 : k ≤ k') (h2 : b ≤ b') : ShwA ds k' b' := ⟨t.sh, t.can, Nat.le_trans t.dp h1, t.ls, Nat.le_trans t.bk h2⟩
theorem Shw.mono {d : PyData} {k k' b b' : Nat} (t : Shw d k b) (h1 : k ≤ k') (h2 : b ≤ b') : Shw d k' b' := ⟨t.sh, t.can, Nat.le_trans t.dp h1, t.ls, Nat.le_trans t.bk h2⟩
theorem ShwA.lst {ds : List PyData} {k b : Nat} (t : ShwA ds k b) : Shw (.list ds) (k + 1) b := by
  refine ⟨?_, ?_, ?_, ?_, ?_⟩
  · simpa only [PyData.showable] using t.sh
  · simpa only [PyData.canLay0] using t.can
  · have := t.dp
    simp only [PyData.depth]
    omega
  · simpa only [PyData.leavesShort] using t.ls
  · simpa only [PyData.bulk] using t.bk
theorem ShwA.tup {ds : List PyData} {k b : Nat} (t : ShwA ds k b) : Shw (.tuple ds) (k + 1) b := by
  refine ⟨?_, ?_, ?_, ?_, ?_⟩
  · simpa only [PyData.showable] using t.sh
  · simpa only [PyData.canLay0] using t.can
  · have := t.dp
    simp only [PyData.depth]
    omega
  · simpa only [PyData.leavesShort] using t.ls
  · simpa only [PyData.bulk] using t.bk
theorem shw_int {i : Int} (h0 : 0 ≤ i) (h : i < 1000000) : Shw (.int i) 1 0 := by
  refine ⟨?_, rfl, by simp [PyData.depth], ?_, by simp [PyData.bulk]⟩
  · simp only [PyData.showable, decide_eq_true_eq]
    have h1 : i.natAbs < 2 ^ 20 := by omega
    by_cases hz : i.natAbs = 0
    · rw [hz]; decide
    · have := (Nat.log2_lt hz).mpr h1
      omega
  · simp only [PyData.leavesShort, decide_eq_true_eq]
    rw [PyData.shown_int]
    exact Nat.le_trans (PyProof.Rows.toString_length_le h0 (by decide : 0 < 6) h) (by decide)
theorem shw_ints : ∀ {ns : List Int}, (∀ x ∈ ns, 0 ≤ x ∧ x < 1000000) → ShwA (ns.map PyData.int) 1 ns.length
  | [], _ => ShwA.nil.mono (by decide) (Nat.le_refl _)
  | n :: ns, h => by
    have hn := h n (by simp)
    have t := shw_ints (ns := ns) fun x hx => h x (by simp [hx])
    exact ((ShwA.cons (shw_int hn.1 hn.2) t)).mono (by decide) (by rw [List.length_cons]; omega)
theorem shw_row {r : List Int} (h : ∀ x ∈ r, 0 ≤ x ∧ x < 1000000) : Shw (dR r) 2 r.length := (shw_ints h).tup
theorem shw_rows {n : Nat} : ∀ {rs : List (List Int)}, (∀ r ∈ rs, r.length ≤ n ∧ ∀ x ∈ r, 0 ≤ x ∧ x < 1000000) → ShwA (rs.map dR) 2 (rs.length * (n + 1))
  | [], _ => ShwA.nil.mono (by decide) (Nat.zero_le _)
  | r :: rs, h => by
    have hr := h r (by simp)
    have t := shw_rows (rs := rs) fun x hx => h x (by simp [hx])
    refine (ShwA.cons (shw_row hr.2) t).mono (by decide) ?_
    rw [List.length_cons, Nat.succ_mul]
    omega
/-- the text of data, where it may be shown -/
theorem repr_ok {K : PySem.W.Frag} {H : Hp} {v : V} {d : PyData} {k b : Nat} {Q : VK} (h : Dp K H v d) (s : Shw d k b) (hk : k ≤ 64) (hb : b ≤ 2 ^ 20) (q : Q (.str d.shown) H) : rReprD K [v] H Q :=
  ⟨v, d, rfl, h, s.sh, s.can, Nat.le_trans s.dp hk, s.fits hb, q⟩
theorem nil_i {σ : L2.St} {H : Hp} {Q : List V → Hp → Prop} (h : Q [] H) : tNil σ H Q := h
theorem np_i {σ : L2.St} {H : Hp} {Q : Option Int → Hp → Prop} (h : Q none H) : tNoPart σ H Q := h
end Lw

/-! ### data with a dict as a leaf; tuples in any mix; own exceptions that keep a path -/
namespace Lw
open PySem L2 PySem.Spec PyProof.Rows
/-- the dicts that occur: {} and {0: 1} -/
inductive DctD : List (Key × V) → PyData → Prop
  | emp : DctD [] (.dict [])
  | one : DctD [(Sum.inl 0, .int 1)] (.dict [(.int 0, .int 1)])
/-- a value without a dict in it, or a dict -/
inductive Lf (K : PySem.W.Frag) (H : Hp) : V → PyData → Prop
  | dp {v : V} {d : PyData} : Dp K H v d → d.hasDict = false → Lf K H v d
  | dct {a : Addr} {kvs : List (Key × V)} {d : PyData} : H a = some (.dK kvs) → DctD kvs d → Lf K H (.ref a) d
/-- such a value, or a tuple of whole numbers with one such value amid -/
inductive Vl (K : PySem.W.Frag) (H : Hp) : V → PyData → Prop
  | lf {v : V} {d : PyData} : Lf K H v d → Vl K H v d
  | mix {a : Addr} {pre post : List Int} {x : V} {d : PyData} : SqT K H a (pre.map V.int ++ x :: post.map V.int) → Lf K H x d → Vl K H (.ref a) (.tuple (pre.map PyData.int ++ d :: post.map PyData.int))
mutual
theorem dp_same {K : PySem.W.Frag} {H H' : Hp} (e : Same H H') : ∀ (d : PyData) (v : V), Dp K H v d → Dp K H' v d
  | .none, _, h => by cases h; exact .non
  | .bool b, _, h => by cases h; exact .bl b
  | .int i, _, h => by cases h; exact .int i
  | .str x, _, h => by cases h; exact .str x
  | .list ds, _, h => by
    cases h with
    | lst hs ha => exact .lst (e.seq hs) (dp_sameA e ds _ ha)
  | .tuple ds, _, h => by
    cases h with
    | tup hs ha => exact .tup (sameT e hs) (dp_sameA e ds _ ha)
  | .dict _, _, h => by cases h
theorem dp_sameA {K : PySem.W.Frag} {H H' : Hp} (e : Same H H') : ∀ (ds : List PyData) (vs : List V), DpAll K H vs ds → DpAll K H' vs ds
  | [], _, h => by cases h; exact .nil
  | d :: ds, _, h => by
    cases h with
    | cons h1 h2 => exact .cons (dp_same e d _ h1) (dp_sameA e ds _ h2)
end
theorem Lf.mono {K : PySem.W.Frag} {H H' : Hp} {v : V} {d : PyData} (h : Lf K H v d) (e : Same H H') : Lf K H' v d := by
  cases h with
  | dp h n => exact .dp (dp_same e _ _ h) n
  | dct h k => exact .dct (e _ _ h) k
theorem Vl.mono {K : PySem.W.Frag} {H H' : Hp} {v : V} {d : PyData} (h : Vl K H v d) (e : Same H H') : Vl K H' v d := by
  cases h with
  | lf h => exact .lf (h.mono e)
  | mix h k => exact .mix (sameT e h) (k.mono e)
theorem hd_ints : ∀ ns : List Int, PyData.hasDictAll (ns.map PyData.int) = false
  | [] => by simp [PyData.hasDictAll]
  | n :: ns => by
    have := hd_ints ns
    simp [PyData.hasDictAll, PyData.hasDict, this]
theorem hd_mix (d : PyData) (post : List Int) : ∀ pre : List Int, PyData.hasDict (.tuple (pre.map PyData.int ++ d :: post.map PyData.int)) = d.hasDict
  | [] => by simp [PyData.hasDict, PyData.hasDictAll, hd_ints]
  | a :: t => by
    have := hd_mix d post t
    simpa [PyData.hasDict, PyData.hasDictAll] using this
theorem dp_mix {K : PySem.W.Frag} {H : Hp} {x : V} {d : PyData} (h : Dp K H x d) (post : List Int) : ∀ pre : List Int, DpAll K H (pre.map V.int ++ x :: post.map V.int) (pre.map PyData.int ++ d :: post.map PyData.int)
  | [] => .cons h (dp_ints post)
  | a :: t => .cons (.int a) (dp_mix h post t)
section
variable {X : Cx} {pins : List (Addr × Obj)} {σ : L2.St} {H : Hp} {s : Shared}
theorem dct_reads (I : Inv X pins σ H s) {a : Addr} {kvs : List (Key × V)} {d : PyData} (h : H a = some (.dK kvs)) (k : DctD kvs d) : ∃ as, Reads s.heap (.ref a) d as ∧ sysModules ∉ as := by
  obtain ⟨_, hn, vs, hk, o, es, ep, e, ex, hd, ko, hp, _⟩ := (show ObjOk X.prog X.w H s.heap a (.dK kvs) from I.hok a _ h)
  have hne : ¬ sysModules = a := fun z => by
    rw [← z] at hn
    exact absurd hn (by decide)
  cases k with
  | emp =>
    cases hk
    generalize hl : es.toList = l at hp
    cases hp
    refine ⟨_, .dict (kvs := []) e ex.1 hd (by rw [hl]; exact .nil) (by rw [hl]; exact .nil), by simpa using hne⟩
  | one =>
    cases hk with
    | @cons p q l1 l2 hh ht =>
      cases ht
      obtain ⟨q1, q2⟩ := q
      obtain ⟨e1, rv⟩ := hh
      simp only at e1 rv
      subst e1
      obtain ⟨t2, rfl⟩ := rv
      generalize hl : es.toList = l at hp
      cases hp with
      | @cons x kv l3 l4 hk2 hv ht =>
        cases ht
        obtain ⟨i, t, ei, ev⟩ | ⟨_, _, ei, _⟩ := keyIs_shape (k := Sum.inl 0) (v := x.key) hk2
        · obtain rfl := Sum.inl.inj ei
          refine ⟨_, .dict (kvs := [(.int 0, .int 1)]) e ex.1 hd (as := []) (bs := []) (by rw [hl]; exact ReadsAll.cons (as := []) (bs := []) (by show Reads s.heap x.key (.int 0) []; rw [ev]; exact .int 0 t) .nil) (by rw [hl]; exact ReadsAll.cons (as := []) (bs := []) (by show Reads s.heap x.val (.int 1) []; rw [hv]; exact .int 1 t2) .nil), by simpa using hne⟩
        · exact absurd ei (fun z => nomatch z)
theorem lf_reads (I : Inv X pins σ H s) {v : V} {u : Value} {d : PyData} (h : Lf X.K H v d) (r : RelV v u) : ∃ as, Reads s.heap u d as ∧ (d.hasDict = true → sysModules ∉ as) := by
  cases h with
  | dp h n =>
    obtain ⟨as, q⟩ := Dp.reads I d v u h r
    exact ⟨as, q, fun z => by rw [n] at z; cases z⟩
  | dct h k =>
    cases (show u = Value.ref _ from r)
    obtain ⟨as, q, n⟩ := dct_reads I h k
    exact ⟨as, q, fun _ => n⟩
theorem ints_reads {h : Heap} : ∀ {ns : List Int} {us : List Value}, Vals (ns.map V.int) us → ReadsAll h us (ns.map PyData.int) []
  | [], _, r => by cases r; exact .nil
  | n :: ns, _, r => by
    cases r with
    | cons r1 r2 =>
      obtain ⟨t, rfl⟩ := r1
      exact ReadsAll.cons (as := []) (bs := []) (.int n t) (ints_reads r2)
theorem mix_reads {h : Heap} {x : V} {d : PyData} {as : List Addr} {post : List Int} (hx : ∀ u, RelV x u → Reads h u d as) : ∀ {pre : List Int} {us : List Value}, Vals (pre.map V.int ++ x :: post.map V.int) us → ReadsAll h us (pre.map PyData.int ++ d :: post.map PyData.int) as
  | [], _, r => by
    cases r with
    | cons r1 r2 =>
      have := ReadsAll.cons (hx _ r1) (ints_reads (h := h) r2)
      rw [List.append_nil] at this
      exact this
  | n :: ns, _, r => by
    cases r with
    | cons r1 r2 =>
      obtain ⟨t, rfl⟩ := r1
      exact ReadsAll.cons (as := []) (.int n t) (mix_reads hx r2)
theorem vl_reads (I : Inv X pins σ H s) {v : V} {u : Value} {d : PyData} (h : Vl X.K H v d) (r : RelV v u) : ∃ as, Reads s.heap u d as ∧ (d.hasDict = true → sysModules ∉ as) := by
  cases h with
  | lf h => exact lf_reads I h r
  | @mix a pre post x d ht hx =>
    cases (show u = Value.ref a from r)
    obtain ⟨its, rv, ⟨o, ho, hc, n, hd⟩, _⟩ := I.tuple ht
    have hdi : PyData.hasDict (.tuple (pre.map PyData.int ++ d :: post.map PyData.int)) = d.hasDict := hd_mix d post pre
    have key : ∃ as, ReadsAll s.heap its (pre.map PyData.int ++ d :: post.map PyData.int) as ∧ (d.hasDict = true → sysModules ∉ as) := by
      cases hx with
      | dp h n =>
        obtain ⟨as, q⟩ := Dp.readsAll I (pre.map PyData.int ++ d :: post.map PyData.int) _ its (dp_mix h post pre) rv
        exact ⟨as, q, fun z => by rw [n] at z; cases z⟩
      | @dct b kvs _ h k =>
        obtain ⟨as, q, n⟩ := dct_reads I h k
        exact ⟨as, mix_reads (fun u ru => by cases (show u = Value.ref b from ru); exact q) rv, fun _ => n⟩
    obtain ⟨as, q, n⟩ := key
    exact ⟨_, .tuple ho hc hd q, fun z => n (hdi ▸ z)⟩
end
section
variable {X : Cx}
/-- repr of such values -/
def rReprV (K : PySem.W.Frag) : List V → Hp → VK → Prop := fun xs H Q => ∃ (v : V) (d : PyData), xs = [v] ∧ Vl K H v d ∧ d.showable = true ∧ d.depth ≤ 64 ∧ d.shown.length ≤ sizeLine ∧ Q (.str d.shown) H
theorem call_reprV (hG : X.A.guards = some []) (hu : X.A.units + 66 < cLine) : CallR X (.builtin "repr") (rReprV X.K) := by
  intro pins s σ H xs us Q I r h
  obtain ⟨v, d, rfl, hd, hs, hp, hz, q⟩ := h
  obtain ⟨u, rfl, ru⟩ := vals1 r
  obtain ⟨as, hr, hsm⟩ := vl_reads I hd ru
  cases hr with
  | none => exact PySem.P.repr_of_none ⟨.str _, H, I.tok _, ⟨_, rfl⟩, q⟩
  | bool b => exact PySem.P.repr_of_bool ⟨.str _, H, I.tok _, ⟨_, rfl⟩, q⟩
  | int i t => exact PySem.P.repr_of_int (of_decide_eq_true hs) ⟨.str _, H, I.tok _, ⟨_, rfl⟩, q⟩
  | str x t => exact PySem.P.repr_of_str ⟨.str _, H, I.tok _, ⟨_, rfl⟩, q⟩ hz
  | list h1 h2 h3 h4 => exact repr_of_reads' (.list h1 h2 h3 h4) hs hsm hG (by omega) (fun _ _ z => z) (fun h' k tk hk => ⟨.str _, H, I.kept (t' := tk) hk, ⟨_, rfl⟩, q⟩) hz
  | tuple h1 h2 h3 h4 => exact repr_of_reads' (.tuple h1 h2 h3 h4) hs hsm hG (by omega) (fun _ _ z => z) (fun h' k tk hk => ⟨.str _, H, I.kept (t' := tk) hk, ⟨_, rfl⟩, q⟩) hz
  | dict h1 h2 h3 h4 h5 => exact repr_of_reads' (.dict h1 h2 h3 h4 h5) hs hsm hG (by omega) (fun _ _ z => z) (fun h' k tk hk => ⟨.str _, H, I.kept (t' := tk) hk, ⟨_, rfl⟩, q⟩) hz
end
/-- what sort of thing a leaf is -/
inductive Kd (K : PySem.W.Frag) (H : Hp) : V → PyData → Prop
  | int (i : Int) : Kd K H (.int i) (.int i)
  | bl (b : Bool) : Kd K H (.bl b) (.bool b)
  | tup {a : Addr} {xs : List V} {ds : List PyData} : SqT K H a xs → xs.length = ds.length → (∀ (j : Nat) (x : V), xs[j]? = some x → ∃ d, ds[j]? = some d ∧ Lf K H x d) → Kd K H (.ref a) (.tuple ds)
  | oth {v : V} {d : PyData} (t : String) : (t = "NoneType" ∨ t = "str" ∨ t = "list" ∨ t = "dict") → TyX K H v (.type t) → (∀ i, d ≠ .int i) → (∀ b, d ≠ .bool b) → (∀ ds, d ≠ .tuple ds) → Kd K H v d
theorem ty_lst {K : PySem.W.Frag} {H : Hp} {a : Addr} {xs : List V} (h : SqL K H a xs) : TyX K H (.ref a) (.type "list") := by
  rcases h with (h | ⟨o, h⟩) | ⟨o, its, n, e, c, _⟩
  · exact .base (.lst h)
  · exact .base (.frz h)
  · exact .kList e c
theorem ty_tup {K : PySem.W.Frag} {H : Hp} {a : Addr} {xs : List V} (h : SqT K H a xs) : TyX K H (.ref a) (.type "tuple") := by
  rcases h with (h | ⟨o, h⟩) | ⟨o, its, n, e, c, _⟩
  · exact .base (.tup h)
  · exact .fTuple h
  · exact .kTuple e c
theorem dpa_at {K : PySem.W.Frag} {H : Hp} : ∀ {xs : List V} {ds : List PyData}, DpAll K H xs ds → PyData.hasDictAll ds = false → xs.length = ds.length ∧ ∀ (j : Nat) (x : V), xs[j]? = some x → ∃ d, ds[j]? = some d ∧ Lf K H x d
  | _, _, .nil, _ => ⟨rfl, fun j x e => by simp at e⟩
  | _, _, .cons (v := v) (vs := vs) (d := d) (ds := ds) h t, n => by
    have n' : d.hasDict = false ∧ PyData.hasDictAll ds = false := by simpa [PyData.hasDictAll] using n
    obtain ⟨h1, h2⟩ := dpa_at t n'.2
    refine ⟨by rw [List.length_cons, List.length_cons, h1], fun j x e => ?_⟩
    cases j with
    | zero =>
      simp at e
      subst e
      exact ⟨d, by simp, .dp h n'.1⟩
    | succ j => exact h2 j x (by simpa using e)
theorem lf_kd {K : PySem.W.Frag} {H : Hp} {v : V} {d : PyData} (h : Lf K H v d) : Kd K H v d := by
  cases h with
  | dp h n =>
    cases h with
    | non => exact .oth "NoneType" (.inl rfl) (.base .non) (fun _ z => nomatch z) (fun _ z => nomatch z) (fun _ z => nomatch z)
    | bl b => exact .bl b
    | int i => exact .int i
    | str x => exact .oth "str" (.inr (.inl rfl)) (.base (.str x)) (fun _ z => nomatch z) (fun _ z => nomatch z) (fun _ z => nomatch z)
    | lst hs ha => exact .oth "list" (.inr (.inr (.inl rfl))) (ty_lst hs) (fun _ z => nomatch z) (fun _ z => nomatch z) (fun _ z => nomatch z)
    | tup hs ha =>
      obtain ⟨h1, h2⟩ := dpa_at ha (by simpa [PyData.hasDict] using n)
      exact .tup hs h1 h2
  | dct h k =>
    refine .oth "dict" (.inr (.inr (.inr rfl))) (.base (.dK h)) ?_ ?_ ?_ <;> cases k <;> exact fun _ z => nomatch z
theorem vl_kd {K : PySem.W.Frag} {H : Hp} {v : V} {d : PyData} (h : Vl K H v d) : Kd K H v d := by
  cases h with
  | lf h => exact lf_kd h
  | @mix a pre post x d ht hx =>
    refine .tup ht (by simp) fun j y e => ?_
    rcases Nat.lt_trichotomy j pre.length with hj | hj | hj
    · rw [List.getElem?_append_left (by simpa using hj)] at e ⊢
      obtain ⟨z, rfl, hz⟩ := ints_at e
      exact ⟨.int z, by rw [List.getElem?_map, hz]; rfl, .dp (.int z) rfl⟩
    · subst hj
      rw [List.getElem?_append_right (by simp)] at e ⊢
      simp at e ⊢
      subst e
      exact hx
    · rw [List.getElem?_append_right (by simpa using Nat.le_of_lt hj)] at e ⊢
      obtain ⟨m, hm⟩ : ∃ m, j - (pre.map V.int).length = m + 1 := ⟨j - pre.length - 1, by rw [List.length_map]; omega⟩
      have hm' : j - (pre.map PyData.int).length = m + 1 := by rw [List.length_map] at hm ⊢; exact hm
      rw [hm] at e
      rw [hm']
      simp only [List.getElem?_cons_succ] at e ⊢
      obtain ⟨z, rfl, hz⟩ := ints_at e
      exact ⟨.int z, by rw [List.getElem?_map, hz]; rfl, .dp (.int z) rfl⟩
/-- what the written part says of an own exception class over ValueError that keeps a path -/
structure OexX (K : PySem.W.Frag) (mg : Str → Option Value) (x : Str) (C fI : Addr) : Prop where
  g : mg x = some (.ref C)
  ox : OexC K C
  iC : PySem.W.findIn K (.ref C) "__init__" = some (some (.ref fI))
  tI : PySem.W.typeIn K (.ref fI) = some (.type "function")
  me : PySem.W.exmOne K (.ref C) (.ref C) = some true
  xf : XfC K C
  np : PySem.W.findIn K (.ref C) "path" = some none
theorem exm_me {K : PySem.W.Frag} {C : Addr} (bE : PySem.W.subIn K (.ref C) (.type "BaseException") = some true) (tE : PySem.W.typeIn K (.ref C) = some (.type "type")) (iE : PySem.W.isClsIn K C = true) (sE : PySem.W.subIn K (.ref C) (.ref C) = some true) : PySem.W.exmOne K (.ref C) (.ref C) = some true := by
  have e1 : (PySem.W.subIn K (.ref C) (.type "BaseException") == some true) = true := by rw [bE]; rfl
  have e3 : (PySem.W.clsIn K C).isSome = true := iE
  have e2 : ((PySem.W.clsIn K C).isSome && PySem.W.typeIn K (.ref C) == some (.type "type")) = true := by rw [e3, tE]; rfl
  show (if _ then (if _ then _ else _) else _) = some true
  rw [if_pos e1, if_pos e2]
  exact sE
theorem oexX_mk {K : PySem.W.Frag} {mg : Str → Option Value} {x : Str} {C fI : Addr} (g : mg x = some (.ref C))
    (cls : ∃ nm q N bs bm sn sub ab col dd k0 k1 k2 k3 k5, K.lookup C = some (PySem.excClassObj nm q C N bs bm true sn sub ab col dd k0 k1 k2 k3 k5 "ValueError.__new__") ∧ PySem.HandSPX.refsVE bm = true)
    (sa : PySem.W.findIn K (.ref C) "__setattr__" = some (some (.builtin "object.__setattr__"))) (ga : PySem.W.findIn K (.ref C) "__getattribute__" = some (some (.builtin "BaseException.__getattribute__"))) (gg : PySem.W.findIn K (.ref C) "__getattr__" = some none)
    (np : PySem.W.findIn K (.ref C) "path" = some none) (iC : PySem.W.findIn K (.ref C) "__init__" = some (some (.ref fI))) (tI : PySem.W.typeIn K (.ref fI) = some (.type "function")) (kC : PySem.W.keepIn K (.ref C) = true)
    (eC : PySem.W.subIn K (.ref C) (.type "BaseException") = some true) (tC : PySem.W.typeIn K (.ref C) = some (.type "type")) (hC : PySem.W.hasDictIn K C = true) (iK : PySem.W.isClsIn K C = true) (sE : PySem.W.subIn K (.ref C) (.ref C) = some true) : OexX K mg x C fI :=
  ⟨g, ⟨cls, sa, eC, tC, kC⟩, iC, tI, exm_me eC tC iK sE, ⟨ga, gg, eC, hC⟩, np⟩
/-- the path that an own exception is made of -/
def spPath (K : PySem.W.Frag) (C : Addr) : Sp := fun vs H Q _ => ∃ (a t : Addr) (ys : List V), vs = [.ref a, .ref t] ∧ OexC K C ∧ PySem.W.findIn K (.ref C) "path" = some none ∧ H a = some (exo a C none) ∧ SqT K H t ys ∧
  ∀ dx, H dx = none → dx ≠ a → Q .non (upd (upd H dx (exd dx [("path", .ref t)])) a (exo a C (some dx)))
/-- what stands behind a raised exception with a path -/
structure Thr (K : PySem.W.Frag) (C : Addr) (H : Hp) (path : List Int) (cls : Value) (d : Option Addr) (H' : Hp) : Prop where
  c : cls = .ref C
  s : Same H H'
  f : ∃ (dd t : Addr), d = some dd ∧ H' dd = some (.xd [("path", .ref t)]) ∧ SqT K H' t (path.map V.int)
/-- C(path) runs -/
theorem thrown {K : PySem.W.Frag} {C : Addr} {H H1 : Hp} {a t : Addr} {path : List Int} {E : XK} (o : OexC K C) (np : PySem.W.findIn K (.ref C) "path" = some none) (s : Same H H1) (ht : SqT K H1 t (path.map V.int)) (ha : H1 a = none)
    (q : ∀ cls d H', Thr K C H path cls d H' → E cls d H') :
    spPath K C [.ref a, .ref t] (upd H1 a (exo a C none)) (fun v H2 => v = .non ∧ ∃ (d : Addr) (fs : List (Str × V)), H2 a = some (exo a C (some d)) ∧ H2 d = some (exd d fs) ∧ H1 d = none ∧ E (.ref C) (some d) (upd (del H2 a) d (.xd fs))) fun _ _ _ => False := by
  refine ⟨a, t, _, rfl, o, np, upd_same, sameT (same_new ha) ht, fun dx hdx ne => ⟨rfl, dx, _, upd_same, by rw [upd_ne ne, upd_same], by rw [upd_ne ne] at hdx; exact hdx, ?_⟩⟩
  have hd1 : H1 dx = none := by rw [upd_ne ne] at hdx; exact hdx
  have sm : Same H1 (upd (del (upd (upd (upd H1 a (exo a C none)) dx (exd dx [("path", .ref t)])) a (exo a C (some dx))) a) dx (.xd [("path", .ref t)])) := fun b x e => by
    have n1 : b ≠ a := ne_of_none e ha
    have n2 : b ≠ dx := ne_of_none e hd1
    rw [upd_ne n2, del_ne n1, upd_ne n1, upd_ne n2, upd_ne n1]
    exact e
  exact q _ _ _ ⟨rfl, s.trans sm, dx, t, rfl, upd_same, sameT sm ht⟩
/-- two tuples put together, wherever they stand -/
theorem cat_any {K : PySem.W.Frag} {H : Hp} {a b : Addr} {xs ys : List V} {Q : VK} (ha : SqT K H a xs) (hb : SqT K H b ys) (hl : xs.length + ys.length ≤ sizeLine) (q : ∀ t H', Same H H' → SqT K H' t (xs ++ ys) → Q (.ref t) H') : rCatA K (.ref a) (.ref b) H Q := by
  refine ⟨a, b, xs, ys, rfl, rfl, ha, hb, hl, fun e => ?_, fun _ e => ?_, fun _ _ p hp => q p _ (same_new hp) (.inl (.inl upd_same))⟩
  · exact q b H (Same.refl _) (by rw [e]; exact hb)
  · exact q a H (Same.refl _) (by rw [e, List.append_nil]; exact ha)
theorem sl_any {K : PySem.W.Frag} {H : Hp} {a : Addr} {xs : List V} {lo hi : Option Int} {Q : VK} (ha : SqT K H a xs) (q : ∀ t H', Same H H' → SqT K H' t (cutV xs lo hi) → Q (.ref t) H') : rSlA K (.ref a) lo hi H Q := by
  refine ⟨a, xs, rfl, ha, fun e => ?_, fun _ p hp => q p _ (same_new hp) (.inl (.inl upd_same))⟩
  refine q a H (Same.refl _) ?_
  have : cutV xs lo hi = xs := by
    unfold cutV
    rw [e.1, e.2, List.drop_zero, Nat.sub_zero, List.take_length]
  rw [this]
  exact ha
/-- all that stands but the source and the list D is known -/
def hide3 (H : Hp) (d c D : Addr) : Hp := fun b => if b = d ∨ b = c ∨ b = D then none else H b
theorem know3 {G H : Hp} {d c D : Addr} {xs : List V} (k : Kn (upd G D (.lst xs)) H d c) (gD : G D = none) :
    Kn (upd (hide3 H d c D) D (.lst xs)) H d c ∧ hide3 H d c D D = none ∧ Same G (hide3 H d c D) := by
  have nd : D ≠ d := k.nd upd_same
  have nc : D ≠ c := k.nc upd_same
  refine ⟨⟨fun b x e => ?_, ?_, ?_, k.src⟩, by simp [hide3], fun b x e => ?_⟩
  · by_cases hb : b = D
    · subst hb
      rw [upd_same] at e
      exact k.le _ _ (by rw [upd_same]; exact e)
    · rw [upd_ne hb] at e
      unfold hide3 at e
      split at e
      · cases e
      · exact e
  · rw [upd_ne nd.symm]
    simp [hide3]
  · rw [upd_ne nc.symm]
    simp [hide3]
  · have hb : b ≠ D := ne_of_none e gD
    have e' : (upd G D (.lst xs)) b = some x := by rw [upd_ne hb]; exact e
    have h1 : b ≠ d := k.nd e'
    have h2 : b ≠ c := k.nc e'
    unfold hide3
    rw [if_neg (by simp [h1, h2, hb])]
    exact k.le _ _ e'
theorem know3_t {K : PySem.W.Frag} {G H : Hp} {d c D t : Addr} {xs ys : List V} (k : Kn (upd G D (.lst xs)) H d c) (h : SqT K H t ys) : SqT K (hide3 H d c D) t ys := by
  obtain ⟨zs, l, m, z, h1, h2, _⟩ := k.src
  have h3 := k.le D _ upd_same
  have off : ∀ {o : HO}, H t = some o → (∀ q, o ≠ .dK q) → (∀ q, o ≠ .lst q) → (hide3 H d c D) t = some o := fun {o} e n1 n2 => by
    have a1 : t ≠ d := fun q => by rw [q, h1] at e; exact n1 _ (Option.some.inj e).symm
    have a2 : t ≠ c := fun q => by rw [q, h2] at e; exact n2 _ (Option.some.inj e).symm
    have a3 : t ≠ D := fun q => by rw [q, h3] at e; exact n2 _ (Option.some.inj e).symm
    unfold hide3
    rw [if_neg (by simp [a1, a2, a3])]
    exact e
  rcases h with (h | ⟨o, h⟩) | h
  · exact .inl (.inl (off h (fun _ q => nomatch q) (fun _ q => nomatch q)))
  · exact .inl (.inr ⟨o, off h (fun _ q => nomatch q) (fun _ q => nomatch q)⟩)
  · exact .inr h
theorem know3_o {G H : Hp} {d c D t : Addr} {xs : List V} {o : HO} (k : Kn (upd G D (.lst xs)) H d c) (h : H t = some o) (nd : t ≠ d) (nc : t ≠ c) (nD : t ≠ D) : hide3 H d c D t = some o := by
  unfold hide3
  rw [if_neg (by simp [nd, nc, nD])]
  exact h
end Lw

/-! ### how many codes of a rank there are -/
namespace Lw
open PySem L2
def gauss (p : Int) : Nat → Nat → Int
  | _, 0 => 1
  | 0, _ + 1 => 0
  | n + 1, k + 1 => gauss p n k + p ^ (k + 1) * gauss p n (k + 1)
def topP (p : Int) (n : Nat) : Nat → Int
  | 0 => 1
  | k + 1 => topP p n k * (p ^ (n - k) - 1)
def botP (p : Int) : Nat → Int
  | 0 => 1
  | k + 1 => botP p k * (p ^ (k + 1) - 1)
section
variable {p : Int}
theorem top_succ (n : Nat) : ∀ k, topP p (n + 1) (k + 1) = (p ^ (n + 1) - 1) * topP p n k
  | 0 => by simp [topP]
  | k + 1 => by
    have e : n + 1 - (k + 1) = n - k := by omega
    rw [topP, top_succ n k, e, topP, Int.mul_assoc]
theorem top_zero {n : Nat} : ∀ {k : Nat}, n < k → topP p n k = 0
  | 0, h => by omega
  | k + 1, h => by
    rw [topP]
    by_cases e : n = k
    · subst e
      rw [Nat.sub_self, Int.pow_zero, Int.sub_self, Int.mul_zero]
    · rw [top_zero (by omega), Int.zero_mul]
theorem gauss_mul : ∀ (n k : Nat), gauss p n k * botP p k = topP p n k
  | 0, 0 => rfl
  | 0, k + 1 => by
    rw [top_zero (by omega)]
    simp [gauss]
  | n + 1, 0 => rfl
  | n + 1, k + 1 => by
    have h1 := gauss_mul n k
    have h2 := gauss_mul n (k + 1)
    rw [top_succ, gauss, Int.add_mul, Int.mul_assoc, h2, botP, ← Int.mul_assoc, h1]
    by_cases hk : k ≤ n
    · rw [topP]
      have e : p ^ (k + 1) * p ^ (n - k) = p ^ (n + 1) := by rw [← Int.pow_add]; congr 1; omega
      have e2 : p ^ (k + 1) * (topP p n k * (p ^ (n - k) - 1)) = topP p n k * (p ^ (n + 1) - p ^ (k + 1)) := by
        rw [Int.mul_left_comm, Int.mul_sub, Int.mul_one, e]
      rw [e2, ← Int.mul_add, Int.mul_comm]
      congr 1
      omega
    · rw [top_zero (by omega : n < k), top_zero (by omega : n < k + 1)]
      simp
theorem pow_big (hp : 2 ≤ p) (k : Nat) : 1 < p ^ (k + 1) := by
  have h : (2 : Int) ^ (k + 1) ≤ p ^ (k + 1) := by
    have : ∀ m : Nat, (2 : Int) ^ m ≤ p ^ m ∧ 0 < (2 : Int) ^ m := by
      intro m
      induction m with
      | zero => simp
      | succ m ih =>
        rw [Int.pow_succ, Int.pow_succ]
        exact ⟨Int.mul_le_mul ih.1 hp (by decide) (Int.le_of_lt (Int.lt_of_lt_of_le ih.2 ih.1)), by omega⟩
    exact (this _).1
  have h2 : (1 : Int) < 2 ^ (k + 1) := by
    have : ∀ m : Nat, 0 < (2 : Int) ^ m := fun m => Int.pow_pos (by decide)
    have := this k
    rw [Int.pow_succ]
    omega
  omega
theorem bot_pos (hp : 2 ≤ p) : ∀ k, 0 < botP p k
  | 0 => by show (0 : Int) < 1; decide
  | k + 1 => by
    rw [botP]
    have := pow_big hp k
    exact Int.mul_pos (bot_pos hp k) (by omega)
theorem gauss_div (hp : 2 ≤ p) (n k : Nat) : topP p n k / botP p k = gauss p n k := by
  rw [← gauss_mul]
  exact Int.mul_ediv_cancel _ (Int.ne_of_gt (bot_pos hp k))
theorem top_bot (n : Nat) : ∀ k, k ≤ n → topP p n k * botP p (n - k) = botP p n
  | 0, _ => by simp [topP]
  | k + 1, h => by
    have ih := top_bot n k (by omega)
    have e : n - k = (n - (k + 1)) + 1 := by omega
    rw [e, botP] at ih
    rw [topP, ← ih, e, Int.mul_assoc]
    congr 1
    rw [Int.mul_comm]
theorem gauss_sym (hp : 2 ≤ p) (n k : Nat) (h : k ≤ n) : gauss p n (n - k) = gauss p n k := by
  have e1 := top_bot (p := p) n k h
  have e2 := top_bot (p := p) n (n - k) (by omega)
  rw [show n - (n - k) = k by omega] at e2
  rw [← gauss_mul] at e1 e2
  have e3 : gauss p n k * (botP p k * botP p (n - k)) = gauss p n (n - k) * (botP p k * botP p (n - k)) := by
    rw [← Int.mul_assoc, e1, ← e2, Int.mul_assoc, Int.mul_comm (botP p (n - k))]
  have hpos : 0 < botP p k * botP p (n - k) := Int.mul_pos (bot_pos hp _) (bot_pos hp _)
  exact (Int.eq_of_mul_eq_mul_right (Int.ne_of_gt hpos) e3).symm
theorem gauss_out {n : Nat} : ∀ {k : Nat}, n < k → gauss p n k = 0 := by
  induction n with
  | zero =>
    intro k h
    cases k with
    | zero => omega
    | succ k => rfl
  | succ n ih =>
    intro k h
    cases k with
    | zero => omega
    | succ k => rw [gauss, ih (by omega), ih (by omega)]; simp
theorem gauss_self : ∀ n, gauss p n n = 1
  | 0 => rfl
  | n + 1 => by rw [gauss, gauss_self n, gauss_out (by omega)]; simp
def gaussRow (p : Int) (n : Nat) : List Int := (List.range (n + 1)).map (gauss p n)
theorem gaussRow_len (n : Nat) : (gaussRow p n).length = n + 1 := by simp [gaussRow]
theorem gaussRow_rev (hp : 2 ≤ p) (n : Nat) : (gaussRow p n).reverse = gaussRow p n := by
  apply List.ext_getElem (by simp)
  intro i h1 h2
  have hi : i < n + 1 := by simpa [gaussRow] using h2
  rw [List.getElem_reverse]
  simp only [gaussRow, List.getElem_map, List.getElem_range, List.length_map, List.length_range]
  rw [show n + 1 - 1 - i = n - i by omega]
  exact gauss_sym hp n i (by omega)
theorem gaussRow_at {n k : Nat} (h : k ≤ n) : (gaussRow p n)[k]? = some (gauss p n k) := by
  unfold gaussRow
  rw [List.getElem?_map, List.getElem?_range (by omega)]
  rfl
/-! sizes -/
theorem pow_bd (h0 : 0 ≤ p) (h1 : p ≤ 13) (k : Nat) : 0 ≤ p ^ k ∧ p ^ k ≤ 2 ^ (4 * k) := by
  induction k with
  | zero => simp
  | succ k ih =>
    rw [Int.pow_succ, show 4 * (k + 1) = 4 * k + 4 by omega, Int.pow_add]
    exact ⟨Int.mul_nonneg ih.1 h0, Int.mul_le_mul ih.2 (by omega) h0 (by have := ih.1; omega)⟩
theorem pow_mono2 {a b : Nat} (h : a ≤ b) : (2 : Int) ^ a ≤ 2 ^ b := by
  have : (2 : Nat) ^ a ≤ 2 ^ b := Nat.pow_le_pow_right (by decide) h
  have e : ∀ m : Nat, ((2 ^ m : Nat) : Int) = (2 : Int) ^ m := fun m => by simp
  rw [← e, ← e]
  omega
theorem pow_lt120 (h0 : 0 ≤ p) (h1 : p ≤ 13) {k : Nat} (hk : k ≤ 30) : 0 ≤ p ^ k ∧ p ^ k ≤ 2 ^ 120 :=
  ⟨(pow_bd h0 h1 k).1, Int.le_trans (pow_bd h0 h1 k).2 (pow_mono2 (by omega))⟩
theorem abs_lt {x : Int} {m : Nat} (h0 : 0 ≤ x) (h : x ≤ 2 ^ m) : x.natAbs < 2 ^ (m + 1) := by
  have e : ((2 ^ m : Nat) : Int) = (2 : Int) ^ m := by simp
  have : (2 : Nat) ^ m < 2 ^ (m + 1) := Nat.pow_lt_pow_right (by decide) (by omega)
  omega
theorem top_bd (hp : 2 ≤ p) (h1 : p ≤ 13) {n : Nat} (hn : n ≤ 30) : ∀ k, 0 ≤ topP p n k ∧ topP p n k ≤ 2 ^ (120 * k)
  | 0 => by simp [topP]
  | k + 1 => by
    obtain ⟨a, b⟩ := top_bd hp h1 hn k
    obtain ⟨c, d⟩ := pow_lt120 (by omega : 0 ≤ p) h1 (k := n - k) (by omega)
    have c' : 0 ≤ p ^ (n - k) - 1 := by
      have : 0 < p ^ (n - k) := Int.pow_pos (by omega)
      omega
    have e2 : (2 : Int) ^ (120 * (k + 1)) = 2 ^ (120 * k) * 2 ^ 120 := by rw [show 120 * (k + 1) = 120 * k + 120 by omega, Int.pow_add]
    rw [topP, e2]
    generalize (2 : Int) ^ 120 = X at *
    generalize (2 : Int) ^ (120 * k) = Y at *
    generalize p ^ (n - k) = Z at *
    exact ⟨Int.mul_nonneg a c', Int.mul_le_mul b (by omega) c' (by omega)⟩
theorem bot_bd (hp : 2 ≤ p) (h1 : p ≤ 13) : ∀ k, k ≤ 30 → botP p k ≤ 2 ^ (120 * k)
  | 0, _ => by simp [botP]
  | k + 1, hk => by
    have b := bot_bd hp h1 k (by omega)
    have a := bot_pos hp k
    obtain ⟨c, d⟩ := pow_lt120 (by omega : 0 ≤ p) h1 (k := k + 1) hk
    have c' := pow_big hp k
    have e2 : (2 : Int) ^ (120 * (k + 1)) = 2 ^ (120 * k) * 2 ^ 120 := by rw [show 120 * (k + 1) = 120 * k + 120 by omega, Int.pow_add]
    rw [botP, e2]
    generalize (2 : Int) ^ 120 = X at *
    generalize (2 : Int) ^ (120 * k) = Y at *
    generalize p ^ (k + 1) = Z at *
    exact Int.mul_le_mul b (by omega) (by omega) (by omega)
theorem pow_mono (hp : 1 ≤ p) {a b : Nat} (h : a ≤ b) : p ^ a ≤ p ^ b := by
  obtain ⟨c, rfl⟩ := Nat.exists_eq_add_of_le h
  have h1 : 0 < p ^ a := Int.pow_pos (by omega)
  have h2 : 0 < p ^ c := Int.pow_pos (by omega)
  rw [Int.pow_add]
  have := Int.mul_le_mul_of_nonneg_left (show (1 : Int) ≤ p ^ c by omega) (Int.le_of_lt h1)
  rwa [Int.mul_one] at this
theorem gauss_bd (hp : 2 ≤ p) : ∀ (n k : Nat), 0 ≤ gauss p n k ∧ gauss p n k ≤ 2 ^ n * p ^ (k * (n - k))
  | 0, 0 => by simp [gauss]
  | 0, k + 1 => by
    have : 0 < p ^ ((k + 1) * (0 - (k + 1))) := Int.pow_pos (by omega)
    exact ⟨Int.le_refl _, by show (0 : Int) ≤ 2 ^ 0 * _; rw [Int.pow_zero, Int.one_mul]; omega⟩
  | n + 1, 0 => by
    have h1 : (0 : Int) < 2 ^ (n + 1) := Int.pow_pos (by decide)
    refine ⟨by simp [gauss], ?_⟩
    rw [Nat.zero_mul, Int.pow_zero, Int.mul_one]
    show (1 : Int) ≤ _
    omega
  | n + 1, k + 1 => by
    obtain ⟨a0, a1⟩ := gauss_bd hp n k
    obtain ⟨b0, b1⟩ := gauss_bd hp n (k + 1)
    have hpk : 0 < p ^ (k + 1) := Int.pow_pos (by omega)
    have h2n : (0 : Int) < 2 ^ n := Int.pow_pos (by decide)
    have c1 : p ^ (k * (n - k)) ≤ p ^ ((k + 1) * (n - k)) := pow_mono (by omega) (Nat.mul_le_mul_right _ (by omega))
    have c2 := Int.mul_le_mul_of_nonneg_left c1 (Int.le_of_lt h2n)
    have d0 : 0 ≤ p ^ (k + 1) * gauss p n (k + 1) := Int.mul_nonneg (Int.le_of_lt hpk) b0
    have d1 : p ^ (k + 1) * gauss p n (k + 1) ≤ 2 ^ n * p ^ ((k + 1) * (n - k)) := by
      by_cases hk : k + 1 ≤ n
      · have := Int.mul_le_mul_of_nonneg_left b1 (Int.le_of_lt hpk)
        have e : p ^ (k + 1) * (2 ^ n * p ^ ((k + 1) * (n - (k + 1)))) = 2 ^ n * p ^ ((k + 1) * (n - k)) := by
          rw [Int.mul_left_comm, ← Int.pow_add]
          congr 2
          have : n - k = (n - (k + 1)) + 1 := by omega
          rw [this, Nat.mul_add, Nat.mul_one, Nat.add_comm]
        rwa [e] at this
      · rw [gauss_out (by omega), Int.mul_zero]
        exact Int.mul_nonneg (Int.le_of_lt h2n) (Int.le_of_lt (Int.pow_pos (by omega)))
    rw [gauss, show (2 : Int) ^ (n + 1) = 2 ^ n * 2 from Int.pow_succ _ _, show n + 1 - (k + 1) = n - k by omega, Int.mul_right_comm]
    generalize (2 : Int) ^ n * p ^ ((k + 1) * (n - k)) = X at *
    generalize p ^ (k + 1) * gauss p n (k + 1) = Y at *
    omega
theorem kk_225 : ∀ n : Nat, n < 31 → ∀ k : Nat, k < 31 → k * (n - k) ≤ 225 := by decide +kernel
theorem gauss_1000 (hp : 2 ≤ p) (h1 : p ≤ 13) {n : Nat} (hn : n ≤ 30) (k : Nat) : 0 ≤ gauss p n k ∧ gauss p n k ≤ 2 ^ 1000 := by
  obtain ⟨a, b⟩ := gauss_bd hp n k
  refine ⟨a, ?_⟩
  by_cases hk : k ≤ n
  · have h2 := (pow_bd (by omega : 0 ≤ p) h1 (k * (n - k))).2
    have h3 := kk_225 n (by omega) k (by omega)
    have h4 : p ^ (k * (n - k)) ≤ 2 ^ 900 := Int.le_trans h2 (pow_mono2 (by omega))
    have h5 : (2 : Int) ^ n ≤ 2 ^ 30 := pow_mono2 hn
    have h6 : 0 ≤ p ^ (k * (n - k)) := (pow_bd (by omega : 0 ≤ p) h1 _).1
    have h7 : (2 : Int) ^ n * p ^ (k * (n - k)) ≤ 2 ^ 30 * 2 ^ 900 := Int.mul_le_mul h5 h4 h6 (by decide +kernel)
    refine Int.le_trans b (Int.le_trans h7 ?_)
    decide +kernel
  · rw [gauss_out (by omega)]
    decide +kernel
end
theorem big_ten : (2 : Int) ^ 1000 < 10 ^ 310 := by decide +kernel
/-- great numbers may be shown -/
theorem show_big {K : PySem.W.Frag} {H : Hp} {x : Int} {Q : VK} (h0 : 0 ≤ x) (h : x ≤ 2 ^ 1000) (q : Q (.str (PyData.shown (.int x))) H) : rReprD K [.int x] H Q := by
  have hs : (PyData.shown (.int x)).length ≤ 310 := by
    rw [PyData.shown_int]
    exact PyProof.Rows.toString_length_le h0 (by decide : 0 < 310) (Int.lt_of_le_of_lt h big_ten)
  refine ⟨.int x, .int x, rfl, .int x, ?_, rfl, by simp [PyData.depth], Nat.le_trans hs (by decide), q⟩
  simp only [PyData.showable, decide_eq_true_eq]
  have h1 := abs_lt h0 h
  by_cases hz : x.natAbs = 0
  · rw [hz]; decide
  · have := (Nat.log2_lt hz).mpr h1
    omega
theorem big_all : ∀ {ns : List Int}, (∀ x ∈ ns, 0 ≤ x ∧ x ≤ 2 ^ 1000) → PyData.showableAll (ns.map PyData.int) = true ∧ PyData.leavesShortAll 310 (ns.map PyData.int) = true ∧ PyData.bulkAll (ns.map PyData.int) ≤ ns.length
  | [], _ => ⟨rfl, rfl, by simp [PyData.bulkAll]⟩
  | n :: ns, h => by
    obtain ⟨h0, h1⟩ := h n (by simp)
    obtain ⟨a, b, c⟩ := big_all (ns := ns) fun x hx => h x (by simp [hx])
    have s1 : PyData.showable (.int n) = true := by
      simp only [PyData.showable, decide_eq_true_eq]
      have h1 := abs_lt h0 h1
      by_cases hz : n.natAbs = 0
      · rw [hz]; decide
      · have := (Nat.log2_lt hz).mpr h1
        omega
    have s2 : PyData.leavesShort 310 (.int n) = true := by
      simp only [PyData.leavesShort, decide_eq_true_eq]
      rw [PyData.shown_int]
      exact PyProof.Rows.toString_length_le h0 (by decide : 0 < 310) (Int.lt_of_le_of_lt h1 big_ten)
    refine ⟨?_, ?_, ?_⟩
    · rw [List.map_cons]
      show (PyData.showable _ && PyData.showableAll _) = true
      rw [s1, a]
      rfl
    · rw [List.map_cons]
      show (PyData.leavesShort 310 _ && PyData.leavesShortAll 310 _) = true
      rw [s2, b]
      rfl
    · simp only [List.map_cons, PyData.bulkAll, PyData.bulk, List.length_cons]
      omega
theorem show_bigs {K : PySem.W.Frag} {H : Hp} {v : V} {ns : List Int} {Q : VK} (h : Dp K H v (.list (ns.map PyData.int))) (hb : ∀ x ∈ ns, 0 ≤ x ∧ x ≤ 2 ^ 1000) (hl : ns.length ≤ 100) (q : Q (.str (PyData.shown (.list (ns.map PyData.int)))) H) : rReprD K [v] H Q := by
  obtain ⟨a, b, c⟩ := big_all hb
  refine ⟨v, _, rfl, h, by simpa only [PyData.showable] using a, can_ints ns, ?_, ?_, q⟩
  · have := dep_ints ns
    simp only [PyData.depth]
    omega
  · have h1 := PyData.shown_le_bulk 310 (by decide) (.list (ns.map PyData.int)) (by simpa only [PyData.leavesShort] using b)
    have h2 : PyData.bulk (.list (ns.map PyData.int)) ≤ 102 := by
      simp only [PyData.bulk]
      omega
    have h3 : (310 + 2) * PyData.bulk (.list (ns.map PyData.int)) + 310 ≤ 312 * 102 + 310 := by omega
    refine Nat.le_trans h1 (Nat.le_trans h3 ?_)
    decide
end Lw

/-! ### range objects: range(n), i not in r -/
namespace Lw
open PySem L2 PySem.Spec PyProof.Rows
section
variable {X : Cx}
def rRange1 : List V → Hp → VK → Prop := fun vs H Q => ∃ j, vs = [V.int j] ∧ ∀ p, H p = none → Q (.ref p) (upd H p (.rng 0 j))
theorem cr_range1 : CallR X (.type "range") rRange1 := by
  intro pins s σ H vs us Q I r h
  obtain ⟨j, rfl, q⟩ := h
  obtain ⟨u, rfl, ru⟩ := vals1 r
  obtain ⟨t, rfl⟩ := ru
  refine call_range_1 ⟨.ref s.heap.objs.size, upd H s.heap.objs.size (.rng 0 j), I.laid (t' := s.toks + 1 + 1) (fun b o e => Heap.get?_push_of_some _ e) (Nat.le_refl _) ?_, rfl, q _ (I.hok.fresh (Nat.le_refl _))⟩
  exact ⟨s.toks, t, s.toks + 1, Heap.get?_push_size _ rfl⟩
def rNotInRng : R2 := fun x y H Q => ∃ i a lo hi, x = V.int i ∧ y = V.ref a ∧ H a = some (.rng lo hi) ∧ Q (.bl (!decide (lo ≤ i ∧ i < hi))) H
theorem op_notIn_rng : OpR X (compareOp .NotIn) rNotInRng := by
  intro pins s σ H x y v u Q I rx ry h
  obtain ⟨i, a, lo, hi, rfl, rfl, ha, q⟩ := h
  obtain ⟨k, rfl⟩ := rx
  obtain rfl : u = Value.ref a := ry
  obtain ⟨t1, t2, t3, ho⟩ := I.hok a _ ha
  refine NotIn_slot (T := "range") ⟨_, ho, rfl⟩ F.slot_range_contains (call_meets F.slot_range_contains ⟨_, ho, rfl⟩ F.entry_range_contains (F.args_range_contains_2 _ _) (L2.q_contains a lo hi i t1 t2 t3 k) ⟨ho, wpAny_truthy_bool ⟨.bl _, H, I, rfl, ?_⟩⟩)
  rw [L2.place1]
  exact q
/-- going through a range object that stands in a name -/
def iRngO (te : TE) : TI := fun σ H R => te σ H fun x H1 => ∃ (a : Addr) (lo hi : Int), x = .ref a ∧ H1 a = some (.rng lo hi) ∧ -(2 ^ 62) ≤ lo ∧ lo < 2 ^ 62 ∧ -(2 ^ 62) ≤ hi ∧ hi < 2 ^ 62 ∧ R (Itr lo (hi - lo).toNat) H1
theorem pi_rngO {tg e : Expr} {te : TE} (he : PE X e te) : PI X tg e (iRngO te) := by
  refine ⟨fun pins s σ H R I h => ?_⟩
  refine thn (he.run pins s σ H _ I h) fun v s1 ⟨x, H1, I1, r1, q1⟩ => ?_
  obtain ⟨a, lo, hi, rfl, ha, h1, h2, h3, h4, q⟩ := q1
  obtain rfl : v = Value.ref a := r1
  obtain ⟨t, u, w, ho⟩ := I1.hok a _ ha
  refine wpAny_pyIter_range (show IsRange s1.heap a lo hi 1 t u w from ho) (small_one h1 h2 h3 h4) ?_
  refine ⟨s1.heap.objs.size, [s1.heap.objs.size], _, _, H1, rfl, I1.kept (t' := s1.toks) fun b o e => Heap.get?_push_of_some _ e, turn_range _ lo (hi - lo).toNat, ?_, fun b hb => ?_, q⟩
  · have e1 : lo + ((0 : Nat) : Int) * 1 = lo := by simp
    have e2 : (((hi - lo).toNat : Nat) : Int) - ((0 : Nat) : Int) = Builtin.Range.rangeSize lo hi 1 := by rw [rangeSize_one]; split <;> omega
    show IsRangeIter _ _ (lo + ((0 : Nat) : Int) * 1) ((((hi - lo).toNat : Nat) : Int) - ((0 : Nat) : Int)) 1
    rw [e1, e2]
    exact Heap.get?_push_size _ rfl
  · have e : b = s1.heap.objs.size := by simpa using hb
    subst e
    exact I1.fpOk (Nat.le_refl _) (I1.hok.fresh (Nat.le_refl _))
/-- tuple(xs), xs a list or a tuple -/
def rTupOf (K : PySem.W.Frag) : List V → Hp → VK → Prop := fun xs H Q => ∃ p ys, xs = [.ref p] ∧ ((SqL K H p ys ∧ ∀ l, H l = none → Q (.ref l) (upd H l (.tup ys))) ∨ (SqT K H p ys ∧ Q (.ref p) H))
theorem call_tupOf : CallR X (.type "tuple") (rTupOf X.K) := call_tuple_of
/-- list(xs), xs a list or a tuple -/
def rListOf (K : PySem.W.Frag) : List V → Hp → VK → Prop := fun xs H Q => ∃ p ys, xs = [V.ref p] ∧ (SqL K H p ys ∨ SqT K H p ys) ∧ ∀ l, H l = none → Q (V.ref l) (upd H l (.lst ys))
theorem call_listOf : CallR X (.type "list") (rListOf X.K) := call_list_of
/-- the less of two -/
def rMin2 : List V → Hp → VK → Prop := fun xs H Q => ∃ i j, xs = [.int i, .int j] ∧ Q (.int (if j < i then j else i)) H
theorem cr_min2 (hc : X.calm = true) : CallR X (.builtin "min") rMin2 := call_min2 hc
/-- len(xs), xs a list or a tuple -/
def rLenOf (K : PySem.W.Frag) : List V → Hp → VK → Prop := fun xs H Q => ∃ p ys, xs = [V.ref p] ∧ (SqL K H p ys ∨ SqT K H p ys) ∧ Q (.int (ys.length : Nat)) H
theorem call_lenOf : CallR X (.builtin "len") (rLenOf X.K) := call_len_seq
end
end Lw

namespace Lw
open PySem L2
/-! ### zip, the second one the shorter -/
theorem for_zipS {K : PySem.W.Frag} {k1 k2 : Bool} {a b : Addr} {xs ys : List V} {g : TG} {tb : TS} {D : Ends} {σ : L2.St} {H : Hp} (hl : ys.length ≤ xs.length) (Pv : Nat → L2.St → Hp → Prop) (h0 : Pv 0 σ H) (hq : ∀ i σ H, Pv i σ H → SqK K k1 H a xs ∧ SqK K k2 H b ys)
    (hs : ∀ (i : Nat) (x y : V) (T : Addr) (σ : L2.St) (H : Hp), xs[i]? = some x → ys[i]? = some y → Pv i σ H → H T = none → g (.ref T) σ (upd H T (.tup [x, y])) fun σ2 H2 => tb { D with nx := Pv (i + 1), ct := Pv (i + 1), bk := D.nx } σ2 H2) (hd : ∀ σ H, Pv ys.length σ H → D.nx σ H) :
    ∃ W : Nat → Nat → L2.St → Hp → Prop, (∃ m, W 0 m σ H) ∧ ∀ i m σ H, W i m σ H →
      ((ItzM K k1 k2 a b).stop i H ∧ D.nx σ H) ∨ ((ItzM K k1 k2 a b).go i H ∧ ∃ N : L2.St → Hp → Prop, (∀ σ' H', N σ' H' → ∃ m', m' < m ∧ W (i + 1) m' σ' H') ∧ ∀ v H', (ItzM K k1 k2 a b).yld i H v H' → g v σ H' fun σ2 H2 => tb { D with nx := N, ct := N, bk := D.nx } σ2 H2) := by
  refine ⟨fun i m σ H => m = ys.length - i ∧ i ≤ ys.length ∧ Pv i σ H, ⟨_, rfl, Nat.zero_le _, h0⟩, ?_⟩
  rintro i m σ H ⟨rfl, hi, p⟩
  obtain ⟨qx, qy⟩ := hq i σ H p
  by_cases hlt : i < ys.length
  · refine .inr ⟨⟨xs, ys, _, _, qx, qy, List.getElem?_eq_getElem (Nat.lt_of_lt_of_le hlt hl), List.getElem?_eq_getElem hlt⟩, Pv (i + 1), fun σ' H' p' => ⟨ys.length - (i + 1), by omega, rfl, hlt, p'⟩, ?_⟩
    rintro v H' ⟨T, x', y', rfl, hT, rfl, f1, f2⟩
    exact hs i x' y' T σ H (f1 xs qx) (f2 ys qy) p hT
  · have e : i = ys.length := by omega
    subst e
    exact .inl ⟨⟨xs, ys, qx, qy, .inr rfl, hl, Nat.le_refl _⟩, hd σ H p⟩
theorem lc_zipS {K : PySem.W.Frag} {k1 k2 : Bool} {a b : Addr} {xs ys : List V} {g : TG} {tt : TT} {te : TE} {vs : List Nat} {σ : L2.St} {H1 : Hp} {D : Addr} {Qd : Hp → Prop} (hl : ys.length ≤ xs.length) (Pv : Nat → Hp → Prop) (h0 : Pv 0 (upd H1 D (.lst []))) (hq : ∀ i H, Pv i H → SqK K k1 H a xs ∧ SqK K k2 H b ys)
    (hs : ∀ (i : Nat) (x y : V) (T : Addr) (H : Hp), xs[i]? = some x → ys[i]? = some y → Pv i H → H T = none → g (.ref T) (wipe σ vs) (upd H T (.tup [x, y])) fun σ2 H2 => wipe σ2 vs = wipe σ vs ∧ tt σ2 H2 fun b H3 =>
      if b = true then te σ2 H3 fun y H4 => ∃ acc, H4 D = some (.lst acc) ∧ acc.length < sizeLine ∧ Pv (i + 1) (upd H4 D (.lst (acc ++ [y]))) else Pv (i + 1) H3) (hd : ∀ H, Pv ys.length H → Qd H) :
    ∃ W : Nat → Nat → Hp → Prop, (∃ m, W 0 m (upd H1 D (.lst []))) ∧ ∀ i m H, W i m H →
      ((ItzM K k1 k2 a b).stop i H ∧ Qd H) ∨ ((ItzM K k1 k2 a b).go i H ∧ ∃ Nx : Hp → Prop, (∀ H', Nx H' → ∃ m', m' < m ∧ W (i + 1) m' H') ∧ ∀ x H', (ItzM K k1 k2 a b).yld i H x H' → g x (wipe σ vs) H' fun σ2 H2 => wipe σ2 vs = wipe σ vs ∧ tt σ2 H2 fun b H3 =>
        if b = true then te σ2 H3 fun y H4 => ∃ acc, H4 D = some (.lst acc) ∧ acc.length < sizeLine ∧ Nx (upd H4 D (.lst (acc ++ [y]))) else Nx H3) := by
  refine ⟨fun i m H => m = ys.length - i ∧ i ≤ ys.length ∧ Pv i H, ⟨_, rfl, Nat.zero_le _, h0⟩, ?_⟩
  rintro i m H ⟨rfl, hi, p⟩
  obtain ⟨qx, qy⟩ := hq i H p
  by_cases hlt : i < ys.length
  · refine .inr ⟨⟨xs, ys, _, _, qx, qy, List.getElem?_eq_getElem (Nat.lt_of_lt_of_le hlt hl), List.getElem?_eq_getElem hlt⟩, Pv (i + 1), fun H' p' => ⟨ys.length - (i + 1), by omega, rfl, hlt, p'⟩, ?_⟩
    rintro v H' ⟨T, x', y', rfl, hT, rfl, f1, f2⟩
    exact hs i x' y' T H (f1 xs qx) (f2 ys qy) p hT
  · have e : i = ys.length := by omega
    subst e
    exact .inl ⟨⟨xs, ys, qx, qy, .inr rfl, hl, Nat.le_refl _⟩, hd H p⟩
end Lw

/-! ### sorted of any number of tuples of whole numbers -/
namespace Lw
open PySem L2 PySem.Spec PyProof.Rows
theorem swo_code (B : Int) (k : Value → List Int) : SrtO.Swo fun v u => decide (TS.code B (k v) < TS.code B (k u)) :=
  ⟨fun x y h => decide_eq_false (by have := of_decide_eq_true h; omega), fun x y z h1 h2 => decide_eq_false (by have := of_decide_eq_false h1; have := of_decide_eq_false h2; omega)⟩
section
variable {prog : Program} {w : World} {A : Around} {E : Value → Shared → Prop} {s : Shared}
theorem tups_cmp {d : Nat} {B : Int} {vs : List Value} {k : Value → List Int} (hk : ∀ v ∈ vs, TS.TupInts s.heap v (k v) ∧ (k v).length = d ∧ TS.Bd B (k v)) :
    SrtO.Cmp prog w A s (tuples' true) (fun p => p.1 ∈ vs) (SrtO.lt2 fun v u => decide (TS.code B (k v) < TS.code B (k u))) := by
  intro p q hm hm'
  show wpAny (model prog w) A (keyLt' (tuples' true) p.1 q.1) (fun r s' => s' = s ∧ r = decide (TS.code B (k p.1) < TS.code B (k q.1))) (fun _ _ => False) s
  obtain ⟨tp, lp, bp⟩ := hk _ hm
  obtain ⟨tq, lq, bq⟩ := hk _ hm'
  generalize k p.1 = ns at *
  generalize k q.1 = ms at *
  obtain ⟨a, xs, e1, ⟨o, ho, hc, n, hdt⟩, i⟩ := tp
  obtain ⟨a', ys, e2, ⟨o', ho', hc', n', hdt'⟩, i'⟩ := tq
  rw [e1, e2]
  refine PySem.W.kat_lt ho hdt ho' hdt' ?_
  have sz : decide (xs.size < ys.size) = false := by
    have l1 := i.length
    have l2 := i'.length
    rw [Array.length_toList] at l1 l2
    exact decide_eq_false (by omega)
  rw [sz]
  exact TS.lex_ints 0 i i' (by omega) bp bq ⟨rfl, rfl⟩
theorem tups_sortable {a : Addr} {d : Nat} {B : Int} {vs : List Value} {k : Value → List Int} (hd : 1 ≤ d) (h0 : 0 < vs.length) (hk : ∀ v ∈ vs, TS.TupInts s.heap v (k v) ∧ (k v).length = d ∧ TS.Bd B (k v)) (ha : ∀ o, s.heap.get? a = some o → o.cls ≠ .type "tuple") :
    SrtO.SortableO prog w A s a vs fun v u => decide (TS.code B (k v) < TS.code B (k u)) := by
  intro h' keep
  have hk' : ∀ v ∈ vs, TS.TupInts h' v (k v) ∧ (k v).length = d ∧ TS.Bd B (k v) := fun v hm => ⟨(hk v hm).1.keeps fun b o e c => keep b o (fun z => by subst z; exact ha o e c) e, (hk v hm).2⟩
  obtain ⟨fs, h1, h2, h3⟩ := TS.firsts_of hd vs (fun v hv => ⟨_, hk' v hv⟩)
  refine ⟨tuples' true, fun Q E hq => ?_, tups_cmp hk'⟩
  refine PySem.W.kat_kind (T := .type "int") h1 (by omega) (fun f hm => ?_) (by rfl) ?_
  · obtain ⟨x, t, rfl⟩ := h3 f hm
    exact PySem.W.Looks.now
  · have e : (Value.type "int" != Value.type "tuple") = true := by first | decide +kernel | rfl | decide
    rw [e]
    exact hq
theorem sorted_tupsO {l : Addr} {vs : List Value} {d : Nat} {B : Int} {k : Value → List Int} {Q : Value → Shared → Prop} (hd : 2 ≤ vs.length → 1 ≤ d) (hl : s.heap.IsList l vs.toArray) (hz : vs.length ≤ sizeLine) (hk : ∀ v ∈ vs, TS.TupInts s.heap v (k v) ∧ (k v).length = d ∧ TS.Bd B (k v))
    (h : ∀ (h' : Heap) (d : Addr) (out : List Value), SrtO.Srtd (fun v u => decide (TS.code B (k v) < TS.code B (k u))) out → out.Perm vs → (∀ b o, s.heap.get? b = some o → h'.get? b = some o) → s.heap.objs.size ≤ d → (∃ n, h'.get? d = some (seqObj "list" out.toArray n)) → Q (.ref d) { s with heap := h' }) :
    wpAny (model prog w) A (call (.builtin "sorted") [.ref l]) Q E s := by
  refine SrtO.sorted_ord (swo_code B k) hl hz (fun h2 h₁ a ha kk => ?_) fun out hs hb => ?_
  · refine tups_sortable (s := { s with heap := h₁ }) (hd h2) (by omega) (fun v hm => ⟨(hk v hm).1.keeps fun b o e _ => (kk b o e).2, (hk v hm).2⟩) fun o e => ?_
    have e' : some o = some (seqObj "list" vs.toArray 0) := e.symm.trans ha
    cases e'
    intro c
    exact absurd (Value.type.inj c) (by decide)
  · exact h _ _ out hs hb.perm (fun b o e => PyProof.Rows.sortedAll_old e) (Nat.le_succ _) (PyProof.Rows.sortedAll_at s.heap vs out.toArray)
end
def rSortTL (K : PySem.W.Frag) (d : Nat) (B : Int) : List V → Hp → VK → Prop := fun vs H Q => ∃ (a : Addr) (xs : List V), vs = [V.ref a] ∧ SqL K H a xs ∧ (2 ≤ xs.length → 1 ≤ d) ∧ (∀ x ∈ xs, ∃ ns, TupI K H x ns ∧ ns.length = d ∧ TS.Bd B ns) ∧
  ∀ (ys : List V) (p : Addr), ys.Perm xs → ys.Pairwise (fun x y => ∀ n m, TupI K H x n → TupI K H y m → TS.code B n ≤ TS.code B m) → H p = none → Q (.ref p) (upd H p (.lst ys))
section
variable {X : Cx}
theorem cr_sortTL {d : Nat} {B : Int} : CallR X (.builtin "sorted") (rSortTL X.K d B) := by
  intro pins s σ H vs us Q I r h
  obtain ⟨a, xs, rfl, hs, hd, hx, q⟩ := h
  obtain ⟨its, rv, hl, hz⟩ := I.list hs
  rw [Vals.ref1 r]
  obtain ⟨e1, e2⟩ := bkV_refs rv fun x m => by
    obtain ⟨ns, ⟨t, e, _⟩, _⟩ := hx x m
    exact ⟨t, e⟩
  refine sorted_tupsO (d := d) (B := B) (k := TS.intsOf s.heap) (by rw [← rv.length]; exact hd) hl.isList (by rw [← rv.length]; exact hz) (fun v hv => ?_) fun h' D out h1 hp1 kp hD hn => ?_
  · obtain ⟨t, rfl⟩ := e2 v hv
    have hm : V.ref t ∈ xs := by
      rw [e1]
      exact List.mem_map.mpr ⟨_, hv, rfl⟩
    obtain ⟨ns, ⟨t', e, ht⟩, hn, hb⟩ := hx _ hm
    cases e
    have tr := tupI_raw I ht
    rw [tr.ints]
    exact ⟨tr, hn, hb⟩
  · have h3 : ∀ u ∈ out, ∃ a, u = Value.ref a := fun u hu => e2 u (hp1.mem_iff.mp hu)
    have hp : (out.map bkV).Perm xs := by
      rw [e1]
      exact hp1.map bkV
    have hlen : (out.map bkV).length ≤ sizeLine := by
      rw [hp.length_eq]
      exact hz
    obtain ⟨n, hn⟩ := hn
    refine ⟨.ref D, upd H D (.lst (out.map bkV)), I.laid (t' := s.toks) kp hD ⟨hlen, out, n, bkV_vals h3, hn⟩, rfl, q _ _ hp ?_ (I.hok.fresh hD)⟩
    rw [List.pairwise_map]
    refine List.Pairwise.imp (fun {u v} huv n m hn hm => ?_) h1
    obtain ⟨t, et, ht⟩ := hn
    obtain ⟨t', et', ht'⟩ := hm
    have eu := bkV_ref et
    have ev := bkV_ref et'
    have i1 : TS.intsOf s.heap u = n := by
      rw [eu]
      exact (tupI_raw I ht).ints
    have i2 : TS.intsOf s.heap v = m := by
      rw [ev]
      exact (tupI_raw I ht').ints
    rw [← i1, ← i2]
    have := of_decide_eq_false huv
    omega
end
end Lw

namespace Lw
open PySem L2 PySem.Spec PyProof.Rows
/-- (v,) * k, where the tuple is one's own -/
def rRep1T (K : PySem.W.Frag) : R2 := fun x y H Q => ∃ l k v, x = .ref l ∧ y = .int k ∧ H l = some (.tup [v]) ∧ 0 ≤ k ∧ k ≤ 1000 ∧ ∀ t H', Same H H' → H' t = some (.tup (List.replicate k.toNat v)) → Q (.ref t) H'
section
variable {X : Cx}
theorem op_rep1T : OpR X (binaryOp .Mult) (rRep1T X.K) := by
  intro pins s σ H x y v u Q I rx ry h
  obtain ⟨l, k, z, rfl, rfl, hl, h0, h1, q⟩ := id h
  have hT : SqT X.K H l [z] := .inl (.inl hl)
  by_cases h2 : 2 ≤ k
  · refine op_repT pins s σ H _ _ v u Q I rx ry ⟨l, k, [z], rfl, rfl, hT, by simp, h2, h1, by simp, fun p hp => q p _ (same_new hp) ?_⟩
    rw [upd_same]
    congr 2
    induction k.toNat with
    | zero => rfl
    | succ m ih => rw [List.replicate_succ, List.flatten_cons, ih, List.replicate_succ]; rfl
  · cases rx
    obtain ⟨t, rfl⟩ := ry
    obtain ⟨its, r, ⟨⟨cls, dd, data, sl⟩, ho, hc, n, hd⟩, hs⟩ := I.tuple hT
    simp only at hc hd
    subst hc hd
    have hn : its.toArray.isEmpty = false := by
      cases r with
      | cons _ _ => rfl
    rcases (by omega : k = 0 ∨ k = 1) with rfl | rfl
    · refine wpAny_binaryOp_repeat_ref (T := "tuple") (U := "int") (by decide) ⟨_, ho, rfl⟩ (fun s' => typeIs_int s' 0 t) noFill_tuple_mul F.fills_int_mul F.slot_int_rmul repeat_tuple F.slot_int_index.lookup
        (call_meets F.slot_int_rmul (typeIs_int s 0 t) F.entry_int_rmul (F.args_int_rmul_2 _ _) (int_rmul_tuple 0 t l its.toArray n dd sl)
          ⟨ho, rfl, ⟨_, ho, rfl⟩, call_meets F.slot_tuple_mul ⟨_, ho, rfl⟩ F.entry_tuple_mul (F.args_tuple_mul_2 _ _) (tm_none l its.toArray n dd sl t hn) ⟨ho, ?_⟩⟩)
      have hf := I.hok.fresh (Nat.le_refl s.heap.objs.size)
      refine ⟨.ref s.heap.objs.size, upd H s.heap.objs.size (.tup []), I.laid (t' := s.toks) (o := .tup []) (fun b ob q => Heap.get?_push_of_some _ q) (Nat.le_refl _) ?_, rfl, q _ _ (same_new hf) upd_same⟩
      exact ⟨Nat.zero_le _, [], .nil, IsTup.new _ _⟩
    · refine wpAny_binaryOp_repeat_ref (T := "tuple") (U := "int") (by decide) ⟨_, ho, rfl⟩ (fun s' => typeIs_int s' 1 t) noFill_tuple_mul F.fills_int_mul F.slot_int_rmul repeat_tuple F.slot_int_index.lookup
        (call_meets F.slot_int_rmul (typeIs_int s 1 t) F.entry_int_rmul (F.args_int_rmul_2 _ _) (int_rmul_tuple 1 t l its.toArray n dd sl)
          ⟨ho, rfl, ⟨_, ho, rfl⟩, call_meets F.slot_tuple_mul ⟨_, ho, rfl⟩ F.entry_tuple_mul (F.args_tuple_mul_2 _ _) (tm_once l its.toArray n dd sl t) ⟨ho, fun k => ?_⟩⟩)
      exact ⟨.ref l, H, I.tok k, rfl, q _ _ (Same.refl _) hl⟩
end
/-! ### a dict that holds True at rows -/
def tbD (M : List (List Int)) : List (List Key × V) := M.map fun r => (r.map Sum.inl, V.bl true)
def insD (M : List (List Int)) (r : List Int) : List (List Int) := if r ∈ M then M else M ++ [r]
theorem inl_inj : ∀ {r s : List Int}, (r.map Sum.inl : List Key) = s.map Sum.inl → r = s
  | [], [], _ => rfl
  | [], _ :: _, h => by simp at h
  | _ :: _, [], h => by simp at h
  | a :: r, b :: s, h => by
    rw [List.map_cons, List.map_cons] at h
    obtain ⟨h1, h2⟩ := List.cons.inj h
    rw [Sum.inl.inj h1, inl_inj h2]
theorem put_tb (M : List (List Int)) (r : List Int) : putK (tbD M) (r.map Sum.inl) (V.bl true) = tbD (insD M r) := by
  have ha : ((tbD M).any fun kv => decide (kv.1 = (r.map Sum.inl : List Key))) = decide (r ∈ M) := by
    induction M with
    | nil => rfl
    | cons a M ih =>
      show (decide ((a.map Sum.inl : List Key) = r.map Sum.inl) || _) = _
      rw [show (List.any (List.map (fun r => (r.map Sum.inl, V.bl true)) M) fun kv => decide (kv.1 = (r.map Sum.inl : List Key))) = decide (r ∈ M) from ih]
      by_cases e : a = r
      · subst e
        simp
      · rw [decide_eq_false (fun z => e (inl_inj z)), Bool.false_or]
        simp [Ne.symm e]
  unfold putK
  rw [ha]
  unfold insD
  by_cases h : r ∈ M
  · rw [if_pos (decide_eq_true h), if_pos h]
    unfold tbD
    rw [List.map_map]
    refine List.map_congr_left fun a _ => ?_
    show (if (a.map Sum.inl : List Key) = r.map Sum.inl then _ else _) = _
    split <;> rfl
  · rw [if_neg (by simpa using h), if_neg h]
    simp [tbD]
theorem ins_mem {M : List (List Int)} {r x : List Int} : x ∈ insD M r ↔ x ∈ M ∨ x = r := by
  unfold insD
  by_cases h : r ∈ M
  · rw [if_pos h]
    constructor
    · exact .inl
    · rintro (q | rfl)
      · exact q
      · exact h
  · rw [if_neg h, List.mem_append, List.mem_singleton]
theorem ins_nodup {M : List (List Int)} {r : List Int} (h : M.Nodup) : (insD M r).Nodup := by
  unfold insD
  by_cases q : r ∈ M
  · rw [if_pos q]
    exact h
  · rw [if_neg q, List.nodup_append]
    refine ⟨h, by simp, fun a ha b hb e => ?_⟩
    rw [List.mem_singleton] at hb
    exact q (hb ▸ e ▸ ha)
theorem ins_len {M : List (List Int)} {r : List Int} : (insD M r).length ≤ M.length + 1 := by
  unfold insD
  split
  · omega
  · rw [List.length_append, List.length_singleton]
    omega
theorem tb_len {M : List (List Int)} : (tbD M).length = M.length := by simp [tbD]
theorem kv_ints : ∀ r : List Int, (r.map Sum.inl : List Key).map kV = r.map V.int
  | [] => rfl
  | a :: r => by
    rw [List.map_cons, List.map_cons, List.map_cons, kv_ints r]
    rfl
theorem keys_rows {K : PySem.W.Frag} {H : Hp} : ∀ {M : List (List Int)} {bs : List Addr}, IsKeys H (tbD M) bs → Rows K H (bs.map V.ref) M
  | [], [], _ => .nil
  | [], _ :: _, h => by cases h
  | _ :: _, [], h => by cases h
  | a :: M, b :: bs, h => by
    cases h with
    | cons h1 h2 =>
      refine .cons (.inl (.inl ?_)) (keys_rows h2)
      have : H b = some (.tup ((a.map Sum.inl : List Key).map kV)) := h1
      rwa [kv_ints] at this
end Lw

/-! ### orders: sorting steps, inversions -/
namespace Lw
/-- the places at which a lesser number follows -/
def stpsN (o : List Int) : List Nat := (List.range (o.length - 1)).filter fun j => decide (o.getD (j + 1) 0 < o.getD j 0)
def stps (o : List Int) : List Int := (stpsN o).map fun (j : Nat) => (1 + j : Int)
/-- the two members at j and j + 1 exchanged -/
def stpN (o : List Int) (j : Nat) : List Int := o.take j ++ [o.getD (j + 1) 0, o.getD j 0] ++ o.drop (j + 2)
def stp (o : List Int) (i : Int) : List Int := stpN o (i.toNat - 1)
def inv : List Int → Nat
  | [] => 0
  | x :: xs => xs.countP (fun y => decide (y < x)) + inv xs
theorem mem_stpsN {o : List Int} {j : Nat} : j ∈ stpsN o ↔ j + 1 < o.length ∧ o.getD (j + 1) 0 < o.getD j 0 := by
  unfold stpsN
  rw [List.mem_filter, List.mem_range, decide_eq_true_eq]
  omega
theorem mem_stps {o : List Int} {i : Int} : i ∈ stps o ↔ ∃ j : Nat, i = 1 + j ∧ j + 1 < o.length ∧ o.getD (j + 1) 0 < o.getD j 0 := by
  unfold stps
  rw [List.mem_map]
  constructor
  · rintro ⟨j, h, rfl⟩
    exact ⟨j, rfl, mem_stpsN.mp h⟩
  · rintro ⟨j, rfl, h⟩
    exact ⟨j, mem_stpsN.mpr h, rfl⟩
theorem stp_one {o : List Int} {j : Nat} : stp o (1 + j) = stpN o j := by
  unfold stp
  rw [show ((1 : Int) + j).toNat - 1 = j from by omega]
theorem stps_lo {o : List Int} {i : Int} (h : i ∈ stps o) : 1 ≤ i ∧ i < o.length := by
  obtain ⟨j, rfl, h1, _⟩ := mem_stps.mp h
  omega
theorem stps_len (o : List Int) : (stps o).length ≤ o.length := by
  unfold stps stpsN
  rw [List.length_map]
  refine Nat.le_trans (List.length_filter_le _ _) ?_
  rw [List.length_range]
  omega
theorem stpN_len {o : List Int} {j : Nat} (h : j + 1 < o.length) : (stpN o j).length = o.length := by
  unfold stpN
  rw [List.length_append, List.length_append, List.length_take, List.length_drop]
  simp only [List.length_cons, List.length_nil]
  omega
theorem stp_len {o : List Int} {i : Int} (h : i ∈ stps o) : (stp o i).length = o.length := by
  obtain ⟨j, rfl, h1, _⟩ := mem_stps.mp h
  rw [stp_one, stpN_len h1]
theorem split_at {o : List Int} {j : Nat} (h : j + 1 < o.length) : o = o.take j ++ o.getD j 0 :: o.getD (j + 1) 0 :: o.drop (j + 2) := by
  conv => lhs; rw [← List.take_append_drop j o]
  rw [List.drop_eq_getElem_cons (by omega : j < o.length), List.drop_eq_getElem_cons (by omega : j + 1 < o.length)]
  rw [List.getD_eq_getElem?_getD, List.getD_eq_getElem?_getD, List.getElem?_eq_getElem (by omega : j < o.length), List.getElem?_eq_getElem (by omega : j + 1 < o.length)]
  rfl
theorem inv_app {l l' : List Int} (p : l.Perm l') : ∀ a : List Int, inv (a ++ l) + inv l' = inv (a ++ l') + inv l
  | [] => by rw [List.nil_append, List.nil_append, Nat.add_comm]
  | x :: a => by
    have ih := inv_app p a
    have e : (a ++ l).countP (fun y => decide (y < x)) = (a ++ l').countP (fun y => decide (y < x)) := by
      rw [List.countP_append, List.countP_append, p.countP_eq]
    show (a ++ l).countP _ + inv (a ++ l) + inv l' = (a ++ l').countP _ + inv (a ++ l') + inv l
    rw [e]
    omega
theorem inv_two (x y : Int) (h : y < x) (b : List Int) : inv (x :: y :: b) = inv (y :: x :: b) + 1 := by
  have e1 : decide (y < x) = true := decide_eq_true h
  have e2 : decide (x < y) = false := decide_eq_false (by omega)
  show (y :: b).countP _ + (b.countP _ + inv b) = (x :: b).countP _ + (b.countP _ + inv b) + 1
  rw [List.countP_cons, List.countP_cons]
  simp only [e1, e2, if_true, if_false, Bool.false_eq_true]
  omega
theorem inv_stp {o : List Int} {i : Int} (h : i ∈ stps o) : inv o = inv (stp o i) + 1 := by
  obtain ⟨j, rfl, h1, h2⟩ := mem_stps.mp h
  rw [stp_one]
  have e := split_at h1
  have p : (o.getD j 0 :: o.getD (j + 1) 0 :: o.drop (j + 2)).Perm (o.getD (j + 1) 0 :: o.getD j 0 :: o.drop (j + 2)) := List.Perm.swap _ _ _
  have q := inv_app p (o.take j)
  have t := inv_two _ _ h2 (o.drop (j + 2))
  have e2 : stpN o j = o.take j ++ o.getD (j + 1) 0 :: o.getD j 0 :: o.drop (j + 2) := by
    unfold stpN
    rw [List.append_assoc]
    rfl
  rw [e2]
  conv => lhs; rw [e]
  omega
theorem inv_le : ∀ o : List Int, inv o ≤ o.length * o.length
  | [] => Nat.zero_le _
  | x :: xs => by
    have := inv_le xs
    have h : xs.countP (fun y => decide (y < x)) ≤ xs.length := List.countP_le_length
    show _ + inv xs ≤ (xs.length + 1) * (xs.length + 1)
    rw [Nat.succ_mul, Nat.mul_succ]
    omega
theorem inv_none {o : List Int} (h : inv o = 0) : stps o = [] := by
  cases e : stps o with
  | nil => rfl
  | cons i t =>
    have := inv_stp (o := o) (i := i) (by rw [e]; simp)
    omega
theorem stpN_mem {o : List Int} {j : Nat} {x : Int} (h1 : j + 1 < o.length) (h : x ∈ stpN o j) : x ∈ o := by
  rw [split_at h1]
  unfold stpN at h
  simp only [List.mem_append, List.mem_cons, List.not_mem_nil, or_false] at h ⊢
  rcases h with (h | h | h) | h
  · exact .inl h
  · exact .inr (.inr (.inl h))
  · exact .inr (.inl h)
  · exact .inr (.inr (.inr h))
/-- the level row with the least step at each turn -/
def fstR : Nat → List Int → List Int
  | 0, _ => []
  | n + 1, o => match stps o with
    | [] => []
    | i :: _ => i :: fstR n (stp o i)
theorem fstR_none {o : List Int} (h : stps o = []) : ∀ n, fstR n o = []
  | 0 => rfl
  | n + 1 => by simp [fstR, h]
theorem fstR_step {o : List Int} {i : Int} {t : List Int} (h : stps o = i :: t) : fstR (inv o) o = i :: fstR (inv (stp o i)) (stp o i) := by
  rw [inv_stp (o := o) (i := i) (by rw [h]; simp)]
  simp [fstR, h]
theorem fstR_len : ∀ (n : Nat) (o : List Int), (fstR n o).length ≤ n
  | 0, _ => Nat.zero_le _
  | n + 1, o => by
    unfold fstR
    split
    · exact Nat.zero_le _
    · next i t e =>
      have := fstR_len n (stp o i)
      rw [List.length_cons]
      omega
theorem fstR_mem : ∀ (n : Nat) (o : List Int) (x : Int), x ∈ fstR n o → 1 ≤ x ∧ x < o.length
  | 0, _, _, h => by simp [fstR] at h
  | n + 1, o, x, h => by
    unfold fstR at h
    split at h
    · simp at h
    · next i t e =>
      have hi : i ∈ stps o := by rw [e]; simp
      rcases List.mem_cons.mp h with rfl | h
      · exact stps_lo hi
      · have := fstR_mem n _ x h
        rwa [stp_len hi] at this
end Lw

/-! ### lists with one odd value amid; a statement that is not reached; isinstance of two types -/
namespace Lw
open PySem L2 PySem.Spec PyProof.Rows
section
variable {X : Cx}
/-- a statement that nothing comes to -/
theorem ps_dead {st : Stmt} : PS X st (fun _ _ _ => False) := ⟨fun _ _ _ _ _ _ h => h.elim⟩
/-- repr of a list of whole numbers with one value amid, a dict too -/
def rReprM (K : PySem.W.Frag) : List V → Hp → VK → Prop := fun xs H Q => ∃ (a : Addr) (pre post : List Int) (x : V) (d : PyData), xs = [.ref a] ∧ SqL K H a (pre.map V.int ++ x :: post.map V.int) ∧ Lf K H x d ∧
  (PyData.list (pre.map PyData.int ++ d :: post.map PyData.int)).showable = true ∧ (PyData.list (pre.map PyData.int ++ d :: post.map PyData.int)).depth ≤ 64 ∧ (PyData.list (pre.map PyData.int ++ d :: post.map PyData.int)).shown.length ≤ sizeLine ∧
  Q (.str (PyData.list (pre.map PyData.int ++ d :: post.map PyData.int)).shown) H
theorem call_reprM (hG : X.A.guards = some []) (hu : X.A.units + 66 < cLine) : CallR X (.builtin "repr") (rReprM X.K) := by
  intro pins s σ H xs us Q I r h
  obtain ⟨a, pre, post, x, d, rfl, hS, hx, hs, hp, hz, q⟩ := h
  obtain ⟨u, rfl, ru⟩ := vals1 r
  cases (show u = Value.ref a from ru)
  obtain ⟨its, rv, ⟨o, n, h1, h2, h0, h3⟩, _⟩ := I.list hS
  have key : ∃ as, ReadsAll s.heap its (pre.map PyData.int ++ d :: post.map PyData.int) as ∧ (d.hasDict = true → sysModules ∉ as) := by
    cases hx with
    | dp h n =>
      obtain ⟨as, q⟩ := Dp.readsAll I (pre.map PyData.int ++ d :: post.map PyData.int) _ its (dp_mix h post pre) rv
      exact ⟨as, q, fun z => by rw [n] at z; cases z⟩
    | @dct b kvs _ h k =>
      obtain ⟨as, q, n⟩ := dct_reads I h k
      exact ⟨as, mix_reads (fun u ru => by cases (show u = Value.ref b from ru); exact q) rv, fun _ => n⟩
  obtain ⟨as, h4, hsm⟩ := key
  have hdi : PyData.hasDictAll (pre.map PyData.int ++ d :: post.map PyData.int) = d.hasDict := by
    have := hd_mix d post pre
    simpa only [PyData.hasDict] using this
  generalize pre.map PyData.int ++ d :: post.map PyData.int = xs at *
  have hz' : (listText (PyData.shownAll xs)).length ≤ sizeLine := by simpa only [PyData.shown] using hz
  obtain ⟨bs, hb, hk⟩ := ReprAllK.of_readsAll (prog := X.prog) (w := X.w) h4 (by simpa [PyData.showable] using hs) (fun hx => hsm (hdi ▸ hx)) (fun t ht => Nat.le_trans (listText_mem_le ht) hz')
  have hl : Reads s.heap (.ref a) (.list xs) (a :: as) := .list h1 h2 h3 (by simpa using h4)
  have hna : a ∉ bs := not_mem_of_deeper hl (by simp only [PyData.depth]; omega) hb
  simp only [PyData.depth] at hp
  refine call_repr_slot (T := "list") (idr := "list.__repr__") (by omega) ⟨o, h1, h2⟩ F.slot_list_repr.toG ?_
  cases its with
  | nil =>
    have h4' : ReadsAll s.heap [] xs _ := h4
    cases h4'
    simp only [PyData.shown, PyData.shownAll, listText_nil] at q
    exact call_list_repr_empty ⟨o, h1, h2⟩ h1 h3 ⟨_, _, rfl, .str _, H, I.tok _, ⟨_, rfl⟩, q⟩
  | cons y l =>
    simp only [PyData.shown] at q
    exact call_list_reprK h1 h2 h3 hna (by simpa using hk.length_eq) (fun i y e => hk.item i y (by simpa using e)) hG (fun b _ => Clear.nil b) (by show X.A.units + 1 + _ < cLine; omega) (fun _ _ z => z) (fun h' u tk hk' => ⟨_, _, rfl, .str _, H, I.kept (t' := tk) hk', ⟨_, rfl⟩, q⟩) hz'
/-- repr of such a list, or of other data -/
def rReprE (K : PySem.W.Frag) : List V → Hp → VK → Prop := fun xs H Q => rReprM K xs H Q ∨ rReprD K xs H Q
theorem call_reprE (hG : X.A.guards = some []) (hu : X.A.units + 66 < cLine) : CallR X (.builtin "repr") (rReprE X.K) := by
  intro pins s σ H xs us Q I r h
  rcases h with h | h
  · exact call_reprM hG hu pins s σ H xs us Q I r h
  · exact call_reprD hG hu pins s σ H xs us Q I r h
end
end Lw

/-! ### counting orders by inversions; sums of powers; means -/
namespace Lw
def stc (p : Int) : Nat → Int
  | 0 => 0
  | m + 1 => stc p m + p ^ m
def stW (p : Int) : Nat → Int
  | 0 => 0
  | m + 1 => stW p m + (m : Int) * p ^ m
def prodS (p : Int) : Nat → Int
  | 0 => 1
  | m + 1 => prodS p m * stc p (m + 1)
/-- a sum over 0 to M - 1 -/
def sg (M : Nat) (f : Nat → Int) : Int := ((List.range M).map f).sum
theorem sg_zero (f : Nat → Int) : sg 0 f = 0 := rfl
theorem sg_succ (M : Nat) (f : Nat → Int) : sg (M + 1) f = sg M f + f M := by
  unfold sg
  rw [List.range_succ, List.map_append, List.sum_append]
  simp
theorem sg_front (M : Nat) (f : Nat → Int) : sg (M + 1) f = f 0 + sg M (fun j => f (j + 1)) := by
  induction M with
  | zero => rw [sg_succ, sg_zero, sg_zero]; omega
  | succ M ih => rw [sg_succ, ih, sg_succ M (fun j => f (j + 1))]; omega
theorem sg_cong {M : Nat} {f g : Nat → Int} (h : ∀ j, j < M → f j = g j) : sg M f = sg M g := by
  induction M with
  | zero => rfl
  | succ M ih => rw [sg_succ, sg_succ, ih fun j hj => h j (by omega), h M (by omega)]
theorem sg_add (M : Nat) (f g : Nat → Int) : sg M (fun j => f j + g j) = sg M f + sg M g := by
  induction M with
  | zero => rfl
  | succ M ih => rw [sg_succ, sg_succ, sg_succ, ih]; omega
theorem sg_mul (c : Int) (M : Nat) (f : Nat → Int) : sg M (fun j => c * f j) = c * sg M f := by
  induction M with
  | zero => rw [sg_zero, sg_zero, Int.mul_zero]
  | succ M ih => rw [sg_succ, sg_succ, ih, Int.mul_add]
theorem sg_zeros (M : Nat) {f : Nat → Int} (h : ∀ j, j < M → f j = 0) : sg M f = 0 := by
  induction M with
  | zero => rfl
  | succ M ih => rw [sg_succ, ih fun j hj => h j (by omega), h M (by omega)]; rfl
theorem sg_supp {L M : Nat} {f : Nat → Int} (h : ∀ j, L ≤ j → f j = 0) (hM : L ≤ M) : sg M f = sg L f := by
  obtain ⟨d, rfl⟩ : ∃ d, M = L + d := ⟨M - L, by omega⟩
  clear hM
  induction d with
  | zero => rfl
  | succ d ih => rw [show L + (d + 1) = (L + d) + 1 by omega, sg_succ, ih, h (L + d) (by omega), Int.add_zero]
/-- what is shifted by n -/
theorem sg_shift (n : Nat) (f : Nat → Int) : ∀ M, n ≤ M → sg M (fun k => if n ≤ k then f (k - n) else 0) = sg (M - n) f
  | 0, h => by
    have : n = 0 := by omega
    subst this
    rfl
  | M + 1, h => by
    rw [sg_succ]
    by_cases hn : n ≤ M
    · rw [sg_shift n f M hn, if_pos hn, show M + 1 - n = (M - n) + 1 by omega, sg_succ]
    · have : n = M + 1 := by omega
      subst this
      rw [if_neg (by omega), Nat.sub_self, sg_zero, sg_zeros M fun j hj => if_neg (by omega)]
      rfl
/-- how many with k, if one of 0 to n - 1 is added -/
def cvl (a : Nat → Int) (n k : Nat) : Int := sg n fun r => if r ≤ k then a (k - r) else 0
theorem cvl_succ (a : Nat → Int) (n k : Nat) : cvl a (n + 1) k = cvl a n k + (if n ≤ k then a (k - n) else 0) := sg_succ n _
theorem cvl_slice (a : Nat → Int) (k : Nat) : ∀ n, cvl a n k = sg (k + 1 - (k + 1 - n)) fun t => a (k + 1 - n + t)
  | 0 => by
    rw [show k + 1 - (k + 1 - 0) = 0 by omega]
    rfl
  | n + 1 => by
    rw [cvl_succ, cvl_slice a k n]
    by_cases h : n ≤ k
    · rw [if_pos h, show k + 1 - (k + 1 - (n + 1)) = (k + 1 - (k + 1 - n)) + 1 by omega, sg_front, Nat.add_zero, show k + 1 - (n + 1) = k - n by omega, Int.add_comm]
      congr 1
      refine sg_cong fun j _ => ?_
      congr 1
      omega
    · rw [if_neg h, Int.add_zero, show k + 1 - (n + 1) = 0 by omega, show k + 1 - n = 0 by omega]
theorem eval_cvl {p : Int} {a : Nat → Int} {L : Nat} (ha : ∀ j, L ≤ j → a j = 0) : ∀ (n M : Nat), L + n ≤ M + 1 → sg M (fun k => cvl a n k * p ^ k) = stc p n * sg L (fun j => a j * p ^ j)
  | 0, M, _ => by
    rw [sg_zeros M fun j _ => by show sg 0 _ * _ = 0; rw [sg_zero, Int.zero_mul]]
    show (0 : Int) = 0 * _
    rw [Int.zero_mul]
  | n + 1, M, h => by
    have ih := eval_cvl (p := p) ha n M (by omega)
    have e : sg M (fun k => if n ≤ k then (a (k - n) * p ^ (k - n)) * p ^ n else 0) = sg (M - n) (fun j => (a j * p ^ j) * p ^ n) := sg_shift n (fun j => (a j * p ^ j) * p ^ n) M (by omega)
    have e2 : sg (M - n) (fun j => (a j * p ^ j) * p ^ n) = p ^ n * sg L (fun j => a j * p ^ j) := by
      rw [sg_cong (g := fun j => p ^ n * (a j * p ^ j)) fun j _ => Int.mul_comm _ _, sg_mul]
      congr 1
      exact sg_supp (fun j hj => by rw [ha j hj, Int.zero_mul]) (by omega)
    rw [sg_cong (g := fun k => cvl a n k * p ^ k + (if n ≤ k then (a (k - n) * p ^ (k - n)) * p ^ n else 0)) fun k _ => ?_, sg_add, ih, e, e2]
    · show _ = (stc p n + p ^ n) * _
      rw [Int.add_mul]
    · rw [cvl_succ, Int.add_mul]
      congr 1
      split
      · next hk =>
        rw [Int.mul_assoc, ← Int.pow_add, show k - n + n = k by omega]
      · rw [Int.zero_mul]
theorem mean_cvl {p : Int} {a : Nat → Int} {L : Nat} (ha : ∀ j, L ≤ j → a j = 0) : ∀ (n M : Nat), L + n ≤ M + 1 →
    sg M (fun k => (k : Int) * (cvl a n k * p ^ k)) = stc p n * sg L (fun j => (j : Int) * (a j * p ^ j)) + stW p n * sg L (fun j => a j * p ^ j)
  | 0, M, _ => by
    rw [sg_zeros M fun j _ => by show _ * (sg 0 _ * _) = 0; rw [sg_zero, Int.zero_mul, Int.mul_zero]]
    show (0 : Int) = 0 * _ + 0 * _
    rw [Int.zero_mul, Int.zero_mul]
    rfl
  | n + 1, M, h => by
    have ih := mean_cvl (p := p) ha n M (by omega)
    have e : sg M (fun k => if n ≤ k then (fun j : Nat => p ^ n * ((j : Int) * (a j * p ^ j)) + ((n : Int) * p ^ n) * (a j * p ^ j)) (k - n) else 0) = sg (M - n) (fun j => p ^ n * ((j : Int) * (a j * p ^ j)) + ((n : Int) * p ^ n) * (a j * p ^ j)) := sg_shift n (fun j : Nat => p ^ n * ((j : Int) * (a j * p ^ j)) + ((n : Int) * p ^ n) * (a j * p ^ j)) M (by omega)
    have e2 : sg (M - n) (fun j => p ^ n * ((j : Int) * (a j * p ^ j)) + ((n : Int) * p ^ n) * (a j * p ^ j)) = p ^ n * sg L (fun j => (j : Int) * (a j * p ^ j)) + ((n : Int) * p ^ n) * sg L (fun j => a j * p ^ j) := by
      rw [sg_add, sg_mul, sg_mul]
      congr 2
      · exact sg_supp (fun j hj => by rw [ha j hj, Int.zero_mul, Int.mul_zero]) (by omega)
      · exact sg_supp (fun j hj => by rw [ha j hj, Int.zero_mul]) (by omega)
    rw [sg_cong (g := fun k => (k : Int) * (cvl a n k * p ^ k) + (if n ≤ k then (fun j : Nat => p ^ n * ((j : Int) * (a j * p ^ j)) + ((n : Int) * p ^ n) * (a j * p ^ j)) (k - n) else 0)) fun k _ => ?_, sg_add, ih, e, e2]
    · show _ = (stc p n + p ^ n) * _ + (stW p n + (n : Int) * p ^ n) * _
      rw [Int.add_mul, Int.add_mul]
      omega
    · rw [cvl_succ, Int.add_mul, Int.mul_add]
      congr 1
      split
      · next hk =>
        dsimp only
        obtain ⟨j, rfl⟩ : ∃ j, k = j + n := ⟨k - n, by omega⟩
        rw [Nat.add_sub_cancel, Int.pow_add, Int.natCast_add, Int.add_mul]
        generalize a j = x
        generalize p ^ j = y
        generalize p ^ n = z
        congr 1
        · rw [Int.mul_comm z, Int.mul_assoc, Int.mul_assoc]
        · rw [Int.mul_assoc (n : Int) z, Int.mul_comm z, Int.mul_assoc x]
      · rw [Int.zero_mul, Int.mul_zero]
/-- how many orders of n have 0, 1, .. inversions -/
def moreF (c : List Int) (n : Nat) : List Int := (List.range (c.length + n - 1)).map fun k => cvl (fun j => c.getD j 0) n k
def invC : Nat → List Int
  | 0 => [1]
  | n + 1 => moreF (invC n) (n + 1)
theorem moreF_len (c : List Int) (n : Nat) : (moreF c n).length = c.length + n - 1 := by
  unfold moreF
  rw [List.length_map, List.length_range]
theorem moreF_at {c : List Int} {n k : Nat} (h : k < c.length + n - 1) : (moreF c n).getD k 0 = cvl (fun j => c.getD j 0) n k := by
  unfold moreF
  rw [List.getD_eq_getElem?_getD, List.getElem?_map, List.getElem?_range h]
  rfl
theorem getD_out (c : List Int) (j : Nat) (h : c.length ≤ j) : c.getD j 0 = 0 := by
  rw [List.getD_eq_getElem?_getD, List.getElem?_eq_none h]
  rfl
/-- the sum, and the weighed sum, of the numbers times powers -/
def evE (p : Int) (c : List Int) : Int := sg c.length fun j => c.getD j 0 * p ^ j
def evD (p : Int) (c : List Int) : Int := sg c.length fun j => (j : Int) * (c.getD j 0 * p ^ j)
theorem evE_more (p : Int) (c : List Int) {n : Nat} (h : 1 ≤ n) : evE p (moreF c n) = stc p n * evE p c := by
  unfold evE
  rw [moreF_len, sg_cong fun k hk => by rw [moreF_at hk]]
  exact eval_cvl (getD_out c) n _ (by omega)
theorem evD_more (p : Int) (c : List Int) {n : Nat} (h : 1 ≤ n) : evD p (moreF c n) = stc p n * evD p c + stW p n * evE p c := by
  unfold evD evE
  rw [moreF_len, sg_cong fun k hk => by rw [moreF_at hk]]
  exact mean_cvl (getD_out c) n _ (by omega)
theorem evE_inv (p : Int) : ∀ n, evE p (invC n) = prodS p n
  | 0 => by
    show sg 1 (fun j => ([1] : List Int).getD j 0 * p ^ j) = 1
    rw [sg_succ, sg_zero]
    simp
  | n + 1 => by
    show evE p (moreF (invC n) (n + 1)) = prodS p n * stc p (n + 1)
    rw [evE_more p _ (by omega), evE_inv p n, Int.mul_comm]
/-- the sum of a slice -/
theorem slice_sum (c : List Int) (lo : Nat) : ∀ m, ((c.drop lo).take m).sum = sg m fun t => c.getD (lo + t) 0
  | 0 => by simp [sg_zero]
  | m + 1 => by
    rw [List.take_add_one, List.sum_append, slice_sum c lo m, sg_succ]
    congr 1
    rw [List.getElem?_drop, List.getD_eq_getElem?_getD]
    cases c[lo + m]? <;> simp
theorem cvl_of_slice (c : List Int) (n k : Nat) : ((c.drop (k + 1 - n)).take (k + 1 - (k + 1 - n))).sum = cvl (fun j => c.getD j 0) n k := by
  rw [slice_sum, cvl_slice]
end Lw

namespace Lw
open PySem L2
def topS (i : Nat) : Stmt := PySem.Challenge.pw_codenests_k56_nests_so_many_deeds_away.main.body.getD i (.Pass ⟨0, 0, 0, 0⟩)
abbrev s_wall : Stmt := topS 1
abbrev s_BadGround_init : Stmt := inClass (topS 4) 0
abbrev s_is_number : Stmt := topS 6
abbrev s_power : Stmt := topS 8
abbrev s_step_count : Stmt := topS 10
abbrev s_step_product : Stmt := topS 11
abbrev s_count_nests : Stmt := topS 12
abbrev s_inversion_counts : Stmt := topS 13
abbrev s_orders_with : Stmt := topS 14
abbrev s_count_away : Stmt := topS 15
abbrev s_lowest : Stmt := topS 16
abbrev s_mean_away : Stmt := topS 17
abbrev s_is_prime : Stmt := topS 19
abbrev s_Ground_init : Stmt := inClass (topS 20) 0
abbrev s_Ground_p : Stmt := inClass (topS 20) 1
abbrev s_Ground_n : Stmt := inClass (topS 20) 2
abbrev s_Ground_zero : Stmt := inClass (topS 20) 3
abbrev s_Ground_units : Stmt := inClass (topS 20) 4
abbrev s_Ground_inverse_of : Stmt := inClass (topS 20) 5
abbrev s_Ground_eq : Stmt := inClass (topS 20) 6
abbrev s_l_source : Stmt := topS 22
abbrev s_l_pick : Stmt := topS 23
abbrev s_l_of : Stmt := topS 24
abbrev s_l_inversions : Stmt := topS 25
abbrev s_l_orders : Stmt := topS 26
abbrev s_l_power : Stmt := topS 27
abbrev s_l_more : Stmt := topS 28
abbrev s_l_lowest : Stmt := topS 29
abbrev s_l_ground_right : Stmt := topS 30
abbrev s_law : Stmt := topS 31
theorem sc_wall : FnScope ["k"] ["k"] (defScope s_wall) := ⟨rfl, rfl, rfl, by decide +kernel, rfl, by decide +kernel, by decide +kernel⟩
theorem sc_BadGround_init : FnScope ["self", "path"] ["self", "path"] (defScope s_BadGround_init) := ⟨rfl, rfl, rfl, by decide +kernel, rfl, by decide +kernel, by decide +kernel⟩
theorem sc_is_number : FnScope ["value"] ["value"] (defScope s_is_number) := ⟨rfl, rfl, rfl, by decide +kernel, rfl, by decide +kernel, by decide +kernel⟩
theorem sc_power : FnScope ["base", "exponent", "worth", "_"] ["base", "exponent"] (defScope s_power) := ⟨rfl, rfl, rfl, by decide +kernel, rfl, by decide +kernel, by decide +kernel⟩
theorem sc_step_count : FnScope ["ground", "m", "k"] ["ground", "m"] (defScope s_step_count) := ⟨rfl, rfl, rfl, by decide +kernel, rfl, by decide +kernel, by decide +kernel⟩
theorem sc_step_product : FnScope ["ground", "m", "worth", "k"] ["ground", "m"] (defScope s_step_product) := ⟨rfl, rfl, rfl, by decide +kernel, rfl, by decide +kernel, by decide +kernel⟩
theorem sc_count_nests : FnScope ["ground"] ["ground"] (defScope s_count_nests) := ⟨rfl, rfl, rfl, by decide +kernel, rfl, by decide +kernel, by decide +kernel⟩
theorem sc_inversion_counts : FnScope ["n", "counts", "many", "k"] ["n"] (defScope s_inversion_counts) := ⟨rfl, rfl, rfl, by decide +kernel, rfl, by decide +kernel, by decide +kernel⟩
theorem sc_orders_with : FnScope ["n", "inversions", "counts"] ["n", "inversions"] (defScope s_orders_with) := ⟨rfl, rfl, rfl, by decide +kernel, rfl, by decide +kernel, by decide +kernel⟩
theorem sc_count_away : FnScope ["ground", "deeds", "many"] ["ground", "deeds"] (defScope s_count_away) := ⟨rfl, rfl, rfl, by decide +kernel, rfl, by decide +kernel, by decide +kernel⟩
theorem sc_lowest : FnScope ["above", "below", "divisor"] ["above", "below"] (defScope s_lowest) := ⟨rfl, rfl, rfl, by decide +kernel, rfl, by decide +kernel, by decide +kernel⟩
theorem sc_mean_away : FnScope ["ground", "p", "above", "below", "i", "weighed", "r", "many"] ["ground"] (defScope s_mean_away) := ⟨rfl, rfl, rfl, by decide +kernel, rfl, by decide +kernel, by decide +kernel⟩
theorem sc_is_prime : FnScope ["value", "divisor"] ["value"] (defScope s_is_prime) := ⟨rfl, rfl, rfl, by decide +kernel, rfl, by decide +kernel, by decide +kernel⟩
theorem sc_Ground_init : FnScope ["self", "p", "n"] ["self", "p", "n"] (defScope s_Ground_init) := ⟨rfl, rfl, rfl, by decide +kernel, rfl, by decide +kernel, by decide +kernel⟩
theorem sc_Ground_p : FnScope ["self"] ["self"] (defScope s_Ground_p) := ⟨rfl, rfl, rfl, by decide +kernel, rfl, by decide +kernel, by decide +kernel⟩
theorem sc_Ground_n : FnScope ["self"] ["self"] (defScope s_Ground_n) := ⟨rfl, rfl, rfl, by decide +kernel, rfl, by decide +kernel, by decide +kernel⟩
theorem sc_Ground_zero : FnScope ["self"] ["self"] (defScope s_Ground_zero) := ⟨rfl, rfl, rfl, by decide +kernel, rfl, by decide +kernel, by decide +kernel⟩
theorem sc_Ground_units : FnScope ["self"] ["self"] (defScope s_Ground_units) := ⟨rfl, rfl, rfl, by decide +kernel, rfl, by decide +kernel, by decide +kernel⟩
theorem sc_Ground_inverse_of : FnScope ["self", "number"] ["self", "number"] (defScope s_Ground_inverse_of) := ⟨rfl, rfl, rfl, by decide +kernel, rfl, by decide +kernel, by decide +kernel⟩
theorem sc_Ground_eq : FnScope ["self", "other"] ["self", "other"] (defScope s_Ground_eq) := ⟨rfl, rfl, rfl, by decide +kernel, rfl, by decide +kernel, by decide +kernel⟩
theorem sc_l_source : FnScope ["_law_script", "_law_mixed", "_law_cell"] ["_law_script"] (defScope s_l_source) := ⟨rfl, rfl, rfl, by decide +kernel, rfl, by decide +kernel, by decide +kernel⟩
theorem sc_l_pick : FnScope ["_law_source_here", "_law_many", "_law_left", "_law_mixed"] ["_law_source_here", "_law_many"] (defScope s_l_pick) := ⟨rfl, rfl, rfl, by decide +kernel, rfl, by decide +kernel, by decide +kernel⟩
theorem sc_l_of : FnScope ["_law_source_here", "_law_some"] ["_law_source_here", "_law_some"] (defScope s_l_of) := ⟨rfl, rfl, rfl, by decide +kernel, rfl, by decide +kernel, by decide +kernel⟩
theorem sc_l_inversions : FnScope ["_law_order", "_law_a", "_law_b"] ["_law_order"] (defScope s_l_inversions) := ⟨rfl, rfl, rfl, by decide +kernel, rfl, by decide +kernel, by decide +kernel⟩
theorem sc_l_orders : FnScope ["_law_members", "_law_found", "_law_one", "_law_rest", "_law_other"] ["_law_members"] (defScope s_l_orders) := ⟨rfl, rfl, rfl, by decide +kernel, rfl, by decide +kernel, by decide +kernel⟩
theorem sc_l_power : FnScope ["_law_p", "_law_many", "_law_found", "_law_lap"] ["_law_p", "_law_many"] (defScope s_l_power) := ⟨rfl, rfl, rfl, by decide +kernel, rfl, by decide +kernel, by decide +kernel⟩
theorem sc_l_more : FnScope ["_law_counts", "_law_n", "_law_most", "_law_k", "_law_r"] ["_law_counts", "_law_n"] (defScope s_l_more) := ⟨rfl, rfl, rfl, by decide +kernel, rfl, by decide +kernel, by decide +kernel⟩
theorem sc_l_lowest : FnScope ["_law_a", "_law_b", "_law_one", "_law_other"] ["_law_a", "_law_b"] (defScope s_l_lowest) := ⟨rfl, rfl, rfl, by decide +kernel, rfl, by decide +kernel, by decide +kernel⟩
theorem sc_l_ground_right : FnScope ["_law_ground", "_law_counts", "_law_p", "_law_n", "_law_away", "_law_k"] ["_law_ground", "_law_counts"] (defScope s_l_ground_right) := ⟨rfl, rfl, rfl, by decide +kernel, rfl, by decide +kernel, by decide +kernel⟩
theorem sc_law : FnScope ["_law_script", "_law_source_here", "_law_n", "_law_counts", "_law_order", "_law_k", "_law_far", "_law_p"] ["_law_script"] (defScope s_law) := ⟨rfl, rfl, rfl, by decide +kernel, rfl, by decide +kernel, by decide +kernel⟩
structure Tx (K : PySem.W.Frag) (mg : Str → Option Value) : Type where
  C_Ground : Addr
  cl_Ground : Cls K C_Ground
  g_Ground : mg "Ground" = some (.ref C_Ground)
  n_Ground_p : NoAttr K C_Ground "_p"
  n_Ground_n : NoAttr K C_Ground "_n"
  f_is_number : Addr
  d_is_number : FuncData
  F_is_number : Fun K "is_number" "is_number" s_is_number f_is_number d_is_number
  b_is_number : Binds K d_is_number ["value"] []
  g_is_number : mg "is_number" = some (.ref f_is_number)
  f_power : Addr
  d_power : FuncData
  F_power : Fun K "power" "power" s_power f_power d_power
  b_power : Binds K d_power ["base", "exponent"] []
  g_power : mg "power" = some (.ref f_power)
  f_step_count : Addr
  d_step_count : FuncData
  F_step_count : Fun K "step_count" "step_count" s_step_count f_step_count d_step_count
  b_step_count : Binds K d_step_count ["ground", "m"] []
  g_step_count : mg "step_count" = some (.ref f_step_count)
  f_step_product : Addr
  d_step_product : FuncData
  F_step_product : Fun K "step_product" "step_product" s_step_product f_step_product d_step_product
  b_step_product : Binds K d_step_product ["ground", "m"] []
  g_step_product : mg "step_product" = some (.ref f_step_product)
  f_count_nests : Addr
  d_count_nests : FuncData
  F_count_nests : Fun K "count_nests" "count_nests" s_count_nests f_count_nests d_count_nests
  b_count_nests : Binds K d_count_nests ["ground"] []
  g_count_nests : mg "count_nests" = some (.ref f_count_nests)
  f_inversion_counts : Addr
  d_inversion_counts : FuncData
  F_inversion_counts : Fun K "inversion_counts" "inversion_counts" s_inversion_counts f_inversion_counts d_inversion_counts
  b_inversion_counts : Binds K d_inversion_counts ["n"] []
  g_inversion_counts : mg "inversion_counts" = some (.ref f_inversion_counts)
  f_orders_with : Addr
  d_orders_with : FuncData
  F_orders_with : Fun K "orders_with" "orders_with" s_orders_with f_orders_with d_orders_with
  b_orders_with : Binds K d_orders_with ["n", "inversions"] []
  g_orders_with : mg "orders_with" = some (.ref f_orders_with)
  f_count_away : Addr
  d_count_away : FuncData
  F_count_away : Fun K "count_away" "count_away" s_count_away f_count_away d_count_away
  b_count_away : Binds K d_count_away ["ground", "deeds"] []
  g_count_away : mg "count_away" = some (.ref f_count_away)
  f_lowest : Addr
  d_lowest : FuncData
  F_lowest : Fun K "lowest" "lowest" s_lowest f_lowest d_lowest
  b_lowest : Binds K d_lowest ["above", "below"] []
  g_lowest : mg "lowest" = some (.ref f_lowest)
  f_mean_away : Addr
  d_mean_away : FuncData
  F_mean_away : Fun K "mean_away" "mean_away" s_mean_away f_mean_away d_mean_away
  b_mean_away : Binds K d_mean_away ["ground"] []
  g_mean_away : mg "mean_away" = some (.ref f_mean_away)
  f_is_prime : Addr
  d_is_prime : FuncData
  F_is_prime : Fun K "is_prime" "is_prime" s_is_prime f_is_prime d_is_prime
  b_is_prime : Binds K d_is_prime ["value"] []
  g_is_prime : mg "is_prime" = some (.ref f_is_prime)
  f_Ground_init : Addr
  d_Ground_init : FuncData
  F_Ground_init : Fun K "__init__" "Ground.__init__" s_Ground_init f_Ground_init d_Ground_init
  b_Ground_init : Binds K d_Ground_init ["self", "p", "n"] []
  M_Ground : Mk K C_Ground f_Ground_init
  f_Ground_p : Addr
  d_Ground_p : FuncData
  F_Ground_p : Fun K "p" "Ground.p" s_Ground_p f_Ground_p d_Ground_p
  b_Ground_p : Binds K d_Ground_p ["self"] []
  m_Ground_p : Meth K C_Ground "p" f_Ground_p
  f_Ground_n : Addr
  d_Ground_n : FuncData
  F_Ground_n : Fun K "n" "Ground.n" s_Ground_n f_Ground_n d_Ground_n
  b_Ground_n : Binds K d_Ground_n ["self"] []
  m_Ground_n : Meth K C_Ground "n" f_Ground_n
  f_l_source : Addr
  d_l_source : FuncData
  F_l_source : Fun K "_law_source" "_law_source" s_l_source f_l_source d_l_source
  b_l_source : Binds K d_l_source ["_law_script"] []
  g_l_source : mg "_law_source" = some (.ref f_l_source)
  f_l_pick : Addr
  d_l_pick : FuncData
  F_l_pick : Fun K "_law_pick" "_law_pick" s_l_pick f_l_pick d_l_pick
  b_l_pick : Binds K d_l_pick ["_law_source_here", "_law_many"] []
  g_l_pick : mg "_law_pick" = some (.ref f_l_pick)
  f_l_of : Addr
  d_l_of : FuncData
  F_l_of : Fun K "_law_of" "_law_of" s_l_of f_l_of d_l_of
  b_l_of : Binds K d_l_of ["_law_source_here", "_law_some"] []
  g_l_of : mg "_law_of" = some (.ref f_l_of)
  f_l_inversions : Addr
  d_l_inversions : FuncData
  F_l_inversions : Fun K "_law_inversions" "_law_inversions" s_l_inversions f_l_inversions d_l_inversions
  b_l_inversions : Binds K d_l_inversions ["_law_order"] []
  g_l_inversions : mg "_law_inversions" = some (.ref f_l_inversions)
  f_l_orders : Addr
  d_l_orders : FuncData
  F_l_orders : Fun K "_law_orders" "_law_orders" s_l_orders f_l_orders d_l_orders
  b_l_orders : Binds K d_l_orders ["_law_members"] []
  g_l_orders : mg "_law_orders" = some (.ref f_l_orders)
  f_l_power : Addr
  d_l_power : FuncData
  F_l_power : Fun K "_law_power" "_law_power" s_l_power f_l_power d_l_power
  b_l_power : Binds K d_l_power ["_law_p", "_law_many"] []
  g_l_power : mg "_law_power" = some (.ref f_l_power)
  f_l_more : Addr
  d_l_more : FuncData
  F_l_more : Fun K "_law_more" "_law_more" s_l_more f_l_more d_l_more
  b_l_more : Binds K d_l_more ["_law_counts", "_law_n"] []
  g_l_more : mg "_law_more" = some (.ref f_l_more)
  f_l_lowest : Addr
  d_l_lowest : FuncData
  F_l_lowest : Fun K "_law_lowest" "_law_lowest" s_l_lowest f_l_lowest d_l_lowest
  b_l_lowest : Binds K d_l_lowest ["_law_a", "_law_b"] []
  g_l_lowest : mg "_law_lowest" = some (.ref f_l_lowest)
  f_l_ground_right : Addr
  d_l_ground_right : FuncData
  F_l_ground_right : Fun K "_law_ground_right" "_law_ground_right" s_l_ground_right f_l_ground_right d_l_ground_right
  b_l_ground_right : Binds K d_l_ground_right ["_law_ground", "_law_counts"] []
  g_l_ground_right : mg "_law_ground_right" = some (.ref f_l_ground_right)
  f_law : Addr
  d_law : FuncData
  F_law : Fun K "law" "law" s_law f_law d_law
  b_law : Binds K d_law ["_law_script"] []
  g_law : mg "law" = some (.ref f_law)
  z_len : mg "len" = none
  z_range : mg "range" = none
  z_int : mg "int" = none
  z_bool : mg "bool" = none
  z_tuple : mg "tuple" = none
  z_list : mg "list" = none
  z_isinstance : mg "isinstance" = none
  z_abs : mg "abs" = none
  z_max : mg "max" = none
  z_min : mg "min" = none
  z_sum : mg "sum" = none
  z_enumerate : mg "enumerate" = none
  z_repr : mg "repr" = none
  z_zip : mg "zip" = none
  g_gcd : mg "gcd" = some (.builtin "math.gcd")
def tx_mk {K : PySem.W.Frag} {h : Heap} {mg : Str → Option Value} (X : K.In h) (G : h.Ns mainGlobals mg)
    {C_Ground f_is_number f_power f_step_count f_step_product f_count_nests f_inversion_counts f_orders_with f_count_away f_lowest f_mean_away f_is_prime f_Ground_init f_Ground_p f_Ground_n f_l_source f_l_pick f_l_of f_l_inversions f_l_orders f_l_power f_l_more f_l_lowest f_l_ground_right f_law : Addr} {oc1 kV1 dc1 pm1 cd1 ct1 oc2 kV2 dc2 pm2 cd2 ct2 oc3 kV3 dc3 pm3 cd3 ct3 oc4 kV4 dc4 pm4 cd4 ct4 oc5 kV5 dc5 pm5 cd5 ct5 oc6 kV6 dc6 pm6 cd6 ct6 oc7 kV7 dc7 pm7 cd7 ct7 oc8 kV8 dc8 pm8 cd8 ct8 oc9 kV9 dc9 pm9 cd9 ct9 oc10 kV10 dc10 pm10 cd10 ct10 oc11 kV11 dc11 pm11 cd11 ct11 oc12 kV12 dc12 pm12 cd12 ct12 oc13 kV13 dc13 pm13 cd13 ct13 oc14 kV14 dc14 pm14 cd14 ct14 oc15 kV15 dc15 pm15 cd15 ct15 oc16 kV16 dc16 pm16 cd16 ct16 oc17 kV17 dc17 pm17 cd17 ct17 oc18 kV18 dc18 pm18 cd18 ct18 oc19 kV19 dc19 pm19 cd19 ct19 oc20 kV20 dc20 pm20 cd20 ct20 oc21 kV21 dc21 pm21 cd21 ct21 oc22 kV22 dc22 pm22 cd22 ct22 oc23 kV23 dc23 pm23 cd23 ct23 oc24 kV24 dc24 pm24 cd24 ct24 : Value} {od1 an1 : Option Addr} {sl1 : Array (Option Value)} {od2 an2 : Option Addr} {sl2 : Array (Option Value)} {od3 an3 : Option Addr} {sl3 : Array (Option Value)} {od4 an4 : Option Addr} {sl4 : Array (Option Value)} {od5 an5 : Option Addr} {sl5 : Array (Option Value)} {od6 an6 : Option Addr} {sl6 : Array (Option Value)} {od7 an7 : Option Addr} {sl7 : Array (Option Value)} {od8 an8 : Option Addr} {sl8 : Array (Option Value)} {od9 an9 : Option Addr} {sl9 : Array (Option Value)} {od10 an10 : Option Addr} {sl10 : Array (Option Value)} {od11 an11 : Option Addr} {sl11 : Array (Option Value)} {od12 an12 : Option Addr} {sl12 : Array (Option Value)} {od13 an13 : Option Addr} {sl13 : Array (Option Value)} {od14 an14 : Option Addr} {sl14 : Array (Option Value)} {od15 an15 : Option Addr} {sl15 : Array (Option Value)} {od16 an16 : Option Addr} {sl16 : Array (Option Value)} {od17 an17 : Option Addr} {sl17 : Array (Option Value)} {od18 an18 : Option Addr} {sl18 : Array (Option Value)} {od19 an19 : Option Addr} {sl19 : Array (Option Value)} {od20 an20 : Option Addr} {sl20 : Array (Option Value)} {od21 an21 : Option Addr} {sl21 : Array (Option Value)} {od22 an22 : Option Addr} {sl22 : Array (Option Value)} {od23 an23 : Option Addr} {sl23 : Array (Option Value)} {od24 an24 : Option Addr} {sl24 : Array (Option Value)} 
    (a_Ground : PySem.W.nsIn K mainGlobals "Ground" = some (some (.ref C_Ground)))
    (pg_Ground : PySem.W.plainGet K C_Ground Str.empty = true)
    (hd_Ground : PySem.W.hasDictIn K C_Ground = true)
    (po_Ground : PySem.W.plainOver K C_Ground = true)
    (sa_Ground : PySem.W.findIn K (.ref C_Ground) "__setattr__" = some (some (.builtin "object.__setattr__")))
    (mk_Ground : PySem.W.makesIn K C_Ground = true)
    (kc_Ground : PySem.W.keepIn K (.ref C_Ground) = true)
    (n_Ground_p : PySem.W.findIn K (.ref C_Ground) "_p" = some none)
    (n_Ground_n : PySem.W.findIn K (.ref C_Ground) "_n" = some none)
    (a_is_number : PySem.W.nsIn K mainGlobals "is_number" = some (some (.ref f_is_number)))
    (l_is_number : K.lookup f_is_number = some ⟨oc1, od1, .func (PySem.W.fnOf "is_number" "is_number" (defArgs s_is_number) (defBody s_is_number) (defScope s_is_number) .none kV1 dc1 pm1 an1 cd1 ct1), sl1⟩)
    (c_is_number : PySem.W.codeIn K cd1 "is_number" = true)
    (k_is_number : PySem.W.keepIn K (.ref f_is_number) = true)
    (a_power : PySem.W.nsIn K mainGlobals "power" = some (some (.ref f_power)))
    (l_power : K.lookup f_power = some ⟨oc2, od2, .func (PySem.W.fnOf "power" "power" (defArgs s_power) (defBody s_power) (defScope s_power) .none kV2 dc2 pm2 an2 cd2 ct2), sl2⟩)
    (c_power : PySem.W.codeIn K cd2 "power" = true)
    (k_power : PySem.W.keepIn K (.ref f_power) = true)
    (a_step_count : PySem.W.nsIn K mainGlobals "step_count" = some (some (.ref f_step_count)))
    (l_step_count : K.lookup f_step_count = some ⟨oc3, od3, .func (PySem.W.fnOf "step_count" "step_count" (defArgs s_step_count) (defBody s_step_count) (defScope s_step_count) .none kV3 dc3 pm3 an3 cd3 ct3), sl3⟩)
    (c_step_count : PySem.W.codeIn K cd3 "step_count" = true)
    (k_step_count : PySem.W.keepIn K (.ref f_step_count) = true)
    (a_step_product : PySem.W.nsIn K mainGlobals "step_product" = some (some (.ref f_step_product)))
    (l_step_product : K.lookup f_step_product = some ⟨oc4, od4, .func (PySem.W.fnOf "step_product" "step_product" (defArgs s_step_product) (defBody s_step_product) (defScope s_step_product) .none kV4 dc4 pm4 an4 cd4 ct4), sl4⟩)
    (c_step_product : PySem.W.codeIn K cd4 "step_product" = true)
    (k_step_product : PySem.W.keepIn K (.ref f_step_product) = true)
    (a_count_nests : PySem.W.nsIn K mainGlobals "count_nests" = some (some (.ref f_count_nests)))
    (l_count_nests : K.lookup f_count_nests = some ⟨oc5, od5, .func (PySem.W.fnOf "count_nests" "count_nests" (defArgs s_count_nests) (defBody s_count_nests) (defScope s_count_nests) .none kV5 dc5 pm5 an5 cd5 ct5), sl5⟩)
    (c_count_nests : PySem.W.codeIn K cd5 "count_nests" = true)
    (k_count_nests : PySem.W.keepIn K (.ref f_count_nests) = true)
    (a_inversion_counts : PySem.W.nsIn K mainGlobals "inversion_counts" = some (some (.ref f_inversion_counts)))
    (l_inversion_counts : K.lookup f_inversion_counts = some ⟨oc6, od6, .func (PySem.W.fnOf "inversion_counts" "inversion_counts" (defArgs s_inversion_counts) (defBody s_inversion_counts) (defScope s_inversion_counts) .none kV6 dc6 pm6 an6 cd6 ct6), sl6⟩)
    (c_inversion_counts : PySem.W.codeIn K cd6 "inversion_counts" = true)
    (k_inversion_counts : PySem.W.keepIn K (.ref f_inversion_counts) = true)
    (a_orders_with : PySem.W.nsIn K mainGlobals "orders_with" = some (some (.ref f_orders_with)))
    (l_orders_with : K.lookup f_orders_with = some ⟨oc7, od7, .func (PySem.W.fnOf "orders_with" "orders_with" (defArgs s_orders_with) (defBody s_orders_with) (defScope s_orders_with) .none kV7 dc7 pm7 an7 cd7 ct7), sl7⟩)
    (c_orders_with : PySem.W.codeIn K cd7 "orders_with" = true)
    (k_orders_with : PySem.W.keepIn K (.ref f_orders_with) = true)
    (a_count_away : PySem.W.nsIn K mainGlobals "count_away" = some (some (.ref f_count_away)))
    (l_count_away : K.lookup f_count_away = some ⟨oc8, od8, .func (PySem.W.fnOf "count_away" "count_away" (defArgs s_count_away) (defBody s_count_away) (defScope s_count_away) .none kV8 dc8 pm8 an8 cd8 ct8), sl8⟩)
    (c_count_away : PySem.W.codeIn K cd8 "count_away" = true)
    (k_count_away : PySem.W.keepIn K (.ref f_count_away) = true)
    (a_lowest : PySem.W.nsIn K mainGlobals "lowest" = some (some (.ref f_lowest)))
    (l_lowest : K.lookup f_lowest = some ⟨oc9, od9, .func (PySem.W.fnOf "lowest" "lowest" (defArgs s_lowest) (defBody s_lowest) (defScope s_lowest) .none kV9 dc9 pm9 an9 cd9 ct9), sl9⟩)
    (c_lowest : PySem.W.codeIn K cd9 "lowest" = true)
    (k_lowest : PySem.W.keepIn K (.ref f_lowest) = true)
    (a_mean_away : PySem.W.nsIn K mainGlobals "mean_away" = some (some (.ref f_mean_away)))
    (l_mean_away : K.lookup f_mean_away = some ⟨oc10, od10, .func (PySem.W.fnOf "mean_away" "mean_away" (defArgs s_mean_away) (defBody s_mean_away) (defScope s_mean_away) .none kV10 dc10 pm10 an10 cd10 ct10), sl10⟩)
    (c_mean_away : PySem.W.codeIn K cd10 "mean_away" = true)
    (k_mean_away : PySem.W.keepIn K (.ref f_mean_away) = true)
    (a_is_prime : PySem.W.nsIn K mainGlobals "is_prime" = some (some (.ref f_is_prime)))
    (l_is_prime : K.lookup f_is_prime = some ⟨oc11, od11, .func (PySem.W.fnOf "is_prime" "is_prime" (defArgs s_is_prime) (defBody s_is_prime) (defScope s_is_prime) .none kV11 dc11 pm11 an11 cd11 ct11), sl11⟩)
    (c_is_prime : PySem.W.codeIn K cd11 "is_prime" = true)
    (k_is_prime : PySem.W.keepIn K (.ref f_is_prime) = true)
    (a_Ground_init : PySem.W.findIn K (.ref C_Ground) "__init__" = some (some (.ref f_Ground_init)))
    (i_Ground_init : PySem.W.isFn K (.ref f_Ground_init) = true)
    (l_Ground_init : K.lookup f_Ground_init = some ⟨oc12, od12, .func (PySem.W.fnOf "__init__" "Ground.__init__" (defArgs s_Ground_init) (defBody s_Ground_init) (defScope s_Ground_init) .none kV12 dc12 pm12 an12 cd12 ct12), sl12⟩)
    (c_Ground_init : PySem.W.codeIn K cd12 "Ground.__init__" = true)
    (k_Ground_init : PySem.W.keepIn K (.ref f_Ground_init) = true)
    (a_Ground_p : PySem.W.findIn K (.ref C_Ground) "p" = some (some (.ref f_Ground_p)))
    (i_Ground_p : PySem.W.isFn K (.ref f_Ground_p) = true)
    (l_Ground_p : K.lookup f_Ground_p = some ⟨oc13, od13, .func (PySem.W.fnOf "p" "Ground.p" (defArgs s_Ground_p) (defBody s_Ground_p) (defScope s_Ground_p) .none kV13 dc13 pm13 an13 cd13 ct13), sl13⟩)
    (c_Ground_p : PySem.W.codeIn K cd13 "Ground.p" = true)
    (k_Ground_p : PySem.W.keepIn K (.ref f_Ground_p) = true)
    (a_Ground_n : PySem.W.findIn K (.ref C_Ground) "n" = some (some (.ref f_Ground_n)))
    (i_Ground_n : PySem.W.isFn K (.ref f_Ground_n) = true)
    (l_Ground_n : K.lookup f_Ground_n = some ⟨oc14, od14, .func (PySem.W.fnOf "n" "Ground.n" (defArgs s_Ground_n) (defBody s_Ground_n) (defScope s_Ground_n) .none kV14 dc14 pm14 an14 cd14 ct14), sl14⟩)
    (c_Ground_n : PySem.W.codeIn K cd14 "Ground.n" = true)
    (k_Ground_n : PySem.W.keepIn K (.ref f_Ground_n) = true)
    (a_l_source : PySem.W.nsIn K mainGlobals "_law_source" = some (some (.ref f_l_source)))
    (l_l_source : K.lookup f_l_source = some ⟨oc15, od15, .func (PySem.W.fnOf "_law_source" "_law_source" (defArgs s_l_source) (defBody s_l_source) (defScope s_l_source) .none kV15 dc15 pm15 an15 cd15 ct15), sl15⟩)
    (c_l_source : PySem.W.codeIn K cd15 "_law_source" = true)
    (k_l_source : PySem.W.keepIn K (.ref f_l_source) = true)
    (a_l_pick : PySem.W.nsIn K mainGlobals "_law_pick" = some (some (.ref f_l_pick)))
    (l_l_pick : K.lookup f_l_pick = some ⟨oc16, od16, .func (PySem.W.fnOf "_law_pick" "_law_pick" (defArgs s_l_pick) (defBody s_l_pick) (defScope s_l_pick) .none kV16 dc16 pm16 an16 cd16 ct16), sl16⟩)
    (c_l_pick : PySem.W.codeIn K cd16 "_law_pick" = true)
    (k_l_pick : PySem.W.keepIn K (.ref f_l_pick) = true)
    (a_l_of : PySem.W.nsIn K mainGlobals "_law_of" = some (some (.ref f_l_of)))
    (l_l_of : K.lookup f_l_of = some ⟨oc17, od17, .func (PySem.W.fnOf "_law_of" "_law_of" (defArgs s_l_of) (defBody s_l_of) (defScope s_l_of) .none kV17 dc17 pm17 an17 cd17 ct17), sl17⟩)
    (c_l_of : PySem.W.codeIn K cd17 "_law_of" = true)
    (k_l_of : PySem.W.keepIn K (.ref f_l_of) = true)
    (a_l_inversions : PySem.W.nsIn K mainGlobals "_law_inversions" = some (some (.ref f_l_inversions)))
    (l_l_inversions : K.lookup f_l_inversions = some ⟨oc18, od18, .func (PySem.W.fnOf "_law_inversions" "_law_inversions" (defArgs s_l_inversions) (defBody s_l_inversions) (defScope s_l_inversions) .none kV18 dc18 pm18 an18 cd18 ct18), sl18⟩)
    (c_l_inversions : PySem.W.codeIn K cd18 "_law_inversions" = true)
    (k_l_inversions : PySem.W.keepIn K (.ref f_l_inversions) = true)
    (a_l_orders : PySem.W.nsIn K mainGlobals "_law_orders" = some (some (.ref f_l_orders)))
    (l_l_orders : K.lookup f_l_orders = some ⟨oc19, od19, .func (PySem.W.fnOf "_law_orders" "_law_orders" (defArgs s_l_orders) (defBody s_l_orders) (defScope s_l_orders) .none kV19 dc19 pm19 an19 cd19 ct19), sl19⟩)
    (c_l_orders : PySem.W.codeIn K cd19 "_law_orders" = true)
    (k_l_orders : PySem.W.keepIn K (.ref f_l_orders) = true)
    (a_l_power : PySem.W.nsIn K mainGlobals "_law_power" = some (some (.ref f_l_power)))
    (l_l_power : K.lookup f_l_power = some ⟨oc20, od20, .func (PySem.W.fnOf "_law_power" "_law_power" (defArgs s_l_power) (defBody s_l_power) (defScope s_l_power) .none kV20 dc20 pm20 an20 cd20 ct20), sl20⟩)
    (c_l_power : PySem.W.codeIn K cd20 "_law_power" = true)
    (k_l_power : PySem.W.keepIn K (.ref f_l_power) = true)
    (a_l_more : PySem.W.nsIn K mainGlobals "_law_more" = some (some (.ref f_l_more)))
    (l_l_more : K.lookup f_l_more = some ⟨oc21, od21, .func (PySem.W.fnOf "_law_more" "_law_more" (defArgs s_l_more) (defBody s_l_more) (defScope s_l_more) .none kV21 dc21 pm21 an21 cd21 ct21), sl21⟩)
    (c_l_more : PySem.W.codeIn K cd21 "_law_more" = true)
    (k_l_more : PySem.W.keepIn K (.ref f_l_more) = true)
    (a_l_lowest : PySem.W.nsIn K mainGlobals "_law_lowest" = some (some (.ref f_l_lowest)))
    (l_l_lowest : K.lookup f_l_lowest = some ⟨oc22, od22, .func (PySem.W.fnOf "_law_lowest" "_law_lowest" (defArgs s_l_lowest) (defBody s_l_lowest) (defScope s_l_lowest) .none kV22 dc22 pm22 an22 cd22 ct22), sl22⟩)
    (c_l_lowest : PySem.W.codeIn K cd22 "_law_lowest" = true)
    (k_l_lowest : PySem.W.keepIn K (.ref f_l_lowest) = true)
    (a_l_ground_right : PySem.W.nsIn K mainGlobals "_law_ground_right" = some (some (.ref f_l_ground_right)))
    (l_l_ground_right : K.lookup f_l_ground_right = some ⟨oc23, od23, .func (PySem.W.fnOf "_law_ground_right" "_law_ground_right" (defArgs s_l_ground_right) (defBody s_l_ground_right) (defScope s_l_ground_right) .none kV23 dc23 pm23 an23 cd23 ct23), sl23⟩)
    (c_l_ground_right : PySem.W.codeIn K cd23 "_law_ground_right" = true)
    (k_l_ground_right : PySem.W.keepIn K (.ref f_l_ground_right) = true)
    (a_law : PySem.W.nsIn K mainGlobals "law" = some (some (.ref f_law)))
    (l_law : K.lookup f_law = some ⟨oc24, od24, .func (PySem.W.fnOf "law" "law" (defArgs s_law) (defBody s_law) (defScope s_law) .none kV24 dc24 pm24 an24 cd24 ct24), sl24⟩)
    (c_law : PySem.W.codeIn K cd24 "law" = true)
    (k_law : PySem.W.keepIn K (.ref f_law) = true)
    (z_len : PySem.W.nsIn K mainGlobals "len" = some none)
    (z_range : PySem.W.nsIn K mainGlobals "range" = some none)
    (z_int : PySem.W.nsIn K mainGlobals "int" = some none)
    (z_bool : PySem.W.nsIn K mainGlobals "bool" = some none)
    (z_tuple : PySem.W.nsIn K mainGlobals "tuple" = some none)
    (z_list : PySem.W.nsIn K mainGlobals "list" = some none)
    (z_isinstance : PySem.W.nsIn K mainGlobals "isinstance" = some none)
    (z_abs : PySem.W.nsIn K mainGlobals "abs" = some none)
    (z_max : PySem.W.nsIn K mainGlobals "max" = some none)
    (z_min : PySem.W.nsIn K mainGlobals "min" = some none)
    (z_sum : PySem.W.nsIn K mainGlobals "sum" = some none)
    (z_enumerate : PySem.W.nsIn K mainGlobals "enumerate" = some none)
    (z_repr : PySem.W.nsIn K mainGlobals "repr" = some none)
    (z_zip : PySem.W.nsIn K mainGlobals "zip" = some none)
    (a_gcd : PySem.W.nsIn K mainGlobals "gcd" = some (some (.builtin "math.gcd"))) : Tx K mg where
  C_Ground := C_Ground
  cl_Ground := ⟨pg_Ground, hd_Ground, po_Ground, sa_Ground⟩
  g_Ground := PySem.W.mg_of X G a_Ground
  n_Ground_p := n_Ground_p
  n_Ground_n := n_Ground_n
  f_is_number := f_is_number
  d_is_number := PySem.W.fnOf "is_number" "is_number" (defArgs s_is_number) (defBody s_is_number) (defScope s_is_number) .none kV1 dc1 pm1 an1 cd1 ct1
  F_is_number := fun_mk (st := s_is_number) l_is_number c_is_number k_is_number
  b_is_number := (fun_mk (st := s_is_number) l_is_number c_is_number k_is_number).binds (ps := ["value"]) fun _ _ _ _ _ _ us hl => match us, hl with | [_], _ => rfl
  g_is_number := PySem.W.mg_of X G a_is_number
  f_power := f_power
  d_power := PySem.W.fnOf "power" "power" (defArgs s_power) (defBody s_power) (defScope s_power) .none kV2 dc2 pm2 an2 cd2 ct2
  F_power := fun_mk (st := s_power) l_power c_power k_power
  b_power := (fun_mk (st := s_power) l_power c_power k_power).binds (ps := ["base", "exponent"]) fun _ _ _ _ _ _ us hl => match us, hl with | [_, _], _ => rfl
  g_power := PySem.W.mg_of X G a_power
  f_step_count := f_step_count
  d_step_count := PySem.W.fnOf "step_count" "step_count" (defArgs s_step_count) (defBody s_step_count) (defScope s_step_count) .none kV3 dc3 pm3 an3 cd3 ct3
  F_step_count := fun_mk (st := s_step_count) l_step_count c_step_count k_step_count
  b_step_count := (fun_mk (st := s_step_count) l_step_count c_step_count k_step_count).binds (ps := ["ground", "m"]) fun _ _ _ _ _ _ us hl => match us, hl with | [_, _], _ => rfl
  g_step_count := PySem.W.mg_of X G a_step_count
  f_step_product := f_step_product
  d_step_product := PySem.W.fnOf "step_product" "step_product" (defArgs s_step_product) (defBody s_step_product) (defScope s_step_product) .none kV4 dc4 pm4 an4 cd4 ct4
  F_step_product := fun_mk (st := s_step_product) l_step_product c_step_product k_step_product
  b_step_product := (fun_mk (st := s_step_product) l_step_product c_step_product k_step_product).binds (ps := ["ground", "m"]) fun _ _ _ _ _ _ us hl => match us, hl with | [_, _], _ => rfl
  g_step_product := PySem.W.mg_of X G a_step_product
  f_count_nests := f_count_nests
  d_count_nests := PySem.W.fnOf "count_nests" "count_nests" (defArgs s_count_nests) (defBody s_count_nests) (defScope s_count_nests) .none kV5 dc5 pm5 an5 cd5 ct5
  F_count_nests := fun_mk (st := s_count_nests) l_count_nests c_count_nests k_count_nests
  b_count_nests := (fun_mk (st := s_count_nests) l_count_nests c_count_nests k_count_nests).binds (ps := ["ground"]) fun _ _ _ _ _ _ us hl => match us, hl with | [_], _ => rfl
  g_count_nests := PySem.W.mg_of X G a_count_nests
  f_inversion_counts := f_inversion_counts
  d_inversion_counts := PySem.W.fnOf "inversion_counts" "inversion_counts" (defArgs s_inversion_counts) (defBody s_inversion_counts) (defScope s_inversion_counts) .none kV6 dc6 pm6 an6 cd6 ct6
  F_inversion_counts := fun_mk (st := s_inversion_counts) l_inversion_counts c_inversion_counts k_inversion_counts
  b_inversion_counts := (fun_mk (st := s_inversion_counts) l_inversion_counts c_inversion_counts k_inversion_counts).binds (ps := ["n"]) fun _ _ _ _ _ _ us hl => match us, hl with | [_], _ => rfl
  g_inversion_counts := PySem.W.mg_of X G a_inversion_counts
  f_orders_with := f_orders_with
  d_orders_with := PySem.W.fnOf "orders_with" "orders_with" (defArgs s_orders_with) (defBody s_orders_with) (defScope s_orders_with) .none kV7 dc7 pm7 an7 cd7 ct7
  F_orders_with := fun_mk (st := s_orders_with) l_orders_with c_orders_with k_orders_with
  b_orders_with := (fun_mk (st := s_orders_with) l_orders_with c_orders_with k_orders_with).binds (ps := ["n", "inversions"]) fun _ _ _ _ _ _ us hl => match us, hl with | [_, _], _ => rfl
  g_orders_with := PySem.W.mg_of X G a_orders_with
  f_count_away := f_count_away
  d_count_away := PySem.W.fnOf "count_away" "count_away" (defArgs s_count_away) (defBody s_count_away) (defScope s_count_away) .none kV8 dc8 pm8 an8 cd8 ct8
  F_count_away := fun_mk (st := s_count_away) l_count_away c_count_away k_count_away
  b_count_away := (fun_mk (st := s_count_away) l_count_away c_count_away k_count_away).binds (ps := ["ground", "deeds"]) fun _ _ _ _ _ _ us hl => match us, hl with | [_, _], _ => rfl
  g_count_away := PySem.W.mg_of X G a_count_away
  f_lowest := f_lowest
  d_lowest := PySem.W.fnOf "lowest" "lowest" (defArgs s_lowest) (defBody s_lowest) (defScope s_lowest) .none kV9 dc9 pm9 an9 cd9 ct9
  F_lowest := fun_mk (st := s_lowest) l_lowest c_lowest k_lowest
  b_lowest := (fun_mk (st := s_lowest) l_lowest c_lowest k_lowest).binds (ps := ["above", "below"]) fun _ _ _ _ _ _ us hl => match us, hl with | [_, _], _ => rfl
  g_lowest := PySem.W.mg_of X G a_lowest
  f_mean_away := f_mean_away
  d_mean_away := PySem.W.fnOf "mean_away" "mean_away" (defArgs s_mean_away) (defBody s_mean_away) (defScope s_mean_away) .none kV10 dc10 pm10 an10 cd10 ct10
  F_mean_away := fun_mk (st := s_mean_away) l_mean_away c_mean_away k_mean_away
  b_mean_away := (fun_mk (st := s_mean_away) l_mean_away c_mean_away k_mean_away).binds (ps := ["ground"]) fun _ _ _ _ _ _ us hl => match us, hl with | [_], _ => rfl
  g_mean_away := PySem.W.mg_of X G a_mean_away
  f_is_prime := f_is_prime
  d_is_prime := PySem.W.fnOf "is_prime" "is_prime" (defArgs s_is_prime) (defBody s_is_prime) (defScope s_is_prime) .none kV11 dc11 pm11 an11 cd11 ct11
  F_is_prime := fun_mk (st := s_is_prime) l_is_prime c_is_prime k_is_prime
  b_is_prime := (fun_mk (st := s_is_prime) l_is_prime c_is_prime k_is_prime).binds (ps := ["value"]) fun _ _ _ _ _ _ us hl => match us, hl with | [_], _ => rfl
  g_is_prime := PySem.W.mg_of X G a_is_prime
  f_Ground_init := f_Ground_init
  d_Ground_init := PySem.W.fnOf "__init__" "Ground.__init__" (defArgs s_Ground_init) (defBody s_Ground_init) (defScope s_Ground_init) .none kV12 dc12 pm12 an12 cd12 ct12
  F_Ground_init := fun_mk (st := s_Ground_init) l_Ground_init c_Ground_init k_Ground_init
  b_Ground_init := (fun_mk (st := s_Ground_init) l_Ground_init c_Ground_init k_Ground_init).binds (ps := ["self", "p", "n"]) fun _ _ _ _ _ _ us hl => match us, hl with | [_, _, _], _ => rfl
  M_Ground := ⟨mk_Ground, a_Ground_init, i_Ground_init, kc_Ground⟩
  f_Ground_p := f_Ground_p
  d_Ground_p := PySem.W.fnOf "p" "Ground.p" (defArgs s_Ground_p) (defBody s_Ground_p) (defScope s_Ground_p) .none kV13 dc13 pm13 an13 cd13 ct13
  F_Ground_p := fun_mk (st := s_Ground_p) l_Ground_p c_Ground_p k_Ground_p
  b_Ground_p := (fun_mk (st := s_Ground_p) l_Ground_p c_Ground_p k_Ground_p).binds (ps := ["self"]) fun _ _ _ _ _ _ us hl => match us, hl with | [_], _ => rfl
  m_Ground_p := ⟨a_Ground_p, i_Ground_p, k_Ground_p⟩
  f_Ground_n := f_Ground_n
  d_Ground_n := PySem.W.fnOf "n" "Ground.n" (defArgs s_Ground_n) (defBody s_Ground_n) (defScope s_Ground_n) .none kV14 dc14 pm14 an14 cd14 ct14
  F_Ground_n := fun_mk (st := s_Ground_n) l_Ground_n c_Ground_n k_Ground_n
  b_Ground_n := (fun_mk (st := s_Ground_n) l_Ground_n c_Ground_n k_Ground_n).binds (ps := ["self"]) fun _ _ _ _ _ _ us hl => match us, hl with | [_], _ => rfl
  m_Ground_n := ⟨a_Ground_n, i_Ground_n, k_Ground_n⟩
  f_l_source := f_l_source
  d_l_source := PySem.W.fnOf "_law_source" "_law_source" (defArgs s_l_source) (defBody s_l_source) (defScope s_l_source) .none kV15 dc15 pm15 an15 cd15 ct15
  F_l_source := fun_mk (st := s_l_source) l_l_source c_l_source k_l_source
  b_l_source := (fun_mk (st := s_l_source) l_l_source c_l_source k_l_source).binds (ps := ["_law_script"]) fun _ _ _ _ _ _ us hl => match us, hl with | [_], _ => rfl
  g_l_source := PySem.W.mg_of X G a_l_source
  f_l_pick := f_l_pick
  d_l_pick := PySem.W.fnOf "_law_pick" "_law_pick" (defArgs s_l_pick) (defBody s_l_pick) (defScope s_l_pick) .none kV16 dc16 pm16 an16 cd16 ct16
  F_l_pick := fun_mk (st := s_l_pick) l_l_pick c_l_pick k_l_pick
  b_l_pick := (fun_mk (st := s_l_pick) l_l_pick c_l_pick k_l_pick).binds (ps := ["_law_source_here", "_law_many"]) fun _ _ _ _ _ _ us hl => match us, hl with | [_, _], _ => rfl
  g_l_pick := PySem.W.mg_of X G a_l_pick
  f_l_of := f_l_of
  d_l_of := PySem.W.fnOf "_law_of" "_law_of" (defArgs s_l_of) (defBody s_l_of) (defScope s_l_of) .none kV17 dc17 pm17 an17 cd17 ct17
  F_l_of := fun_mk (st := s_l_of) l_l_of c_l_of k_l_of
  b_l_of := (fun_mk (st := s_l_of) l_l_of c_l_of k_l_of).binds (ps := ["_law_source_here", "_law_some"]) fun _ _ _ _ _ _ us hl => match us, hl with | [_, _], _ => rfl
  g_l_of := PySem.W.mg_of X G a_l_of
  f_l_inversions := f_l_inversions
  d_l_inversions := PySem.W.fnOf "_law_inversions" "_law_inversions" (defArgs s_l_inversions) (defBody s_l_inversions) (defScope s_l_inversions) .none kV18 dc18 pm18 an18 cd18 ct18
  F_l_inversions := fun_mk (st := s_l_inversions) l_l_inversions c_l_inversions k_l_inversions
  b_l_inversions := (fun_mk (st := s_l_inversions) l_l_inversions c_l_inversions k_l_inversions).binds (ps := ["_law_order"]) fun _ _ _ _ _ _ us hl => match us, hl with | [_], _ => rfl
  g_l_inversions := PySem.W.mg_of X G a_l_inversions
  f_l_orders := f_l_orders
  d_l_orders := PySem.W.fnOf "_law_orders" "_law_orders" (defArgs s_l_orders) (defBody s_l_orders) (defScope s_l_orders) .none kV19 dc19 pm19 an19 cd19 ct19
  F_l_orders := fun_mk (st := s_l_orders) l_l_orders c_l_orders k_l_orders
  b_l_orders := (fun_mk (st := s_l_orders) l_l_orders c_l_orders k_l_orders).binds (ps := ["_law_members"]) fun _ _ _ _ _ _ us hl => match us, hl with | [_], _ => rfl
  g_l_orders := PySem.W.mg_of X G a_l_orders
  f_l_power := f_l_power
  d_l_power := PySem.W.fnOf "_law_power" "_law_power" (defArgs s_l_power) (defBody s_l_power) (defScope s_l_power) .none kV20 dc20 pm20 an20 cd20 ct20
  F_l_power := fun_mk (st := s_l_power) l_l_power c_l_power k_l_power
  b_l_power := (fun_mk (st := s_l_power) l_l_power c_l_power k_l_power).binds (ps := ["_law_p", "_law_many"]) fun _ _ _ _ _ _ us hl => match us, hl with | [_, _], _ => rfl
  g_l_power := PySem.W.mg_of X G a_l_power
  f_l_more := f_l_more
  d_l_more := PySem.W.fnOf "_law_more" "_law_more" (defArgs s_l_more) (defBody s_l_more) (defScope s_l_more) .none kV21 dc21 pm21 an21 cd21 ct21
  F_l_more := fun_mk (st := s_l_more) l_l_more c_l_more k_l_more
  b_l_more := (fun_mk (st := s_l_more) l_l_more c_l_more k_l_more).binds (ps := ["_law_counts", "_law_n"]) fun _ _ _ _ _ _ us hl => match us, hl with | [_, _], _ => rfl
  g_l_more := PySem.W.mg_of X G a_l_more
  f_l_lowest := f_l_lowest
  d_l_lowest := PySem.W.fnOf "_law_lowest" "_law_lowest" (defArgs s_l_lowest) (defBody s_l_lowest) (defScope s_l_lowest) .none kV22 dc22 pm22 an22 cd22 ct22
  F_l_lowest := fun_mk (st := s_l_lowest) l_l_lowest c_l_lowest k_l_lowest
  b_l_lowest := (fun_mk (st := s_l_lowest) l_l_lowest c_l_lowest k_l_lowest).binds (ps := ["_law_a", "_law_b"]) fun _ _ _ _ _ _ us hl => match us, hl with | [_, _], _ => rfl
  g_l_lowest := PySem.W.mg_of X G a_l_lowest
  f_l_ground_right := f_l_ground_right
  d_l_ground_right := PySem.W.fnOf "_law_ground_right" "_law_ground_right" (defArgs s_l_ground_right) (defBody s_l_ground_right) (defScope s_l_ground_right) .none kV23 dc23 pm23 an23 cd23 ct23
  F_l_ground_right := fun_mk (st := s_l_ground_right) l_l_ground_right c_l_ground_right k_l_ground_right
  b_l_ground_right := (fun_mk (st := s_l_ground_right) l_l_ground_right c_l_ground_right k_l_ground_right).binds (ps := ["_law_ground", "_law_counts"]) fun _ _ _ _ _ _ us hl => match us, hl with | [_, _], _ => rfl
  g_l_ground_right := PySem.W.mg_of X G a_l_ground_right
  f_law := f_law
  d_law := PySem.W.fnOf "law" "law" (defArgs s_law) (defBody s_law) (defScope s_law) .none kV24 dc24 pm24 an24 cd24 ct24
  F_law := fun_mk (st := s_law) l_law c_law k_law
  b_law := (fun_mk (st := s_law) l_law c_law k_law).binds (ps := ["_law_script"]) fun _ _ _ _ _ _ us hl => match us, hl with | [_], _ => rfl
  g_law := PySem.W.mg_of X G a_law
  z_len := PySem.W.mg_none_of X G z_len
  z_range := PySem.W.mg_none_of X G z_range
  z_int := PySem.W.mg_none_of X G z_int
  z_bool := PySem.W.mg_none_of X G z_bool
  z_tuple := PySem.W.mg_none_of X G z_tuple
  z_list := PySem.W.mg_none_of X G z_list
  z_isinstance := PySem.W.mg_none_of X G z_isinstance
  z_abs := PySem.W.mg_none_of X G z_abs
  z_max := PySem.W.mg_none_of X G z_max
  z_min := PySem.W.mg_none_of X G z_min
  z_sum := PySem.W.mg_none_of X G z_sum
  z_enumerate := PySem.W.mg_none_of X G z_enumerate
  z_repr := PySem.W.mg_none_of X G z_repr
  z_zip := PySem.W.mg_none_of X G z_zip
  g_gcd := PySem.W.mg_of X G a_gcd

section
variable {P : Program} {w : World} {K : PySem.W.Frag} {mg : Str → Option Value} {base : Heap}
/-- a drawn number below many -/
def spPick : Sp := fun vs H Q _ => ∃ (G : Hp) (d c : Addr) (many : Int), vs = [.ref d, .int many] ∧ Kn G H d c ∧ many < 1073741824 ∧
  ∀ (r : Int) (H' : Hp), Kn G H' d c → 0 ≤ r → (r < many ∨ (r = 0 ∧ many ≤ 1)) → Q (.int r) H'
theorem ok_pick (T : Tx K mg) : FnOk P w K mg base CX0 1 T.f_l_pick T.d_l_pick ["_law_source_here", "_law_many"] spPick := by
  refine T.F_l_pick.ok sc_l_pick (fun vs H Q E h => ?_) (fun cdv A outer s H vs Q E hr h => ?_)
  · obtain ⟨G, d, c, many, rfl, _⟩ := h
    rfl
  · obtain ⟨G, d, c, many, rfl, k, hm, q⟩ := h
    have hu := hu_of hr
    refine ⟨_, (pss_cons (ps_while PassesOwn.never (PW.pt (pw_and (pt_cmpR op_gt (pv 1) pe_int (nomark _)) (pw_and (pt_cmpR op_lt (pe_dget hu (pv 0) pe_str (fun _ _ => rfl)) pe_int (nomark _)) (pw_and1 (pt_cmpR op_gt (pe_callB call_len_seq (by rfl) T.z_len PySem.boot_len (pa_cons (pe_dget hu (pv 0) pe_str (fun _ _ => rfl)) pa_nil)) pe_int (nomark _)))))) (pss_one (ps_dput hu (pv 0) pe_str (pe_bm0 PySem.F.plainAttrs_list PySem.F.slot_list_pop PySem.F.type_list_pop mt_pop (pe_dget hu (pv 0) pe_str (fun _ _ => rfl))) rfl)))
    (pss_cons (ps_set (i := 2) sc_l_pick.nd rfl (Or.inl rfl) (pe_dget hu (pv 0) pe_str (fun _ _ => rfl)))
    (pss_cons (ps_if (PW.pt (pw_or (pt_cmpR op_lt (pv 1) pe_int (nomark _)) (pw_or1 (pt_cmpR op_gt (pv 2) pe_int (nomark _))))) (pss_cons (ps_dput hu (pv 0) pe_str (pe_op op_fdiv (pv 2) (pe_callB (call_max2 rfl) (by rfl) T.z_max (by decide +kernel) (pa_cons pe_int (pa_cons (pv 1) pa_nil)))) rfl)
    (pss_one (ps_ret (pe_op op_mod (pe_callTy call_int1 (by rfl) T.z_int (by decide +kernel) (pa_cons (pv 2) pa_nil)) (pe_callB (call_max2 rfl) (by rfl) T.z_max (by decide +kernel) (pa_cons pe_int (pa_cons (pv 1) pa_nil))))))) pss_nil)
    (pss_cons (ps_dput hu (pv 0) pe_str (pe_op op_add (pe_dget hu (pv 0) pe_str (fun _ _ => rfl)) pe_int) rfl)
    (pss_cons (ps_set (i := 3) sc_l_pick.nd rfl (Or.inl rfl) (pe_op op_mod (pe_callTy call_int1 (by rfl) T.z_int (by decide +kernel) (pa_cons (pe_op op_add (pe_dget hu (pv 0) pe_str (fun _ _ => rfl)) (pe_op op_mul (pe_dget hu (pv 0) pe_str (fun _ _ => rfl)) pe_int)) pa_nil)) pe_int))
    (pss_cons (ps_set (i := 3) sc_l_pick.nd rfl (Or.inl rfl) (pe_op op_mod (pe_callTy call_int1 (by rfl) T.z_int (by decide +kernel) (pa_cons (pe_op op_add (pe_op op_mul (pv 3) (pv 3)) (pe_op op_mul (pe_dget hu (pv 0) pe_str (fun _ _ => rfl)) pe_int)) pa_nil)) pe_int))
    (pss_cons (ps_dput hu (pv 0) pe_str (pv 3) rfl)
    (pss_one (ps_ret (pe_op op_mod (pe_callTy call_int1 (by rfl) T.z_int (by decide +kernel) (pa_cons (pe_op op_fdiv (pv 3) pe_int) pa_nil)) (pv 1))))))))))), ?_⟩
    obtain ⟨xs, l, m, t, e1, e2, e3, e4, e5, e6, e7⟩ := id k.src
    refine ⟨fun n σ H' => ∃ (xs : List Int) (l m t : Int), σ = [some (.ref d), some (.int many), none, none] ∧ n = xs.length ∧ Kn G H' d c ∧ H' d = some (.dK (srcK c l m t)) ∧ H' c = some (.lst (xs.map V.int)) ∧ xs.length ≤ 63 ∧ (∀ x ∈ xs, 0 ≤ x) ∧ 0 ≤ l ∧ 0 ≤ m ∧ m < 2147483647,
      ⟨xs.length, xs, l, m, t, rfl, rfl, k, e1, e2, e3, e4, e5, e6, e7⟩, fun n σ H' hW => ?_⟩
    obtain ⟨xs, l, m, t, rfl, rfl, k, e1, e2, e3, e4, e5, e6, e7⟩ := hW
    have ncd : c ≠ d := k.src.ne
    have vd : ∀ (a b : Option V), Val (tVar 0) [some (.ref d), some (.int many), a, b] H' (.ref d) := fun a b => val_var rfl
    -- while many > 1 and left < 2 and len(cells) > 0
    refine ans_and2 (b1 := decide (1 < many)) (b2 := decide (l < 2) && decide (0 < (xs.length : Int))) (ans_cmp (val_var rfl) val_c fun Q q => ⟨_, _, rfl, rfl, q⟩)
      (ans_and2 (ans_cmp (x := .int l) (val_dget (vd _ _) val_c (get_left e1)) val_c fun Q q => ⟨_, _, rfl, rfl, q⟩)
        (ans_cmp (x := .int (xs.length : Int)) (val_cb1 (val_dget (vd _ _) val_c (get_cells e1)) fun Q q => ⟨c, _, rfl, .inl (SqL.of e2), by rw [List.length_map]; exact q⟩) val_c fun Q q => ⟨_, _, rfl, rfl, q⟩)) _ ?_
    refine ite2 (fun hb => ?_) (fun hb => ?_)
    · -- a cell is taken
      have hlen : 0 < xs.length := by
        simp only [Bool.and_eq_true, decide_eq_true_eq] at hb
        omega
      obtain ⟨ys, y, rfl⟩ : ∃ ys y, xs = ys ++ [y] := ⟨xs.dropLast, xs.getLast (List.ne_nil_of_length_pos hlen), (List.dropLast_concat_getLast _).symm⟩
      have hy : 0 ≤ y := e4 y (by simp)
      refine ⟨fun σ H2 => ∃ (xs : List Int) (l m t : Int), σ = [some (.ref d), some (.int many), none, none] ∧ xs.length < (ys ++ [y]).length ∧ Kn G H2 d c ∧ H2 d = some (.dK (srcK c l m t)) ∧ H2 c = some (.lst (xs.map V.int)) ∧ xs.length ≤ 63 ∧ (∀ x ∈ xs, 0 ≤ x) ∧ 0 ≤ l ∧ 0 ≤ m ∧ m < 2147483647, fun σ2 H2 hN => ?_, ?_⟩
      · obtain ⟨zs, l', m', t', rfl, h1, h2⟩ := hN
        exact ⟨zs.length, h1, zs, l', m', t', rfl, rfl, h2⟩
      · refine ⟨.ref d, rfl, d, .ref c, rfl, get_cells e1, .inl ⟨rfl, _, SqL.of e2⟩, c, (ys ++ [y]).map V.int, .int y, rfl, rfl, e2, ?_, ?_⟩
        · rw [List.length_map, List.length_append, List.map_append]
          simp
        · have e2' : ((ys ++ [y]).map V.int).dropLast = ys.map V.int := by simp
          rw [e2']
          have f1 : (upd H' c (.lst (ys.map V.int))) d = some (.dK (srcK c l m t)) := by rw [upd_ne ncd.symm]; exact e1
          refine ⟨.ref d, rfl, d, _, rfl, dput_left f1, ?_⟩
          have g1 : (upd (upd H' c (.lst (ys.map V.int))) d (.dK (srcK c y m t))) d = some (.dK (srcK c y m t)) := upd_same
          have g2 : (upd (upd H' c (.lst (ys.map V.int))) d (.dK (srcK c y m t))) c = some (.lst (ys.map V.int)) := by rw [upd_ne ncd, upd_same]
          have hl : ys.length ≤ 63 := by simp at e3; omega
          have hn : ∀ x ∈ ys, 0 ≤ x := fun x hx => e4 x (by simp [hx])
          refine ⟨ys, y, m, t, rfl, by simp, ⟨fun b o e => ?_, k.gd, k.gc, ⟨ys, y, m, t, g1, g2, hl, hn, hy, e6, e7⟩⟩, g1, g2, hl, hn, hy, e6, e7⟩
          have nb1 : b ≠ d := fun z => by rw [z, k.gd] at e; cases e
          have nb2 : b ≠ c := fun z => by rw [z, k.gc] at e; cases e
          rw [upd_ne nb1, upd_ne nb2]
          exact k.le _ _ e
    · -- behind the loop
      have setk : ∀ (l' m' t' : Int), 0 ≤ l' → 0 ≤ m' → m' < 2147483647 → ∀ H2, (∀ b, b ≠ d → H2 b = H' b) → H2 d = some (.dK (srcK c l' m' t')) → Kn G H2 d c := fun l' m' t' h1 h2 h3 H2 hH hd =>
        ⟨fun b o e => by rw [hH b (fun z => by rw [z, k.gd] at e; cases e)]; exact k.le _ _ e, k.gd, k.gc, ⟨xs, l', m', t', hd, by rw [hH c ncd]; exact e2, e3, e4, h1, h2, h3⟩⟩
      have hmx : 0 < (if many > 1 then many else 1) := by split <;> omega
      have hmx2 : (if many > 1 then many else 1) < 1073741824 := by split <;> omega
      -- left = source["left"]; if many < 2 or left > 1
      refine ⟨.ref d, rfl, d, _, rfl, get_left e1, ?_⟩
      refine ans_or2 (b1 := decide (many < 2)) (b2 := decide (1 < l)) (ans_cmp (val_var rfl) val_c fun Q q => ⟨_, _, rfl, rfl, q⟩) (ans_cmp (val_var rfl) val_c fun Q q => ⟨_, _, rfl, rfl, q⟩) _ ?_
      refine ite2 (fun hb => ?_) (fun hb => ?_)
      · -- a digit of what is left
        refine ⟨.int l, rfl, .int many, rfl, 1, many, rfl, l, _, rfl, rfl, ⟨hmx, hmx2⟩, .ref d, rfl, d, _, rfl, dput_left e1, ?_⟩
        refine ⟨.int l, rfl, .inl ⟨_, rfl, .int many, rfl, 1, many, rfl, l, _, rfl, rfl, hmx, ?_⟩⟩
        refine q _ _ (setk _ _ _ (Int.ediv_nonneg e5 (Int.le_of_lt hmx)) e6 e7 _ (fun b hb => upd_ne hb) upd_same) (Int.emod_nonneg _ (Int.ne_of_gt hmx)) ?_
        have hlt := Int.emod_lt_of_pos l hmx
        by_cases h : many > 1
        · rw [if_pos h] at hlt ⊢
          exact .inl hlt
        · rw [if_neg h] at hlt ⊢
          exact .inr ⟨by omega, by omega⟩
      · -- mixed anew
        have hb1 : ¬ many < 2 := fun h => hb (by simp [h])
        refine ⟨.ref d, rfl, d, _, rfl, get_turn e1, t, 1, rfl, rfl, .ref d, rfl, d, _, rfl, dput_turn e1, ?_⟩
        have f1 : (upd H' d (.dK (srcK c l m (t + 1)))) d = some (.dK (srcK c l m (t + 1))) := upd_same
        refine ⟨.ref d, rfl, d, _, rfl, get_mixed f1, .ref d, rfl, d, _, rfl, get_turn f1, t + 1, 104729, rfl, rfl, .inr ⟨by decide, by decide⟩, m, _, rfl, rfl, .inl ⟨_, rfl, _, _, rfl, rfl, (by show (0 : Int) < 998244353; decide), ?_⟩⟩
        have b0 : 0 ≤ (m + (t + 1) * 104729) % 998244353 := Int.emod_nonneg _ (by decide)
        have b1 : (m + (t + 1) * 104729) % 998244353 < 998244353 := Int.emod_lt_of_pos _ (by decide)
        refine ⟨_, rfl, _, rfl, (m + (t + 1) * 104729) % 998244353, (m + (t + 1) * 104729) % 998244353, rfl, rfl, .inl ⟨by omega, by omega⟩, .ref d, rfl, d, _, rfl, get_turn f1, t + 1, 17, rfl, rfl, .inr ⟨by decide, by decide⟩, _, _, rfl, rfl, .inl ⟨_, rfl, _, _, rfl, rfl, (by show (0 : Int) < 2147483647; decide), ?_⟩⟩
        have b2 : 0 ≤ ((m + (t + 1) * 104729) % 998244353 * ((m + (t + 1) * 104729) % 998244353) + (t + 1) * 17) % 2147483647 := Int.emod_nonneg _ (by decide)
        have b3 : ((m + (t + 1) * 104729) % 998244353 * ((m + (t + 1) * 104729) % 998244353) + (t + 1) * 17) % 2147483647 < 2147483647 := Int.emod_lt_of_pos _ (by decide)
        refine ⟨_, rfl, .ref d, rfl, d, _, rfl, dput_mixed f1, ?_⟩
        refine ⟨_, rfl, _, 16, rfl, rfl, ⟨by decide, by decide⟩, .inl ⟨_, rfl, .int many, rfl, _, _, rfl, rfl, (by show (0 : Int) < many; omega), ?_⟩⟩
        exact q _ _ (setk l _ (t + 1) e5 b2 b3 _ (fun b hb => by rw [upd_ne hb, upd_ne hb]) upd_same) (Int.emod_nonneg _ (by omega)) (.inl (Int.emod_lt_of_pos _ (by omega)))
end

section
variable {P : Program} {w : World} {K : PySem.W.Frag} {mg : Str → Option Value} {base : Heap}
def absI (z : Int) : Int := if z < 0 then -z else z
def spSource (K : PySem.W.Frag) : Sp := fun vs H Q _ => ∃ (a : Addr) (ns : List Int), vs = [.ref a] ∧ SqL K H a (ns.map V.int) ∧ ns.length ≤ 63 ∧ ∀ (d c : Addr) (H' : Hp), Kn H H' d c → Q (.ref d) H'
theorem ok_source (T : Tx K mg) : FnOk P w K mg base CX0 1 T.f_l_source T.d_l_source ["_law_script"] (spSource K) := by
  refine T.F_l_source.ok sc_l_source (fun vs H Q E h => ?_) (fun cdv A outer s H vs Q E hr h => ?_)
  · obtain ⟨a, ns, rfl, _⟩ := h
    rfl
  · obtain ⟨a, ns, rfl, hS, hlen, q⟩ := h
    have hu := hu_of hr
    refine ⟨_, (pss_cons (ps_set (i := 1) sc_l_source.nd rfl (Or.inl rfl) pe_int)
    (pss_cons (ps_for PassesOwn.never rfl (pi_list (pv 0)) (pg_name (i := 2) sc_l_source.nd rfl (Or.inl rfl))
    (pss_one (ps_set (i := 1) sc_l_source.nd rfl (Or.inl rfl) (pe_op op_mod (pe_callTy call_int1 (by rfl) T.z_int (by decide +kernel) (pa_cons (pe_op op_add (pe_op op_add (pe_op op_mul (pv 1) pe_int) (pe_op op_mul (pv 2) pe_int)) pe_int) pa_nil)) pe_int))))
    (pss_one (ps_ret (pe_disp (pps_cons pe_str (pe_revL (pe_lc (own := [("_law_cell", 2)]) (g := gName 2) rfl sc_l_source.nd (pi_list (pv 0)) (blkOk_by (own := [("_law_cell", 2)]) (N := ["_law_script", "_law_mixed", "_law_cell"]) (sc := defScope s_l_source) (by decide +kernel)) (fun _ _ _ _ _ => (pg_name (i := 2) sc_l_source.nd rfl (Or.inl rfl))) (fun _ _ _ _ _ => pts_nil) (fun _ _ _ _ _ => (pe_callB call_abs (by rfl) T.z_abs (by decide +kernel) (pa_cons (pv 2) pa_nil))))) (pps_cons pe_str pe_int (pps_cons pe_str (pv 1) (pps_cons pe_str pe_int pps_nil)))) (by rfl) (by rfl) (fun z => by cases z) (by decide)))))), ?_⟩
    refine ⟨.ref a, rfl, a, rfl, ⟨_, hS⟩, for_list (K := K) (a := a) (xs := ns.map V.int) (fun i σ H' => ∃ (m : Int) (v : Option V), σ = [some (.ref a), some (.int m), v] ∧ H' = H ∧ 0 ≤ m ∧ m < 2147483647)
      ⟨11, none, rfl, rfl, by decide, by decide⟩ (fun i σ H' _ ⟨_, _, _, e, _⟩ => e ▸ hS) ?_ ?_⟩
    · rintro i y σ H' hi ⟨m, v, rfl, rfl, m0, m1⟩
      obtain ⟨z, rfl, hz⟩ := ints_at hi
      refine ⟨.int m, rfl, m, 69069, rfl, rfl, .inl ⟨by omega, by omega⟩, .int z, rfl, z, 31, rfl, rfl, .inr ⟨by decide, by decide⟩, _, _, rfl, rfl, _, _, rfl, rfl, .inl ⟨_, rfl, _, _, rfl, rfl, (by show (0 : Int) < 2147483629; decide), ?_⟩⟩
      exact ⟨_, _, rfl, rfl, Int.emod_nonneg _ (by decide), Int.lt_trans (Int.emod_lt_of_pos _ (by decide)) (by decide : (2147483629 : Int) < 2147483647)⟩
    · rintro σ H' ⟨m, v, rfl, rfl, m0, m1⟩
      intro d hd
      have sd : Same H' (upd H' d (.dK [])) := same_new hd
      refine ⟨.ref a, rfl, a, rfl, ⟨_, sd.seq hS⟩, fun D hD => ?_⟩
      have hDd : d ≠ D := fun e => by rw [← e, upd_same] at hD; cases hD
      have hD0 : H' D = none := sd.free hD
      have sD : Same (upd H' d (.dK [])) (upd (upd H' d (.dK [])) D (.lst [])) := same_new hD
      refine lc_list (K := K) (a := a) (xs := ns.map V.int) (fun i H2 => H2 = upd (upd H' d (.dK [])) D (.lst (((ns.take i).map absI).map V.int))) rfl (fun i H2 _ e => ?_) ?_ ?_
      · subst e
        exact (sd.trans (same_new hD)).seq hS
      · rintro i y H2 hi rfl
        obtain ⟨z, rfl, hz⟩ := ints_at hi
        refine ⟨rfl, tyes ?_⟩
        refine ⟨.int z, rfl, z, rfl, _, upd_same, ?_, ?_⟩
        · rw [List.length_map, List.length_map, List.length_take]
          exact Nat.lt_of_le_of_lt (Nat.min_le_right _ _) (small1000 (by omega))
        · show upd (upd (upd H' d (.dK [])) D _) D _ = _
          rw [upd_upd, List.take_add_one, hz, List.map_append, List.map_append]
          rfl
      · rintro H2 rfl
        rw [List.length_map, List.take_length]
        refine ⟨D, _, rfl, .inl (.inl upd_same), fun c hc => ?_⟩
        have hcd : c ≠ d := fun e => by rw [e, upd_ne hDd, upd_same] at hc; cases hc
        have hcD : c ≠ D := fun e => by rw [e, upd_same] at hc; cases hc
        have hc0 : H' c = none := by rw [upd_ne hcD, upd_ne hcd] at hc; exact hc
        refine ⟨_, rfl, ?_⟩
        refine ⟨by rw [upd_ne hcd.symm, upd_ne hDd]; exact upd_same, srcK c 1 m 0, rfl, by show 4 ≤ 15; decide, ?_⟩
        rw [merge_src]
        refine q d c _ ⟨fun b o e => ?_, hd, hc0, ⟨((ns.map absI).reverse), 1, m, 0, upd_same, ?_, ?_, ?_, by decide, m0, m1⟩⟩
        · rw [upd_ne (ne_of_none e hd), upd_ne (ne_of_none e hc0), upd_ne (ne_of_none e hD0), upd_ne (ne_of_none e hd)]
          exact e
        · rw [upd_ne hcd, upd_same, List.map_reverse]
        · rw [List.length_reverse, List.length_map]
          exact hlen
        · intro x hx
          rw [List.mem_reverse, List.mem_map] at hx
          obtain ⟨z, _, rfl⟩ := hx
          unfold absI
          split <;> omega
end

section
variable {P : Program} {w : World} {K : PySem.W.Frag} {mg : Str → Option Value} {base : Heap}
/-- a drawn member of a list -/
def spOf (K : PySem.W.Frag) : Sp := fun vs H Q _ => ∃ (G : Hp) (d c a : Addr) (xs : List V), vs = [.ref d, .ref a] ∧ Kn G H d c ∧ SqL K G a xs ∧ 0 < xs.length ∧ xs.length ≤ 100000 ∧
  ∀ (x : V) (H' : Hp), Kn G H' d c → x ∈ xs → Q x H'
theorem ok_of (T : Tx K mg) : FnOk P w K mg base CX0 2 T.f_l_of T.d_l_of ["_law_source_here", "_law_some"] (spOf K) := by
  have G_l_pick := ok_pick (P := P) (w := w) (base := base) T
  refine T.F_l_of.ok sc_l_of (fun vs H Q E h => ?_) (fun cdv A outer s H vs Q E hr h => ?_)
  · obtain ⟨G, d, c, a, xs, rfl, _⟩ := h
    rfl
  · obtain ⟨G, d, c, a, xs, rfl, k, hS, h0, h1, q⟩ := h
    refine ⟨_, (pss_one (ps_ret (pe_ix ix_list (pv 1) (pe_call G_l_pick (hr.mono (by decide)) (by rfl) T.g_l_pick T.F_l_pick.kp T.b_l_pick .nil pass0 (pa_cons (pv 0) (pa_cons (pe_callB call_len_seq (by rfl) T.z_len PySem.boot_len (pa_cons (pv 1) pa_nil)) pa_nil))) (fun _ _ => rfl)))), ?_⟩
    refine ⟨.ref a, rfl, .ref d, rfl, .ref a, rfl, a, xs, rfl, .inl (k.le.seq hS), G, d, c, xs.length, rfl, k, by omega, fun r H' k' r0 r1 => ?_⟩
    obtain ⟨j, rfl⟩ : ∃ j : Nat, r = j := ⟨r.toNat, by omega⟩
    have hj : j < xs.length := by omega
    refine ⟨a, xs, (j : Int), xs[j], rfl, rfl, k'.le.seq hS, atI_nat (List.getElem?_eq_getElem hj), ?_⟩
    exact q _ _ k' (List.getElem_mem hj)
end

section
variable {P : Program} {w : World} {K : PySem.W.Frag} {mg : Str → Option Value} {base : Heap}
theorem pn_ : ¬ (("_p" : Str) = "_n") := by decide +kernel
/-- the attributes of a Ground -/
def gf (p n : Int) : List (Str × V) := putF "_n" (.int n) (putF "_p" (.int p) [])
theorem gf_p (p n : Int) : (gf p n).lookup ("_p" : Str) = some (.int p) := by
  unfold gf
  rw [lookup_putF, if_neg pn_, lookup_putF, if_pos rfl]
theorem gf_n (p n : Int) : (gf p n).lookup ("_n" : Str) = some (.int n) := by
  unfold gf
  rw [lookup_putF, if_pos rfl]
theorem gf_no (p n : Int) {m : Str} (h1 : ¬ m = "_n") (h2 : ¬ m = "_p") : (gf p n).lookup m = none := by
  unfold gf
  rw [lookup_putF, if_neg h1, lookup_putF, if_neg h2]
  all_goals rfl
theorem no_p (p n : Int) : (gf p n).lookup ("p" : Str) = none := gf_no p n (by decide +kernel) (by decide +kernel)
theorem no_n (p n : Int) : (gf p n).lookup ("n" : Str) = none := gf_no p n (by decide +kernel) (by decide +kernel)
/-- a Ground of p and n stands at g -/
def Gd (C : Addr) (H : Hp) (g : Addr) (p n : Int) : Prop := ∃ dx, H g = some (.ins C dx (gf p n))
theorem Gd.mono {C : Addr} {H H' : Hp} {g : Addr} {p n : Int} (h : Gd C H g p n) (e : Same H H') : Gd C H' g p n := let ⟨dx, q⟩ := h; ⟨dx, e _ _ q⟩
/-- a number's own sentence -/
def Prm (p : Int) : Prop := 2 ≤ p ∧ p < 1073741824 ∧ ∀ d : Int, 2 ≤ d → d * d ≤ p → p % d ≠ 0
def spIsNum : Sp := fun vs H Q _ => ∃ n : Int, vs = [.int n] ∧ Q (.bl (decide (0 ≤ n))) H
theorem ok_is_number (T : Tx K mg) : FnOk P w K mg base CX0 1 T.f_is_number T.d_is_number ["value"] spIsNum := by
  refine T.F_is_number.ok sc_is_number (fun vs H Q E h => ?_) (fun cdv A outer s H vs Q E hr h => ?_)
  · obtain ⟨n, rfl, _⟩ := h
    rfl
  · obtain ⟨n, rfl, q⟩ := h
    refine ⟨_, (pss_one (ps_ret (pe_and (pe_callB call_isi (by rfl) T.z_isinstance (by decide +kernel) (pa_cons (pv 0) (pa_cons (pe_bltn (v := .ty "int") (by rfl) T.z_int (by decide +kernel) rfl) pa_nil))) (pe_and (pe_not (pe_callB call_isi (by rfl) T.z_isinstance (by decide +kernel) (pa_cons (pv 0) (pa_cons (pe_bltn (v := .ty "bool") (by rfl) T.z_bool (by decide +kernel) rfl) pa_nil)))) (pe_one (pe_cmpR op_ge (pv 0) pe_int (nomark _))))))), ?_⟩
    refine ⟨.int n, rfl, .int n, .ty "int", _, _, true, rfl, .ty _, .base (.int n), kit_ty (by decide +kernel), true, rfl, iteT ?_⟩
    refine ⟨.int n, rfl, .int n, .ty "bool", _, _, false, rfl, .ty _, .base (.int n), kit_ty (by decide +kernel), false, rfl, true, rfl, iteT ?_⟩
    exact ⟨.int n, rfl, _, _, rfl, rfl, q⟩
def spIsPrime : Sp := fun vs H Q _ => ∃ p : Int, vs = [.int p] ∧ Prm p ∧ Q (.bl true) H
theorem ok_is_prime (T : Tx K mg) : FnOk P w K mg base CX0 2 T.f_is_prime T.d_is_prime ["value"] spIsPrime := by
  have G_is_number := ok_is_number (P := P) (w := w) (base := base) T
  refine T.F_is_prime.ok sc_is_prime (fun vs H Q E h => ?_) (fun cdv A outer s H vs Q E hr h => ?_)
  · obtain ⟨p, rfl, _⟩ := h
    rfl
  · obtain ⟨p, rfl, ⟨p2, p3, hp⟩, q⟩ := h
    refine ⟨_, (pss_cons (ps_if (PW.pt (pw_or (pt_not (pt_val (pe_call G_is_number (hr.mono (by decide)) (by rfl) T.g_is_number T.F_is_number.kp T.b_is_number .nil pass0 (pa_cons (pv 0) pa_nil)))) (pw_or1 (pt_cmpR op_lt (pv 0) pe_int (nomark _))))) (pss_one (ps_ret pe_bl)) pss_nil)
    (pss_cons (ps_set (i := 1) sc_is_prime.nd rfl (Or.inl rfl) pe_int)
    (pss_cons (ps_while PassesOwn.never (pt_cmpR op_le (pe_op op_mul (pv 1) (pv 1)) (pv 0) (nomark _)) (pss_cons (ps_if (pt_cmpR op_eq (pe_op op_mod (pv 0) (pv 1)) pe_int (nomark _)) (pss_one (ps_ret pe_bl)) pss_nil)
    (pss_one (ps_aug (i := 1) sc_is_prime.nd rfl (Or.inl rfl) pe_int ip_add))))
    (pss_one (ps_ret pe_bl))))), ?_⟩
    refine ⟨.int p, rfl, p, rfl, true, by rw [decide_eq_true (by omega)], iteF ?_⟩
    refine ⟨.int p, rfl, p, 2, rfl, rfl, _, rfl, ?_⟩
    rw [decide_eq_false (by omega : ¬ p < 2)]
    refine iteF ?_
    refine ⟨fun m σ H' => ∃ d : Int, σ = [some (.int p), some (.int d)] ∧ m = (p + 1 - d).toNat ∧ H' = H ∧ 2 ≤ d ∧ d ≤ p, ⟨_, 2, rfl, rfl, rfl, by decide, p2⟩, fun m σ H' hW => ?_⟩
    obtain ⟨d, rfl, rfl, rfl, d2, d3⟩ := hW
    refine ⟨.int d, rfl, .int d, rfl, d, d, rfl, rfl, .inl ⟨by omega, by omega⟩, .int p, rfl, _, _, rfl, rfl, _, rfl, ?_⟩
    refine ite2 (fun hb => ?_) (fun hb => ?_)
    · have hb' : d * d ≤ p := of_decide_eq_true hb
      have hlt : d < p := by
        have h2 : 2 * d ≤ d * d := Int.mul_le_mul_of_nonneg_right d2 (by omega)
        omega
      refine ⟨fun σ H2 => ∃ e : Int, σ = [some (.int p), some (.int e)] ∧ (p + 1 - e).toNat < (p + 1 - d).toNat ∧ H2 = H' ∧ 2 ≤ e ∧ e ≤ p, fun σ2 H2 hN => ?_, ?_⟩
      · obtain ⟨e, rfl, h1, rfl, h2, h3⟩ := hN
        exact ⟨_, h1, e, rfl, rfl, rfl, h2, h3⟩
      · refine ⟨.int p, rfl, .int d, rfl, p, d, rfl, rfl, (by show (0 : Int) < d; omega), rfl, _, rfl, ?_⟩
        have hne : ¬ (V.int (p % d) = V.int 0) := fun z => hp d d2 hb' (V.int.inj z)
        show (if decide (V.int (p % d) = V.int 0) = true then _ else _)
        rw [decide_eq_false hne]
        refine iteF ?_
        exact ⟨_, rfl, d, 1, rfl, rfl, d + 1, rfl, by omega, rfl, by omega, by omega⟩
    · exact q
/-- Ground.__init__ of a prime and a number -/
def spInit (C : Addr) : Sp := fun vs H Q _ => ∃ (x dx : Addr) (p n : Int), vs = [.ref x, .int p, .int n] ∧ H x = some (.ins C dx []) ∧ Prm p ∧ 0 ≤ n ∧ ∀ H' : Hp, H' x = some (.ins C dx (gf p n)) → (∀ b, b ≠ x → H' b = H b) → Q .non H'
theorem ok_init (T : Tx K mg) : FnOk P w K mg base CX0 3 T.f_Ground_init T.d_Ground_init ["self", "p", "n"] (spInit T.C_Ground) := by
  have G_is_number := ok_is_number (P := P) (w := w) (base := base) T
  have G_is_prime := ok_is_prime (P := P) (w := w) (base := base) T
  refine T.F_Ground_init.ok sc_Ground_init (fun vs H Q E h => ?_) (fun cdv A outer s H vs Q E hr h => ?_)
  · obtain ⟨x, dx, p, n, rfl, _⟩ := h
    rfl
  · obtain ⟨x, dx, p, n, rfl, hx, hp, hn, q⟩ := h
    refine ⟨_, (pss_cons (ps_if (pt_not (pt_val (pe_call G_is_prime (hr.mono (by decide)) (by rfl) T.g_is_prime T.F_is_prime.kp T.b_is_prime .nil pass0 (pa_cons (pv 1) pa_nil)))) (pss_one ps_never) pss_nil)
    (pss_cons (ps_if (pt_not (pt_val (pe_call G_is_number (hr.mono (by decide)) (by rfl) T.g_is_number T.F_is_number.kp T.b_is_number .nil pass0 (pa_cons (pv 2) pa_nil)))) (pss_one ps_never) pss_nil)
    (pss_cons (ps_fld (pv 0) (pv 1) rfl)
    (pss_one (ps_fld (pv 0) (pv 2) rfl))))), ?_⟩
    refine ⟨.int p, rfl, p, rfl, hp, true, rfl, iteF ?_⟩
    refine ⟨.int n, rfl, n, rfl, true, by rw [decide_eq_true hn], iteF ?_⟩
    refine ⟨.int p, rfl, .ref x, rfl, x, T.C_Ground, dx, [], rfl, hx, T.cl_Ground, T.n_Ground_p, (by show 0 < 1000; decide), ?_⟩
    refine ⟨.int n, rfl, .ref x, rfl, x, T.C_Ground, dx, _, rfl, upd_same, T.cl_Ground, T.n_Ground_n, (by show 1 < 1000; decide), ?_⟩
    exact q _ upd_same fun b hb => by rw [upd_ne hb, upd_ne hb]
def spP (C : Addr) : Sp := fun vs H Q _ => ∃ (g : Addr) (p n : Int), vs = [.ref g] ∧ Gd C H g p n ∧ Q (.int p) H
theorem ok_p (T : Tx K mg) : FnOk P w K mg base CX0 1 T.f_Ground_p T.d_Ground_p ["self"] (spP T.C_Ground) := by
  refine T.F_Ground_p.ok sc_Ground_p (fun vs H Q E h => ?_) (fun cdv A outer s H vs Q E hr h => ?_)
  · obtain ⟨g, p, n, rfl, _⟩ := h
    rfl
  · obtain ⟨g, p, n, rfl, ⟨dx, hg⟩, q⟩ := h
    refine ⟨_, (pss_one (ps_ret (pe_fld (pv 0) rfl))), ?_⟩
    exact ⟨.ref g, rfl, g, T.C_Ground, dx, _, _, rfl, hg, T.cl_Ground, T.n_Ground_p, gf_p p n, q⟩
def spN (C : Addr) : Sp := fun vs H Q _ => ∃ (g : Addr) (p n : Int), vs = [.ref g] ∧ Gd C H g p n ∧ Q (.int n) H
theorem ok_n (T : Tx K mg) : FnOk P w K mg base CX0 1 T.f_Ground_n T.d_Ground_n ["self"] (spN T.C_Ground) := by
  refine T.F_Ground_n.ok sc_Ground_n (fun vs H Q E h => ?_) (fun cdv A outer s H vs Q E hr h => ?_)
  · obtain ⟨g, p, n, rfl, _⟩ := h
    rfl
  · obtain ⟨g, p, n, rfl, ⟨dx, hg⟩, q⟩ := h
    refine ⟨_, (pss_one (ps_ret (pe_fld (pv 0) rfl))), ?_⟩
    exact ⟨.ref g, rfl, g, T.C_Ground, dx, _, _, rfl, hg, T.cl_Ground, T.n_Ground_n, gf_n p n, q⟩
/-- a new Ground, all else as it was -/
theorem made_same {C x dx : Addr} {H H1 : Hp} {p n : Int} (nx : H x = none) (nd : H dx = none) (ne : dx ≠ x) (hx : H1 x = some (.ins C dx (gf p n))) (k : ∀ b, b ≠ x → H1 b = (upd (upd H dx (.own x)) x (.ins C dx [])) b) : Same H H1 := fun b o e => by
  have h1 : b ≠ x := ne_of_none e nx
  rw [k b h1, upd_ne h1, upd_ne (ne_of_none e nd)]
  exact e
end

section
variable {P : Program} {w : World} {K : PySem.W.Frag} {mg : Str → Option Value} {base : Heap}
def spPower : Sp := fun vs H Q _ => ∃ b e : Int, vs = [.int b, .int e] ∧ 0 ≤ b ∧ b < 1000000 ∧ 0 ≤ e ∧ e < 1000000 ∧ Q (.int (b ^ e.toNat)) H
theorem ok_power (T : Tx K mg) : FnOk P w K mg base CX0 1 T.f_power T.d_power ["base", "exponent"] spPower := by
  refine T.F_power.ok sc_power (fun vs H Q E h => ?_) (fun cdv A outer s H vs Q E hr h => ?_)
  · obtain ⟨b, e, rfl, _⟩ := h
    rfl
  · obtain ⟨b, e, rfl, b0, b1, e0, e1, q⟩ := h
    refine ⟨_, (pss_cons (ps_set (i := 2) sc_power.nd rfl (Or.inl rfl) pe_int)
    (pss_cons (ps_for PassesOwn.never rfl (pi_range1 rfl T.z_range (pa_cons (pv 1) pa_nil)) (pg_name (i := 3) sc_power.nd rfl (Or.inl rfl))
    (pss_one (ps_set (i := 2) sc_power.nd rfl (Or.inl rfl) (pe_op op_mul (pv 2) (pv 0)))))
    (pss_one (ps_ret (pv 2))))), ?_⟩
    refine ⟨.int e, rfl, e, rfl, by omega, by omega, for_range (lo := 0) (n := e.toNat) (fun i σ H' => ∃ (v : Option V) (z : Int), σ = [some (.int b), some (.int e), some (.int z), v] ∧ z = b ^ i ∧ H' = H) ⟨none, 1, rfl, (Int.pow_zero b).symm, rfl⟩ ?_ ?_⟩
    · rintro i σ H' hi ⟨v, z, rfl, rfl, rfl⟩
      exact ⟨_, rfl, .int b, rfl, b ^ i, b, rfl, rfl, .inr ⟨by omega, by omega⟩, _, _, rfl, (Int.pow_succ b i).symm, rfl⟩
    · rintro σ H' ⟨v, z, rfl, rfl, rfl⟩
      exact ⟨_, rfl, q⟩
end

section
variable {P : Program} {w : World} {K : PySem.W.Frag} {mg : Str → Option Value} {base : Heap}
theorem sum_stc (p : Int) : ∀ m, ((List.range m).map fun k => p ^ k).sum = stc p m
  | 0 => rfl
  | m + 1 => by
    rw [List.range_succ, List.map_append, List.sum_append, sum_stc p m]
    show stc p m + (p ^ m + 0) = stc p m + p ^ m
    omega
theorem stc_bd {p : Int} (h2 : 2 ≤ p) : ∀ m, 0 ≤ stc p m ∧ stc p m < p ^ m
  | 0 => ⟨Int.le_refl _, by show (0 : Int) < p ^ 0; rw [Int.pow_zero]; decide⟩
  | m + 1 => by
    obtain ⟨h, h'⟩ := stc_bd h2 m
    have pp : 0 < p ^ m := Int.pow_pos (by omega)
    have e : p ^ (m + 1) = p ^ m * p := Int.pow_succ p m
    have e2 : p ^ m * 2 ≤ p ^ m * p := Int.mul_le_mul_of_nonneg_left h2 (by omega)
    rw [e]
    show 0 ≤ stc p m + p ^ m ∧ stc p m + p ^ m < p ^ m * p
    omega
theorem stc_pos {p : Int} (h2 : 2 ≤ p) (m : Nat) : 1 ≤ stc p (m + 1) := by
  have := (stc_bd h2 m).1
  have pp : 0 < p ^ m := Int.pow_pos (by omega)
  show 1 ≤ stc p m + p ^ m
  omega
theorem stc_2 {p : Int} (h2 : 2 ≤ p) (h13 : p ≤ 13) {m : Nat} (hm : m ≤ 31) : 0 ≤ stc p m ∧ stc p m ≤ 2 ^ 124 := by
  obtain ⟨h, h'⟩ := stc_bd h2 m
  have b := (pow_bd (by omega : 0 ≤ p) h13 m).2
  have b2 : (2 : Int) ^ (4 * m) ≤ 2 ^ 124 := pow_mono2 (by omega)
  exact ⟨h, by generalize (2 : Int) ^ 124 = X at *; omega⟩
theorem prodS_bd {p : Int} (h2 : 2 ≤ p) (h13 : p ≤ 13) : ∀ m, m ≤ 31 → 1 ≤ prodS p m ∧ prodS p m ≤ 2 ^ (124 * m)
  | 0, _ => ⟨Int.le_refl _, by show (1 : Int) ≤ 2 ^ (124 * 0); decide⟩
  | m + 1, hm => by
    obtain ⟨h, h'⟩ := prodS_bd h2 h13 m (by omega)
    have s1 := stc_pos h2 m
    have s2 := (stc_2 h2 h13 (m := m + 1) hm).2
    refine ⟨Int.mul_pos (by omega) (by omega), ?_⟩
    show prodS p m * stc p (m + 1) ≤ 2 ^ (124 * (m + 1))
    rw [show 124 * (m + 1) = 124 * m + 124 by omega, Int.pow_add]
    exact Int.mul_le_mul h' s2 (by omega) (Int.pow_nonneg (by omega))
def spStep (C : Addr) : Sp := fun vs H Q _ => ∃ (g : Addr) (p : Int) (n m : Nat), vs = [.ref g, .int (m : Nat)] ∧ Gd C H g p n ∧ 2 ≤ p ∧ p ≤ 13 ∧ m ≤ 31 ∧ ∀ H', Same H H' → Q (.int (stc p m)) H'
theorem ok_step_count (T : Tx K mg) : FnOk P w K mg base CX0 2 T.f_step_count T.d_step_count ["ground", "m"] (spStep T.C_Ground) := by
  have G_power := ok_power (P := P) (w := w) (base := base) T
  have G_Ground_p := ok_p (P := P) (w := w) (base := base) T
  refine T.F_step_count.ok sc_step_count (fun vs H Q E h => ?_) (fun cdv A0 outer s H vs Q E hr h => ?_)
  · obtain ⟨g, p, n, m, rfl, _⟩ := h
    rfl
  · obtain ⟨g, p, n, m, rfl, hg, p2, p13, m31, q⟩ := h
    refine ⟨_, (pss_one (ps_ret (pe_callB (cr_sum rfl) (by rfl) T.z_sum (by decide +kernel) (pa_cons (pe_lc (own := [("k", 2)]) (g := gName 2) rfl sc_step_count.nd (pi_range1 rfl T.z_range (pa_cons (pv 1) pa_nil)) (blkOk_by (own := [("k", 2)]) (N := ["ground", "m", "k"]) (sc := defScope s_step_count) (by decide +kernel)) (fun _ _ _ _ _ => (pg_name (i := 2) sc_step_count.nd rfl (Or.inl rfl))) (fun _ _ _ _ _ => pts_nil) (fun _ _ _ _ _ => (pe_call G_power (hr.mono (by decide)) (by rfl) T.g_power T.F_power.kp T.b_power .nil pass0 (pa_cons (pe_meth0 (pv 0) T.cl_Ground T.m_Ground_p G_Ground_p (hr.mono (by decide)) T.b_Ground_p .nil pass0) (pa_cons (pv 2) pa_nil))))) pa_nil)))), ?_⟩
    refine ⟨.int (m : Nat), rfl, (m : Int), rfl, by omega, by omega, fun D hD => ?_⟩
    refine lc_range (lo := 0) (n := (m : Int).toNat) (fun i H' => (∀ b x, H b = some x → H' b = some x) ∧ H' D = some (.lst (((List.range i).map fun k => p ^ k).map V.int))) ⟨same_new hD, upd_same⟩ ?_ ?_
    · rintro i H1 hi ⟨sm, hL⟩
      refine ⟨rfl, tyes ?_⟩
      have hg1 := hg.mono sm
      obtain ⟨dx, hi1⟩ := id hg1
      refine ⟨.ref g, rfl, g, dx, _, rfl, hi1, no_p _ _, g, p, n, rfl, hg1, .int (0 + (i : Int)), rfl, p, 0 + (i : Int), rfl, by omega, by omega, by omega, by omega, ?_⟩
      rw [show (0 + (i : Int)).toNat = i by omega]
      refine ⟨_, hL, ?_, fun b x e => ?_, ?_⟩
      · rw [List.length_map, List.length_map, List.length_range]
        exact small1000 (by omega)
      · rw [upd_ne (ne_of_none e hD)]
        exact sm _ _ e
      · rw [upd_same, List.range_succ, List.map_append, List.map_append]
        rfl
    · rintro H1 ⟨sm, hL⟩
      rw [show (m : Int).toNat = m by omega] at hL
      refine nil_i ⟨D, _, rfl, .inl (.inl hL), ?_⟩
      rw [sum_stc]
      exact q _ sm
def spProd (C : Addr) : Sp := fun vs H Q _ => ∃ (g : Addr) (p : Int) (n m : Nat), vs = [.ref g, .int (m : Nat)] ∧ Gd C H g p n ∧ 2 ≤ p ∧ p ≤ 13 ∧ m ≤ 31 ∧ ∀ H', Same H H' → Q (.int (prodS p m)) H'
theorem ok_step_product (T : Tx K mg) : FnOk P w K mg base CX0 3 T.f_step_product T.d_step_product ["ground", "m"] (spProd T.C_Ground) := by
  have G_step_count := ok_step_count (P := P) (w := w) (base := base) T
  refine T.F_step_product.ok sc_step_product (fun vs H Q E h => ?_) (fun cdv A0 outer s H vs Q E hr h => ?_)
  · obtain ⟨g, p, n, m, rfl, _⟩ := h
    rfl
  · obtain ⟨g, p, n, m, rfl, hg, p2, p13, m31, q⟩ := h
    refine ⟨_, (pss_cons (ps_set (i := 2) sc_step_product.nd rfl (Or.inl rfl) pe_int)
    (pss_cons (ps_for PassesOwn.never rfl (pi_range2 (by rfl) T.z_range (pa_cons pe_int (pa_cons (pe_op op_add (pv 1) pe_int) pa_nil))) (pg_name (i := 3) sc_step_product.nd rfl (Or.inl rfl))
    (pss_one (ps_set (i := 2) sc_step_product.nd rfl (Or.inl rfl) (pe_op op_mulW (pv 2) (pe_call G_step_count (hr.mono (by decide)) (by rfl) T.g_step_count T.F_step_count.kp T.b_step_count .nil pass0 (pa_cons (pv 0) (pa_cons (pv 3) pa_nil)))))))
    (pss_one (ps_ret (pv 2))))), ?_⟩
    refine ⟨.int (m : Nat), rfl, _, _, rfl, rfl, ?_⟩
    refine ⟨1, (m : Int) + 1, rfl, ⟨by decide, by decide, by omega, by omega⟩, for_range (lo := 1) (n := ((m : Int) + 1 - 1).toNat) (fun i σ H' => ∃ v3 : Option V, σ = [some (.ref g), some (.int (m : Nat)), some (.int (prodS p i)), v3] ∧ Same H H') ⟨_, rfl, Same.refl H⟩ ?_ ?_⟩
    · rintro i σ H1 hi ⟨v3, rfl, sm⟩
      have hm : i + 1 ≤ 31 := by omega
      obtain ⟨b1, b2⟩ := prodS_bd p2 p13 i (by omega)
      obtain ⟨c1, c2⟩ := stc_2 p2 p13 hm
      refine ⟨.int (prodS p i), rfl, .ref g, rfl, .int (1 + (i : Int)), rfl, g, p, n, i + 1, ?_, hg.mono sm, p2, p13, hm, fun H2 s2 => ?_⟩
      · rw [show 1 + (i : Int) = ((i + 1 : Nat) : Int) by omega]
        rfl
      · exact ⟨_, _, rfl, rfl, wide_mul (abs_lt (by omega) b2) (abs_lt c1 c2) (by omega) (by omega) (by omega), _, rfl, sm.trans s2⟩
    · rintro σ H1 ⟨v3, rfl, sm⟩
      rw [show ((m : Int) + 1 - 1).toNat = m by omega]
      exact ⟨_, rfl, q _ sm⟩
def spCN (C : Addr) : Sp := fun vs H Q _ => ∃ (g : Addr) (p : Int) (n : Nat), vs = [.ref g] ∧ Gd C H g p n ∧ 2 ≤ p ∧ p ≤ 13 ∧ n ≤ 31 ∧ ∀ H', Same H H' → Q (.int (prodS p n)) H'
theorem ok_count_nests (T : Tx K mg) : FnOk P w K mg base CX0 4 T.f_count_nests T.d_count_nests ["ground"] (spCN T.C_Ground) := by
  have G_step_product := ok_step_product (P := P) (w := w) (base := base) T
  have G_Ground_n := ok_n (P := P) (w := w) (base := base) T
  refine T.F_count_nests.ok sc_count_nests (fun vs H Q E h => ?_) (fun cdv A0 outer s H vs Q E hr h => ?_)
  · obtain ⟨g, p, n, rfl, _⟩ := h
    rfl
  · obtain ⟨g, p, n, rfl, hg, p2, p13, n31, q⟩ := h
    refine ⟨_, (pss_one (ps_ret (pe_call G_step_product (hr.mono (by decide)) (by rfl) T.g_step_product T.F_step_product.kp T.b_step_product .nil pass0 (pa_cons (pv 0) (pa_cons (pe_meth0 (pv 0) T.cl_Ground T.m_Ground_n G_Ground_n (hr.mono (by decide)) T.b_Ground_n .nil pass0) pa_nil))))), ?_⟩
    obtain ⟨dx, hi⟩ := id hg
    exact ⟨.ref g, rfl, .ref g, rfl, g, dx, _, rfl, hi, no_n _ _, g, p, n, rfl, hg, g, p, n, n, rfl, hg, p2, p13, n31, q⟩
theorem cut_both (us : List V) (a b : Nat) : cutV us (some (a : Int)) (some (b : Int)) = (us.drop a).take (b - a) := by
  unfold cutV
  rw [HT.sIx_nat, HT.sIx_nat]
  by_cases ha : a ≤ us.length
  · rw [Nat.min_eq_left ha]
    by_cases hb : b ≤ us.length
    · rw [Nat.min_eq_left hb]
    · rw [Nat.min_eq_right (by omega), List.take_of_length_le (by rw [List.length_drop]; omega), List.take_of_length_le (by rw [List.length_drop]; omega)]
  · rw [List.drop_eq_nil_of_le (by omega), List.drop_eq_nil_of_le (by omega), List.take_nil, List.take_nil]
theorem o_atC {o : List Int} {j : Nat} (h : j < o.length) : atI (o.map V.int) (j : Int) = some (.int (o.getD j 0)) := by
  refine atI_nat ?_
  rw [List.getElem?_map, List.getElem?_eq_getElem h, List.getD_eq_getElem?_getD, List.getElem?_eq_getElem h]
  rfl
theorem invC_len : ∀ n, n ≤ 31 → (invC n).length ≤ 1 + n * n ∧ 1 ≤ (invC n).length
  | 0, _ => ⟨by decide, by decide⟩
  | n + 1, h => by
    obtain ⟨h1, h2⟩ := invC_len n (by omega)
    show (moreF (invC n) (n + 1)).length ≤ _ ∧ 1 ≤ (moreF (invC n) (n + 1)).length
    rw [moreF_len, Nat.succ_mul, Nat.mul_succ]
    omega
/-- how many orders have 0, 1, .. inversions -/
def spInvC (K : PySem.W.Frag) : Sp := fun vs H Q _ => ∃ n : Nat, vs = [.int (n : Nat)] ∧ n ≤ 30 ∧ ∀ l H', Same H H' → H' l = some (.lst ((invC n).map V.int)) → Q (.ref l) H'
theorem ok_inversion_counts (T : Tx K mg) : FnOk P w K mg base CX0 1 T.f_inversion_counts T.d_inversion_counts ["n"] (spInvC K) := by
  refine T.F_inversion_counts.ok sc_inversion_counts (fun vs H Q E h => ?_) (fun cdv A0 outer s H vs Q E hr h => ?_)
  · obtain ⟨n, rfl, _⟩ := h
    rfl
  · obtain ⟨n, rfl, n30, q⟩ := h
    refine ⟨_, (pss_cons (ps_set (i := 1) sc_inversion_counts.nd rfl (Or.inr rfl) (pe_lst (pa_cons pe_int pa_nil)))
    (pss_cons (ps_for PassesOwn.never rfl (pi_range2 (by rfl) T.z_range (pa_cons pe_int (pa_cons (pe_op op_add (pv 0) pe_int) pa_nil))) (pg_name (i := 2) sc_inversion_counts.nd rfl (Or.inr rfl))
    (pss_one (ps_set (i := 1) sc_inversion_counts.nd rfl (Or.inr rfl) (pe_lc (own := [("k", 3)]) (g := gName 3) rfl sc_inversion_counts.nd (pi_range1 rfl T.z_range (pa_cons (pe_op op_sub (pe_op op_add (pe_callB call_len_seq (by rfl) T.z_len PySem.boot_len (pa_cons (pv 1) pa_nil)) (pv 2)) pe_int) pa_nil)) (blkOk_by (own := [("k", 3)]) (N := ["n", "counts", "many", "k"]) (sc := defScope s_inversion_counts) (by decide +kernel)) (fun _ _ _ _ _ => (pg_name (i := 3) sc_inversion_counts.nd rfl (Or.inl rfl))) (fun _ _ _ _ _ => pts_nil) (fun _ _ _ _ _ => (pe_callB (show CallR _ _ (rSum K) from (cr_sum rfl)) (by rfl) T.z_sum (by decide +kernel) (pa_cons (pe_slice (show SlR _ (rSlL K) from sl_list) (pv 1) (po_some (pe_callB (call_max2 rfl) (by rfl) T.z_max (by decide +kernel) (pa_cons pe_int (pa_cons (pe_op op_add (pe_op op_sub (pv 3) (pv 2)) pe_int) pa_nil)))) (po_some (pe_op op_add (pv 3) pe_int))) pa_nil)))))))
    (pss_one (ps_ret (pv 1))))), ?_⟩
    refine ⟨(by show 1 ≤ sizeLine; decide), fun l0 hl0 => ?_⟩
    have s0 : Same H (upd H l0 (.lst [.int 1])) := same_new hl0
    have h0 : (upd H l0 (.lst [.int 1])) l0 = some (.lst ((invC 0).map V.int)) := upd_same
    generalize upd H l0 (.lst [.int 1]) = H0 at s0 h0
    refine ⟨.int (n : Nat), rfl, _, _, rfl, rfl, ?_⟩
    refine ⟨1, (n : Int) + 1, rfl, ⟨by decide, by decide, by omega, by omega⟩, for_range (lo := 1) (n := ((n : Int) + 1 - 1).toNat) (fun i σ H' => ∃ (l : Addr) (v2 v3 : Option V), σ = [some (.int (n : Nat)), some (.ref l), v2, v3] ∧ Same H H' ∧ H' l = some (.lst ((invC i).map V.int))) ⟨_, _, _, rfl, s0, h0⟩ ?_ ?_⟩
    · rintro i σ H1 hi ⟨l, v2, v3, rfl, sm, hL⟩
      have hi' : i < n := by omega
      obtain ⟨len1, len2⟩ := invC_len i (by omega)
      have ii : i * i ≤ 30 * 30 := Nat.mul_le_mul (by omega) (by omega)
      generalize hC : invC i = C at hL len1 len2
      have eJ : (((C.map V.int).length : Nat) : Int) + (1 + (i : Int)) - 1 = ((C.length + (i + 1) - 1 : Nat) : Int) := by
        rw [List.length_map]
        omega
      refine ⟨.ref l, rfl, l, _, rfl, .inl (.inl (.inl hL)), .int (1 + (i : Int)), rfl, _, _, rfl, rfl, _, _, rfl, rfl, ?_⟩
      refine nil_i ⟨((C.length + (i + 1) - 1 : Nat) : Int), congrArg (fun z => [V.int z]) eJ, by omega, by omega, fun D hD => ?_⟩
      refine lc_range (lo := 0) (n := ((C.length + (i + 1) - 1 : Nat) : Int).toNat) (fun k H' => (∀ b x, H1 b = some x → H' b = some x) ∧ H' D = some (.lst (((List.range k).map fun k => cvl (fun j => C.getD j 0) (i + 1) k).map V.int))) ⟨same_new hD, upd_same⟩ ?_ ?_
      · rintro k H2 hk ⟨sm2, hM⟩
        refine ⟨rfl, tyes ?_⟩
        refine ⟨.ref l, rfl, ?_⟩
        refine ⟨.int (0 + (k : Int)), rfl, .int (1 + (i : Int)), rfl, _, _, rfl, rfl, _, _, rfl, rfl, ?_⟩
        have em : (if 0 + (k : Int) - (1 + (i : Int)) + 1 > 0 then 0 + (k : Int) - (1 + (i : Int)) + 1 else 0) = ((k + 1 - (i + 1) : Nat) : Int) := by
          split <;> omega
        refine nil_i ⟨_, _, rfl, ?_⟩
        rw [em]
        refine ⟨((k + 1 - (i + 1) : Nat) : Int), rfl, ?_⟩
        refine ⟨.int (0 + (k : Int)), rfl, _, _, rfl, rfl, 0 + (k : Int) + 1, rfl, ?_⟩
        rw [show 0 + (k : Int) + 1 = ((k + 1 : Nat) : Int) by omega]
        refine ⟨l, _, rfl, .inl (.inl (sm2 _ _ hL)), fun p hp => ?_⟩
        rw [cut_both, ← List.map_drop, ← List.map_take]
        have s3 := same_new (o := .lst (((C.drop (k + 1 - (i + 1))).take (k + 1 - (k + 1 - (i + 1)))).map V.int)) hp
        refine nil_i ⟨p, _, rfl, .inl (.inl upd_same), ?_⟩
        rw [cvl_of_slice]
        refine ⟨_, s3 _ _ hM, ?_, fun b x e => ?_, ?_⟩
        · rw [List.length_map, List.length_map, List.length_range]
          exact small1000' (by omega)
        · rw [upd_ne (ne_of_none e hD)]
          exact s3 _ _ (sm2 _ _ e)
        · rw [upd_same, List.range_succ, List.map_append, List.map_append]
          rfl
      · rintro H2 ⟨sm2, hM⟩
        refine ⟨D, _, _, rfl, Same.trans sm sm2, ?_⟩
        rw [hM, show ((C.length + (i + 1) - 1 : Nat) : Int).toNat = C.length + (i + 1) - 1 by omega]
        show _ = some (HO.lst ((moreF (invC i) (i + 1)).map V.int))
        rw [hC]
        rfl
    · rintro σ H1 ⟨l, v2, v3, rfl, sm, hL⟩
      rw [show ((n : Int) + 1 - 1).toNat = n by omega] at hL
      exact ⟨_, rfl, q _ _ sm hL⟩
/-- how many orders have so many -/
def spOW : Sp := fun vs H Q _ => ∃ (n : Nat) (k : Int), vs = [.int (n : Nat), .int k] ∧ n ≤ 30 ∧ 0 ≤ k ∧ ∀ H', Same H H' → Q (.int ((invC n).getD k.toNat 0)) H'
theorem ok_orders_with (T : Tx K mg) : FnOk P w K mg base CX0 2 T.f_orders_with T.d_orders_with ["n", "inversions"] spOW := by
  have G_inversion_counts := ok_inversion_counts (P := P) (w := w) (base := base) T
  refine T.F_orders_with.ok sc_orders_with (fun vs H Q E h => ?_) (fun cdv A0 outer s H vs Q E hr h => ?_)
  · obtain ⟨n, k, rfl, _⟩ := h
    rfl
  · obtain ⟨n, k, rfl, n30, k0, q⟩ := h
    refine ⟨_, (pss_cons (ps_set (i := 2) sc_orders_with.nd rfl (Or.inl rfl) (pe_call G_inversion_counts (hr.mono (by decide)) (by rfl) T.g_inversion_counts T.F_inversion_counts.kp T.b_inversion_counts .nil pass0 (pa_cons (pv 0) pa_nil)))
    (pss_one (ps_ret (pe_ifExp (pt_cmpR op_lt (pv 1) (pe_callB call_len_seq (by rfl) T.z_len PySem.boot_len (pa_cons (pv 2) pa_nil)) (nomark _)) (pe_ix ix_list (pv 2) (pv 1) (fun _ _ => rfl)) pe_int)))), ?_⟩
    refine ⟨.int (n : Nat), rfl, n, rfl, n30, fun l H1 s1 hl => ?_⟩
    refine ⟨.int k, rfl, .ref l, rfl, l, _, rfl, .inl (.inl (.inl hl)), _, _, rfl, rfl, _, rfl, ite2 (fun hb => ?_) (fun hb => ?_)⟩
    · rw [List.length_map] at hb
      have hk : k < ((invC n).length : Nat) := of_decide_eq_true hb
      have hj : k.toNat < (invC n).length := by omega
      have a := o_atC hj
      rw [show ((k.toNat : Nat) : Int) = k by omega] at a
      exact ⟨.ref l, rfl, .int k, rfl, l, _, _, _, rfl, rfl, .inl (.inl hl), a, q _ s1⟩
    · rw [List.length_map] at hb
      have hk : ¬ k < ((invC n).length : Nat) := fun z => hb (decide_eq_true z)
      have := q _ s1
      rw [getD_out _ _ (by omega)] at this
      exact this
/-- bounds -/
theorem invC_nn : ∀ n j, 0 ≤ (invC n).getD j 0
  | 0, j => by
    show 0 ≤ ([1] : List Int).getD j 0
    cases j <;> simp
  | n + 1, j => by
    by_cases h : j < (moreF (invC n) (n + 1)).length
    · show 0 ≤ (moreF (invC n) (n + 1)).getD j 0
      rw [moreF_len] at h
      rw [moreF_at h]
      have : ∀ m, 0 ≤ cvl (fun j => (invC n).getD j 0) m j := fun m => by
        induction m with
        | zero => exact Int.le_refl _
        | succ m ih =>
          rw [cvl_succ]
          have := invC_nn n (j - m)
          split <;> omega
      exact this _
    · show 0 ≤ (moreF (invC n) (n + 1)).getD j 0
      rw [getD_out _ _ (by omega)]
      exact Int.le_refl _
theorem sg_nn {M : Nat} {f : Nat → Int} (h : ∀ j, j < M → 0 ≤ f j) : 0 ≤ sg M f := by
  induction M with
  | zero => exact Int.le_refl _
  | succ M ih =>
    rw [sg_succ]
    have := ih fun j hj => h j (by omega)
    have := h M (by omega)
    omega
theorem sg_le_at {M j : Nat} {f : Nat → Int} (h : ∀ j, j < M → 0 ≤ f j) (hj : j < M) : f j ≤ sg M f := by
  induction M with
  | zero => omega
  | succ M ih =>
    rw [sg_succ]
    have h0 := sg_nn (M := M) fun j hj => h j (by omega)
    have h1 := h M (by omega)
    by_cases e : j = M
    · subst e
      omega
    · have := ih (fun j hj => h j (by omega)) (by omega)
      omega
/-- each of the numbers of nests so far away is at most all -/
theorem away_le {p : Int} (h2 : 2 ≤ p) (n j : Nat) (hj : j < (invC n).length) : 0 ≤ (invC n).getD j 0 * p ^ j ∧ (invC n).getD j 0 * p ^ j ≤ prodS p n := by
  have nn : ∀ j, 0 ≤ (invC n).getD j 0 * p ^ j := fun j => Int.mul_nonneg (invC_nn n j) (Int.pow_nonneg (by omega))
  refine ⟨nn j, ?_⟩
  rw [← evE_inv p n]
  exact sg_le_at (f := fun j => (invC n).getD j 0 * p ^ j) (fun j _ => nn j) hj
/-- how many nests are so many deeds away -/
def spAway (C : Addr) : Sp := fun vs H Q _ => ∃ (g : Addr) (p : Int) (n : Nat) (k : Int), vs = [.ref g, .int k] ∧ Gd C H g p n ∧ 2 ≤ p ∧ p ≤ 13 ∧ n ≤ 30 ∧ 0 ≤ k ∧ ∀ H', Same H H' → Q (.int (if k < (invC n).length then (invC n).getD k.toNat 0 * p ^ k.toNat else 0)) H'
theorem ok_count_away (T : Tx K mg) : FnOk P w K mg base CX0 3 T.f_count_away T.d_count_away ["ground", "deeds"] (spAway T.C_Ground) := by
  have G_orders_with := ok_orders_with (P := P) (w := w) (base := base) T
  have G_power := ok_power (P := P) (w := w) (base := base) T
  have G_Ground_p := ok_p (P := P) (w := w) (base := base) T
  have G_Ground_n := ok_n (P := P) (w := w) (base := base) T
  refine T.F_count_away.ok sc_count_away (fun vs H Q E h => ?_) (fun cdv A0 outer s H vs Q E hr h => ?_)
  · obtain ⟨g, p, n, k, rfl, _⟩ := h
    rfl
  · obtain ⟨g, p, n, k, rfl, hg, p2, p13, n30, k0, q⟩ := h
    refine ⟨_, (pss_cons (ps_set (i := 2) sc_count_away.nd rfl (Or.inl rfl) (pe_call G_orders_with (hr.mono (by decide)) (by rfl) T.g_orders_with T.F_orders_with.kp T.b_orders_with .nil pass0 (pa_cons (pe_meth0 (pv 0) T.cl_Ground T.m_Ground_n G_Ground_n (hr.mono (by decide)) T.b_Ground_n .nil pass0) (pa_cons (pv 1) pa_nil))))
    (pss_one (ps_ret (pe_ifExp (pt_cmpR op_gt (pv 2) pe_int (nomark _)) (pe_op op_mulW (pv 2) (pe_call G_power (hr.mono (by decide)) (by rfl) T.g_power T.F_power.kp T.b_power .nil pass0 (pa_cons (pe_meth0 (pv 0) T.cl_Ground T.m_Ground_p G_Ground_p (hr.mono (by decide)) T.b_Ground_p .nil pass0) (pa_cons (pv 1) pa_nil)))) pe_int)))), ?_⟩
    obtain ⟨dx, hi⟩ := id hg
    refine ⟨.ref g, rfl, g, dx, _, rfl, hi, no_n _ _, g, p, n, rfl, hg, .int k, rfl, n, k, rfl, n30, k0, fun H1 s1 => ?_⟩
    have nn := invC_nn n k.toNat
    refine ⟨.int ((invC n).getD k.toNat 0), rfl, _, _, rfl, rfl, _, rfl, ite2 (fun hb => ?_) (fun hb => ?_)⟩
    · have hpos : 0 < (invC n).getD k.toNat 0 := of_decide_eq_true hb
      have hk : k.toNat < (invC n).length := by
        by_cases h : k.toNat < (invC n).length
        · exact h
        · rw [getD_out _ _ (by omega)] at hpos
          exact absurd hpos (by decide)
      obtain ⟨l1, _⟩ := invC_len n (by omega)
      have nn2 : n * n ≤ 30 * 30 := Nat.mul_le_mul n30 n30
      have hg1 := hg.mono s1
      obtain ⟨dx1, hi1⟩ := id hg1
      obtain ⟨b1, b2⟩ := prodS_bd p2 p13 n (by omega)
      obtain ⟨a1, a2⟩ := away_le p2 n k.toNat hk
      have pw := pow_bd (by omega : 0 ≤ p) p13 k.toNat
      have q' := q H1 s1
      rw [if_pos (by omega)] at q'
      refine ⟨.int ((invC n).getD k.toNat 0), rfl, .ref g, rfl, g, dx1, _, rfl, hi1, no_p _ _, g, p, n, rfl, hg1, .int k, rfl, p, k, rfl, by omega, by omega, k0, by omega, ?_⟩
      refine ⟨_, _, rfl, rfl, wide_mul (abs_lt (m := 124 * n) (by omega) ?_) (abs_lt (m := 4 * k.toNat) pw.1 pw.2) (by omega) (by omega) (by omega), q'⟩
      have pp : 1 ≤ p ^ k.toNat := by
        have : 0 < p ^ k.toNat := Int.pow_pos (by omega)
        omega
      have : (invC n).getD k.toNat 0 * 1 ≤ (invC n).getD k.toNat 0 * p ^ k.toNat := Int.mul_le_mul_of_nonneg_left pp nn
      generalize (2 : Int) ^ (124 * n) = X at *
      omega
    · have hz : (invC n).getD k.toNat 0 = 0 := by
        have : ¬ 0 < (invC n).getD k.toNat 0 := fun z => hb (decide_eq_true z)
        omega
      have q' := q H1 s1
      rw [hz, Int.zero_mul] at q'
      split at q' <;> exact q'
end

section
variable {P : Program} {w : World} {K : PySem.W.Frag} {mg : Str → Option Value} {base : Heap}
/-- in lowest terms -/
def low (a b : Int) : Int × Int := (a / ((Nat.gcd a.natAbs b.natAbs : Nat) : Int), b / ((Nat.gcd a.natAbs b.natAbs : Nat) : Int))
theorem low_mul {g : Int} (hg : 0 < g) (a b : Int) : low (g * a) (g * b) = low a b := by
  unfold low
  have e : ((Nat.gcd (g * a).natAbs (g * b).natAbs : Nat) : Int) = g * ((Nat.gcd a.natAbs b.natAbs : Nat) : Int) := by
    rw [Int.natAbs_mul, Int.natAbs_mul, Nat.gcd_mul_left, Int.natCast_mul]
    congr 1
    omega
  rw [e, Int.mul_ediv_mul_of_pos _ _ hg, Int.mul_ediv_mul_of_pos _ _ hg]
def mean (p : Int) : Nat → Int × Int
  | 0 => (0, 1)
  | i + 1 => low ((mean p i).1 * stc p (i + 1) + stW p (i + 1) * (mean p i).2) ((mean p i).2 * stc p (i + 1))
theorem gcd_pos' {a b : Int} (hb : 0 < b) : 0 < ((Nat.gcd a.natAbs b.natAbs : Nat) : Int) := by
  have : 0 < Nat.gcd a.natAbs b.natAbs := Nat.gcd_pos_of_pos_right _ (by omega)
  omega
theorem low_back {a b : Int} : a = ((Nat.gcd a.natAbs b.natAbs : Nat) : Int) * (low a b).1 ∧ b = ((Nat.gcd a.natAbs b.natAbs : Nat) : Int) * (low a b).2 := by
  have h1 : ((Nat.gcd a.natAbs b.natAbs : Nat) : Int) ∣ a := Int.ofNat_dvd_left.mpr (Nat.gcd_dvd_left _ _)
  have h2 : ((Nat.gcd a.natAbs b.natAbs : Nat) : Int) ∣ b := Int.ofNat_dvd_left.mpr (Nat.gcd_dvd_right _ _)
  exact ⟨(Int.mul_ediv_cancel' h1).symm, (Int.mul_ediv_cancel' h2).symm⟩
theorem mean_low {p : Int} (h2 : 2 ≤ p) : ∀ i, mean p i = low (evD p (invC i)) (prodS p i)
  | 0 => by
    have e : evD p (invC 0) = 0 := by
      show sg 1 (fun j => (j : Int) * (([1] : List Int).getD j 0 * p ^ j)) = 0
      rw [sg_succ, sg_zero]
      simp
    rw [e]
    show ((0 : Int), (1 : Int)) = low 0 1
    decide +kernel
  | i + 1 => by
    have ih := mean_low h2 i
    have pp : ∀ i, 1 ≤ prodS p i := fun i => by
      induction i with
      | zero => exact Int.le_refl _
      | succ i ih' => exact Int.mul_pos (by omega) (by have := stc_pos h2 i; omega)
    have eD : evD p (invC (i + 1)) = stc p (i + 1) * evD p (invC i) + stW p (i + 1) * prodS p i := by
      show evD p (moreF (invC i) (i + 1)) = _
      rw [evD_more p _ (by omega), evE_inv]
    have eP : prodS p (i + 1) = prodS p i * stc p (i + 1) := rfl
    obtain ⟨b1, b2⟩ := low_back (a := evD p (invC i)) (b := prodS p i)
    have gp := gcd_pos' (a := evD p (invC i)) (b := prodS p i) (by have := pp i; omega)
    show low _ _ = _
    rw [eD, eP, ih]
    generalize hx : (low (evD p (invC i)) (prodS p i)).1 = x at b1 ⊢
    generalize hy : (low (evD p (invC i)) (prodS p i)).2 = y at b2 ⊢
    generalize ((Nat.gcd (evD p (invC i)).natAbs (prodS p i).natAbs : Nat) : Int) = g at b1 b2 gp
    rw [b1, b2, ← low_mul gp]
    congr 1
    · rw [Int.mul_add, Int.mul_comm x, ← Int.mul_assoc, ← Int.mul_assoc, ← Int.mul_assoc, ← Int.mul_assoc, Int.mul_comm g, Int.mul_comm g]
    · rw [Int.mul_assoc]
theorem evD_bd {p : Int} (h2 : 2 ≤ p) (n : Nat) : 0 ≤ evD p (invC n) ∧ evD p (invC n) ≤ ((invC n).length : Int) * prodS p n := by
  have nn : ∀ j, 0 ≤ (invC n).getD j 0 * p ^ j := fun j => Int.mul_nonneg (invC_nn n j) (Int.pow_nonneg (by omega))
  refine ⟨sg_nn fun j _ => Int.mul_nonneg (by omega) (nn j), ?_⟩
  rw [← evE_inv p n]
  unfold evD evE
  have key : ∀ M, M ≤ (invC n).length → sg M (fun j => (j : Int) * ((invC n).getD j 0 * p ^ j)) ≤ ((invC n).length : Int) * sg M (fun j => (invC n).getD j 0 * p ^ j) := fun M => by
    induction M with
    | zero => intro _; rw [sg_zero, sg_zero, Int.mul_zero]; exact Int.le_refl _
    | succ M ih =>
      intro h
      rw [sg_succ, sg_succ, Int.mul_add]
      have h1 := ih (by omega)
      have h3 : (M : Int) * ((invC n).getD M 0 * p ^ M) ≤ ((invC n).length : Int) * ((invC n).getD M 0 * p ^ M) := Int.mul_le_mul_of_nonneg_right (by omega) (nn M)
      omega
  exact key _ (Nat.le_refl _)
theorem low_bd {a b : Int} (ha : 0 ≤ a) (hb : 0 < b) : 0 ≤ (low a b).1 ∧ (low a b).1 ≤ a ∧ 0 < (low a b).2 ∧ (low a b).2 ≤ b := by
  have g := gcd_pos' (a := a) hb
  obtain ⟨b1, b2⟩ := low_back (a := a) (b := b)
  have x0 : 0 ≤ (low a b).1 := Int.ediv_nonneg ha (by omega)
  have y0 : 0 ≤ (low a b).2 := Int.ediv_nonneg (by omega) (by omega)
  generalize (low a b).1 = x at *
  generalize (low a b).2 = y at *
  generalize ((Nat.gcd a.natAbs b.natAbs : Nat) : Int) = z at *
  have h1 : 1 * x ≤ z * x := Int.mul_le_mul_of_nonneg_right (by omega) x0
  have h2 : 1 * y ≤ z * y := Int.mul_le_mul_of_nonneg_right (by omega) y0
  refine ⟨x0, by omega, ?_, by omega⟩
  rcases Int.lt_or_eq_of_le y0 with h | h
  · exact h
  · rw [← h, Int.mul_zero] at b2
    omega
def spLow (K : PySem.W.Frag) : Sp := fun vs H Q _ => ∃ a b : Int, vs = [.int a, .int b] ∧ 0 ≤ a ∧ 0 < b ∧ a ≤ 2 ^ 8000 ∧ b ≤ 2 ^ 8000 ∧ ∀ t, H t = none → Q (.ref t) (upd H t (.tup [.int (low a b).1, .int (low a b).2]))
theorem gcd_log {a b : Int} (hb : 0 < b) (h : b ≤ 2 ^ 8000) : ((Nat.gcd a.natAbs b.natAbs : Nat) : Int).natAbs.log2 < 9000 := by
  have h1 : Nat.gcd a.natAbs b.natAbs ≤ b.natAbs := Nat.gcd_le_right _ (by omega)
  have h2 : b.natAbs < 2 ^ 8001 := abs_lt (m := 8000) (by omega) h
  have h3 : Nat.gcd a.natAbs b.natAbs ≠ 0 := by
    have := Nat.gcd_pos_of_pos_right a.natAbs (show 0 < b.natAbs by omega)
    omega
  rw [Int.natAbs_natCast]
  have := (Nat.log2_lt h3 (k := 8001)).mpr (by omega)
  omega
theorem ok_lowest (T : Tx K mg) : FnOk P w K mg base CX0 1 T.f_lowest T.d_lowest ["above", "below"] (spLow K) := by
  refine T.F_lowest.ok sc_lowest (fun vs H Q E h => ?_) (fun cdv A0 outer s H vs Q E hr h => ?_)
  · obtain ⟨a, b, rfl, _⟩ := h
    rfl
  · obtain ⟨a, b, rfl, ha, hb, a8, b8, q⟩ := h
    refine ⟨_, (pss_cons (ps_set (i := 2) sc_lowest.nd rfl (Or.inl rfl) (pe_callBfun cr_gcd (by rfl) T.g_gcd (pa_cons (pv 0) (pa_cons (pv 1) pa_nil))))
    (pss_one (ps_ret (pe_tup (pa_cons (pe_op op_fdivW (pv 0) (pv 2)) (pa_cons (pe_op op_fdivW (pv 1) (pv 2)) pa_nil)))))), ?_⟩
    have g := gcd_pos' (a := a) hb
    have gl := gcd_log (a := a) hb b8
    exact ⟨.int a, rfl, .int b, rfl, a, b, rfl, .int a, rfl, .int _, rfl, _, _, rfl, rfl, ⟨g, gl⟩, .int b, rfl, .int _, rfl, _, _, rfl, rfl, ⟨g, gl⟩, (by show 2 ≤ sizeLine; decide), fun t ht => q t ht⟩
theorem stW_bd {p : Int} (h2 : 2 ≤ p) : ∀ m, 0 ≤ stW p m ∧ stW p m ≤ (m : Int) * stc p m
  | 0 => ⟨Int.le_refl _, by show (0 : Int) ≤ _ * 0; rw [Int.mul_zero]; exact Int.le_refl _⟩
  | m + 1 => by
    obtain ⟨h, h'⟩ := stW_bd h2 m
    have pp : 0 ≤ p ^ m := Int.pow_nonneg (by omega)
    have s0 := (stc_bd h2 m).1
    have mp : 0 ≤ (m : Int) * p ^ m := Int.mul_nonneg (by omega) pp
    refine ⟨by show 0 ≤ stW p m + (m : Int) * p ^ m; omega, ?_⟩
    show stW p m + (m : Int) * p ^ m ≤ ((m + 1 : Nat) : Int) * (stc p m + p ^ m)
    have e : ((m + 1 : Nat) : Int) = (m : Int) + 1 := by push_cast; rfl
    rw [e, Int.add_mul, Int.mul_add, Int.one_mul]
    omega
theorem sum_stW (p : Int) : ∀ m, ((List.range m).map fun r => ((r : Nat) : Int) * p ^ r).sum = stW p m
  | 0 => rfl
  | m + 1 => by
    rw [List.range_succ, List.map_append, List.sum_append, sum_stW p m]
    show stW p m + ((m : Int) * p ^ m + 0) = stW p m + (m : Int) * p ^ m
    omega
theorem stW_2 {p : Int} (h2 : 2 ≤ p) (h13 : p ≤ 13) {m : Nat} (hm : m ≤ 31) : 0 ≤ stW p m ∧ stW p m ≤ 2 ^ 130 := by
  obtain ⟨h, h'⟩ := stW_bd h2 m
  obtain ⟨s0, s1⟩ := stc_2 h2 h13 hm
  have : (m : Int) * stc p m ≤ 64 * stc p m := Int.mul_le_mul_of_nonneg_right (by omega) s0
  refine ⟨h, ?_⟩
  have e : (2 : Int) ^ 130 = 64 * 2 ^ 124 := by decide +kernel
  rw [e]
  generalize (2 : Int) ^ 124 = X at *
  omega
/-- bounds of the mean -/
theorem evD_2 {p : Int} (h2 : 2 ≤ p) (h13 : p ≤ 13) {n : Nat} (hn : n ≤ 31) : 0 ≤ evD p (invC n) ∧ evD p (invC n) ≤ 2 ^ 3860 ∧ 1 ≤ prodS p n ∧ prodS p n ≤ 2 ^ 3844 := by
  obtain ⟨h, h'⟩ := evD_bd h2 n
  obtain ⟨b1, b2⟩ := prodS_bd h2 h13 n hn
  obtain ⟨l1, _⟩ := invC_len n hn
  have nn2 : n * n ≤ 31 * 31 := Nat.mul_le_mul hn hn
  have b3 : (2 : Int) ^ (124 * n) ≤ 2 ^ 3844 := pow_mono2 (by omega)
  have b4 : prodS p n ≤ 2 ^ 3844 := by
    generalize (2 : Int) ^ 3844 = X at *
    generalize (2 : Int) ^ (124 * n) = Y at *
    omega
  have e : (2 : Int) ^ 3860 = 65536 * 2 ^ 3844 := by decide +kernel
  have : ((invC n).length : Int) * prodS p n ≤ 65536 * prodS p n := Int.mul_le_mul_of_nonneg_right (by omega) (by omega)
  refine ⟨h, ?_, b1, b4⟩
  rw [e]
  generalize (2 : Int) ^ 3844 = X at *
  omega
def spMean (C : Addr) : Sp := fun vs H Q _ => ∃ (g : Addr) (p : Int) (n : Nat), vs = [.ref g] ∧ Gd C H g p n ∧ 2 ≤ p ∧ p ≤ 13 ∧ n ≤ 30 ∧ ∀ t H', Same H H' → H' t = some (.tup [.int (mean p n).1, .int (mean p n).2]) → Q (.ref t) H'
theorem ok_mean_away (T : Tx K mg) : FnOk P w K mg base CX0 3 T.f_mean_away T.d_mean_away ["ground"] (spMean T.C_Ground) := by
  have G_lowest := ok_lowest (P := P) (w := w) (base := base) T
  have G_step_count := ok_step_count (P := P) (w := w) (base := base) T
  have G_power := ok_power (P := P) (w := w) (base := base) T
  have G_Ground_p := ok_p (P := P) (w := w) (base := base) T
  have G_Ground_n := ok_n (P := P) (w := w) (base := base) T
  refine T.F_mean_away.ok sc_mean_away (fun vs H Q E h => ?_) (fun cdv A0 outer s H vs Q E hr h => ?_)
  · obtain ⟨g, p, n, rfl, _⟩ := h
    rfl
  · obtain ⟨g, p, n, rfl, hg, p2, p13, n30, q⟩ := h
    refine ⟨_, (pss_cons (ps_set (i := 1) sc_mean_away.nd rfl (Or.inr rfl) (pe_meth0 (pv 0) T.cl_Ground T.m_Ground_p G_Ground_p (hr.mono (by decide)) T.b_Ground_p .nil pass0))
    (pss_cons (ps_asg (pe_tup (pa_cons pe_int (pa_cons pe_int pa_nil))) (pg_tup rfl (pgs_cons (pg_name (i := 2) sc_mean_away.nd rfl (Or.inl rfl)) (pgs_cons (pg_name (i := 3) sc_mean_away.nd rfl (Or.inl rfl)) pgs_nil))))
    (pss_cons (ps_for PassesOwn.never rfl (pi_range2 (by rfl) T.z_range (pa_cons pe_int (pa_cons (pe_op op_add (pe_meth0 (pv 0) T.cl_Ground T.m_Ground_n G_Ground_n (hr.mono (by decide)) T.b_Ground_n .nil pass0) pe_int) pa_nil))) (pg_name (i := 4) sc_mean_away.nd rfl (Or.inl rfl))
    (pss_cons (ps_set (i := 5) sc_mean_away.nd rfl (Or.inl rfl) (pe_callB (cr_sum rfl) (by rfl) T.z_sum (by decide +kernel) (pa_cons (pe_lc (own := [("r", 6)]) (g := gName 6) rfl sc_mean_away.nd (pi_range1 rfl T.z_range (pa_cons (pv 4) pa_nil)) (blkOk_by (own := [("r", 6)]) (N := ["ground", "p", "above", "below", "i", "weighed", "r", "many"]) (sc := defScope s_mean_away) (by decide +kernel)) (fun _ _ _ _ _ => (pg_name (i := 6) sc_mean_away.nd rfl (Or.inl rfl))) (fun _ _ _ _ _ => pts_nil) (fun _ _ _ _ _ => (pe_op op_mul (pv 6) (pe_call G_power (hr.mono (by decide)) (by rfl) T.g_power T.F_power.kp T.b_power .nil pass0 (pa_cons (pv 1) (pa_cons (pv 6) pa_nil)))))) pa_nil)))
    (pss_cons (ps_set (i := 7) sc_mean_away.nd rfl (Or.inl rfl) (pe_call G_step_count (hr.mono (by decide)) (by rfl) T.g_step_count T.F_step_count.kp T.b_step_count .nil pass0 (pa_cons (pv 0) (pa_cons (pv 4) pa_nil))))
    (pss_one (ps_asg (pe_call G_lowest (hr.mono (by decide)) (by rfl) T.g_lowest T.F_lowest.kp T.b_lowest .nil pass0 (pa_cons (pe_op op_add (pe_op op_mulW (pv 2) (pv 7)) (pe_op op_mulW (pv 5) (pv 3))) (pa_cons (pe_op op_mulW (pv 3) (pv 7)) pa_nil))) (pg_tup rfl (pgs_cons (pg_name (i := 2) sc_mean_away.nd rfl (Or.inl rfl)) (pgs_cons (pg_name (i := 3) sc_mean_away.nd rfl (Or.inl rfl)) pgs_nil))))))))
    (pss_one (ps_ret (pe_tup (pa_cons (pv 2) (pa_cons (pv 3) pa_nil)))))))), ?_⟩
    obtain ⟨dx, hi⟩ := id hg
    refine ⟨.ref g, rfl, g, dx, _, rfl, hi, no_p _ _, g, p, n, rfl, hg, ?_⟩
    refine ⟨(by show 2 ≤ sizeLine; decide), fun t0 ht0 => ?_⟩
    have s0 : Same H (upd H t0 (.tup [.int 0, .int 1])) := same_new ht0
    have h0 : (upd H t0 (.tup [.int 0, .int 1])) t0 = some (.tup [.int 0, .int 1]) := upd_same
    generalize upd H t0 (.tup [.int 0, .int 1]) = H0 at s0 h0
    refine ⟨t0, [.int 0, .int 1], rfl, .inl (.inl h0), rfl, .int 0, [.int 1], rfl, .int 1, [], rfl, rfl, ?_⟩
    have hg0 := hg.mono s0
    obtain ⟨dx0, hi0⟩ := id hg0
    refine ⟨.ref g, rfl, g, dx0, _, rfl, hi0, no_n _ _, g, p, n, rfl, hg0, _, _, rfl, rfl, ?_⟩
    refine ⟨1, (n : Int) + 1, rfl, ⟨by decide, by decide, by omega, by omega⟩, for_range (lo := 1) (n := ((n : Int) + 1 - 1).toNat) (fun i σ H' => ∃ (v4 v5 v6 v7 : Option V), σ = [some (.ref g), some (.int p), some (.int (mean p i).1), some (.int (mean p i).2), v4, v5, v6, v7] ∧ Same H H') ⟨_, _, _, _, rfl, s0⟩ ?_ ?_⟩
    · rintro i σ H1 hi' ⟨v4, v5, v6, v7, rfl, sm⟩
      have hi2 : i < n := by omega
      have e1i : 1 + (i : Int) = ((i + 1 : Nat) : Int) := by omega
      rw [e1i]
      -- weighed
      refine ⟨.int ((i + 1 : Nat) : Int), rfl, ((i + 1 : Nat) : Int), rfl, by omega, by omega, fun D hD => ?_⟩
      refine lc_range (lo := 0) (n := ((i + 1 : Nat) : Int).toNat) (fun k H' => (∀ b x, H1 b = some x → H' b = some x) ∧ H' D = some (.lst (((List.range k).map fun r => ((r : Nat) : Int) * p ^ r).map V.int))) ⟨same_new hD, upd_same⟩ ?_ ?_
      · rintro k H2 hk ⟨sm2, hL⟩
        refine ⟨rfl, tyes ?_⟩
        rw [Int.zero_add]
        refine ⟨.int (k : Int), rfl, .int p, rfl, .int (k : Int), rfl, p, (k : Int), rfl, by omega, by omega, by omega, by omega, ?_⟩
        rw [show ((k : Int)).toNat = k by omega]
        refine ⟨_, _, rfl, rfl, .inl ⟨by omega, by omega⟩, _, hL, ?_, fun b x e => ?_, ?_⟩
        · rw [List.length_map, List.length_map, List.length_range]
          exact small1000 (by omega)
        · rw [upd_ne (ne_of_none e hD)]
          exact sm2 _ _ e
        · rw [upd_same, List.range_succ, List.map_append, List.map_append]
          rfl
      · rintro H2 ⟨sm2, hL⟩
        rw [show ((i + 1 : Nat) : Int).toNat = i + 1 by omega] at hL
        refine nil_i ⟨D, _, rfl, .inl (.inl hL), ?_⟩
        rw [sum_stW]
        have hg2 := hg.mono (Same.trans sm sm2)
        refine ⟨.ref g, rfl, .int ((i + 1 : Nat) : Int), rfl, g, p, n, i + 1, rfl, hg2, p2, p13, by omega, fun H3 s3 => ?_⟩
        -- lowest
        obtain ⟨d1, d2, d3, d4⟩ := evD_2 p2 p13 (n := i) (by omega)
        have lb := low_bd d1 (show 0 < prodS p i by omega)
        rw [← mean_low p2 i] at lb
        obtain ⟨m1, m2, m3, m4⟩ := lb
        obtain ⟨c1, c2⟩ := stc_2 p2 p13 (m := i + 1) (by omega)
        obtain ⟨w1, w2⟩ := stW_2 p2 p13 (m := i + 1) (by omega)
        have cp := stc_pos p2 i
        generalize hx : (mean p i).1 = x at m1 m2
        generalize hy : (mean p i).2 = y at m3 m4
        have bx : x ≤ 2 ^ 3860 := by
          generalize (2 : Int) ^ 3860 = X at *
          omega
        have by' : y ≤ 2 ^ 3844 := by
          generalize (2 : Int) ^ 3844 = X at *
          omega
        refine ⟨.int x, rfl, .int _, rfl, _, _, rfl, rfl, wide_mul (abs_lt m1 bx) (abs_lt c1 c2) (by omega) (by omega) (by omega), ?_⟩
        refine ⟨.int _, rfl, .int y, rfl, _, _, rfl, rfl, wide_mul (abs_lt w1 w2) (abs_lt (by omega) by') (by omega) (by omega) (by omega), _, _, rfl, rfl, ?_⟩
        refine ⟨.int y, rfl, .int _, rfl, _, _, rfl, rfl, wide_mul (abs_lt (by omega) by') (abs_lt c1 c2) (by omega) (by omega) (by omega), ?_⟩
        have p1 : 0 ≤ x * stc p (i + 1) := Int.mul_nonneg m1 c1
        have p3 : 0 ≤ stW p (i + 1) * y := Int.mul_nonneg w1 (by omega)
        have p4 : 0 < y * stc p (i + 1) := Int.mul_pos m3 (by omega)
        have q1 : x * stc p (i + 1) ≤ 2 ^ 3860 * 2 ^ 124 := Int.mul_le_mul bx c2 c1 (by decide +kernel)
        have q2 : stW p (i + 1) * y ≤ 2 ^ 130 * 2 ^ 3844 := Int.mul_le_mul w2 by' (by omega) (by decide +kernel)
        have q3 : y * stc p (i + 1) ≤ 2 ^ 3844 * 2 ^ 124 := Int.mul_le_mul by' c2 c1 (by decide +kernel)
        have t1 : (2 : Int) ^ 3860 * 2 ^ 124 + 2 ^ 130 * 2 ^ 3844 ≤ 2 ^ 8000 := by decide +kernel
        have t2 : (2 : Int) ^ 3844 * 2 ^ 124 ≤ 2 ^ 8000 := by decide +kernel
        have r1 : x * stc p (i + 1) + stW p (i + 1) * y ≤ 2 ^ 8000 := Int.le_trans (Int.add_le_add q1 q2) t1
        have r2 : y * stc p (i + 1) ≤ 2 ^ 8000 := Int.le_trans q3 t2
        refine ⟨x * stc p (i + 1) + stW p (i + 1) * y, y * stc p (i + 1), rfl, Int.add_nonneg p1 p3, p4, r1, r2, fun t ht => ?_⟩
        refine ⟨t, _, rfl, .inl (.inl upd_same), rfl, .int _, [.int _], rfl, .int _, [], rfl, rfl, ?_⟩
        have em : mean p (i + 1) = low (x * stc p (i + 1) + stW p (i + 1) * y) (y * stc p (i + 1)) := by
          show low ((mean p i).1 * stc p (i + 1) + stW p (i + 1) * (mean p i).2) ((mean p i).2 * stc p (i + 1)) = _
          rw [hx, hy]
        refine ⟨some (.int ((i + 1 : Nat) : Int)), some (.int (stW p (i + 1))), v6, some (.int (stc p (i + 1))), ?_, (Same.trans sm sm2).trans (s3.trans (same_new ht))⟩
        rw [em]
        rfl
    · rintro σ H1 ⟨v4, v5, v6, v7, rfl, sm⟩
      rw [show ((n : Int) + 1 - 1).toNat = n by omega]
      exact ⟨_, rfl, _, rfl, (by show 2 ≤ sizeLine; decide), fun t ht => q t _ (sm.trans (same_new ht)) upd_same⟩
end

section
variable {P : Program} {w : World} {K : PySem.W.Frag} {mg : Str → Option Value} {base : Heap}
theorem ok_lpower (T : Tx K mg) : FnOk P w K mg base CX0 1 T.f_l_power T.d_l_power ["_law_p", "_law_many"] spPower := by
  refine T.F_l_power.ok sc_l_power (fun vs H Q E h => ?_) (fun cdv A outer s H vs Q E hr h => ?_)
  · obtain ⟨b, e, rfl, _⟩ := h
    rfl
  · obtain ⟨b, e, rfl, b0, b1, e0, e1, q⟩ := h
    refine ⟨_, (pss_cons (ps_set (i := 2) sc_l_power.nd rfl (Or.inl rfl) pe_int)
    (pss_cons (ps_for PassesOwn.never rfl (pi_range1 rfl T.z_range (pa_cons (pv 1) pa_nil)) (pg_name (i := 3) sc_l_power.nd rfl (Or.inl rfl))
    (pss_one (ps_set (i := 2) sc_l_power.nd rfl (Or.inl rfl) (pe_op op_mul (pv 2) (pv 0)))))
    (pss_one (ps_ret (pv 2))))), ?_⟩
    refine ⟨.int e, rfl, e, rfl, by omega, by omega, for_range (lo := 0) (n := e.toNat) (fun i σ H' => ∃ (v : Option V) (z : Int), σ = [some (.int b), some (.int e), some (.int z), v] ∧ z = b ^ i ∧ H' = H) ⟨none, 1, rfl, (Int.pow_zero b).symm, rfl⟩ ?_ ?_⟩
    · rintro i σ H' hi ⟨v, z, rfl, rfl, rfl⟩
      exact ⟨_, rfl, .int b, rfl, b ^ i, b, rfl, rfl, .inr ⟨by omega, by omega⟩, _, _, rfl, (Int.pow_succ b i).symm, rfl⟩
    · rintro σ H' ⟨v, z, rfl, rfl, rfl⟩
      exact ⟨_, rfl, q⟩
end

section
variable {P : Program} {w : World} {K : PySem.W.Frag} {mg : Str → Option Value} {base : Heap}
/-- a fraction in lowest terms, by Euclid -/
theorem ok_llowest (T : Tx K mg) : FnOk P w K mg base CX0 1 T.f_l_lowest T.d_l_lowest ["_law_a", "_law_b"] (spLow K) := by
  refine T.F_l_lowest.ok sc_l_lowest (fun vs H Q E h => ?_) (fun cdv A0 outer s H vs Q E hr h => ?_)
  · obtain ⟨a, b, rfl, _⟩ := h
    rfl
  · obtain ⟨a, b, rfl, ha, hb, a8, b8, q⟩ := h
    refine ⟨_, (pss_cons (ps_par (i := 2) (j := 3) (by rfl) sc_l_lowest.nd rfl rfl (by decide) rfl rfl (pa_cons (pv 0) (pa_cons (pv 1) pa_nil)) (by rfl))
    (pss_cons (ps_while PassesOwn.never (pt_cmpR op_gt (pv 3) pe_int (nomark _)) (pss_one (ps_par (i := 2) (j := 3) (by rfl) sc_l_lowest.nd rfl rfl (by decide) rfl rfl (pa_cons (pv 3) (pa_cons (pe_op op_mod (pe_callTy call_int1 (by rfl) T.z_int (by decide +kernel) (pa_cons (pv 2) pa_nil)) (pv 3)) pa_nil)) (by rfl))))
    (pss_one (ps_ret (pe_tup (pa_cons (pe_op op_fdivW (pv 0) (pe_callB (call_max2 rfl) (by rfl) T.z_max (by decide +kernel) (pa_cons pe_int (pa_cons (pv 2) pa_nil)))) (pa_cons (pe_op op_fdivW (pv 1) (pe_callB (call_max2 rfl) (by rfl) T.z_max (by decide +kernel) (pa_cons pe_int (pa_cons (pv 2) pa_nil)))) pa_nil))))))), ?_⟩
    refine ⟨.int a, rfl, .int b, rfl, _, _, rfl, ?_⟩
    refine ⟨fun n σ H' => ∃ x y : Int, σ = [some (V.int a), some (V.int b), some (V.int x), some (V.int y)] ∧ n = y.toNat ∧ H' = H ∧ 0 ≤ x ∧ 0 ≤ y ∧ Nat.gcd x.natAbs y.natAbs = Nat.gcd a.natAbs b.natAbs, ⟨_, a, b, rfl, rfl, rfl, ha, by omega, rfl⟩, fun n σ H' hW => ?_⟩
    obtain ⟨x, y, rfl, rfl, rfl, x0, y0, hg⟩ := hW
    refine ⟨.int y, rfl, _, _, rfl, rfl, _, rfl, ite2 (fun hc => ?_) (fun hc => ?_)⟩
    · have yp : 0 < y := of_decide_eq_true hc
      have m0 : 0 ≤ x % y := Int.emod_nonneg _ (by omega)
      have m1 : x % y < y := Int.emod_lt_of_pos _ yp
      refine ⟨fun σ H2 => ∃ x y' : Int, σ = [some (V.int a), some (V.int b), some (V.int x), some (V.int y')] ∧ y'.toNat < y.toNat ∧ H2 = H' ∧ 0 ≤ x ∧ 0 ≤ y' ∧ Nat.gcd x.natAbs y'.natAbs = Nat.gcd a.natAbs b.natAbs, fun σ2 H2 hN => ?_, ?_⟩
      · obtain ⟨x2, y2, h1, h2, h3, h4⟩ := hN
        exact ⟨_, h2, x2, y2, h1, rfl, h3, h4⟩
      · refine ⟨.int y, rfl, .int x, rfl, .inl ⟨x, rfl, .int y, rfl, _, _, rfl, rfl, yp, _, _, rfl, ?_⟩⟩
        refine ⟨y, x % y, rfl, by omega, rfl, by omega, m0, ?_⟩
        rw [← hg]
        obtain ⟨xx, rfl⟩ : ∃ xx : Nat, x = xx := ⟨x.toNat, by omega⟩
        obtain ⟨yy, rfl⟩ : ∃ yy : Nat, y = yy := ⟨y.toNat, by omega⟩
        rw [show ((xx : Int) % (yy : Int)) = ((xx % yy : Nat) : Int) from rfl, Int.natAbs_natCast, Int.natAbs_natCast, Int.natAbs_natCast, Nat.gcd_comm yy, ← Nat.gcd_rec, Nat.gcd_comm]
    · have y00 : y = 0 := by
        have : ¬ 0 < y := fun z => hc (decide_eq_true z)
        omega
      subst y00
      rw [show ((0 : Int).natAbs) = 0 from rfl, Nat.gcd_zero_right] at hg
      have ex : x = ((Nat.gcd a.natAbs b.natAbs : Nat) : Int) := by omega
      have g := gcd_pos' (a := a) hb
      have gl := gcd_log (a := a) hb b8
      have em : (if x > 1 then x else 1) = ((Nat.gcd a.natAbs b.natAbs : Nat) : Int) := by
        split <;> omega
      refine ⟨.int a, rfl, .int x, rfl, 1, x, rfl, ?_⟩
      rw [em]
      refine ⟨_, _, rfl, rfl, ⟨g, gl⟩, .int b, rfl, .int x, rfl, 1, x, rfl, ?_⟩
      rw [em]
      exact ⟨_, _, rfl, rfl, ⟨g, gl⟩, (by show 2 ≤ sizeLine; decide), fun t ht => q t ht⟩
/-- the numbers for one more -/
def spMore (K : PySem.W.Frag) : Sp := fun vs H Q _ => ∃ (l : Addr) (C : List Int) (n : Nat), vs = [.ref l, .int (n : Nat)] ∧ SqL K H l (C.map V.int) ∧ C.length ≤ 1000 ∧ 1 ≤ n ∧ n ≤ 31 ∧ ∀ u H', Same H H' → H u = none → H' u = some (.lst ((moreF C n).map V.int)) → Q (.ref u) H'
theorem ok_lmore (T : Tx K mg) : FnOk P w K mg base CX0 1 T.f_l_more T.d_l_more ["_law_counts", "_law_n"] (spMore K) := by
  refine T.F_l_more.ok sc_l_more (fun vs H Q E h => ?_) (fun cdv A0 outer s H vs Q E hr h => ?_)
  · obtain ⟨l, C, n, rfl, _⟩ := h
    rfl
  · obtain ⟨l, C, n, rfl, hL, cl, n1, n31, q⟩ := h
    refine ⟨_, (pss_cons (ps_set (i := 2) sc_l_more.nd rfl (Or.inl rfl) (pe_op op_sub (pe_op op_add (pe_callB call_len_seq (by rfl) T.z_len PySem.boot_len (pa_cons (pv 0) pa_nil)) (pv 1)) pe_int))
    (pss_one (ps_ret (pe_lc (own := [("_law_k", 3)]) (g := gName 3) rfl sc_l_more.nd (pi_range1 rfl T.z_range (pa_cons (pv 2) pa_nil)) (blkOk_by (own := [("_law_k", 3)]) (N := ["_law_counts", "_law_n", "_law_most", "_law_k", "_law_r"]) (sc := defScope s_l_more) (by decide +kernel)) (fun _ _ _ _ _ => (pg_name (i := 3) sc_l_more.nd rfl (Or.inr rfl))) (fun _ _ _ _ _ => pts_nil) (fun _ _ _ _ _ => (pe_callB (show CallR _ _ (rSum K) from (cr_sum rfl)) (by rfl) T.z_sum (by decide +kernel) (pa_cons (pe_lc (own := [("_law_r", 4)]) (g := gName 4) rfl sc_l_more.nd (pi_range1 rfl T.z_range (pa_cons (pv 1) pa_nil)) (by dsimp only [Cx.blk, compEnvC]; exact blkOk_by (own := [("_law_r", 4)]) (N := ["_law_counts", "_law_n", "_law_most", "_law_k", "_law_r"]) (by kernel_rfl)) (fun _ _ _ _ _ => (pg_name (i := 4) sc_l_more.nd rfl (Or.inl rfl))) (fun _ _ _ _ _ => (pts_one (pt_chain op_le op_lt pe_int (pe_op op_sub (pv 3) (pv 4)) (pe_callB (show CallR _ _ (rLenOf K) from call_lenOf) (by rfl) T.z_len PySem.boot_len (pa_cons (pv 0) pa_nil))))) (fun _ _ _ _ _ => (pe_ix (show IxR _ (rIxL K) from ix_list) (pv 0) (pe_op op_sub (pv 3) (pv 4)) (fun _ _ => rfl)))) pa_nil))))))), ?_⟩
    have eJ : (((C.map V.int).length : Nat) : Int) + ((n : Nat) : Int) - 1 = ((C.length + n - 1 : Nat) : Int) := by
      rw [List.length_map]
      omega
    refine ⟨.ref l, rfl, l, _, rfl, .inl hL, .int (n : Nat), rfl, _, _, rfl, rfl, _, _, rfl, rfl, ?_⟩
    refine ⟨_, rfl, ((C.length + n - 1 : Nat) : Int), congrArg (fun z => [V.int z]) eJ, by omega, by omega, fun D hD => ?_⟩
    refine lc_range (lo := 0) (n := ((C.length + n - 1 : Nat) : Int).toNat) (fun k H' => (∀ b x, H b = some x → H' b = some x) ∧ H' D = some (.lst (((List.range k).map fun k => cvl (fun j => C.getD j 0) n k).map V.int))) ⟨same_new hD, upd_same⟩ ?_ ?_
    · rintro k H1 hk ⟨sm, hM⟩
      have hk' : k < C.length + n - 1 := by omega
      refine ⟨rfl, tyes ?_⟩
      rw [Int.zero_add]
      refine ⟨.int (n : Nat), rfl, (n : Int), rfl, by omega, by omega, fun D2 hD2 => ?_⟩
      refine lc_range (lo := 0) (n := (n : Int).toNat) (fun r H' => (∀ b x, H1 b = some x → H' b = some x) ∧ ∃ acc : List Int, H' D2 = some (.lst (acc.map V.int)) ∧ acc.sum = cvl (fun j => C.getD j 0) r k ∧ acc.length ≤ r) ⟨same_new hD2, [], upd_same, rfl, Nat.le_refl _⟩ ?_ ?_
      · rintro r H2 hr2 ⟨sm2, acc, hA, es, la⟩
        have hr3 : r < n := by omega
        have hL2 : SqL K H2 l (C.map V.int) := (Same.trans sm sm2).seq hL
        rw [Int.zero_add]
        refine ⟨rfl, .int (k : Int), rfl, .int (r : Int), rfl, _, _, rfl, rfl, _, _, rfl, rfl, _, rfl, ?_⟩
        have skip : (if r ≤ k then C.getD (k - r) 0 else 0) = 0 → (∀ b x, H1 b = some x → H2 b = some x) ∧ ∃ acc : List Int, H2 D2 = some (.lst (acc.map V.int)) ∧ acc.sum = cvl (fun j => C.getD j 0) (r + 1) k ∧ acc.length ≤ r + 1 := fun hz =>
          ⟨sm2, acc, hA, by rw [cvl_succ, hz, Int.add_zero]; exact es, by omega⟩
        by_cases h0 : r ≤ k
        · refine Eq.mpr (if_pos (decide_eq_true (by omega : (0 : Int) ≤ (k : Int) - (r : Int)))) ?_
          refine ⟨.ref l, rfl, l, _, rfl, .inl hL2, _, _, rfl, rfl, _, rfl, ite2 (fun hb => ?_) (fun hb => ?_)⟩
          · rw [List.length_map] at hb
            have hlt : k - r < C.length := by
              have := of_decide_eq_true hb
              omega
            have a := o_atC hlt
            rw [show (((k - r : Nat)) : Int) = (k : Int) - (r : Int) by omega] at a
            refine ⟨.ref l, rfl, .int (k : Int), rfl, .int (r : Int), rfl, _, _, rfl, rfl, l, _, _, _, rfl, rfl, hL2, a, acc.map V.int, hA, ?_, fun b x e => ?_, acc ++ [C.getD (k - r) 0], ?_, ?_, ?_⟩
            · rw [List.length_map]
              exact small1000 (by omega)
            · rw [upd_ne (ne_of_none e hD2)]
              exact sm2 _ _ e
            · rw [upd_same, List.map_append]
              rfl
            · rw [cvl_succ, if_pos h0, List.sum_append, es]
              simp
            · rw [List.length_append, List.length_singleton]
              omega
          · rw [List.length_map] at hb
            have hlt : C.length ≤ k - r := by
              have : ¬ (k : Int) - (r : Int) < (C.length : Nat) := fun z => hb (decide_eq_true z)
              omega
            exact skip (by rw [if_pos h0]; exact getD_out _ _ hlt)
        · refine Eq.mpr (if_neg (fun z => h0 (by have := of_decide_eq_true z; omega))) ?_
          exact ⟨_, rfl, iteF (skip (if_neg h0))⟩
      · rintro H2 ⟨sm2, acc, hA, es, la⟩
        rw [show (n : Int).toNat = n by omega] at es
        refine nil_i ⟨D2, acc, rfl, .inl (.inl hA), ?_⟩
        rw [es]
        refine ⟨_, sm2 _ _ hM, ?_, fun b x e => ?_, ?_⟩
        · rw [List.length_map, List.length_map, List.length_range]
          exact small1000' (by omega)
        · rw [upd_ne (ne_of_none e hD)]
          exact sm2 _ _ (sm _ _ e)
        · rw [upd_same, List.range_succ, List.map_append, List.map_append]
          rfl
    · rintro H1 ⟨sm, hM⟩
      rw [show ((C.length + n - 1 : Nat) : Int).toNat = C.length + n - 1 by omega] at hM
      exact q D H1 sm hD hM
/-- how many pairs of positions have falling members -/
def invA (o : List Int) (a : Nat) : List Int := ((List.range a).filter fun b => decide (o.getD a 0 < o.getD b 0)).map fun (b : Nat) => (b : Int)
def inv2 (o : List Int) : Int := ((List.range o.length).map fun a => ((invA o a).length : Int)).sum
def spInv2 (K : PySem.W.Frag) : Sp := fun vs H Q _ => ∃ (t : Addr) (o : List Int), vs = [.ref t] ∧ SqT K H t (o.map V.int) ∧ o.length ≤ 1000 ∧ ∀ H', Same H H' → Q (.int (inv2 o)) H'
theorem ok_linv (T : Tx K mg) : FnOk P w K mg base CX0 1 T.f_l_inversions T.d_l_inversions ["_law_order"] (spInv2 K) := by
  refine T.F_l_inversions.ok sc_l_inversions (fun vs H Q E h => ?_) (fun cdv A0 outer s H vs Q E hr h => ?_)
  · obtain ⟨t, o, rfl, _⟩ := h
    rfl
  · obtain ⟨t, o, rfl, hT, ol, q⟩ := h
    refine ⟨_, (pss_one (ps_ret (pe_callB (cr_sum rfl) (by rfl) T.z_sum (by decide +kernel) (pa_cons (pe_lc (own := [("_law_a", 1)]) (g := gName 1) rfl sc_l_inversions.nd (pi_range1 rfl T.z_range (pa_cons (pe_callB call_len_seq (by rfl) T.z_len PySem.boot_len (pa_cons (pv 0) pa_nil)) pa_nil)) (blkOk_by (own := [("_law_a", 1)]) (N := ["_law_order", "_law_a", "_law_b"]) (sc := defScope s_l_inversions) (by decide +kernel)) (fun _ _ _ _ _ => (pg_name (i := 1) sc_l_inversions.nd rfl (Or.inr rfl))) (fun _ _ _ _ _ => pts_nil) (fun _ _ _ _ _ => (pe_callB (show CallR _ _ (rLenOf K) from call_lenOf) (by rfl) T.z_len PySem.boot_len (pa_cons (pe_lc (own := [("_law_b", 2)]) (g := gName 2) rfl sc_l_inversions.nd (pi_range1 rfl T.z_range (pa_cons (pv 1) pa_nil)) (by dsimp only [Cx.blk, compEnvC]; exact blkOk_by (own := [("_law_b", 2)]) (N := ["_law_order", "_law_a", "_law_b"]) (by kernel_rfl)) (fun _ _ _ _ _ => (pg_name (i := 2) sc_l_inversions.nd rfl (Or.inl rfl))) (fun _ _ _ _ _ => (pts_one (pt_cmpR op_gt (pe_ix (show IxR _ (rIxT K) from ix_tup) (pv 0) (pv 2) (fun _ _ => rfl)) (pe_ix (show IxR _ (rIxT K) from ix_tup) (pv 0) (pv 1) (fun _ _ => rfl)) (nomark _)))) (fun _ _ _ _ _ => (pv 2))) pa_nil)))) pa_nil)))), ?_⟩
    refine ⟨.ref t, rfl, t, _, rfl, .inr hT, o.length, by rw [List.length_map], by omega, by omega, fun D hD => ?_⟩
    refine lc_range (lo := 0) (n := (o.length : Int).toNat) (fun a H' => (∀ b x, H b = some x → H' b = some x) ∧ H' D = some (.lst (((List.range a).map fun a => ((invA o a).length : Int)).map V.int))) ⟨same_new hD, upd_same⟩ ?_ ?_
    · rintro a H1 ha ⟨sm, hM⟩
      have ha' : a < o.length := by omega
      refine ⟨rfl, tyes ?_⟩
      rw [Int.zero_add]
      refine ⟨.int (a : Int), rfl, (a : Int), rfl, by omega, by omega, fun D2 hD2 => ?_⟩
      refine lc_range (lo := 0) (n := (a : Int).toNat) (fun b H' => (∀ c x, H1 c = some x → H' c = some x) ∧ H' D2 = some (.lst ((((List.range b).filter fun b => decide (o.getD a 0 < o.getD b 0)).map fun (b : Nat) => (b : Int)).map V.int))) ⟨same_new hD2, upd_same⟩ ?_ ?_
      · rintro b H2 hb2 ⟨sm2, hA⟩
        have hb3 : b < a := by omega
        have hT2 : SqT K H2 t (o.map V.int) := sameT sm2 (sameT sm hT)
        rw [Int.zero_add]
        refine ⟨rfl, .ref t, rfl, .int (b : Int), rfl, t, _, _, _, rfl, rfl, hT2, o_atC (by omega), .ref t, rfl, .int (a : Int), rfl, t, _, _, _, rfl, rfl, hT2, o_atC ha', _, _, rfl, rfl, _, rfl, ite2 (fun hc => ?_) (fun hc => ?_)⟩
        · refine ⟨_, rfl, _, hA, ?_, fun c x e => ?_, ?_⟩
          · rw [List.length_map, List.length_map]
            refine Nat.lt_of_le_of_lt (List.length_filter_le _ _) ?_
            rw [List.length_range]
            exact small1000 (by omega)
          · rw [upd_ne (ne_of_none e hD2)]
            exact sm2 _ _ e
          · rw [upd_same, List.range_succ, List.filter_append, List.filter_cons, if_pos hc, List.map_append, List.map_append]
            rfl
        · refine ⟨sm2, ?_⟩
          rw [List.range_succ, List.filter_append, List.filter_cons, if_neg hc, List.filter_nil, List.append_nil]
          exact hA
      · rintro H2 ⟨sm2, hA⟩
        rw [show ((a : Int)).toNat = a by omega] at hA
        refine nil_i ⟨D2, _, rfl, .inl (.inl (.inl hA)), ?_⟩
        rw [List.length_map]
        refine ⟨_, sm2 _ _ hM, ?_, fun c x e => ?_, ?_⟩
        · rw [List.length_map, List.length_map, List.length_range]
          exact small1000 (by omega)
        · rw [upd_ne (ne_of_none e hD)]
          exact sm2 _ _ (sm _ _ e)
        · rw [upd_same, List.range_succ, List.map_append, List.map_append]
          rfl
    · rintro H1 ⟨sm, hM⟩
      rw [show (o.length : Int).toNat = o.length by omega] at hM
      exact nil_i ⟨D, _, rfl, .inl (.inl hM), q _ sm⟩
end

section
variable {P : Program} {w : World} {K : PySem.W.Frag} {mg : Str → Option Value} {base : Heap}
/-- all sequences of some members -/
def prm : Nat → List Int → List (List Int)
  | 0, _ => [[]]
  | n + 1, ms => if ms = [] then [[]] else ms.flatMap fun x => (prm n (ms.filter fun y => decide (y ≠ x))).map fun r => x :: r
theorem dp_ilC {K : PySem.W.Frag} {H : Hp} {t : Addr} {r : List Int} (h : SqL K H t (r.map V.int)) : Dp K H (.ref t) (.list (r.map .int)) := .lst h (dp_ints r)
theorem shp_ilC (r : List Int) : SeqAt.shaped (.list (r.map .int)) = true := by
  have h := shp_row r
  unfold SeqAt.shaped dR at *
  simpa [PyData.canLay0, PyData.depth] using h
theorem eqv_nlC (ds : List PyData) : PyData.eqv (.list ds) (.list []) = ds.isEmpty := by
  cases ds <;> simp [PyData.eqv, PyData.eqvAll]
theorem prm_len : ∀ (n : Nat) (ms : List Int), ms.length ≤ n → n ≤ 5 → (prm n ms).length ≤ 6 ^ n
  | 0, ms, _, _ => Nat.le_refl _
  | n + 1, ms, h, h5 => by
    unfold prm
    split
    · exact Nat.one_le_pow _ _ (by decide)
    · have key : ∀ l : List Int, (∀ x ∈ l, x ∈ ms) → (l.flatMap fun x => (prm n (ms.filter fun y => decide (y ≠ x))).map fun r => x :: r).length ≤ l.length * 6 ^ n := fun l => by
        induction l with
        | nil => intro _; simp
        | cons x l ih =>
          intro hl
          have hx := hl x (by simp)
          have lf : (ms.filter fun y => decide (y ≠ x)).length < ms.length := List.length_filter_lt_length_iff_exists.mpr ⟨x, hx, by simp⟩
          have h1 := prm_len n (ms.filter fun y => decide (y ≠ x)) (by omega) (by omega)
          have h2 := ih fun y hy => hl y (by simp [hy])
          rw [List.flatMap_cons, List.length_append, List.length_map, List.length_cons, Nat.succ_mul]
          omega
      have h1 := key ms fun x hx => hx
      have h2 : ms.length * 6 ^ n ≤ 6 * 6 ^ n := Nat.mul_le_mul_right _ (by omega)
      rw [Nat.pow_succ, Nat.mul_comm (6 ^ n)]
      omega
theorem prm_row : ∀ (n : Nat) (ms r : List Int), r ∈ prm n ms → r.length ≤ n
  | 0, ms, r, h => by
    have : r = [] := by simpa [prm] using h
    subst this
    exact Nat.le_refl _
  | n + 1, ms, r, h => by
    unfold prm at h
    split at h
    · have : r = [] := by simpa using h
      subst this
      exact Nat.zero_le _
    · obtain ⟨x, _, hx⟩ := List.mem_flatMap.mp h
      obtain ⟨s, hs, rfl⟩ := List.mem_map.mp hx
      have := prm_row n _ s hs
      rw [List.length_cons]
      omega
def spPrm (K : PySem.W.Frag) (n : Nat) : Sp := fun vs H Q _ => ∃ (l : Addr) (ms : List Int), vs = [.ref l] ∧ SqL K H l (ms.map V.int) ∧ ms.length ≤ n ∧
  ∀ (u : Addr) (us : List V) (H' : Hp), Same H H' → H u = none → H' u = some (.lst us) → Rows K H' us (prm n ms) → Q (.ref u) H'
def spPre (K : PySem.W.Frag) : Nat → Sp
  | 0 => fun _ _ _ _ => False
  | n + 1 => spPrm K n
theorem lorders_step (T : Tx K mg) (n : Nat) (n5 : n ≤ 5) (G_l_orders : FnOk P w K mg base CX0 n T.f_l_orders T.d_l_orders ["_law_members"] (spPre K n)) : FnOk P w K mg base CX0 (n + 1) T.f_l_orders T.d_l_orders ["_law_members"] (spPrm K n) := by
  refine T.F_l_orders.ok sc_l_orders (fun vs H Q E h => ?_) (fun cdv A0 outer s H vs Q E hr h => ?_)
  · obtain ⟨l, ms, rfl, _⟩ := h
    rfl
  · obtain ⟨l, ms, rfl, hL, ml, q⟩ := h
    refine ⟨_, (pss_cons (ps_if (pt_cmpR (op_eqD hr.units) (pv 0) (pe_lst pa_nil) (nomark _)) (pss_one (ps_ret (pe_lst (pa_cons (pe_tup pa_nil) pa_nil)))) pss_nil)
    (pss_cons (ps_set (i := 1) sc_l_orders.nd rfl (Or.inl rfl) (pe_lst pa_nil))
    (pss_cons (ps_for PassesOwn.never rfl (pi_list (pv 0)) (pg_name (i := 2) sc_l_orders.nd rfl (Or.inr rfl))
    (pss_one (ps_set (i := 1) sc_l_orders.nd rfl (Or.inl rfl) (pe_op op_cat (pv 1) (pe_lc (own := [("_law_rest", 3)]) (g := gName 3) rfl sc_l_orders.nd (pi_list (pe_call G_l_orders (hr.mono (by omega)) (by rfl) T.g_l_orders T.F_l_orders.kp T.b_l_orders .nil pass0 (pa_cons (pe_lc (own := [("_law_other", 4)]) (g := gName 4) rfl sc_l_orders.nd (pi_list (pv 0)) (blkOk_by (own := [("_law_other", 4)]) (N := ["_law_members", "_law_found", "_law_one", "_law_rest", "_law_other"]) (sc := defScope s_l_orders) (by decide +kernel)) (fun _ _ _ _ _ => (pg_name (i := 4) sc_l_orders.nd rfl (Or.inl rfl))) (fun _ _ _ _ _ => (pts_one (pt_cmpR op_ne (pv 4) (pv 2) (nomark _)))) (fun _ _ _ _ _ => (pv 4))) pa_nil))) (blkOk_by (own := [("_law_rest", 3)]) (N := ["_law_members", "_law_found", "_law_one", "_law_rest", "_law_other"]) (sc := defScope s_l_orders) (by decide +kernel)) (fun _ _ _ _ _ => (pg_name (i := 3) sc_l_orders.nd rfl (Or.inl rfl))) (fun _ _ _ _ _ => pts_nil) (fun _ _ _ _ _ => (pe_op (show OpR _ (binaryOp .Add) (rCatA K) from op_catA) (pe_tup (pa_cons (pv 2) pa_nil)) (pv 3))))))))
    (pss_one (ps_ret (pv 1)))))), ?_⟩
    refine ⟨.ref l, rfl, Nat.zero_le _, fun e he => ?_⟩
    have sE : Same H (upd H e (.lst [])) := same_new he
    refine ⟨.list (ms.map .int), .list [], dp_ilC (sE.seq hL), .lst (.inl (.inl upd_same)) .nil, shp_ilC _, by decide +kernel, _, rfl, ?_⟩
    rw [eqv_nlC]
    generalize upd H e (.lst []) = H0 at sE
    by_cases hms : ms = []
    · subst hms
      refine iteT ⟨Nat.zero_le _, fun t ht => ⟨(by show 1 ≤ sizeLine; decide), fun u hu => ?_⟩⟩
      have s1 := same_new (o := .tup []) ht
      have s2 := same_new (o := .lst [.ref t]) hu
      have ep : prm n [] = [[]] := by cases n <;> simp [prm]
      refine q u [.ref t] _ ((sE.trans s1).trans s2) ((sE.trans s1).free hu) upd_same ?_
      rw [ep]
      exact .one (.inl (.inl (s2 _ _ upd_same)))
    · have eb : (ms.map PyData.int).isEmpty = false := by
        cases ms with
        | nil => exact absurd rfl hms
        | cons x r => rfl
      rw [eb]
      have hpos : 0 < ms.length := List.length_pos_iff.mpr hms
      obtain ⟨n', rfl⟩ : ∃ n', n = n' + 1 := ⟨n - 1, by omega⟩
      refine iteF ⟨Nat.zero_le _, fun F0 hF0 => ?_⟩
      have s1 := same_new (o := .lst []) hF0
      have hL1 : SqL K (upd H0 F0 (.lst [])) l (ms.map V.int) := s1.seq (sE.seq hL)
      refine ⟨.ref l, rfl, l, rfl, ⟨_, hL1⟩, for_list (K := K) (a := l) (xs := ms.map V.int) (fun i σ H' => ∃ (F : Addr) (us : List V) (v2 v3 v4 : Option V), σ = [some (.ref l), some (.ref F), v2, v3, v4] ∧ Same H H' ∧ H F = none ∧ H' F = some (.lst us) ∧ Rows K H' us ((ms.take i).flatMap fun x => (prm n' (ms.filter fun y => decide (y ≠ x))).map fun r => x :: r) ∧ us.length ≤ i * 10000)
        ⟨F0, [], none, none, none, rfl, sE.trans s1, sE.free hF0, upd_same, .nil, Nat.zero_le _⟩ (fun i σ H' _ ⟨_, _, _, _, _, _, sm, _⟩ => sm.seq hL) ?_ ?_⟩
      · rintro i y σ H1 hy ⟨F, us, v2, v3, v4, rfl, sm, hF0', hF, hU, hul⟩
        obtain ⟨x, rfl, hx⟩ := ints_at hy
        have hmem : x ∈ ms := List.mem_of_getElem? hx
        refine ⟨.ref F, rfl, ?_⟩
        refine ⟨.ref l, rfl, l, rfl, ⟨_, sm.seq hL⟩, fun D hD => ?_⟩
        refine lc_list (K := K) (a := l) (xs := ms.map V.int) (fun j H' => (∀ b o, H1 b = some o → H' b = some o) ∧ H' D = some (.lst (((ms.take j).filter fun y => decide (y ≠ x)).map V.int))) ⟨same_new hD, upd_same⟩ (fun j H' _ ⟨sx, _⟩ => (Same.trans sm sx).seq hL) ?_ ?_
        · rintro j z H2 hz ⟨sm2, hM⟩
          obtain ⟨z, rfl, hz'⟩ := ints_at hz
          refine ⟨rfl, .int z, rfl, .int x, rfl, rfl, _, rfl, ite2 (fun hb => ?_) (fun hb => ?_)⟩
          · have hne : z ≠ x := fun e => by
              rw [e, decide_eq_true rfl] at hb
              exact absurd hb (by decide)
            refine ⟨_, rfl, _, hM, ?_, fun b o e => ?_, ?_⟩
            · rw [List.length_map]
              refine Nat.lt_of_le_of_lt (List.length_filter_le _ _) (small1000 ?_)
              rw [List.length_take]
              omega
            · rw [upd_ne (ne_of_none e hD)]
              exact sm2 _ _ e
            · rw [upd_same, List.take_add_one, hz', List.filter_append, List.map_append]
              simp [hne]
          · have heq : z = x := by
              by_cases h : z = x
              · exact h
              · exfalso
                apply hb
                rw [decide_eq_false (fun e => h (V.int.inj e))]
                rfl
            refine ⟨sm2, ?_⟩
            rw [List.take_add_one, hz', List.filter_append]
            simpa [heq] using hM
        · rintro H2 ⟨sm2, hM⟩
          rw [List.length_map, List.take_length] at hM
          have lf : (ms.filter fun y => decide (y ≠ x)).length < ms.length := List.length_filter_lt_length_iff_exists.mpr ⟨x, hmem, by simp⟩
          refine ⟨D, ms.filter fun y => decide (y ≠ x), rfl, .inl (.inl hM), by omega, fun u us2 H3 s3 hu0 hu hU2 => ?_⟩
          have s13 : Same H1 H3 := Same.trans sm2 s3
          refine ⟨u, rfl, ⟨_, .inl (.inl hu)⟩, fun D3 hD3 => ?_⟩
          have lp := prm_len n' (ms.filter fun y => decide (y ≠ x)) (by omega) (by omega)
          have l6 : 6 ^ n' ≤ 6 ^ 4 := Nat.pow_le_pow_right (by decide) (by omega)
          have lu2 := hU2.len
          generalize hP : prm n' (ms.filter fun y => decide (y ≠ x)) = R at hU2 lp lu2
          refine lc_list (K := K) (a := u) (xs := us2) (fun j H' => (∀ b o, H3 b = some o → H' b = some o) ∧ ∃ ts : List V, H' D3 = some (.lst ts) ∧ Rows K H' ts ((R.take j).map fun r => x :: r) ∧ ts.length ≤ j) ⟨same_new hD3, [], upd_same, .nil, Nat.le_refl _⟩ (fun j H' _ ⟨sx, _⟩ => .inl (.inl (sx _ _ hu))) ?_ ?_
          · rintro j z H4 hz ⟨sm4, ts, hts, hTs, tl⟩
            obtain ⟨tr, r, rfl, hr', hT⟩ := hU2.get hz
            have jlt := at_lt hz
            refine ⟨rfl, tyes ?_⟩
            refine ⟨.int x, rfl, (by show 1 ≤ sizeLine; decide), fun t1 ht1 => ?_⟩
            have s5 := same_new (o := .tup [.int x]) ht1
            have hT5 : SqT K (upd H4 t1 (.tup [.int x])) tr (r.map V.int) := sameT s5 (sameT sm4 hT)
            have rl : r.length ≤ n' := prm_row n' _ r (by rw [hP]; exact List.mem_of_getElem? hr')
            refine ⟨.ref tr, rfl, ?_⟩
            refine cat_any (.inl (.inl upd_same)) hT5 ?_ fun t2 H5 s6 ht2 => ?_
            · rw [sizeLine_eq, List.length_map, List.length_singleton]
              omega
            · have s46 := s5.trans s6
              have hts5 := s46 _ _ hts
              refine ⟨ts, hts5, small1000' (by omega), fun b o e => ?_, ts ++ [.ref t2], upd_same, ?_, ?_⟩
              · rw [upd_ne (ne_of_none e hD3)]
                exact s46 _ _ (sm4 _ _ e)
              · rw [List.take_add_one, hr', List.map_append]
                exact (rows_off hts5 (hTs.mono s46)).append (.one (sqt_off hts5 ht2))
              · rw [List.length_append, List.length_singleton]
                omega
          · rintro H4 ⟨sm4, ts, hts, hTs, tl⟩
            rw [lu2, List.take_length] at hTs
            have s14 : Same H1 H4 := Same.trans s13 sm4
            have hF4 := s14 _ _ hF
            refine ⟨F, D3, us, ts, rfl, rfl, hF4, hts, ?_, fun p hp => ?_⟩
            · rw [sizeLine_eq]
              have := at_lt hx
              omega
            · have s5 := same_new (o := .lst (us ++ ts)) hp
              refine ⟨p, us ++ ts, _, _, _, rfl, (sm.trans s14).trans s5, (sm.trans s14).free hp, upd_same, ?_, ?_⟩
              · rw [List.take_add_one, hx, List.flatMap_append]
                refine ((hU.mono s14).mono s5).append ?_
                show Rows K _ ts (((prm n' (ms.filter fun y => decide (y ≠ x))).map fun r => x :: r) ++ [])
                rw [hP, List.append_nil]
                exact hTs.mono s5
              · rw [List.length_append]
                omega
      · rintro σ H1 ⟨F, us, v2, v3, v4, rfl, sm, hF0', hF, hU, hul⟩
        rw [List.length_map, List.take_length] at hU
        refine ⟨.ref F, rfl, q F us H1 sm hF0' hF ?_⟩
        show Rows K H1 us (if ms = [] then [[]] else _)
        rw [if_neg hms]
        exact hU
theorem ok_lorders (T : Tx K mg) : ∀ n : Nat, n ≤ 5 → FnOk P w K mg base CX0 (n + 1) T.f_l_orders T.d_l_orders ["_law_members"] (spPrm K n)
  | 0, h => lorders_step T 0 h ⟨fun _ _ _ _ h => h.elim, fun _ _ _ _ _ _ _ _ _ _ _ _ _ h => h.elim⟩
  | n + 1, h => lorders_step T (n + 1) h (ok_lorders T n (by omega))
end

section
variable {P : Program} {w : World} {K : PySem.W.Frag} {mg : Str → Option Value} {base : Heap}
theorem prodS_20 {p : Int} (h2 : 2 ≤ p) (h13 : p ≤ 13) : ∀ n : Nat, 1 ≤ prodS p n ∧ prodS p n ≤ 2 ^ (2 * n * (n + 1))
  | 0 => ⟨Int.le_refl _, by show (1 : Int) ≤ 2 ^ (2 * 0 * (0 + 1)); decide⟩
  | n + 1 => by
    obtain ⟨h, h'⟩ := prodS_20 h2 h13 n
    have s1 := stc_pos h2 n
    have s2 := (stc_bd h2 (n + 1)).2
    have s3 := (pow_bd (by omega : 0 ≤ p) h13 (n + 1)).2
    refine ⟨Int.mul_pos (by omega) (by omega), ?_⟩
    show prodS p n * stc p (n + 1) ≤ _
    have e : 2 * (n + 1) * (n + 1 + 1) = 2 * n * (n + 1) + 4 * (n + 1) := by
      simp only [Nat.mul_add, Nat.add_mul]
      omega
    rw [e, Int.pow_add]
    exact Int.mul_le_mul h' (by generalize (2 : Int) ^ (4 * (n + 1)) = X at *; omega) (by omega) (Int.pow_nonneg (by omega))
theorem big_20 {p : Int} (h2 : 2 ≤ p) (h13 : p ≤ 13) {n : Nat} (hn : n ≤ 20) : 1 ≤ prodS p n ∧ prodS p n ≤ 2 ^ 840 := by
  obtain ⟨a, b⟩ := prodS_20 h2 h13 n
  have h : 2 * n * (n + 1) ≤ 840 := by
    have : 2 * n * (n + 1) ≤ 40 * 21 := Nat.mul_le_mul (by omega) (by omega)
    omega
  have c : (2 : Int) ^ (2 * n * (n + 1)) ≤ 2 ^ 840 := pow_mono2 h
  exact ⟨a, Int.le_trans b c⟩
theorem meanD {p : Int} (h2 : 2 ≤ p) (h13 : p ≤ 13) {n : Nat} (hn : n ≤ 20) : 0 ≤ (mean p n).1 ∧ (mean p n).1 ≤ 2 ^ 1000 ∧ 0 ≤ (mean p n).2 ∧ (mean p n).2 ≤ 2 ^ 1000 := by
  obtain ⟨a, b⟩ := big_20 h2 h13 hn
  obtain ⟨c, d⟩ := evD_bd h2 n
  obtain ⟨l1, _⟩ := invC_len n (by omega)
  have nn2 : n * n ≤ 20 * 20 := Nat.mul_le_mul hn hn
  have e : (2 : Int) ^ 1000 = 2 ^ 160 * 2 ^ 840 := by decide +kernel
  have f : ((invC n).length : Int) * prodS p n ≤ 512 * prodS p n := Int.mul_le_mul_of_nonneg_right (by omega) (by omega)
  have g : (512 : Int) * 2 ^ 840 ≤ 2 ^ 1000 := by decide +kernel
  have g2 : (2 : Int) ^ 840 ≤ 2 ^ 1000 := by decide +kernel
  have lb := low_bd c (show 0 < prodS p n by omega)
  rw [← mean_low h2 n] at lb
  obtain ⟨m1, m2, m3, m4⟩ := lb
  refine ⟨m1, ?_, by omega, ?_⟩
  · generalize (2 : Int) ^ 840 = X at *
    generalize (2 : Int) ^ 1000 = Y at *
    clear e
    omega
  · exact Int.le_trans m4 (Int.le_trans b g2)
theorem show_pair {K : PySem.W.Frag} {H : Hp} {t : Addr} {x y : Int} {Q : VK} (ht : H t = some (.tup [.int x, .int y])) (hx : 0 ≤ x ∧ x ≤ 2 ^ 1000) (hy : 0 ≤ y ∧ y ≤ 2 ^ 1000) (q : Q (.str (PyData.shown (.tuple [.int x, .int y]))) H) : rReprD K [.ref t] H Q := by
  have hb : ∀ z ∈ [x, y], 0 ≤ z ∧ z ≤ 2 ^ 1000 := fun z hz => by
    simp only [List.mem_cons, List.not_mem_nil, or_false] at hz
    rcases hz with rfl | rfl
    · exact hx
    · exact hy
  obtain ⟨a1, a2, a3⟩ := big_all hb
  have h1 := PyData.shown_le_bulk 310 (by decide) (.tuple ([x, y].map PyData.int)) (by simpa only [PyData.leavesShort] using a2)
  refine ⟨.ref t, .tuple [.int x, .int y], rfl, .tup (.inl (.inl ht)) (.cons (.int x) (.cons (.int y) .nil)), (by show PyData.showable (.tuple ([x, y].map PyData.int)) = true; simpa only [PyData.showable] using a1), rfl, by simp [PyData.depth, PyData.depthAll], ?_, q⟩
  rw [sizeLine_eq]
  simp only [PyData.bulk] at h1
  simp only [List.map_cons, List.map_nil, List.length_cons, List.length_nil] at h1 a3
  omega
def spGR (K : PySem.W.Frag) (C : Addr) : Sp := fun vs H Q _ => ∃ (g l : Addr) (p : Int) (n : Nat), vs = [.ref g, .ref l] ∧ Gd C H g p n ∧ 2 ≤ p ∧ p ≤ 13 ∧ n ≤ 20 ∧ SqL K H l ((invC n).map V.int) ∧ ∀ H', Same H H' → Q (.bl true) H'
theorem ok_lground_right (T : Tx K mg) : FnG P w K mg base CX0 6 T.f_l_ground_right T.d_l_ground_right ["_law_ground", "_law_counts"] (spGR K T.C_Ground) := by
  have G_l_power := ok_lpower (P := P) (w := w) (base := base) T
  have G_l_lowest := ok_llowest (P := P) (w := w) (base := base) T
  have G_count_away := ok_count_away (P := P) (w := w) (base := base) T
  have G_count_nests := ok_count_nests (P := P) (w := w) (base := base) T
  have G_mean_away := ok_mean_away (P := P) (w := w) (base := base) T
  have G_Ground_p := ok_p (P := P) (w := w) (base := base) T
  have G_Ground_n := ok_n (P := P) (w := w) (base := base) T
  refine okG_nox T.F_l_ground_right sc_l_ground_right (fun vs H Q E h => ?_) (fun cdv A0 outer s H vs Q E hgd hr h => ?_)
  · obtain ⟨g, l, p, n, rfl, _⟩ := h
    rfl
  · obtain ⟨g, l, p, n, rfl, hg, p2, p13, n20, hL, q⟩ := h
    have hu := hu_of hr
    have hu66 : (A0.deeper (PyProof.Rows.envOfC "_law_ground_right" (defScope s_l_ground_right) s.heap.objs.size T.f_l_ground_right cdv)).units + 66 < cLine := by have := hr.un; omega
    refine ⟨_, (pss_cons (ps_asg (pe_tup (pa_cons (pe_meth0 (pv 0) T.cl_Ground T.m_Ground_p G_Ground_p (hr.mono (by decide)) T.b_Ground_p .nil pass0) (pa_cons (pe_meth0 (pv 0) T.cl_Ground T.m_Ground_n G_Ground_n (hr.mono (by decide)) T.b_Ground_n .nil pass0) (pa_cons (pe_lst pa_nil) pa_nil)))) (pg_tup rfl (pgs_cons (pg_name (i := 2) sc_l_ground_right.nd rfl (Or.inl rfl)) (pgs_cons (pg_name (i := 3) sc_l_ground_right.nd rfl (Or.inl rfl)) (pgs_cons (pg_name (i := 4) sc_l_ground_right.nd rfl (Or.inr rfl)) pgs_nil)))))
    (pss_cons (ps_for PassesOwn.never rfl (pi_range1 rfl T.z_range (pa_cons (pe_callB call_len_seq (by rfl) T.z_len PySem.boot_len (pa_cons (pv 1) pa_nil)) pa_nil)) (pg_name (i := 5) sc_l_ground_right.nd rfl (Or.inl rfl))
    (pss_one (ps_expr (pe_bm PySem.F.plainAttrs_list PySem.F.slot_list_append PySem.F.type_list_append mt_append (pv 4) (pa_cons (pe_op op_mulW (pe_ix ix_list (pv 1) (pv 5) (fun _ _ => rfl)) (pe_call G_l_power (hr.mono (by decide)) (by rfl) T.g_l_power T.F_l_power.kp T.b_l_power .nil pass0 (pa_cons (pv 2) (pa_cons (pv 5) pa_nil)))) pa_nil)))))
    (pss_cons (ps_for PassesOwn.never rfl (pi_list (pe_lst (pa_cons pe_int (pa_cons pe_int (pa_cons (pe_op op_fdiv (pe_callB call_len_seq (by rfl) T.z_len PySem.boot_len (pa_cons (pv 1) pa_nil)) pe_int) (pa_cons (pe_op op_sub (pe_callB call_len_seq (by rfl) T.z_len PySem.boot_len (pa_cons (pv 1) pa_nil)) pe_int) pa_nil)))))) (pg_name (i := 5) sc_l_ground_right.nd rfl (Or.inl rfl))
    (pss_one (ps_if (PW.pt (pw_and (pt_cmpR op_lt (pv 5) (pe_callB call_len_seq (by rfl) T.z_len PySem.boot_len (pa_cons (pv 1) pa_nil)) (nomark _)) (pw_and1 (pt_cmpR op_ne (pe_callB (call_reprD hgd hu66) (by rfl) T.z_repr (by decide +kernel) (pa_cons (pe_call G_count_away (hr.mono (by decide)) (by rfl) T.g_count_away T.F_count_away.kp T.b_count_away .nil pass0 (pa_cons (pv 0) (pa_cons (pv 5) pa_nil))) pa_nil)) (pe_callB (call_reprD hgd hu66) (by rfl) T.z_repr (by decide +kernel) (pa_cons (pe_ix ix_list (pv 4) (pv 5) (fun _ _ => rfl)) pa_nil)) (nomark _))))) (pss_one (ps_ret pe_bl)) pss_nil)))
    (pss_cons (ps_if (PW.pt (pw_or (pt_cmpR op_ne (pe_call G_count_away (hr.mono (by decide)) (by rfl) T.g_count_away T.F_count_away.kp T.b_count_away .nil pass0 (pa_cons (pv 0) (pa_cons (pe_callB call_len_seq (by rfl) T.z_len PySem.boot_len (pa_cons (pv 1) pa_nil)) pa_nil))) pe_int (nomark _)) (pw_or (pt_cmpR op_ne (pe_call G_count_away (hr.mono (by decide)) (by rfl) T.g_count_away T.F_count_away.kp T.b_count_away .nil pass0 (pa_cons (pv 0) (pa_cons (pe_op op_pow pe_int pe_int) pa_nil))) pe_int (nomark _)) (pw_or1 (pt_cmpR op_ne (pe_callB (cr_sum rfl) (by rfl) T.z_sum (by decide +kernel) (pa_cons (pv 4) pa_nil)) (pe_call G_count_nests (hr.mono (by decide)) (by rfl) T.g_count_nests T.F_count_nests.kp T.b_count_nests .nil pass0 (pa_cons (pv 0) pa_nil)) (nomark _)))))) (pss_one (ps_ret pe_bl)) pss_nil)
    (pss_one (ps_ret (pe_cmpR op_eq (pe_callB (call_reprD hgd hu66) (by rfl) T.z_repr (by decide +kernel) (pa_cons (pe_call G_mean_away (hr.mono (by decide)) (by rfl) T.g_mean_away T.F_mean_away.kp T.b_mean_away .nil pass0 (pa_cons (pv 0) pa_nil)) pa_nil)) (pe_callB (call_reprD hgd hu66) (by rfl) T.z_repr (by decide +kernel) (pa_cons (pe_call G_l_lowest (hr.mono (by decide)) (by rfl) T.g_l_lowest T.F_l_lowest.kp T.b_l_lowest .nil pass0 (pa_cons (pe_callB (cr_sum rfl) (by rfl) T.z_sum (by decide +kernel) (pa_cons (pe_lc (own := [("_law_k", 5)]) (g := gName 5) rfl sc_l_ground_right.nd (pi_range1 rfl T.z_range (pa_cons (pe_callB call_len_seq (by rfl) T.z_len PySem.boot_len (pa_cons (pv 4) pa_nil)) pa_nil)) (blkOk_by (own := [("_law_k", 5)]) (N := ["_law_ground", "_law_counts", "_law_p", "_law_n", "_law_away", "_law_k"]) (sc := defScope s_l_ground_right) (by decide +kernel)) (fun _ _ _ _ _ => (pg_name (i := 5) sc_l_ground_right.nd rfl (Or.inl rfl))) (fun _ _ _ _ _ => pts_nil) (fun _ _ _ _ _ => (pe_op op_mul (pv 5) (pe_ix (show IxR _ (rIxL K) from ix_list) (pv 4) (pv 5) (fun _ _ => rfl))))) pa_nil)) (pa_cons (pe_callB (cr_sum rfl) (by rfl) T.z_sum (by decide +kernel) (pa_cons (pv 4) pa_nil)) pa_nil))) pa_nil)) (nomark _)))))))), ?_⟩
    obtain ⟨dx, hi⟩ := id hg
    obtain ⟨l1, l2⟩ := invC_len n (by omega)
    have nn2 : n * n ≤ 20 * 20 := Nat.mul_le_mul n20 n20
    obtain ⟨b1, b2⟩ := big_20 p2 p13 n20
    have g2 : (2 : Int) ^ 840 ≤ 2 ^ 1000 := by decide +kernel
    obtain ⟨aw, haw⟩ : ∃ aw : Nat → Int, aw = fun j => (invC n).getD j 0 * p ^ j := ⟨_, rfl⟩
    have awb : ∀ j, j < (invC n).length → 0 ≤ aw j ∧ aw j ≤ prodS p n := fun j hj => by
      subst haw
      exact away_le p2 n j hj
    refine ⟨.ref g, rfl, g, dx, _, rfl, hi, no_p _ _, g, p, n, rfl, hg, ?_⟩
    refine ⟨.ref g, rfl, g, dx, _, rfl, hi, no_n _ _, g, p, n, rfl, hg, Nat.zero_le _, fun A hA => ?_⟩
    have s1 := same_new (o := .lst []) hA
    have f1 : (upd H A (.lst [])) A = some (.lst []) := upd_same
    have nA : ∀ b x, H b = some x → b ≠ A := fun b x e => ne_of_none e hA
    generalize upd H A (.lst []) = H1 at s1 f1
    refine ⟨(by show 3 ≤ sizeLine; decide), fun Z hZ => ?_⟩
    have s2 := same_new (o := .tup [.int p, .int (n : Nat), .ref A]) hZ
    have fZ : (upd H1 Z (.tup [.int p, .int (n : Nat), .ref A])) Z = _ := upd_same
    have f2 := s2 _ _ f1
    have s12 := s1.trans s2
    generalize upd H1 Z (.tup [.int p, .int (n : Nat), .ref A]) = H2 at s2 fZ f2 s12
    refine ⟨Z, [.int p, .int (n : Nat), .ref A], rfl, .inl (.inl fZ), rfl, .int p, [.int (n : Nat), .ref A], rfl, .int (n : Nat), [.ref A], rfl, .ref A, [], rfl, rfl, ?_⟩
    have lC : ((invC n).map V.int).length = (invC n).length := List.length_map ..
    refine ⟨.ref l, rfl, l, _, rfl, .inl (s12.seq hL), ((invC n).length : Nat), by rw [lC], by omega, by omega, for_range (lo := 0) (n := (((invC n).length : Nat) : Int).toNat) (fun i σ H' => ∃ v5 : Option V, σ = [some (.ref g), some (.ref l), some (.int p), some (.int (n : Nat)), some (.ref A), v5] ∧ Same H H' ∧ H' A = some (.lst (((List.range i).map aw).map V.int))) ⟨_, rfl, s12, f2⟩ ?_ ?_⟩
    · rintro i σ H3 hi2 ⟨v5, rfl, sm, hM⟩
      have hi3 : i < (invC n).length := by omega
      obtain ⟨a1, a2⟩ := awb i hi3
      rw [Int.zero_add]
      have nn := invC_nn n i
      have pw := pow_bd (by omega : 0 ≤ p) p13 i
      have pp : 1 ≤ p ^ i := by
        have : 0 < p ^ i := Int.pow_pos (by omega)
        omega
      have cb : (invC n).getD i 0 ≤ 2 ^ 840 := by
        have : (invC n).getD i 0 * 1 ≤ (invC n).getD i 0 * p ^ i := Int.mul_le_mul_of_nonneg_left pp nn
        have a2' : (invC n).getD i 0 * p ^ i ≤ prodS p n := by rw [haw] at a2; exact a2
        generalize (2 : Int) ^ 840 = X at *
        omega
      refine ⟨.ref A, rfl, .inl ⟨rfl, _, .inl (.inl hM)⟩, ?_⟩
      refine ⟨.ref l, rfl, .int (i : Int), rfl, l, _, _, _, rfl, rfl, sm.seq hL, o_atC hi3, .int p, rfl, .int (i : Int), rfl, p, (i : Int), rfl, by omega, by omega, by omega, by omega, ?_⟩
      rw [show ((i : Int)).toNat = i by omega]
      refine ⟨_, _, rfl, rfl, wide_mul (abs_lt nn cb) (abs_lt pw.1 pw.2) (by omega) (by omega) (by omega), A, _, _, rfl, rfl, hM, ?_, ?_⟩
      · rw [List.length_map, List.length_map, List.length_range]
        exact small1000' (by omega)
      · refine ⟨_, rfl, fun b x e => ?_, ?_⟩
        · rw [upd_ne (nA _ _ e)]
          exact sm _ _ e
        · rw [upd_same, List.range_succ, List.map_append, List.map_append, haw]
          rfl
    · rintro σ H3 ⟨v5, rfl, sm, hM⟩
      rw [show (((invC n).length : Nat) : Int).toNat = (invC n).length by omega] at hM
      have hL3 := sm.seq hL
      refine ⟨.ref l, rfl, l, _, rfl, .inl hL3, _, _, rfl, rfl, ⟨by decide, by decide⟩, .ref l, rfl, l, _, rfl, .inl hL3, _, _, rfl, rfl, (by show 4 ≤ sizeLine; decide), fun ks hks => ?_⟩
      rw [lC]
      obtain ⟨kx, hkx⟩ : ∃ kx, kx = [V.int 0, V.int 1, V.int (((invC n).length : Nat) / 2 : Int), V.int (((invC n).length : Nat) - 1 : Int)] := ⟨_, rfl⟩
      rw [← hkx]
      have s4 := same_new (o := .lst kx) hks
      have f4 : (upd H3 ks (.lst kx)) ks = some (.lst kx) := upd_same
      have hM4 := s4 _ _ hM
      have sm4 := sm.trans s4
      generalize upd H3 ks (.lst kx) = H4 at s4 f4 hM4 sm4
      have knat : ∀ y ∈ kx, ∃ k : Nat, y = V.int (k : Int) := fun y hy => by
        rw [hkx] at hy
        simp only [List.mem_cons, List.not_mem_nil, or_false] at hy
        rcases hy with rfl | rfl | rfl | rfl
        · exact ⟨0, rfl⟩
        · exact ⟨1, rfl⟩
        · exact ⟨(invC n).length / 2, rfl⟩
        · exact ⟨(invC n).length - 1, by congr 1; omega⟩
      refine ⟨ks, rfl, ⟨_, .inl (.inl f4)⟩, for_list (K := K) (a := ks) (xs := kx) (fun j σ H' => ∃ v5 : Option V, σ = [some (.ref g), some (.ref l), some (.int p), some (.int (n : Nat)), some (.ref A), v5] ∧ Same H4 H') ⟨_, rfl, Same.refl H4⟩ (fun j σ H' _ ⟨_, _, sx⟩ => .inl (.inl (sx _ _ f4))) ?_ ?_⟩
      · rintro j y σ H5 hy ⟨v5', rfl, sx⟩
        obtain ⟨k, rfl⟩ := knat y (List.mem_of_getElem? hy)
        have s05 := sm4.trans sx
        refine ⟨.int (k : Int), rfl, .ref l, rfl, l, _, rfl, .inl (s05.seq hL), _, _, rfl, rfl, _, rfl, ?_⟩
        rw [lC]
        by_cases hk : k < (invC n).length
        · rw [decide_eq_true (by omega : (k : Int) < ((invC n).length : Nat))]
          refine iteT ?_
          obtain ⟨a1, a2⟩ := awb k hk
          have a3 : aw k ≤ 2 ^ 1000 := by
            generalize (2 : Int) ^ 1000 = X at *
            generalize (2 : Int) ^ 840 = Y at *
            omega
          refine ⟨.ref g, rfl, .int (k : Int), rfl, g, p, n, (k : Int), rfl, hg.mono s05, p2, p13, by omega, by omega, fun H6 s6 => ?_⟩
          have ev : (if (k : Int) < ((invC n).length : Nat) then (invC n).getD ((k : Int)).toNat 0 * p ^ ((k : Int)).toNat else 0) = aw k := by
            rw [if_pos (by omega), haw, Int.toNat_natCast]
          rw [ev]
          have hA6 := s6 _ _ (sx _ _ hM4)
          have atk : atI (((List.range (invC n).length).map aw).map V.int) (k : Int) = some (.int (aw k)) := by
            refine atI_nat ?_
            rw [List.getElem?_map, List.getElem?_map, List.getElem?_range hk]
            rfl
          refine nil_i (show_big a1 a3 ?_)
          refine ⟨.ref A, rfl, .int (k : Int), rfl, A, _, _, _, rfl, rfl, .inl (.inl hA6), atk, nil_i (show_big a1 a3 ⟨rfl, _, rfl, ne_no ?_⟩)⟩
          exact ⟨_, rfl, sx.trans s6⟩
        · rw [decide_eq_false (by omega : ¬ (k : Int) < ((invC n).length : Nat))]
          exact iteF ⟨_, rfl, sx⟩
      · rintro σ H5 ⟨v5', rfl, sx⟩
        have es : ((List.range (invC n).length).map aw).sum = prodS p n := by
          rw [haw]
          exact evE_inv p n
        have s05 := sm4.trans sx
        have hA5 := sx _ _ hM4
        refine ⟨.ref g, rfl, .ref l, rfl, l, _, rfl, .inl (s05.seq hL), ?_⟩
        rw [lC]
        refine nil_i ⟨g, p, n, (((invC n).length : Nat) : Int), rfl, hg.mono s05, p2, p13, by omega, by omega, fun H6 s6 => ?_⟩
        rw [if_neg (by omega)]
        refine ⟨rfl, false, by rw [decide_eq_true rfl]; rfl, iteF ?_⟩
        have t20 : (10 : Int) ^ ((20 : Int)).toNat = 100000000000000000000 := by decide +kernel
        have s06 := s05.trans s6
        refine ⟨.ref g, rfl, 10, 20, rfl, rfl, (by unfold CPow; decide), ?_⟩
        refine nil_i ⟨g, p, n, (10 : Int) ^ ((20 : Int)).toNat, rfl, hg.mono s06, p2, p13, by omega, by omega, fun H7 s7 => ?_⟩
        rw [if_neg (by omega)]
        refine ⟨rfl, false, by rw [decide_eq_true rfl]; rfl, iteF ?_⟩
        have s07 := s06.trans s7
        have hA7 := s7 _ _ (s6 _ _ hA5)
        refine ⟨.ref A, rfl, A, _, rfl, .inl (.inl hA7), ?_⟩
        rw [es]
        refine ⟨.ref g, rfl, g, p, n, rfl, hg.mono s07, p2, p13, by omega, fun H8 s8 => ?_⟩
        refine ⟨rfl, _, rfl, ne_no ?_⟩
        have s08 := s07.trans s8
        have hA8 := s8 _ _ hA7
        obtain ⟨m1, m2, m3, m4⟩ := meanD p2 p13 n20
        refine ⟨.ref g, rfl, g, p, n, rfl, hg.mono s08, p2, p13, by omega, fun tm H9 s9 hm => ?_⟩
        have s09 := s08.trans s9
        have hA9 := s9 _ _ hA8
        refine nil_i (show_pair hm ⟨m1, m2⟩ ⟨m3, m4⟩ ?_)
        have lA : (((List.range (invC n).length).map aw).map V.int).length = (invC n).length := by rw [List.length_map, List.length_map, List.length_range]
        refine ⟨.ref A, rfl, A, _, rfl, .inl (.inl (.inl hA9)), ((invC n).length : Nat), by rw [lA], by omega, by omega, fun D hD => ?_⟩
        refine lc_range (lo := 0) (n := (((invC n).length : Nat) : Int).toNat) (fun k H' => (∀ b x, H9 b = some x → H' b = some x) ∧ H' D = some (.lst (((List.range k).map fun k => ((k : Nat) : Int) * aw k).map V.int))) ⟨same_new hD, upd_same⟩ ?_ ?_
        · rintro k H10 hk ⟨sy, hD10⟩
          have hk' : k < (invC n).length := by omega
          rw [Int.zero_add]
          have atk : atI (((List.range (invC n).length).map aw).map V.int) (k : Int) = some (.int (aw k)) := by
            refine atI_nat ?_
            rw [List.getElem?_map, List.getElem?_map, List.getElem?_range hk']
            rfl
          refine ⟨rfl, tyes ?_⟩
          refine ⟨.int (k : Int), rfl, .ref A, rfl, .int (k : Int), rfl, A, _, _, _, rfl, rfl, .inl (.inl (sy _ _ hA9)), atk, _, _, rfl, rfl, .inl ⟨by omega, by omega⟩, _, hD10, ?_, fun b x e => ?_, ?_⟩
          · rw [List.length_map, List.length_map, List.length_range]
            exact small1000' (by omega)
          · rw [upd_ne (ne_of_none e hD)]
            exact sy _ _ e
          · rw [upd_same, List.range_succ, List.map_append, List.map_append]
            rfl
        · rintro H10 ⟨sy, hD10⟩
          rw [show (((invC n).length : Nat) : Int).toNat = (invC n).length by omega] at hD10
          have ed : ((List.range (invC n).length).map fun k => ((k : Nat) : Int) * aw k).sum = evD p (invC n) := by
            rw [haw]
            rfl
          refine nil_i ⟨D, _, rfl, .inl (.inl hD10), ?_⟩
          rw [ed]
          refine ⟨.ref A, rfl, A, _, rfl, .inl (.inl (sy _ _ hA9)), ?_⟩
          rw [es]
          obtain ⟨d1, d2, d3, d4⟩ := evD_2 p2 p13 (n := n) (by omega)
          have w1 : (2 : Int) ^ 3860 ≤ 2 ^ 8000 := pow_mono2 (by decide)
          have w2 : (2 : Int) ^ 3844 ≤ 2 ^ 8000 := pow_mono2 (by decide)
          refine ⟨evD p (invC n), prodS p n, rfl, d1, by omega, Int.le_trans d2 w1, Int.le_trans d4 w2, fun t ht => ?_⟩
          have el := mean_low p2 n
          rw [← el]
          have sz := same_new (o := .tup [.int (mean p n).1, .int (mean p n).2]) ht
          refine nil_i (show_pair upd_same ⟨m1, m2⟩ ⟨m3, m4⟩ ⟨rfl, ?_⟩)
          rw [decide_eq_true rfl]
          exact q _ ((s09.trans sy).trans sz)
end

section
variable {P : Program} {w : World} {K : PySem.W.Frag} {mg : Str → Option Value} {base : Heap}
def IsP (p : Int) : Prop := p = 2 ∨ p = 3 ∨ p = 5 ∨ p = 7 ∨ p = 11 ∨ p = 13
theorem IsP.prm {p : Int} (h : IsP p) : Prm p := by
  refine ⟨?_, ?_, fun d d2 hd => ?_⟩
  · rcases h with rfl | rfl | rfl | rfl | rfl | rfl <;> decide
  · rcases h with rfl | rfl | rfl | rfl | rfl | rfl <;> decide
  · have d4 : d < 4 := by
      by_cases h4 : d < 4
      · exact h4
      · have h1 : 4 * d ≤ d * d := Int.mul_le_mul_of_nonneg_right (by omega) (by omega)
        have h2 : p ≤ 13 := by rcases h with rfl | rfl | rfl | rfl | rfl | rfl <;> decide
        omega
    rcases (by omega : d = 2 ∨ d = 3) with rfl | rfl
    · rcases h with rfl | rfl | rfl | rfl | rfl | rfl <;> first | decide | (exfalso; revert hd; decide)
    · rcases h with rfl | rfl | rfl | rfl | rfl | rfl <;> first | decide | (exfalso; revert hd; decide)
theorem IsP.lo {p : Int} (h : IsP p) : 2 ≤ p := h.prm.1
theorem IsP.hi {p : Int} (h : IsP p) : p ≤ 13 := by rcases h with rfl | rfl | rfl | rfl | rfl | rfl <;> decide
def spLaw (K : PySem.W.Frag) : Sp := fun vs H Q _ => ∃ (a : Addr) (ns : List Int), vs = [.ref a] ∧ SqL K H a (ns.map V.int) ∧ ns.length ≤ 63 ∧ ∀ H', Q (.bl true) H'
def rgC (n : Nat) : List Int := (List.range n).map fun (j : Nat) => (j : Int)
theorem rgV_rgC (n : Nat) : rgV 0 (n : Int) = (rgC n).map V.int := by
  unfold rgV rgC
  rw [List.map_map, show ((n : Int) - 0).toNat = n by omega]
  refine List.map_congr_left fun i _ => ?_
  show V.int (0 + (i : Int)) = V.int (i : Int)
  rw [Int.zero_add]
def cntO (os : List (List Int)) (k : Int) : Int := (os.countP fun o => decide (inv2 o = k) : Nat)
theorem cntO_snoc (l : List (List Int)) (o : List Int) (k : Int) : cntO (l ++ [o]) k = cntO l k + (if inv2 o = k then 1 else 0) := by
  unfold cntO
  rw [List.countP_append, List.countP_cons, List.countP_nil]
  by_cases h : inv2 o = k
  · rw [if_pos h, if_pos (decide_eq_true h)]
    push_cast
    omega
  · rw [if_neg h, if_neg (by simpa using h)]
    push_cast
    omega
theorem small_inv : ∀ n, n < 6 → ∀ k, k < 27 → cntO (prm 5 (rgC n)) (k : Nat) = (invC n).getD k 0 := by
  decide +kernel
theorem invC_bd {n : Nat} (hn : n ≤ 20) (j : Nat) : 0 ≤ (invC n).getD j 0 ∧ (invC n).getD j 0 ≤ 2 ^ 1000 := by
  have nn := invC_nn n j
  refine ⟨nn, ?_⟩
  by_cases h : j < (invC n).length
  · obtain ⟨a, b⟩ := away_le (p := 2) (by decide) n j h
    have c := (big_20 (p := 2) (by decide) (by decide) hn).2
    have e : (2 : Int) ^ 840 ≤ 2 ^ 1000 := pow_mono2 (by decide)
    have pp : (1 : Int) ≤ 2 ^ j := by
      have : (0 : Int) < 2 ^ j := Int.pow_pos (by decide)
      omega
    have f : (invC n).getD j 0 * 1 ≤ (invC n).getD j 0 * 2 ^ j := Int.mul_le_mul_of_nonneg_left pp nn
    rw [Int.mul_one] at f
    exact Int.le_trans f (Int.le_trans b (Int.le_trans c e))
  · rw [getD_out _ _ (by omega)]
    decide +kernel
theorem sqt_hideD {K : PySem.W.Frag} {H : Hp} {D t : Addr} {kvs : List (Key × V)} {xs : List V} (h0 : H D = some (.dK kvs)) (h : SqT K H t xs) : SqT K (hide H D D) t xs := by
  have off : ∀ {o : HO}, H t = some o → (∀ q, o ≠ .dK q) → (hide H D D) t = some o := fun {o} e n1 => by
    have a1 : t ≠ D := fun q => by rw [q, h0] at e; exact n1 _ (Option.some.inj e).symm
    unfold hide
    rw [if_neg (by simp [a1])]
    exact e
  rcases h with (h | ⟨o, h⟩) | h
  · exact .inl (.inl (off h (fun _ q => nomatch q)))
  · exact .inl (.inr ⟨o, off h (fun _ q => nomatch q)⟩)
  · exact .inr h
theorem rows_hideD {K : PySem.W.Frag} {H : Hp} {D : Addr} {kvs : List (Key × V)} (h0 : H D = some (.dK kvs)) : ∀ {ts : List V} {rs : List (List Int)}, Rows K H ts rs → Rows K (hide H D D) ts rs
  | _, _, .nil => .nil
  | _, _, .cons h t => .cons (sqt_hideD h0 h) (rows_hideD h0 t)
theorem hide_le {H : Hp} {D : Addr} : Same (hide H D D) H := fun b x e => by
  unfold hide at e
  split at e
  · cases e
  · exact e
theorem hide_no {H : Hp} {D : Addr} : hide H D D D = none := by simp [hide]
theorem ok_law (T : Tx K mg) : FnG P w K mg base CX0 9 T.f_law T.d_law ["_law_script"] (spLaw K) := by
  have G_l_source := ok_source (P := P) (w := w) (base := base) T
  have G_l_pick := ok_pick (P := P) (w := w) (base := base) T
  have G_l_of := ok_of (P := P) (w := w) (base := base) T
  have G_l_orders := ok_lorders (P := P) (w := w) (base := base) T 5 (Nat.le_refl _)
  have G_l_inversions := ok_linv (P := P) (w := w) (base := base) T
  have G_l_more := ok_lmore (P := P) (w := w) (base := base) T
  have G_l_ground_right := ok_lground_right (P := P) (w := w) (base := base) T
  have G_orders_with := ok_orders_with (P := P) (w := w) (base := base) T
  have G_mean_away := ok_mean_away (P := P) (w := w) (base := base) T
  have G_Ground_init := ok_init (P := P) (w := w) (base := base) T
  refine okG_nox T.F_law sc_law (fun vs H Q E h => ?_) (fun cdv A0 outer s H vs Q E hgd hr h => ?_)
  · obtain ⟨a, ns, rfl, _⟩ := h
    rfl
  · obtain ⟨a, ns, rfl, hS, hlen, q⟩ := h
    have hu := hu_of hr
    have hu66 : (A0.deeper (PyProof.Rows.envOfC "law" (defScope s_law) s.heap.objs.size T.f_law cdv)).units + 66 < cLine := by have := hr.un; omega
    refine ⟨_, (pss_cons (ps_set (i := 1) sc_law.nd rfl (Or.inl rfl) (pe_call G_l_source (hr.mono (by decide)) (by rfl) T.g_l_source T.F_l_source.kp T.b_l_source .nil pass0 (pa_cons (pv 0) pa_nil)))
    (pss_cons (ps_par (i := 2) (j := 3) (by rfl) sc_law.nd rfl rfl (by decide) rfl rfl (pa_cons (pe_call G_l_pick (hr.mono (by decide)) (by rfl) T.g_l_pick T.F_l_pick.kp T.b_l_pick .nil pass0 (pa_cons (pv 1) (pa_cons pe_int pa_nil))) (pa_cons pe_dnewK pa_nil)) (by rfl))
    (pss_cons (ps_for PassesOwn.never rfl (pi_list (pe_call G_l_orders (hr.mono (by decide)) (by rfl) T.g_l_orders T.F_l_orders.kp T.b_l_orders .nil pass0 (pa_cons (pe_listRg rfl (by rfl) T.z_list (prg_1 (by rfl) T.z_range (pv 2))) pa_nil))) (pg_name (i := 4) sc_law.nd rfl (Or.inl rfl))
    (pss_one (ps_dput hu (pv 3) (pe_call G_l_inversions (hr.mono (by decide)) (by rfl) T.g_l_inversions T.F_l_inversions.kp T.b_l_inversions .nil pass0 (pa_cons (pv 4) pa_nil)) (pe_op op_add (pe_dget2 hu (pv 3) (pe_call G_l_inversions (hr.mono (by decide)) (by rfl) T.g_l_inversions T.F_l_inversions.kp T.b_l_inversions .nil pass0 (pa_cons (pv 4) pa_nil)) pe_int ⟨by rfl, by rfl, by rfl, by rfl⟩) pe_int) rfl)))
    (pss_cons (ps_for PassesOwn.never rfl (pi_range1 rfl T.z_range (pa_cons (pe_op op_add (pe_op op_mul (pv 2) (pv 2)) pe_int) pa_nil)) (pg_name (i := 5) sc_law.nd rfl (Or.inl rfl))
    (pss_one (ps_if (pt_cmpR op_ne (pe_callB (call_reprD hgd hu66) (by rfl) T.z_repr (by decide +kernel) (pa_cons (pe_call G_orders_with (hr.mono (by decide)) (by rfl) T.g_orders_with T.F_orders_with.kp T.b_orders_with .nil pass0 (pa_cons (pv 2) (pa_cons (pv 5) pa_nil))) pa_nil)) (pe_callB (call_reprD hgd hu66) (by rfl) T.z_repr (by decide +kernel) (pa_cons (pe_dget2 hu (pv 3) (pv 5) pe_int ⟨by rfl, by rfl, by rfl, by rfl⟩) pa_nil)) (nomark _)) (pss_one (ps_ret pe_bl)) pss_nil)))
    (pss_cons (ps_par (i := 3) (j := 6) (by rfl) sc_law.nd rfl rfl (by decide) rfl rfl (pa_cons (pe_lst (pa_cons pe_int pa_nil)) (pa_cons (pe_call G_l_of (hr.mono (by decide)) (by rfl) T.g_l_of T.F_l_of.kp T.b_l_of .nil pass0 (pa_cons (pv 1) (pa_cons (pe_lst (pa_cons pe_int (pa_cons pe_int (pa_cons pe_int (pa_cons pe_int (pa_cons pe_int (pa_cons pe_int (pa_cons pe_int (pa_cons pe_int pa_nil))))))))) pa_nil))) pa_nil)) (by rfl))
    (pss_cons (ps_for PassesOwn.never rfl (pi_range2 (by rfl) T.z_range (pa_cons pe_int (pa_cons (pe_op op_add (pv 6) pe_int) pa_nil))) (pg_name (i := 5) sc_law.nd rfl (Or.inl rfl))
    (pss_one (ps_set (i := 3) sc_law.nd rfl (Or.inl rfl) (pe_call G_l_more (hr.mono (by decide)) (by rfl) T.g_l_more T.F_l_more.kp T.b_l_more .nil pass0 (pa_cons (pv 3) (pa_cons (pv 5) pa_nil))))))
    (pss_cons (ps_set (i := 5) sc_law.nd rfl (Or.inl rfl) (pe_call G_l_pick (hr.mono (by decide)) (by rfl) T.g_l_pick T.F_l_pick.kp T.b_l_pick .nil pass0 (pa_cons (pv 1) (pa_cons (pe_callB call_len_seq (by rfl) T.z_len PySem.boot_len (pa_cons (pv 3) pa_nil)) pa_nil))))
    (pss_cons (ps_if (pt_cmpR op_ne (pe_callB (call_reprD hgd hu66) (by rfl) T.z_repr (by decide +kernel) (pa_cons (pe_call G_orders_with (hr.mono (by decide)) (by rfl) T.g_orders_with T.F_orders_with.kp T.b_orders_with .nil pass0 (pa_cons (pv 6) (pa_cons (pv 5) pa_nil))) pa_nil)) (pe_callB (call_reprD hgd hu66) (by rfl) T.z_repr (by decide +kernel) (pa_cons (pe_ix ix_list (pv 3) (pv 5) (fun _ _ => rfl)) pa_nil)) (nomark _)) (pss_one (ps_ret pe_bl)) pss_nil)
    (pss_cons (ps_if (PW.pt (pw_or (pt_cmpR op_ne (pe_call G_orders_with (hr.mono (by decide)) (by rfl) T.g_orders_with T.F_orders_with.kp T.b_orders_with .nil pass0 (pa_cons (pv 6) (pa_cons (pe_callB call_len_seq (by rfl) T.z_len PySem.boot_len (pa_cons (pv 3) pa_nil)) pa_nil))) pe_int (nomark _)) (pw_or1 (pt_cmpR op_ne (pe_call G_orders_with (hr.mono (by decide)) (by rfl) T.g_orders_with T.F_orders_with.kp T.b_orders_with .nil pass0 (pa_cons (pv 6) (pa_cons (pe_op op_pow pe_int pe_int) pa_nil))) pe_int (nomark _))))) (pss_one (ps_ret pe_bl)) pss_nil)
    (pss_cons (ps_for PassesOwn.never rfl (pi_list (pe_lst (pa_cons pe_int (pa_cons (pe_call G_l_of (hr.mono (by decide)) (by rfl) T.g_l_of T.F_l_of.kp T.b_l_of .nil pass0 (pa_cons (pv 1) (pa_cons (pe_lst (pa_cons pe_int (pa_cons pe_int (pa_cons pe_int (pa_cons pe_int (pa_cons pe_int pa_nil)))))) pa_nil))) pa_nil)))) (pg_name (i := 7) sc_law.nd rfl (Or.inl rfl))
    (pss_one (ps_if (pt_not (pt_val (pe_callG G_l_ground_right hgd (hr.mono (by decide)) (by rfl) T.g_l_ground_right T.F_l_ground_right.kp T.b_l_ground_right .nil pass0 (pa_cons (pe_make T.M_Ground G_Ground_init (hr.mono (by decide)) rfl T.g_Ground T.b_Ground_init .nil pass0 (pa_cons (pv 7) (pa_cons (pv 6) pa_nil))) (pa_cons (pv 3) pa_nil))))) (pss_one (ps_ret pe_bl)) pss_nil)))
    (pss_one (ps_ret (pe_cmpR (op_eqD hr.units) (pe_lst (pa_cons (pe_call G_mean_away (hr.mono (by decide)) (by rfl) T.g_mean_away T.F_mean_away.kp T.b_mean_away .nil pass0 (pa_cons (pe_make T.M_Ground G_Ground_init (hr.mono (by decide)) rfl T.g_Ground T.b_Ground_init .nil pass0 (pa_cons pe_int (pa_cons pe_int pa_nil))) pa_nil)) (pa_cons (pe_call G_mean_away (hr.mono (by decide)) (by rfl) T.g_mean_away T.F_mean_away.kp T.b_mean_away .nil pass0 (pa_cons (pe_make T.M_Ground G_Ground_init (hr.mono (by decide)) rfl T.g_Ground T.b_Ground_init .nil pass0 (pa_cons pe_int (pa_cons pe_int pa_nil))) pa_nil)) (pa_cons (pe_call G_mean_away (hr.mono (by decide)) (by rfl) T.g_mean_away T.F_mean_away.kp T.b_mean_away .nil pass0 (pa_cons (pe_make T.M_Ground G_Ground_init (hr.mono (by decide)) rfl T.g_Ground T.b_Ground_init .nil pass0 (pa_cons pe_int (pa_cons pe_int pa_nil))) pa_nil)) pa_nil)))) (pe_lst (pa_cons (pe_tup (pa_cons pe_int (pa_cons pe_int pa_nil))) (pa_cons (pe_tup (pa_cons pe_int (pa_cons pe_int pa_nil))) (pa_cons (pe_tup (pa_cons pe_int (pa_cons pe_int pa_nil))) pa_nil)))) (nomark _)))))))))))))), ?_⟩
    refine ⟨.ref a, rfl, a, ns, rfl, hS, hlen, fun d c H1 k1 => ?_⟩
    refine ⟨.ref d, rfl, H, d, c, 6, rfl, k1, by decide, fun z H2 k2 z0 z1 => ?_⟩
    obtain ⟨n, rfl⟩ : ∃ n : Nat, z = n := ⟨z.toNat, by omega⟩
    have n5 : n ≤ 5 := by omega
    intro D hD
    have k3 : Kn H (upd H2 D (.dK [])) d c := k2.mono (same_new hD)
    have gD : H D = none := k2.free hD
    have nd := k2.src.some_d hD
    have nc := k2.src.some_c hD
    have f3 : (upd H2 D (.dK [])) D = some (.dK []) := upd_same
    generalize upd H2 D (.dK []) = H3 at k3 f3
    refine nil_i ⟨_, _, rfl, ?_⟩
    -- the orders, counted
    refine ⟨.int (n : Nat), rfl, (n : Int), rfl, RgOk.of_le (by decide) (by omega) (by decide) (by omega), fun r hr0 => ?_⟩
    rw [rgV_rgC]
    have s4 := same_new (o := .lst ((rgC n).map V.int)) hr0
    have f4 : (upd H3 r (.lst ((rgC n).map V.int))) r = _ := upd_same
    have fD4 := s4 _ _ f3
    have k4 := k3.mono s4
    generalize upd H3 r (.lst ((rgC n).map V.int)) = H4 at s4 f4 fD4 k4
    have rl : (rgC n).length = n := by unfold rgC; rw [List.length_map, List.length_range]
    refine nil_i ⟨r, rgC n, rfl, .inl (.inl f4), by omega, fun u us H5 s5 hu0 hu5 hU => ?_⟩
    have fD5 := s5 _ _ fD4
    have k5 := k4.mono s5
    have hUx := rows_hideD fD5 hU
    have nuD : u ≠ D := fun e => by rw [e, fD4] at hu0; cases hu0
    have hux : hide H5 D D u = some (.lst us) := by
      unfold hide
      rw [if_neg (by simp [nuD])]
      exact hu5
    have pl := prm_len 5 (rgC n) (by omega) (by omega)
    have pr := prm_row 5 (rgC n)
    have hsi := small_inv n (by omega)
    have lu := hUx.len
    generalize prm 5 (rgC n) = O at hUx pl pr hsi lu
    have hG : Same (hide H5 D D) H5 := hide_le
    have hGD : hide H5 D D D = none := hide_no
    generalize hide H5 D D = Gx at hUx hux hG hGD
    refine ⟨u, rfl, ⟨_, .inl (.inl hu5)⟩, for_list (K := K) (a := u) (xs := us) (fun i σ H' => ∃ (kvs : List (Key × V)) (v4 v5 v6 v7 : Option V), σ = [some (.ref a), some (.ref d), some (.int (n : Nat)), some (.ref D), v4, v5, v6, v7] ∧ Kn H H' d c ∧ Same Gx H' ∧ H' D = some (.dK kvs) ∧ kvs.length ≤ i ∧ ∀ k : Int, (valV kvs (Sum.inl k)).getD (.int 0) = .int (cntO (O.take i) k)) ⟨[], none, none, none, none, rfl, k5, hG, fD5, Nat.le_refl _, fun k => rfl⟩ (fun i σ H' _ ⟨_, _, _, _, _, _, _, sx, _⟩ => .inl (.inl (sx _ _ hux))) ?_ ?_⟩
    · rintro i y σ H6 hy ⟨kvs, v4, v5, v6, v7, rfl, k6, sx, hD6, kl, hv⟩
      obtain ⟨t, o, rfl, ho, hT⟩ := hUx.get hy
      have hi := at_lt hy
      have ol := pr o (List.mem_of_getElem? ho)
      refine ⟨.ref D, rfl, D, rfl, .inl ⟨_, .inl hD6⟩, .ref t, rfl, t, o, rfl, sameT sx hT, by omega, fun H7 s7 => ?_⟩
      refine ⟨_, DGet.k (k := (Sum.inl (inv2 o) : Key)) (s7 _ _ hD6), cntO (O.take i) (inv2 o), 1, hv (inv2 o), rfl, ?_⟩
      refine ⟨.ref D, rfl, .ref t, rfl, t, o, rfl, sameT s7 (sameT sx hT), by omega, fun H8 s8 => ?_⟩
      have hD8 := s8 _ _ (s7 _ _ hD6)
      refine ⟨D, _, rfl, DPut.k (k := (Sum.inl (inv2 o) : Key)) hD8 (Nat.lt_of_le_of_lt kl (small1000' (by omega))), ?_⟩
      have et : O.take (i + 1) = O.take i ++ [o] := by
        rw [List.take_add_one, ho]
        rfl
      refine ⟨_, _, _, _, _, rfl, ((k6.mono s7).mono s8).mut gD nd nc, s_off ((sx.trans s7).trans s8) hGD, upd_same, ?_, fun k => ?_⟩
      · exact Nat.le_trans (length_putK _ _ _) (by omega)
      · rw [valV_put, et, cntO_snoc]
        by_cases e : k = inv2 o
        · subst e
          rw [if_pos rfl, if_pos rfl]
          rfl
        · rw [if_neg (fun z => e (Sum.inl.inj z)), if_neg (fun z => e z.symm), Int.add_zero]
          exact hv k
    · rintro σ H6 ⟨kvs, v4, v5, v6, v7, rfl, k6, sx, hD6, kl, hv⟩
      rw [lu, List.take_length] at hv
      have nn : n * n ≤ 5 * 5 := Nat.mul_le_mul n5 n5
      have eJ : (n : Int) * (n : Int) + 2 = ((n * n + 2 : Nat) : Int) := by push_cast; rfl
      -- the numbers told
      refine ⟨.int (n : Nat), rfl, .int (n : Nat), rfl, _, _, rfl, rfl, .inl ⟨by omega, by omega⟩, _, _, rfl, rfl, ?_⟩
      obtain ⟨NN, hNN⟩ : ∃ NN, NN = n * n + 2 := ⟨_, rfl⟩
      rw [← hNN] at eJ
      refine nil_i ⟨(NN : Int), congrArg (fun z => [V.int z]) eJ, by omega, by omega, for_range (lo := 0) (n := ((NN : Nat) : Int).toNat) (fun i σ H' => ∃ v4 v5 v6 v7 : Option V, σ = [some (.ref a), some (.ref d), some (.int (n : Nat)), some (.ref D), v4, v5, v6, v7] ∧ Kn H H' d c ∧ H' D = some (.dK kvs)) ⟨_, _, _, _, rfl, k6, hD6⟩ ?_ ?_⟩
      · rintro i σ H7 hi ⟨v4, v5, v6, v7, rfl, k7, hD7⟩
        have hi27 : i < 27 := by omega
        have vb := invC_bd (n := n) (by omega) i
        rw [Int.zero_add]
        refine ⟨.int (n : Nat), rfl, .int (i : Int), rfl, n, (i : Int), rfl, by omega, by omega, fun H8 s8 => ?_⟩
        rw [Int.toNat_natCast]
        refine nil_i (show_big vb.1 vb.2 ?_)
        refine ⟨.ref D, rfl, D, rfl, .inl ⟨_, .inl (s8 _ _ hD7)⟩, .int (i : Int), rfl, _, DGet.k (k := (Sum.inl (i : Int) : Key)) (s8 _ _ hD7), ?_⟩
        rw [hv (i : Int), hsi i hi27]
        exact nil_i (show_big vb.1 vb.2 ⟨rfl, _, rfl, ne_no ⟨_, _, _, _, rfl, k7.mono s8, s8 _ _ hD7⟩⟩)
      · rintro σ H7 ⟨v4, v5, v6, v7, rfl, k7, hD7⟩
        -- counts, far = [1], of(..)
        refine ⟨(by show 1 ≤ sizeLine; decide), fun l0 hl0 => ?_⟩
        have k8 := k7.new (o := .lst [.int 1]) hl0
        have g8 : Same H (upd H l0 (.lst [.int 1])) := same_new (k7.free hl0)
        have f8 : (upd H l0 (.lst [.int 1])) l0 = some (.lst ((invC 0).map V.int)) := upd_same
        generalize upd H l0 (.lst [.int 1]) = G8 at k8 g8 f8
        generalize upd H7 l0 (.lst [.int 1]) = H8 at k8
        refine ⟨.ref d, rfl, (by show 8 ≤ sizeLine; decide), fun pf hpf => ?_⟩
        have k9 := k8.new (o := .lst ([0, 1, 2, 4, 6, 9, 15, 20].map V.int)) hpf
        have g9 : Same G8 (upd G8 pf (.lst ([0, 1, 2, 4, 6, 9, 15, 20].map V.int))) := same_new (k8.free hpf)
        refine ⟨_, d, c, pf, [0, 1, 2, 4, 6, 9, 15, 20].map V.int, rfl, k9, .inl (.inl upd_same), by decide, by decide, fun x H10 k10 hx => ?_⟩
        have k10 := k10.weak g9
        obtain ⟨far, rfl, far20⟩ : ∃ far : Nat, x = V.int (far : Nat) ∧ far ≤ 20 := by
          obtain ⟨z, hz, rfl⟩ := List.mem_map.mp hx
          simp only [List.mem_cons, List.not_mem_nil, or_false] at hz
          exact ⟨z.toNat, by congr 1; omega, by omega⟩
        refine ⟨_, _, rfl, ?_⟩
        refine ⟨.int (far : Nat), rfl, _, _, rfl, rfl, ?_⟩
        refine ⟨1, (far : Int) + 1, rfl, ⟨by decide, by decide, by omega, by omega⟩, for_range (lo := 1) (n := ((far : Int) + 1 - 1).toNat) (fun i σ H' => ∃ (l : Addr) (G' : Hp) (v4 v5 v7 : Option V), σ = [some (.ref a), some (.ref d), some (.int (n : Nat)), some (.ref l), v4, v5, some (.int (far : Nat)), v7] ∧ Same H G' ∧ Kn G' H' d c ∧ G' l = some (.lst ((invC i).map V.int))) ⟨l0, G8, _, _, _, rfl, g8, k10, f8⟩ ?_ ?_⟩
        · rintro i σ H11 hi ⟨l, G', v4, v5, v7, rfl, sG, k11, hl⟩
          have hi2 : i < far := by omega
          obtain ⟨l1, l2⟩ := invC_len i (by omega)
          have ii : i * i ≤ 20 * 20 := Nat.mul_le_mul (by omega) (by omega)
          refine ⟨.ref l, rfl, .int (1 + (i : Int)), rfl, l, invC i, i + 1, ?_, .inl (.inl (k11.le _ _ hl)), by omega, by omega, by omega, fun u2 H12 s12 hu20 hu2 => ?_⟩
          · rw [show 1 + (i : Int) = ((i + 1 : Nat) : Int) by omega]
            rfl
          · exact ⟨u2, _, _, _, _, rfl, sG.trans (same_new (k11.free hu20)), k11.add s12 hu20 hu2, upd_same⟩
        · rintro σ H11 ⟨l, G', v4, v5, v7, rfl, sG, k11, hl⟩
          rw [show ((far : Int) + 1 - 1).toNat = far by omega] at hl
          obtain ⟨l1, l2⟩ := invC_len far (by omega)
          have ff : far * far ≤ 20 * 20 := Nat.mul_le_mul far20 far20
          have lC : ((invC far).map V.int).length = (invC far).length := List.length_map ..
          -- a drawn number of inversions
          refine ⟨.ref d, rfl, .ref l, rfl, l, _, rfl, .inl (.inl (.inl (k11.le _ _ hl))), ?_⟩
          rw [lC]
          refine nil_i ⟨G', d, c, ((invC far).length : Nat), rfl, k11, by omega, fun kk H12 k12 kk0 kk1 => ?_⟩
          obtain ⟨j, rfl⟩ : ∃ j : Nat, kk = j := ⟨kk.toNat, by omega⟩
          have hj : j < (invC far).length := by omega
          have vb := invC_bd far20 j
          refine ⟨.int (far : Nat), rfl, .int (j : Int), rfl, far, (j : Int), rfl, by omega, by omega, fun H13 s13 => ?_⟩
          rw [Int.toNat_natCast]
          have k13 := k12.mono s13
          refine nil_i (show_big vb.1 vb.2 ?_)
          refine ⟨.ref l, rfl, .int (j : Int), rfl, l, _, _, _, rfl, rfl, .inl (.inl (k13.le _ _ hl)), o_atC hj, nil_i (show_big vb.1 vb.2 ⟨rfl, _, rfl, ne_no ?_⟩)⟩
          refine ⟨.int (far : Nat), rfl, .ref l, rfl, l, _, rfl, .inl (.inl (.inl (k13.le _ _ hl))), ?_⟩
          rw [lC]
          refine nil_i ⟨far, (((invC far).length : Nat) : Int), rfl, by omega, by omega, fun H14 s14 => ?_⟩
          rw [getD_out _ _ (by omega)]
          refine ⟨rfl, false, by rw [decide_eq_true rfl]; rfl, iteF ?_⟩
          have t20 : (10 : Int) ^ ((20 : Int)).toNat = 100000000000000000000 := by decide +kernel
          refine ⟨.int (far : Nat), rfl, 10, 20, rfl, rfl, (by unfold CPow; decide), ?_⟩
          refine nil_i ⟨far, (10 : Int) ^ ((20 : Int)).toNat, rfl, by omega, by omega, fun H15 s15 => ?_⟩
          rw [getD_out _ _ (by omega)]
          refine ⟨rfl, _, rfl, ne_no ?_⟩
          have k15 := (k13.mono s14).mono s15
          -- the grounds
          refine ⟨.ref d, rfl, (by show 5 ≤ sizeLine; decide), fun pl hpl => ?_⟩
          have k16 := k15.new (o := .lst ([3, 5, 7, 11, 13].map V.int)) hpl
          have g16 : Same G' (upd G' pl (.lst ([3, 5, 7, 11, 13].map V.int))) := same_new (k15.free hpl)
          refine ⟨_, d, c, pl, [3, 5, 7, 11, 13].map V.int, rfl, k16, .inl (.inl upd_same), by decide, by decide, fun xq H17 k17 hxq => ?_⟩
          have k17 := k17.weak g16
          obtain ⟨pq, rfl, ipq⟩ : ∃ pq : Int, xq = V.int pq ∧ IsP pq := by
            obtain ⟨z, hz, rfl⟩ := List.mem_map.mp hxq
            simp only [List.mem_cons, List.not_mem_nil, or_false] at hz
            exact ⟨z, rfl, by unfold IsP; omega⟩
          refine ⟨(by show 2 ≤ sizeLine; decide), fun ll hll => ?_⟩
          have k18 := k17.new (o := .lst [.int 2, .int pq]) hll
          have g18 : Same G' (upd G' ll (.lst [.int 2, .int pq])) := same_new (k17.free hll)
          have f18 : (upd G' ll (.lst [.int 2, .int pq])) ll = some (.lst [.int 2, .int pq]) := upd_same
          have hl18 := g18 _ _ hl
          generalize upd G' ll (.lst [.int 2, .int pq]) = G18 at k18 g18 f18 hl18
          generalize upd H17 ll (.lst [.int 2, .int pq]) = H18 at k18
          refine ⟨ll, rfl, ⟨_, .inl (.inl (k18.le _ _ f18))⟩, for_list (K := K) (a := ll) (xs := [.int 2, .int pq]) (fun i σ H' => ∃ v7 : Option V, σ = [some (.ref a), some (.ref d), some (.int (n : Nat)), some (.ref l), v4, some (.int (j : Int)), some (.int (far : Nat)), v7] ∧ Kn G18 H' d c) ⟨_, rfl, k18⟩ (fun i σ H' _ ⟨_, _, kx⟩ => .inl (.inl (kx.le _ _ f18))) ?_ ?_⟩
          · rintro i y σ H19 hy ⟨v7, rfl, k19⟩
            obtain ⟨py, rfl, ipy⟩ : ∃ py : Int, y = V.int py ∧ IsP py := by
              have hm := List.mem_of_getElem? hy
              simp only [List.mem_cons, List.not_mem_nil, or_false] at hm
              rcases hm with rfl | rfl
              · exact ⟨2, rfl, .inl rfl⟩
              · exact ⟨pq, rfl, ipq⟩
            refine ⟨.int py, rfl, .int (far : Nat), rfl, fun x dx nx ndx hne => ?_⟩
            refine ⟨x, dx, py, (far : Int), rfl, upd_same, ipy.prm, by omega, fun H20 hx3 hk3 => ⟨rfl, ?_⟩⟩
            have sm : Same H19 H20 := made_same nx ndx hne hx3 hk3
            have k20 := k19.mono sm
            refine ⟨.ref l, rfl, x, l, py, far, rfl, ⟨dx, hx3⟩, ipy.lo, ipy.hi, far20, .inl (.inl (k20.le _ _ hl18)), fun H21 s21 => ?_⟩
            exact ⟨true, rfl, iteF ⟨_, rfl, k20.mono s21⟩⟩
          · rintro σ H19 ⟨v7, rfl, k19⟩
            -- the means
            have e1 : mean 2 3 = (44, 21) := by decide +kernel
            have e2 : mean 5 0 = (0, 1) := by decide +kernel
            have e3 : mean 13 1 = (0, 1) := by decide +kernel
            intro x1 dx1 nx1 ndx1 hne1
            refine ⟨x1, dx1, 2, 3, rfl, upd_same, (show IsP 2 from .inl rfl).prm, by decide, fun H20 hx1 hk1 => ⟨rfl, ?_⟩⟩
            refine ⟨x1, 2, 3, rfl, ⟨dx1, hx1⟩, by decide, by decide, by decide, fun t1 H21 s21 ht1 => ?_⟩
            rw [e1] at ht1
            intro x2 dx2 nx2 ndx2 hne2
            refine ⟨x2, dx2, 5, 0, rfl, upd_same, (show IsP 5 from .inr (.inr (.inl rfl))).prm, by decide, fun H22 hx2 hk2 => ⟨rfl, ?_⟩⟩
            have s22 : Same H21 H22 := made_same nx2 ndx2 hne2 hx2 hk2
            refine ⟨x2, 5, 0, rfl, ⟨dx2, hx2⟩, by decide, by decide, by decide, fun t2 H23 s23 ht2 => ?_⟩
            rw [e2] at ht2
            intro x3 dx3 nx3 ndx3 hne3
            refine ⟨x3, dx3, 13, 1, rfl, upd_same, (show IsP 13 from .inr (.inr (.inr (.inr (.inr rfl))))).prm, by decide, fun H24 hx3 hk3 => ⟨rfl, ?_⟩⟩
            have s24 : Same H23 H24 := made_same nx3 ndx3 hne3 hx3 hk3
            refine ⟨x3, 13, 1, rfl, ⟨dx3, hx3⟩, by decide, by decide, by decide, fun t3 H25 s25 ht3 => ?_⟩
            rw [e3] at ht3
            refine ⟨(by show 3 ≤ sizeLine; decide), fun L1 hL1 => ?_⟩
            have w1 := same_new (o := .lst [.ref t1, .ref t2, .ref t3]) hL1
            refine ⟨(by show 2 ≤ sizeLine; decide), fun q1 hq1 => ?_⟩
            have w2 := same_new (o := .tup [.int 44, .int 21]) hq1
            refine ⟨(by show 2 ≤ sizeLine; decide), fun q2 hq2 => ?_⟩
            have w3 := same_new (o := .tup [.int 0, .int 1]) hq2
            refine ⟨(by show 2 ≤ sizeLine; decide), fun q3 hq3 => ?_⟩
            have w4 := same_new (o := .tup [.int 0, .int 1]) hq3
            refine ⟨(by show 3 ≤ sizeLine; decide), fun L2' hL2 => ?_⟩
            have w5 := same_new (o := .lst [.ref q1, .ref q2, .ref q3]) hL2
            have dp : ∀ {Hx : Hp} {t : Addr} {x y : Int}, Hx t = some (.tup [.int x, .int y]) → Dp K Hx (.ref t) (.tuple [.int x, .int y]) := fun h => .tup (.inl (.inl h)) (.cons (.int _) (.cons (.int _) .nil))
            have wt := ((w1.trans w2).trans w3).trans (w4.trans w5)
            have shp : SeqAt.shaped (.list [.tuple [.int 44, .int 21], .tuple [.int 0, .int 1], .tuple [.int 0, .int 1]]) = true := by decide +kernel
            refine ⟨.list [.tuple [.int 44, .int 21], .tuple [.int 0, .int 1], .tuple [.int 0, .int 1]], .list [.tuple [.int 44, .int 21], .tuple [.int 0, .int 1], .tuple [.int 0, .int 1]],
              .lst (.inl (.inl (((w2.trans w3).trans (w4.trans w5)) _ _ upd_same))) (.cons (dp (wt _ _ (s25 _ _ (s24 _ _ (s23 _ _ (s22 _ _ ht1)))))) (.cons (dp (wt _ _ (s25 _ _ (s24 _ _ ht2)))) (.cons (dp (wt _ _ ht3)) .nil))),
              .lst (.inl (.inl upd_same)) (.cons (dp ((w3.trans (w4.trans w5)) _ _ upd_same)) (.cons (dp ((w4.trans w5) _ _ upd_same)) (.cons (dp (w5 _ _ upd_same)) .nil))), shp, shp, ?_⟩
            rw [eqv_same shp]
            exact q _
end

theorem fin_ok {l : PySem.W.OpenLaw} {w : World} {K : PySem.W.Frag} {mg : Str → Option Value} {fa : Addr} (T : Tx K mg) (hfa : mg "law" = some (.ref fa)) :
    ∃ fd : FuncData, (∀ (s : Shared) (v : Value), BindsTo s fd ⟨[v], []⟩ [("_law_script", v)]) ∧ ∀ base : Heap, K.In base → base.Ns mainGlobals mg → FnG l.prog w K mg base CX0 9 fa fd ["_law_script"] (spLaw K) := by
  have e := hfa.symm.trans T.g_law
  cases e
  refine ⟨T.d_law, fun s v => ?_, fun base _ _ => ok_law T⟩
  obtain ⟨oc, od, kV, doc, pm, an, cdv, ct, osl, ed, lk, hcd⟩ := T.F_law.ex
  rw [ed]
  exact .of_eq rfl
end Lw
open PySem PySem.W PyProof.Rows
set_option maxHeartbeats 0 in
theorem PySem.Challenge.cw_codenests_k56_nests_so_many_deeds_away_holds : PySem.Challenge.rw_codenests_k56_nests_so_many_deeds_away.Holds := by
  w_on; o_law; k_head; (case hw => w_witness2)
  k_fill
  refine Lw.walk_G (l := PySem.Challenge.rw_codenests_k56_nests_so_many_deeds_away) (n := 63) (k := 9) (x := "_law_script") (CX := fun _ => L2.CX0) (sp := fun w => Lw.spLaw _) rfl (by decide) rfl ⟨rfl, by decide, by decide⟩ (fun w h Y => PySem.W.kIn_of Y) ?F (fun _ _ a ns hl hS => ⟨a, ns, rfl, hS, hl, fun _ => rfl⟩) (fun _ _ _ _ _ h => h)
  case F =>
    intro w mg fa h KX G hmg
    refine' Lw.fin_ok (Lw.tx_mk KX G ?a_Ground ?pg_Ground ?hd_Ground ?po_Ground ?sa_Ground ?mk_Ground ?kc_Ground ?n_Ground_p ?n_Ground_n ?a_is_number ?l_is_number ?c_is_number ?k_is_number ?a_power ?l_power ?c_power ?k_power ?a_step_count ?l_step_count ?c_step_count ?k_step_count ?a_step_product ?l_step_product ?c_step_product ?k_step_product ?a_count_nests ?l_count_nests ?c_count_nests ?k_count_nests ?a_inversion_counts ?l_inversion_counts ?c_inversion_counts ?k_inversion_counts ?a_orders_with ?l_orders_with ?c_orders_with ?k_orders_with ?a_count_away ?l_count_away ?c_count_away ?k_count_away ?a_lowest ?l_lowest ?c_lowest ?k_lowest ?a_mean_away ?l_mean_away ?c_mean_away ?k_mean_away ?a_is_prime ?l_is_prime ?c_is_prime ?k_is_prime ?a_Ground_init ?i_Ground_init ?l_Ground_init ?c_Ground_init ?k_Ground_init ?a_Ground_p ?i_Ground_p ?l_Ground_p ?c_Ground_p ?k_Ground_p ?a_Ground_n ?i_Ground_n ?l_Ground_n ?c_Ground_n ?k_Ground_n ?a_l_source ?l_l_source ?c_l_source ?k_l_source ?a_l_pick ?l_l_pick ?c_l_pick ?k_l_pick ?a_l_of ?l_l_of ?c_l_of ?k_l_of ?a_l_inversions ?l_l_inversions ?c_l_inversions ?k_l_inversions ?a_l_orders ?l_l_orders ?c_l_orders ?k_l_orders ?a_l_power ?l_l_power ?c_l_power ?k_l_power ?a_l_more ?l_l_more ?c_l_more ?k_l_more ?a_l_lowest ?l_l_lowest ?c_l_lowest ?k_l_lowest ?a_l_ground_right ?l_l_ground_right ?c_l_ground_right ?k_l_ground_right ?a_law ?l_law ?c_law ?k_law ?z_len ?z_range ?z_int ?z_bool ?z_tuple ?z_list ?z_isinstance ?z_abs ?z_max ?z_min ?z_sum ?z_enumerate ?z_repr ?z_zip ?a_gcd) hmg
    (case a_Ground => k_is)
    (case pg_Ground => k_is)
    (case hd_Ground => k_is)
    (case po_Ground => k_is)
    (case sa_Ground => k_is)
    (case mk_Ground => k_is)
    (case kc_Ground => k_is)
    (case n_Ground_p => k_is)
    (case n_Ground_n => k_is)
    (case a_is_number => k_is)
    (case l_is_number => k_is)
    (case c_is_number => k_is)
    (case k_is_number => k_is)
    (case a_power => k_is)
    (case l_power => k_is)
    (case c_power => k_is)
    (case k_power => k_is)
    (case a_step_count => k_is)
    (case l_step_count => k_is)
    (case c_step_count => k_is)
    (case k_step_count => k_is)
    (case a_step_product => k_is)
    (case l_step_product => k_is)
    (case c_step_product => k_is)
    (case k_step_product => k_is)
    (case a_count_nests => k_is)
    (case l_count_nests => k_is)
    (case c_count_nests => k_is)
    (case k_count_nests => k_is)
    (case a_inversion_counts => k_is)
    (case l_inversion_counts => k_is)
    (case c_inversion_counts => k_is)
    (case k_inversion_counts => k_is)
    (case a_orders_with => k_is)
    (case l_orders_with => k_is)
    (case c_orders_with => k_is)
    (case k_orders_with => k_is)
    (case a_count_away => k_is)
    (case l_count_away => k_is)
    (case c_count_away => k_is)
    (case k_count_away => k_is)
    (case a_lowest => k_is)
    (case l_lowest => k_is)
    (case c_lowest => k_is)
    (case k_lowest => k_is)
    (case a_mean_away => k_is)
    (case l_mean_away => k_is)
    (case c_mean_away => k_is)
    (case k_mean_away => k_is)
    (case a_is_prime => k_is)
    (case l_is_prime => k_is)
    (case c_is_prime => k_is)
    (case k_is_prime => k_is)
    (case a_Ground_init => k_is)
    (case i_Ground_init => k_is)
    (case l_Ground_init => k_is)
    (case c_Ground_init => k_is)
    (case k_Ground_init => k_is)
    (case a_Ground_p => k_is)
    (case i_Ground_p => k_is)
    (case l_Ground_p => k_is)
    (case c_Ground_p => k_is)
    (case k_Ground_p => k_is)
    (case a_Ground_n => k_is)
    (case i_Ground_n => k_is)
    (case l_Ground_n => k_is)
    (case c_Ground_n => k_is)
    (case k_Ground_n => k_is)
    (case a_l_source => k_is)
    (case l_l_source => k_is)
    (case c_l_source => k_is)
    (case k_l_source => k_is)
    (case a_l_pick => k_is)
    (case l_l_pick => k_is)
    (case c_l_pick => k_is)
    (case k_l_pick => k_is)
    (case a_l_of => k_is)
    (case l_l_of => k_is)
    (case c_l_of => k_is)
    (case k_l_of => k_is)
    (case a_l_inversions => k_is)
    (case l_l_inversions => k_is)
    (case c_l_inversions => k_is)
    (case k_l_inversions => k_is)
    (case a_l_orders => k_is)
    (case l_l_orders => k_is)
    (case c_l_orders => k_is)
    (case k_l_orders => k_is)
    (case a_l_power => k_is)
    (case l_l_power => k_is)
    (case c_l_power => k_is)
    (case k_l_power => k_is)
    (case a_l_more => k_is)
    (case l_l_more => k_is)
    (case c_l_more => k_is)
    (case k_l_more => k_is)
    (case a_l_lowest => k_is)
    (case l_l_lowest => k_is)
    (case c_l_lowest => k_is)
    (case k_l_lowest => k_is)
    (case a_l_ground_right => k_is)
    (case l_l_ground_right => k_is)
    (case c_l_ground_right => k_is)
    (case k_l_ground_right => k_is)
    (case a_law => k_is)
    (case l_law => k_is)
    (case c_law => k_is)
    (case k_law => k_is)
    (case z_len => k_is)
    (case z_range => k_is)
    (case z_int => k_is)
    (case z_bool => k_is)
    (case z_tuple => k_is)
    (case z_list => k_is)
    (case z_isinstance => k_is)
    (case z_abs => k_is)
    (case z_max => k_is)
    (case z_min => k_is)
    (case z_sum => k_is)
    (case z_enumerate => k_is)
    (case z_repr => k_is)
    (case z_zip => k_is)
    (case a_gcd => k_is)
