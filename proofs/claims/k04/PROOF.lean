import PyProof.Rows.All
import Wide.All
import OpenK.AllK
import Wide.FinOn
import HandS.ForMost
import HandS.Style
import HandS.IsInst
import HandS.Exc
import HandS.ExcOwn
import HandS.TryOnly
import HandS.WordsExc
import HandS.TupAny
import HandS.Steps
import HandS.TupMul
import HandS.Small
import PySem.Challenge.RW_codenests_k04_rows_by_number
set_option Elab.async false
set_option linter.all false
set_option maxRecDepth 100000
set_option maxHeartbeats 4000000
namespace Lw
open PySem L2
/-! ### the drawn source -/
abbrev ks (x : Str) : Key := Sum.inr x
theorem zCL : ¬ Str.ofString "cells" = Str.ofString "left" := by decide +kernel
theorem zCM : ¬ Str.ofString "cells" = Str.ofString "mixed" := by decide +kernel
theorem zCT : ¬ Str.ofString "cells" = Str.ofString "turn" := by decide +kernel
theorem zLC : ¬ Str.ofString "left" = Str.ofString "cells" := by decide +kernel
theorem zLM : ¬ Str.ofString "left" = Str.ofString "mixed" := by decide +kernel
theorem zLT : ¬ Str.ofString "left" = Str.ofString "turn" := by decide +kernel
theorem zMC : ¬ Str.ofString "mixed" = Str.ofString "cells" := by decide +kernel
theorem zML : ¬ Str.ofString "mixed" = Str.ofString "left" := by decide +kernel
theorem zMT : ¬ Str.ofString "mixed" = Str.ofString "turn" := by decide +kernel
theorem zTC : ¬ Str.ofString "turn" = Str.ofString "cells" := by decide +kernel
theorem zTL : ¬ Str.ofString "turn" = Str.ofString "left" := by decide +kernel
theorem zTM : ¬ Str.ofString "turn" = Str.ofString "mixed" := by decide +kernel
theorem kCL : ¬ ks "cells" = ks "left" := fun h => absurd (Sum.inr.inj h) (by decide +kernel)
theorem kCM : ¬ ks "cells" = ks "mixed" := fun h => absurd (Sum.inr.inj h) (by decide +kernel)
theorem kCT : ¬ ks "cells" = ks "turn" := fun h => absurd (Sum.inr.inj h) (by decide +kernel)
theorem kLM : ¬ ks "left" = ks "mixed" := fun h => absurd (Sum.inr.inj h) (by decide +kernel)
theorem kLT : ¬ ks "left" = ks "turn" := fun h => absurd (Sum.inr.inj h) (by decide +kernel)
theorem kMT : ¬ ks "mixed" = ks "turn" := fun h => absurd (Sum.inr.inj h) (by decide +kernel)
theorem kLC : ¬ ks "left" = ks "cells" := fun h => kCL h.symm
theorem kMC : ¬ ks "mixed" = ks "cells" := fun h => kCM h.symm
theorem kTC : ¬ ks "turn" = ks "cells" := fun h => kCT h.symm
theorem kML : ¬ ks "mixed" = ks "left" := fun h => kLM h.symm
theorem kTL : ¬ ks "turn" = ks "left" := fun h => kLT h.symm
theorem kTM : ¬ ks "turn" = ks "mixed" := fun h => kMT h.symm
def srcK (c : Addr) (l m t : Int) : List (Key × V) := [(ks "cells", .ref c), (ks "left", .int l), (ks "mixed", .int m), (ks "turn", .int t)]
theorem src_cells (c : Addr) (l m t : Int) : valV (srcK c l m t) (ks "cells") = some (.ref c) := valV_pos rfl
theorem src_left (c : Addr) (l m t : Int) : valV (srcK c l m t) (ks "left") = some (.int l) := (valV_neg kCL).trans (valV_pos rfl)
theorem src_mixed (c : Addr) (l m t : Int) : valV (srcK c l m t) (ks "mixed") = some (.int m) := (valV_neg kCM).trans ((valV_neg kLM).trans (valV_pos rfl))
theorem src_turn (c : Addr) (l m t : Int) : valV (srcK c l m t) (ks "turn") = some (.int t) := (valV_neg kCT).trans ((valV_neg kLT).trans ((valV_neg kMT).trans (valV_pos rfl)))
theorem put_left (c : Addr) (l m t z : Int) : putK (srcK c l m t) (ks "left") (.int z) = srcK c z m t := by
  simp [putK, srcK, zCL, zCM, zCT, zLC, zLM, zLT, zMC, zML, zMT, zTC, zTL, zTM]
theorem put_mixed (c : Addr) (l m t z : Int) : putK (srcK c l m t) (ks "mixed") (.int z) = srcK c l z t := by
  simp [putK, srcK, zCL, zCM, zCT, zLC, zLM, zLT, zMC, zML, zMT, zTC, zTL, zTM]
theorem put_turn (c : Addr) (l m t z : Int) : putK (srcK c l m t) (ks "turn") (.int z) = srcK c l m z := by
  simp [putK, srcK, zCL, zCM, zCT, zLC, zLM, zLT, zMC, zML, zMT, zTC, zTL, zTM]
theorem merge_src (c : Addr) (l m t : Int) : mergeK [] (srcK c l m t) = srcK c l m t := by
  simp [mergeK, putK, srcK, zCL, zCM, zCT, zLC, zLM, zLT, zMC, zML, zMT, zTC, zTL, zTM]
theorem get_cells {H : Hp} {d c : Addr} {l m t : Int} (e : H d = some (.dK (srcK c l m t))) : DGet H d (.str "cells") (some (.ref c)) := by
  have h := DGet.k (k := ks "cells") e
  rw [src_cells] at h
  exact h
theorem get_left {H : Hp} {d c : Addr} {l m t : Int} (e : H d = some (.dK (srcK c l m t))) : DGet H d (.str "left") (some (.int l)) := by
  have h := DGet.k (k := ks "left") e
  rw [src_left] at h
  exact h
theorem get_mixed {H : Hp} {d c : Addr} {l m t : Int} (e : H d = some (.dK (srcK c l m t))) : DGet H d (.str "mixed") (some (.int m)) := by
  have h := DGet.k (k := ks "mixed") e
  rw [src_mixed] at h
  exact h
theorem get_turn {H : Hp} {d c : Addr} {l m t : Int} (e : H d = some (.dK (srcK c l m t))) : DGet H d (.str "turn") (some (.int t)) := by
  have h := DGet.k (k := ks "turn") e
  rw [src_turn] at h
  exact h
theorem dput_left {H : Hp} {d c : Addr} {l m t z : Int} (e : H d = some (.dK (srcK c l m t))) : DPut H d (.str "left") (.int z) (upd H d (.dK (srcK c z m t))) := by
  have h := DPut.k (k := ks "left") (v := .int z) e (small1000 (by show 4 ≤ 1000; decide))
  rw [put_left] at h
  exact h
theorem dput_mixed {H : Hp} {d c : Addr} {l m t z : Int} (e : H d = some (.dK (srcK c l m t))) : DPut H d (.str "mixed") (.int z) (upd H d (.dK (srcK c l z t))) := by
  have h := DPut.k (k := ks "mixed") (v := .int z) e (small1000 (by show 4 ≤ 1000; decide))
  rw [put_mixed] at h
  exact h
theorem dput_turn {H : Hp} {d c : Addr} {l m t z : Int} (e : H d = some (.dK (srcK c l m t))) : DPut H d (.str "turn") (.int z) (upd H d (.dK (srcK c l m z))) := by
  have h := DPut.k (k := ks "turn") (v := .int z) e (small1000 (by show 4 ≤ 1000; decide))
  rw [put_turn] at h
  exact h
/-- the drawn source stands at d, its cells at c -/
def Src (H : Hp) (d c : Addr) : Prop := ∃ (xs : List Int) (l m t : Int), H d = some (.dK (srcK c l m t)) ∧ H c = some (.lst (xs.map V.int)) ∧ xs.length ≤ 63 ∧ (∀ x ∈ xs, 0 ≤ x) ∧ 0 ≤ l ∧ 0 ≤ m ∧ m < 2147483647
/-- G is known: it stands in H whatever is drawn; the source itself is apart from it -/
structure Kn (G H : Hp) (d c : Addr) : Prop where
  le : Same G H
  gd : G d = none
  gc : G c = none
  src : Src H d c
section
variable {G H H' : Hp} {d c p : Addr} {o o' : HO}
theorem Src.ne (s : Src H d c) : c ≠ d := by
  obtain ⟨xs, l, m, t, h1, h2, _⟩ := s
  exact ne_of h2 h1 (by intro z; cases z)
theorem Src.some_d (s : Src H d c) (hp : H p = none) : p ≠ d := by
  obtain ⟨xs, l, m, t, h1, h2, _⟩ := s
  exact fun e => by rw [e, h1] at hp; cases hp
theorem Src.some_c (s : Src H d c) (hp : H p = none) : p ≠ c := by
  obtain ⟨xs, l, m, t, h1, h2, _⟩ := s
  exact fun e => by rw [e, h2] at hp; cases hp
theorem Src.same (s : Src H d c) (e : Same H H') : Src H' d c := by
  obtain ⟨xs, l, m, t, h1, h2, r⟩ := s
  exact ⟨xs, l, m, t, e _ _ h1, e _ _ h2, r⟩
theorem Src.off (s : Src H d c) (h1 : p ≠ d) (h2 : p ≠ c) : Src (upd H p o) d c := by
  obtain ⟨xs, l, m, t, e1, e2, r⟩ := s
  exact ⟨xs, l, m, t, by rw [upd_ne h1.symm]; exact e1, by rw [upd_ne h2.symm]; exact e2, r⟩
theorem same_new (h : H p = none) : Same H (upd H p o) := fun b x e => by
  rw [upd_ne (ne_of_none e h)]
  exact e
theorem Kn.mono (k : Kn G H d c) (e : Same H H') : Kn G H' d c := ⟨k.le.trans e, k.gd, k.gc, k.src.same e⟩
/-- a new object, remembered -/
theorem Kn.new (k : Kn G H d c) (hp : H p = none) : Kn (upd G p o) (upd H p o) d c := by
  refine ⟨fun b x e => ?_, ?_, ?_, k.src.same (same_new hp)⟩
  · by_cases hb : b = p
    · subst hb
      rw [upd_same] at e ⊢
      exact e
    · rw [upd_ne hb] at e ⊢
      exact k.le _ _ e
  · rw [upd_ne (k.src.some_d hp).symm]
    exact k.gd
  · rw [upd_ne (k.src.some_c hp).symm]
    exact k.gc
/-- an object made meanwhile, remembered -/
theorem Kn.add (k : Kn G H d c) (e : Same H H') (hp : H p = none) (h : H' p = some o) : Kn (upd G p o) H' d c := by
  refine ⟨fun b x q => ?_, ?_, ?_, k.src.same e⟩
  · by_cases hb : b = p
    · subst hb
      rw [upd_same] at q
      cases q
      exact h
    · rw [upd_ne hb] at q
      exact e _ _ (k.le _ _ q)
  · rw [upd_ne (k.src.some_d hp).symm]
    exact k.gd
  · rw [upd_ne (k.src.some_c hp).symm]
    exact k.gc
theorem Kn.nd (k : Kn G H d c) (h : G p = some o) : p ≠ d := fun e => by
  rw [e, k.gd] at h
  cases h
theorem Kn.nc (k : Kn G H d c) (h : G p = some o) : p ≠ c := fun e => by
  rw [e, k.gc] at h
  cases h
/-- a remembered object changes -/
theorem Kn.set (k : Kn (upd G p o) H d c) : Kn (upd G p o') (upd H p o') d c := by
  have n1 : p ≠ d := k.nd upd_same
  have n2 : p ≠ c := k.nc upd_same
  refine ⟨fun b x e => ?_, ?_, ?_, k.src.off n1 n2⟩
  · by_cases hb : b = p
    · subst hb
      rw [upd_same] at e ⊢
      exact e
    · rw [upd_ne hb] at e ⊢
      refine k.le _ _ ?_
      rw [upd_ne hb]
      exact e
  · have := k.gd
    rw [upd_ne n1.symm] at this ⊢
    exact this
  · have := k.gc
    rw [upd_ne n2.symm] at this ⊢
    exact this
/-- an object that nobody remembers changes -/
theorem Kn.mut (k : Kn G H d c) (g : G p = none) (n1 : p ≠ d) (n2 : p ≠ c) : Kn G (upd H p o) d c :=
  ⟨fun b x e => by rw [upd_ne (ne_of_none e g)]; exact k.le _ _ e, k.gd, k.gc, k.src.off n1 n2⟩
/-- one forgets -/
theorem Kn.weak {G' : Hp} (k : Kn G H d c) (e : Same G' G) : Kn G' H d c := ⟨e.trans k.le, e.free k.gd, e.free k.gc, k.src⟩
theorem Kn.free (k : Kn G H d c) (hp : H p = none) : G p = none := k.le.free hp
end
theorem ints_at {ns : List Int} {i : Nat} {y : V} (h : (ns.map V.int)[i]? = some y) : ∃ z, y = V.int z ∧ ns[i]? = some z := by
  rw [List.getElem?_map] at h
  cases e : ns[i]? with
  | none =>
    rw [e] at h
    cases h
  | some z =>
    rw [e] at h
    exact ⟨z, (Option.some.inj h).symm, rfl⟩
theorem at_lt {α : Type} {l : List α} {i : Nat} {x : α} (h : l[i]? = some x) : i < l.length := (List.getElem?_eq_some_iff.mp h).1
/-! ### values and tests that leave the heap -/
section
variable {σ : L2.St} {H : Hp} {x y z v : V} {ta tb td ty : TE} {d : Addr} {b : Bool}
theorem val_dget (h : Val td σ H (.ref d)) (hy : Val ty σ H y) (g : DGet H d y (some v)) : Val (tDGet td ty) σ H v := fun Q q => by
  refine h _ ?_
  refine hy _ ?_
  exact ⟨d, v, rfl, g, q⟩
theorem val_cb1 {r : List V → Hp → VK → Prop} (h : Val ta σ H x) (hr : ∀ Q : VK, Q z H → r [x] H Q) : Val (tCB r (tCons ta tNil)) σ H z := fun Q q => by
  refine h _ ?_
  exact hr Q q
theorem val_cb2 {r : List V → Hp → VK → Prop} (h : Val ta σ H x) (h2 : Val tb σ H y) (hr : ∀ Q : VK, Q z H → r [x, y] H Q) : Val (tCB r (tCons ta (tCons tb tNil))) σ H z := fun Q q => by
  refine h _ ?_
  refine h2 _ ?_
  exact hr Q q
theorem tyes {A B : Hp → Prop} (h : A H) : tYes σ H (fun b H3 => if b = true then A H3 else B H3) := by
  show (if true = true then A H else B H)
  exact iteT h
theorem ans_or2 {t u : TT} {b1 b2 : Bool} (h1 : Ans t σ H b1) (h2 : Ans u σ H b2) : Ans (tOr t u) σ H (b1 || b2) := by
  cases b1 with
  | true => exact ans_or1 h1
  | false => exact ans_or h1 h2
theorem Val.to (h : Val ta σ H x) (e : x = y) : Val ta σ H y := e ▸ h
theorem val_is (h : Val ta σ H x) {Q : VK} (q : Q x H) : ta σ H Q := h Q q
end
end Lw

namespace Lw
open PySem L2 PySem.Spec PyProof.Rows
/-- a tuple of one item, none times -/
theorem tm_none (l : Addr) (items : Array Value) (n : Nat) (dd : Option Addr) (sl : Array (Option Value)) (u : Tok) (he : items.isEmpty = false) :
    Meets (Builtin.«tuple.__mul__» ⟨[.ref l, .int 0 u], []⟩) (fun _ R s => s.heap.get? l = some { cls := .type "tuple", dict := dd, data := .seq items n, slots := sl } ∧
      R (.ok (.ret (Value.ref s.heap.objs.size))) { s with heap := s.heap.push { cls := Value.type "tuple", data := Data.seq #[] }, toks := s.toks }) :=
  .of_wp fun prog w A R s z => by
    obtain ⟨h1, h2, h3, h4, h5⟩ := s
    obtain ⟨hl, z⟩ := z
    have f1 := AutoSeq1.idx_int
    have c1 : (items.isEmpty || (0 : Int) == 1) = false := by rw [he]; rfl
    wp_walk using wpAny_loadPart' hl
    repeat (first
      | (refine wpAny_ite_false (decide_eq_false (by rw [c1]; exact Bool.false_ne_true)) ?_; wp_walk using wpAny_loadPart' hl)
      | (refine wpAny_ite_true (decide_eq_true (by decide)) ?_; wp_walk using wpAny_loadPart' hl)
      | (refine wpAny_ite_false (decide_eq_false (by decide)) ?_; wp_walk using wpAny_loadPart' hl))
    exact ⟨_, rfl, z⟩
/-- a tuple of one item, once: itself -/
theorem tm_once (l : Addr) (items : Array Value) (n : Nat) (dd : Option Addr) (sl : Array (Option Value)) (u : Tok) :
    Meets (Builtin.«tuple.__mul__» ⟨[.ref l, .int 1 u], []⟩) (fun _ R s => s.heap.get? l = some { cls := .type "tuple", dict := dd, data := .seq items n, slots := sl } ∧ ∀ k, R (.ok (.ret (Value.ref l))) { s with toks := k }) :=
  .of_wp fun prog w A R s z => by
    obtain ⟨h1, h2, h3, h4, h5⟩ := s
    obtain ⟨hl, z⟩ := z
    have f1 := AutoSeq1.idx_int
    have c1 : (items.isEmpty || (1 : Int) == 1) = true := by rw [show ((1 : Int) == 1) = true from rfl, Bool.or_true]
    wp_walk using wpAny_loadPart' hl
    repeat (first
      | (refine wpAny_ite_true (decide_eq_true (by rw [c1])) ?_; wp_walk using wpAny_loadPart' hl)
      | (refine wpAny_ite_false (decide_eq_false (by decide)) ?_; wp_walk using wpAny_loadPart' hl))
    exact ⟨_, rfl, z _⟩
/-- (v,) * k -/
def rRep1 (K : PySem.W.Frag) : R2 := fun x y H Q => ∃ l k v, x = .ref l ∧ y = .int k ∧ SqT K H l [v] ∧ 0 ≤ k ∧ k ≤ 1000 ∧ ∀ t H', Same H H' → SqT K H' t (List.replicate k.toNat v) → Q (.ref t) H'
section
variable {X : Cx}
theorem op_rep1 : OpR X (binaryOp .Mult) (rRep1 X.K) := by
  intro pins s σ H x y v u Q I rx ry h
  obtain ⟨l, k, z, rfl, rfl, hT, h0, h1, q⟩ := id h
  by_cases h2 : 2 ≤ k
  · refine op_repT pins s σ H _ _ v u Q I rx ry ⟨l, k, [z], rfl, rfl, hT, by simp, h2, h1, by simp, fun p hp => q p _ (same_new hp) (.inl (.inl ?_))⟩
    rw [upd_same]
    congr 2
    induction k.toNat with
    | zero => rfl
    | succ m ih => rw [List.replicate_succ, List.flatten_cons, ih, List.replicate_succ]; rfl
  · cases rx
    obtain ⟨t, rfl⟩ := ry
    obtain ⟨its, r, ⟨⟨cls, dd, data, sl⟩, ho, hc, n, hd⟩, hs⟩ := I.tuple hT
    simp only at hc hd
    subst hc hd
    have hn : its.toArray.isEmpty = false := by
      cases r with
      | cons _ _ => rfl
    rcases (by omega : k = 0 ∨ k = 1) with rfl | rfl
    · refine wpAny_binaryOp_repeat_ref (T := "tuple") (U := "int") (by decide) ⟨_, ho, rfl⟩ (fun s' => typeIs_int s' 0 t) noFill_tuple_mul F.fills_int_mul F.slot_int_rmul repeat_tuple F.slot_int_index.lookup
        (call_meets F.slot_int_rmul (typeIs_int s 0 t) F.entry_int_rmul (F.args_int_rmul_2 _ _) (int_rmul_tuple 0 t l its.toArray n dd sl)
          ⟨ho, rfl, ⟨_, ho, rfl⟩, call_meets F.slot_tuple_mul ⟨_, ho, rfl⟩ F.entry_tuple_mul (F.args_tuple_mul_2 _ _) (tm_none l its.toArray n dd sl t hn) ⟨ho, ?_⟩⟩)
      have hf := I.hok.fresh (Nat.le_refl s.heap.objs.size)
      refine ⟨.ref s.heap.objs.size, upd H s.heap.objs.size (.tup []), I.laid (t' := s.toks) (o := .tup []) (fun b ob q => Heap.get?_push_of_some _ q) (Nat.le_refl _) ?_, rfl, q _ _ (same_new hf) (.inl (.inl upd_same))⟩
      exact ⟨Nat.zero_le _, [], .nil, IsTup.new _ _⟩
    · refine wpAny_binaryOp_repeat_ref (T := "tuple") (U := "int") (by decide) ⟨_, ho, rfl⟩ (fun s' => typeIs_int s' 1 t) noFill_tuple_mul F.fills_int_mul F.slot_int_rmul repeat_tuple F.slot_int_index.lookup
        (call_meets F.slot_int_rmul (typeIs_int s 1 t) F.entry_int_rmul (F.args_int_rmul_2 _ _) (int_rmul_tuple 1 t l its.toArray n dd sl)
          ⟨ho, rfl, ⟨_, ho, rfl⟩, call_meets F.slot_tuple_mul ⟨_, ho, rfl⟩ F.entry_tuple_mul (F.args_tuple_mul_2 _ _) (tm_once l its.toArray n dd sl t) ⟨ho, fun k => ?_⟩⟩)
      exact ⟨.ref l, H, I.tok k, rfl, q _ _ (Same.refl _) hT⟩
end
end Lw

namespace Lw
open PySem L2
/-! ### rows as data -/
def dR (r : List Int) : PyData := .tuple (r.map .int)
def dRs (rs : List (List Int)) : PyData := .list (rs.map dR)
theorem dp_ints {K : PySem.W.Frag} {H : Hp} : ∀ ns : List Int, DpAll K H (ns.map V.int) (ns.map PyData.int)
  | [] => .nil
  | n :: ns => .cons (.int n) (dp_ints ns)
theorem dp_row {K : PySem.W.Frag} {H : Hp} {t : Addr} {r : List Int} (h : SqT K H t (r.map V.int)) : Dp K H (.ref t) (dR r) := .tup h (dp_ints r)
/-- at ts stand the rows -/
inductive Rows (K : PySem.W.Frag) (H : Hp) : List V → List (List Int) → Prop where
  | nil : Rows K H [] []
  | cons {t : Addr} {ts : List V} {r : List Int} {rs : List (List Int)} : SqT K H t (r.map V.int) → Rows K H ts rs → Rows K H (.ref t :: ts) (r :: rs)
theorem sameT {K : PySem.W.Frag} {H H' : Hp} {a : Addr} {xs : List V} (e : Same H H') (h : SqT K H a xs) : SqT K H' a xs := by
  rcases h with (h | ⟨o, h⟩) | h
  · exact .inl (.inl (e _ _ h))
  · exact .inl (.inr ⟨o, e _ _ h⟩)
  · exact .inr h
theorem Rows.mono {K : PySem.W.Frag} {H H' : Hp} (e : Same H H') : ∀ {ts : List V} {rs : List (List Int)}, Rows K H ts rs → Rows K H' ts rs
  | _, _, .nil => .nil
  | _, _, .cons h t => .cons (sameT e h) (Rows.mono e t)
theorem Rows.append {K : PySem.W.Frag} {H : Hp} : ∀ {ts us : List V} {rs qs : List (List Int)}, Rows K H ts rs → Rows K H us qs → Rows K H (ts ++ us) (rs ++ qs)
  | _, _, _, _, .nil, k => k
  | _, _, _, _, .cons h t, k => .cons h (Rows.append t k)
theorem Rows.one {K : PySem.W.Frag} {H : Hp} {t : Addr} {r : List Int} (h : SqT K H t (r.map V.int)) : Rows K H [.ref t] [r] := .cons h .nil
theorem Rows.len {K : PySem.W.Frag} {H : Hp} : ∀ {ts : List V} {rs : List (List Int)}, Rows K H ts rs → ts.length = rs.length
  | _, _, .nil => rfl
  | _, _, .cons _ t => by rw [List.length_cons, List.length_cons, Rows.len t]
theorem Rows.get {K : PySem.W.Frag} {H : Hp} : ∀ {ts : List V} {rs : List (List Int)} {i : Nat} {x : V}, Rows K H ts rs → ts[i]? = some x → ∃ t r, x = .ref t ∧ rs[i]? = some r ∧ SqT K H t (r.map V.int)
  | _, _, _, _, .nil, e => by simp at e
  | _, _, 0, _, .cons h _, e => by simp at e; exact ⟨_, _, e.symm, rfl, h⟩
  | _, _, i + 1, _, .cons _ t, e => by
    obtain ⟨a, r, h1, h2, h3⟩ := Rows.get (i := i) t (by simpa using e)
    exact ⟨a, r, h1, by simpa using h2, h3⟩
theorem dp_rows {K : PySem.W.Frag} {H : Hp} : ∀ {ts : List V} {rs : List (List Int)}, Rows K H ts rs → DpAll K H ts (rs.map dR)
  | _, _, .nil => .nil
  | _, _, .cons h t => .cons (dp_row h) (dp_rows t)
theorem sqt_off {K : PySem.W.Frag} {H : Hp} {D a : Addr} {xs ys zs : List V} (hD : H D = some (.lst xs)) (h : SqT K H a zs) : SqT K (upd H D (.lst ys)) a zs := by
  rcases h with (h | ⟨o, h⟩) | h
  · exact .inl (.inl (by rw [upd_ne (ne_of h hD (by intro z; cases z))]; exact h))
  · exact .inl (.inr ⟨o, by rw [upd_ne (ne_of h hD (by intro z; cases z))]; exact h⟩)
  · exact .inr h
/-- the rows stand, whatever a list becomes -/
theorem rows_off {K : PySem.W.Frag} {H : Hp} {D : Addr} {xs ys : List V} (hD : H D = some (.lst xs)) : ∀ {ts : List V} {rs : List (List Int)}, Rows K H ts rs → Rows K (upd H D (.lst ys)) ts rs
  | _, _, .nil => .nil
  | _, _, .cons h t => .cons (sqt_off hD h) (rows_off hD t)
theorem small1000' {n : Nat} (h : n ≤ 10000) : n < sizeLine := Nat.lt_of_le_of_lt h (by decide)
theorem can_ints : ∀ ns : List Int, PyData.canLayAll0 (ns.map PyData.int) = true
  | [] => rfl
  | n :: ns => by
    show (PyData.canLay0 (.int n) && PyData.canLayAll0 (ns.map PyData.int)) = true
    rw [can_ints ns]
    rfl
theorem dep_ints : ∀ ns : List Int, PyData.depthAll (ns.map PyData.int) ≤ 1
  | [] => by decide
  | n :: ns => by
    have ih := dep_ints ns
    have h1 : PyData.depth (.int n) ≤ 1 := by simp [PyData.depth]
    simp only [List.map_cons, PyData.depthAll]
    omega
theorem can_rows : ∀ rs : List (List Int), PyData.canLayAll0 (rs.map dR) = true
  | [] => rfl
  | r :: rs => by
    show (PyData.canLay0 (dR r) && PyData.canLayAll0 (rs.map dR)) = true
    rw [can_rows rs, Bool.and_true]
    show PyData.canLayAll0 (r.map PyData.int) = true
    exact can_ints r
theorem dep_row (r : List Int) : PyData.depth (dR r) ≤ 2 := by
  have h := dep_ints r
  unfold dR
  simp only [PyData.depth]
  omega
theorem dep_rows : ∀ rs : List (List Int), PyData.depthAll (rs.map dR) ≤ 2
  | [] => by decide
  | r :: rs => by
    have ih := dep_rows rs
    have h1 := dep_row r
    simp only [List.map_cons, PyData.depthAll]
    omega
theorem shp_row (r : List Int) : SeqAt.shaped (dR r) = true := by
  unfold SeqAt.shaped
  rw [Bool.and_eq_true]
  exact ⟨can_ints r, decide_eq_true (Nat.le_trans (dep_row r) (by decide))⟩
theorem shp_rows (rs : List (List Int)) : SeqAt.shaped (dRs rs) = true := by
  unfold SeqAt.shaped
  rw [Bool.and_eq_true]
  refine ⟨can_rows rs, decide_eq_true ?_⟩
  have h := dep_rows rs
  unfold dRs
  simp only [PyData.depth]
  omega
theorem eqv_same {d : PyData} (h : SeqAt.shaped d = true) : PyData.eqv d d = true := SeqAt.eqv_refl d (SeqAt.canLay_of_shaped h)
theorem neD_no {d : PyData} (h : SeqAt.shaped d = true) {A B : Prop} (b : B) : if (!PyData.eqv d d) = true then A else B := by
  rw [eqv_same h]
  exact iteF b
theorem ne_no {x : V} {A B : Prop} (b : B) : if (!decide (x = x)) = true then A else B := by
  rw [decide_eq_true rfl]
  exact iteF b
end Lw

namespace Lw
open PySem L2 PySem.Spec PyProof.Rows
/-- X(), X an own exception class without own __init__ -/
theorem pmk_none {X : Cx} {pos : Pos} {C : Addr} {bmB : List Value} {B newId initId : String} {x : Str} {p : Pos} (F : ExcBaseFacts B newId initId bmB) (e : PySem.W.excIn X.K C bmB newId = true) (gC : X.mg x = some (.ref C))
    (kC : PySem.W.keepIn X.K (.ref C) = true) (rs : Raises X (.ref C)) (hg : Gl X x) (hdb : (x == ("__debug__" : Str)) = false := by decide) :
    PMk X (.Call (.Name x p) [] [] pos) (fun _ H Q => Q (.ref C) none H) := by
  intro pins s σ H Q I h
  refine wpAny_Call_Name_kw (ld_glob I hg gC ?_ hdb)
  refine PySem.W.callWith_K0 I.kIn kC ?_
  show wpAny _ _ (call (.ref C) []) _ _ _
  obtain ⟨bm, N, nm, qn, bs, hdct, sn, sub, ab, col, dd, k0, k1, k2, k3, k5, mN, hC, hN, hni, T⟩ := exc_obj I.kIn e
  exact wpAny_call_exc_subT F T hC hN hni (fun h' a hm => mk_of I hm rs h (I.hok.gone hm.new)) (Nat.zero_le _)
/-- what the written part says of an own exception class over ValueError -/
structure OwnX (K : PySem.W.Frag) (mg : Str → Option Value) (x : Str) (C : Addr) : Prop where
  g : mg x = some (.ref C)
  ex : PySem.W.excIn K C [.type "ValueError", .type "Exception", .type "BaseException", .type "object"] "ValueError.__new__" = true
  kp : PySem.W.keepIn K (.ref C) = true
  bE : PySem.W.subIn K (.ref C) (.type "BaseException") = some true
  tE : PySem.W.typeIn K (.ref C) = some (.type "type")
  iE : PySem.W.isClsIn K C = true
  sE : PySem.W.subIn K (.ref C) (.ref C) = some true
theorem OwnX.me {K : PySem.W.Frag} {mg : Str → Option Value} {x : Str} {C : Addr} (o : OwnX K mg x C) : PySem.W.exmOne K (.ref C) (.ref C) = some true := by
  have e1 : (PySem.W.subIn K (.ref C) (.type "BaseException") == some true) = true := by rw [o.bE]; rfl
  have e3 : (PySem.W.clsIn K C).isSome = true := o.iE
  have e2 : ((PySem.W.clsIn K C).isSome && PySem.W.typeIn K (.ref C) == some (.type "type")) = true := by rw [e3, o.tE]; rfl
  show (if _ then (if _ then _ else _) else _) = some true
  rw [if_pos e1, if_pos e2]
  exact o.sE
end Lw

namespace Lw
/-! ### numbers as rows of figures -/
def lo (b : Int) : Nat → Int → List Int
  | 0, _ => []
  | m + 1, x => (x % b) :: lo b m (x / b)
def dg (b : Int) (m : Nat) (x : Int) : List Int := (lo b m x).reverse
theorem lo_len (b : Int) : ∀ (m : Nat) (x : Int), (lo b m x).length = m
  | 0, _ => rfl
  | m + 1, x => by simp [lo, lo_len b m]
theorem dg_len (b : Int) (m : Nat) (x : Int) : (dg b m x).length = m := by simp [dg, lo_len]
theorem dg_succ (b : Int) (m : Nat) (x : Int) : dg b (m + 1) x = dg b m (x / b) ++ [x % b] := by simp [dg, lo]
def val (b : Int) (ds : List Int) : Int := ds.foldl (fun a d => a * b + d) 0
theorem val_snoc (b : Int) (r : List Int) (x : Int) : val b (r ++ [x]) = val b r * b + x := by simp [val]
theorem snoc_ex {α : Type} {l : List α} {n : Nat} (h : l.length = n + 1) : ∃ r x, l = r ++ [x] ∧ r.length = n := by
  have hn : l ≠ [] := fun e => by rw [e] at h; cases h
  exact ⟨l.dropLast, l.getLast hn, (List.dropLast_concat_getLast hn).symm, by simp [h]⟩
theorem dg_val (b : Int) (hb : 0 < b) : ∀ (n : Nat) (r : List Int), r.length = n → (∀ x ∈ r, 0 ≤ x ∧ x < b) → dg b n (val b r) = r
  | 0, r, h, _ => by
    have : r = [] := List.eq_nil_of_length_eq_zero h
    subst this
    rfl
  | n + 1, r, h, hr => by
    obtain ⟨q, x, rfl, hq⟩ := snoc_ex h
    have hx := hr x (by simp)
    rw [dg_succ, val_snoc]
    have e1 : (val b q * b + x) / b = val b q := by
      rw [Int.add_comm, Int.add_mul_ediv_right _ _ (Int.ne_of_gt hb), Int.ediv_eq_zero_of_lt hx.1 hx.2, Int.zero_add]
    have e2 : (val b q * b + x) % b = x := by
      rw [Int.add_comm, Int.add_mul_emod_self_right, Int.emod_eq_of_lt hx.1 hx.2]
    rw [e1, e2, dg_val b hb n q hq fun y hy => hr y (by simp [hy])]
theorem val_lt (b : Int) (hb : 0 < b) : ∀ (n : Nat) (r : List Int), r.length = n → (∀ x ∈ r, 0 ≤ x ∧ x < b) → 0 ≤ val b r ∧ val b r < b ^ n
  | 0, r, h, _ => by
    have : r = [] := List.eq_nil_of_length_eq_zero h
    subst this
    exact ⟨Int.le_refl _, by show (0 : Int) < b ^ 0; rw [Int.pow_zero]; decide⟩
  | n + 1, r, h, hr => by
    obtain ⟨q, x, rfl, hq⟩ := snoc_ex h
    have hx := hr x (by simp)
    have ⟨h1, h2⟩ := val_lt b hb n q hq fun y hy => hr y (by simp [hy])
    rw [val_snoc, Int.pow_succ]
    have h3 : 0 ≤ val b q * b := Int.mul_nonneg h1 (Int.le_of_lt hb)
    have h4 : (val b q + 1) * b ≤ b ^ n * b := Int.mul_le_mul_of_nonneg_right h2 (Int.le_of_lt hb)
    rw [Int.add_mul, Int.one_mul] at h4
    omega
theorem val_full (b : Int) : ∀ n : Nat, val b (List.replicate n (b - 1)) = b ^ n - 1
  | 0 => by simp [val]
  | n + 1 => by
    rw [List.replicate_succ', val_snoc, val_full b n, Int.pow_succ, Int.sub_mul]
    omega
theorem dg_full (b : Int) (hb : 0 < b) (n : Nat) : dg b n (b ^ n - 1) = List.replicate n (b - 1) := by
  have h := dg_val b hb n (List.replicate n (b - 1)) (by simp) (fun x hx => by
    have := List.eq_of_mem_replicate hx
    omega)
  rwa [val_full] at h
/-- the rows in order -/
def rws (b n : Nat) : List (List Int) := (List.range (b ^ n)).map fun k : Nat => dg (b : Int) n (k : Int)
theorem range_mul (b : Nat) : ∀ a : Nat, List.range (a * b) = (List.range a).flatMap fun j => (List.range b).map fun k => j * b + k
  | 0 => by simp
  | a + 1 => by
    rw [Nat.succ_mul, List.range_add, range_mul b a, List.range_succ, List.flatMap_append]
    simp
theorem rws_succ (b n : Nat) (hb : 0 < b) : rws b (n + 1) = (rws b n).flatMap fun s => (List.range b).map fun k : Nat => s ++ [(k : Int)] := by
  unfold rws
  rw [Nat.pow_succ, range_mul, List.map_flatMap, List.flatMap_map]
  congr 1
  funext j
  rw [List.map_map]
  apply List.map_congr_left
  intro k hk
  have hk' : k < b := List.mem_range.mp hk
  show dg (b : Int) (n + 1) ((j * b + k : Nat) : Int) = dg (b : Int) n (j : Int) ++ [(k : Int)]
  rw [dg_succ]
  have e1 : ((j * b + k : Nat) : Int) / (b : Int) = (j : Int) := by
    rw [← Int.natCast_ediv, Nat.add_comm, Nat.add_mul_div_right _ _ hb, Nat.div_eq_of_lt hk', Nat.zero_add]
  have e2 : ((j * b + k : Nat) : Int) % (b : Int) = (k : Int) := by
    rw [← Int.natCast_emod, Nat.add_comm, Nat.add_mul_mod_self_right, Nat.mod_eq_of_lt hk']
  rw [e1, e2]
theorem rws_len (b n : Nat) : (rws b n).length = b ^ n := by simp [rws]
end Lw

namespace Lw
open PySem L2
def topS (i : Nat) : Stmt := PySem.Challenge.pw_codenests_k04_rows_by_number.main.body.getD i (.Pass ⟨0, 0, 0, 0⟩)
abbrev s_wall : Stmt := topS 0
abbrev s_BadGround_init : Stmt := inClass (topS 4) 0
abbrev s_power : Stmt := topS 6
abbrev s_digits_at : Stmt := topS 7
abbrev s_digits_number : Stmt := topS 8
abbrev s_is_number : Stmt := topS 10
abbrev s_row_at : Stmt := topS 12
abbrev s_row_number : Stmt := topS 13
abbrev s_all_rows : Stmt := topS 14
abbrev s_is_prime : Stmt := topS 16
abbrev s_Ground_init : Stmt := inClass (topS 17) 0
abbrev s_Ground_p : Stmt := inClass (topS 17) 1
abbrev s_Ground_n : Stmt := inClass (topS 17) 2
abbrev s_Ground_zero : Stmt := inClass (topS 17) 3
abbrev s_Ground_units : Stmt := inClass (topS 17) 4
abbrev s_Ground_inverse_of : Stmt := inClass (topS 17) 5
abbrev s_Ground_eq : Stmt := inClass (topS 17) 6
abbrev s_l_source : Stmt := topS 19
abbrev s_l_pick : Stmt := topS 20
abbrev s_l_of : Stmt := topS 21
abbrev s_l_wide : Stmt := topS 22
abbrev s_l_row : Stmt := topS 23
abbrev s_l_digits : Stmt := topS 24
abbrev s_l_is_great : Stmt := topS 25
abbrev s_law : Stmt := topS 26
theorem sc_wall : FnScope ["k"] ["k"] (defScope s_wall) := ⟨rfl, rfl, rfl, by decide +kernel, rfl, by decide +kernel, by decide +kernel⟩
theorem sc_BadGround_init : FnScope ["self", "path"] ["self", "path"] (defScope s_BadGround_init) := ⟨rfl, rfl, rfl, by decide +kernel, rfl, by decide +kernel, by decide +kernel⟩
theorem sc_power : FnScope ["base", "exponent", "worth", "_"] ["base", "exponent"] (defScope s_power) := ⟨rfl, rfl, rfl, by decide +kernel, rfl, by decide +kernel, by decide +kernel⟩
theorem sc_digits_at : FnScope ["base", "many", "number", "digits", "left", "_"] ["base", "many", "number"] (defScope s_digits_at) := ⟨rfl, rfl, rfl, by decide +kernel, rfl, by decide +kernel, by decide +kernel⟩
theorem sc_digits_number : FnScope ["base", "digits", "number", "digit"] ["base", "digits"] (defScope s_digits_number) := ⟨rfl, rfl, rfl, by decide +kernel, rfl, by decide +kernel, by decide +kernel⟩
theorem sc_is_number : FnScope ["value"] ["value"] (defScope s_is_number) := ⟨rfl, rfl, rfl, by decide +kernel, rfl, by decide +kernel, by decide +kernel⟩
theorem sc_row_at : FnScope ["ground", "number"] ["ground", "number"] (defScope s_row_at) := ⟨rfl, rfl, rfl, by decide +kernel, rfl, by decide +kernel, by decide +kernel⟩
theorem sc_row_number : FnScope ["ground", "row"] ["ground", "row"] (defScope s_row_number) := ⟨rfl, rfl, rfl, by decide +kernel, rfl, by decide +kernel, by decide +kernel⟩
theorem sc_all_rows : FnScope ["ground", "many", "number"] ["ground"] (defScope s_all_rows) := ⟨rfl, rfl, rfl, by decide +kernel, rfl, by decide +kernel, by decide +kernel⟩
theorem sc_is_prime : FnScope ["value", "divisor"] ["value"] (defScope s_is_prime) := ⟨rfl, rfl, rfl, by decide +kernel, rfl, by decide +kernel, by decide +kernel⟩
theorem sc_Ground_init : FnScope ["self", "p", "n"] ["self", "p", "n"] (defScope s_Ground_init) := ⟨rfl, rfl, rfl, by decide +kernel, rfl, by decide +kernel, by decide +kernel⟩
theorem sc_Ground_p : FnScope ["self"] ["self"] (defScope s_Ground_p) := ⟨rfl, rfl, rfl, by decide +kernel, rfl, by decide +kernel, by decide +kernel⟩
theorem sc_Ground_n : FnScope ["self"] ["self"] (defScope s_Ground_n) := ⟨rfl, rfl, rfl, by decide +kernel, rfl, by decide +kernel, by decide +kernel⟩
theorem sc_Ground_zero : FnScope ["self"] ["self"] (defScope s_Ground_zero) := ⟨rfl, rfl, rfl, by decide +kernel, rfl, by decide +kernel, by decide +kernel⟩
theorem sc_Ground_units : FnScope ["self", "columns", "k", "column"] ["self"] (defScope s_Ground_units) := ⟨rfl, rfl, rfl, by decide +kernel, rfl, by decide +kernel, by decide +kernel⟩
theorem sc_Ground_inverse_of : FnScope ["self", "number"] ["self", "number"] (defScope s_Ground_inverse_of) := ⟨rfl, rfl, rfl, by decide +kernel, rfl, by decide +kernel, by decide +kernel⟩
theorem sc_Ground_eq : FnScope ["self", "other"] ["self", "other"] (defScope s_Ground_eq) := ⟨rfl, rfl, rfl, by decide +kernel, rfl, by decide +kernel, by decide +kernel⟩
theorem sc_l_source : FnScope ["_law_script", "_law_mixed", "_law_cell"] ["_law_script"] (defScope s_l_source) := ⟨rfl, rfl, rfl, by decide +kernel, rfl, by decide +kernel, by decide +kernel⟩
theorem sc_l_pick : FnScope ["_law_source_here", "_law_many", "_law_left", "_law_mixed"] ["_law_source_here", "_law_many"] (defScope s_l_pick) := ⟨rfl, rfl, rfl, by decide +kernel, rfl, by decide +kernel, by decide +kernel⟩
theorem sc_l_of : FnScope ["_law_source_here", "_law_some"] ["_law_source_here", "_law_some"] (defScope s_l_of) := ⟨rfl, rfl, rfl, by decide +kernel, rfl, by decide +kernel, by decide +kernel⟩
theorem sc_l_wide : FnScope ["_law_source_here", "_law_least", "_law_most", "_law_p", "_law_n"] ["_law_source_here", "_law_least", "_law_most"] (defScope s_l_wide) := ⟨rfl, rfl, rfl, by decide +kernel, rfl, by decide +kernel, by decide +kernel⟩
theorem sc_l_row : FnScope ["_law_source_here", "_law_ground", "_law_k"] ["_law_source_here", "_law_ground"] (defScope s_l_row) := ⟨rfl, rfl, rfl, by decide +kernel, rfl, by decide +kernel, by decide +kernel⟩
theorem sc_l_digits : FnScope ["_law_p", "_law_many", "_law_found", "_law_lap", "_law_later", "_law_some", "_law_k"] ["_law_p", "_law_many"] (defScope s_l_digits) := ⟨rfl, rfl, rfl, by decide +kernel, rfl, by decide +kernel, by decide +kernel⟩
theorem sc_l_is_great : FnScope ["_law_ground", "_law_number"] ["_law_ground", "_law_number"] (defScope s_l_is_great) := ⟨rfl, rfl, rfl, by decide +kernel, rfl, by decide +kernel, by decide +kernel⟩
theorem sc_law : FnScope ["_law_script", "_law_source_here", "_law_lap", "_law_ground", "_law_many", "_law_row_here", "_law_due", "_law_entry", "_law_more", "_law_told"] ["_law_script"] (defScope s_law) := ⟨rfl, rfl, rfl, by decide +kernel, rfl, by decide +kernel, by decide +kernel⟩
structure Tx (K : PySem.W.Frag) (mg : Str → Option Value) : Type where
  C_Ground : Addr
  cl_Ground : Cls K C_Ground
  g_Ground : mg "Ground" = some (.ref C_Ground)
  n_Ground_p : NoAttr K C_Ground "_p"
  n_Ground_n : NoAttr K C_Ground "_n"
  f_power : Addr
  d_power : FuncData
  F_power : Fun K "power" "power" s_power f_power d_power
  b_power : Binds K d_power ["base", "exponent"] []
  g_power : mg "power" = some (.ref f_power)
  f_digits_at : Addr
  d_digits_at : FuncData
  F_digits_at : Fun K "digits_at" "digits_at" s_digits_at f_digits_at d_digits_at
  b_digits_at : Binds K d_digits_at ["base", "many", "number"] []
  g_digits_at : mg "digits_at" = some (.ref f_digits_at)
  f_digits_number : Addr
  d_digits_number : FuncData
  F_digits_number : Fun K "digits_number" "digits_number" s_digits_number f_digits_number d_digits_number
  b_digits_number : Binds K d_digits_number ["base", "digits"] []
  g_digits_number : mg "digits_number" = some (.ref f_digits_number)
  f_is_number : Addr
  d_is_number : FuncData
  F_is_number : Fun K "is_number" "is_number" s_is_number f_is_number d_is_number
  b_is_number : Binds K d_is_number ["value"] []
  g_is_number : mg "is_number" = some (.ref f_is_number)
  f_row_at : Addr
  d_row_at : FuncData
  F_row_at : Fun K "row_at" "row_at" s_row_at f_row_at d_row_at
  b_row_at : Binds K d_row_at ["ground", "number"] []
  g_row_at : mg "row_at" = some (.ref f_row_at)
  f_row_number : Addr
  d_row_number : FuncData
  F_row_number : Fun K "row_number" "row_number" s_row_number f_row_number d_row_number
  b_row_number : Binds K d_row_number ["ground", "row"] []
  g_row_number : mg "row_number" = some (.ref f_row_number)
  f_all_rows : Addr
  d_all_rows : FuncData
  F_all_rows : Fun K "all_rows" "all_rows" s_all_rows f_all_rows d_all_rows
  b_all_rows : Binds K d_all_rows ["ground"] []
  g_all_rows : mg "all_rows" = some (.ref f_all_rows)
  f_is_prime : Addr
  d_is_prime : FuncData
  F_is_prime : Fun K "is_prime" "is_prime" s_is_prime f_is_prime d_is_prime
  b_is_prime : Binds K d_is_prime ["value"] []
  g_is_prime : mg "is_prime" = some (.ref f_is_prime)
  f_Ground_init : Addr
  d_Ground_init : FuncData
  F_Ground_init : Fun K "__init__" "Ground.__init__" s_Ground_init f_Ground_init d_Ground_init
  b_Ground_init : Binds K d_Ground_init ["self", "p", "n"] []
  M_Ground : Mk K C_Ground f_Ground_init
  f_Ground_p : Addr
  d_Ground_p : FuncData
  F_Ground_p : Fun K "p" "Ground.p" s_Ground_p f_Ground_p d_Ground_p
  b_Ground_p : Binds K d_Ground_p ["self"] []
  m_Ground_p : Meth K C_Ground "p" f_Ground_p
  f_Ground_n : Addr
  d_Ground_n : FuncData
  F_Ground_n : Fun K "n" "Ground.n" s_Ground_n f_Ground_n d_Ground_n
  b_Ground_n : Binds K d_Ground_n ["self"] []
  m_Ground_n : Meth K C_Ground "n" f_Ground_n
  f_l_source : Addr
  d_l_source : FuncData
  F_l_source : Fun K "_law_source" "_law_source" s_l_source f_l_source d_l_source
  b_l_source : Binds K d_l_source ["_law_script"] []
  g_l_source : mg "_law_source" = some (.ref f_l_source)
  f_l_pick : Addr
  d_l_pick : FuncData
  F_l_pick : Fun K "_law_pick" "_law_pick" s_l_pick f_l_pick d_l_pick
  b_l_pick : Binds K d_l_pick ["_law_source_here", "_law_many"] []
  g_l_pick : mg "_law_pick" = some (.ref f_l_pick)
  f_l_of : Addr
  d_l_of : FuncData
  F_l_of : Fun K "_law_of" "_law_of" s_l_of f_l_of d_l_of
  b_l_of : Binds K d_l_of ["_law_source_here", "_law_some"] []
  g_l_of : mg "_law_of" = some (.ref f_l_of)
  f_l_wide : Addr
  d_l_wide : FuncData
  F_l_wide : Fun K "_law_wide" "_law_wide" s_l_wide f_l_wide d_l_wide
  b_l_wide : Binds K d_l_wide ["_law_source_here", "_law_least", "_law_most"] []
  g_l_wide : mg "_law_wide" = some (.ref f_l_wide)
  f_l_row : Addr
  d_l_row : FuncData
  F_l_row : Fun K "_law_row" "_law_row" s_l_row f_l_row d_l_row
  b_l_row : Binds K d_l_row ["_law_source_here", "_law_ground"] []
  g_l_row : mg "_law_row" = some (.ref f_l_row)
  f_l_digits : Addr
  d_l_digits : FuncData
  F_l_digits : Fun K "_law_digits" "_law_digits" s_l_digits f_l_digits d_l_digits
  b_l_digits : Binds K d_l_digits ["_law_p", "_law_many"] []
  g_l_digits : mg "_law_digits" = some (.ref f_l_digits)
  f_l_is_great : Addr
  d_l_is_great : FuncData
  F_l_is_great : Fun K "_law_is_great" "_law_is_great" s_l_is_great f_l_is_great d_l_is_great
  b_l_is_great : Binds K d_l_is_great ["_law_ground", "_law_number"] []
  g_l_is_great : mg "_law_is_great" = some (.ref f_l_is_great)
  f_law : Addr
  d_law : FuncData
  F_law : Fun K "law" "law" s_law f_law d_law
  b_law : Binds K d_law ["_law_script"] []
  g_law : mg "law" = some (.ref f_law)
  C_TooGreat : Addr
  x_TooGreat : OwnX K mg "TooGreat" C_TooGreat
  z_len : mg "len" = none
  z_range : mg "range" = none
  z_int : mg "int" = none
  z_bool : mg "bool" = none
  z_tuple : mg "tuple" = none
  z_isinstance : mg "isinstance" = none
  z_abs : mg "abs" = none
  z_max : mg "max" = none
def tx_mk {K : PySem.W.Frag} {h : Heap} {mg : Str → Option Value} (X : K.In h) (G : h.Ns mainGlobals mg)
    {C_Ground f_power f_digits_at f_digits_number f_is_number f_row_at f_row_number f_all_rows f_is_prime f_Ground_init f_Ground_p f_Ground_n f_l_source f_l_pick f_l_of f_l_wide f_l_row f_l_digits f_l_is_great f_law C_TooGreat : Addr} {oc1 kV1 dc1 pm1 cd1 ct1 oc2 kV2 dc2 pm2 cd2 ct2 oc3 kV3 dc3 pm3 cd3 ct3 oc4 kV4 dc4 pm4 cd4 ct4 oc5 kV5 dc5 pm5 cd5 ct5 oc6 kV6 dc6 pm6 cd6 ct6 oc7 kV7 dc7 pm7 cd7 ct7 oc8 kV8 dc8 pm8 cd8 ct8 oc9 kV9 dc9 pm9 cd9 ct9 oc10 kV10 dc10 pm10 cd10 ct10 oc11 kV11 dc11 pm11 cd11 ct11 oc12 kV12 dc12 pm12 cd12 ct12 oc13 kV13 dc13 pm13 cd13 ct13 oc14 kV14 dc14 pm14 cd14 ct14 oc15 kV15 dc15 pm15 cd15 ct15 oc16 kV16 dc16 pm16 cd16 ct16 oc17 kV17 dc17 pm17 cd17 ct17 oc18 kV18 dc18 pm18 cd18 ct18 oc19 kV19 dc19 pm19 cd19 ct19 : Value} {od1 an1 : Option Addr} {sl1 : Array (Option Value)} {od2 an2 : Option Addr} {sl2 : Array (Option Value)} {od3 an3 : Option Addr} {sl3 : Array (Option Value)} {od4 an4 : Option Addr} {sl4 : Array (Option Value)} {od5 an5 : Option Addr} {sl5 : Array (Option Value)} {od6 an6 : Option Addr} {sl6 : Array (Option Value)} {od7 an7 : Option Addr} {sl7 : Array (Option Value)} {od8 an8 : Option Addr} {sl8 : Array (Option Value)} {od9 an9 : Option Addr} {sl9 : Array (Option Value)} {od10 an10 : Option Addr} {sl10 : Array (Option Value)} {od11 an11 : Option Addr} {sl11 : Array (Option Value)} {od12 an12 : Option Addr} {sl12 : Array (Option Value)} {od13 an13 : Option Addr} {sl13 : Array (Option Value)} {od14 an14 : Option Addr} {sl14 : Array (Option Value)} {od15 an15 : Option Addr} {sl15 : Array (Option Value)} {od16 an16 : Option Addr} {sl16 : Array (Option Value)} {od17 an17 : Option Addr} {sl17 : Array (Option Value)} {od18 an18 : Option Addr} {sl18 : Array (Option Value)} {od19 an19 : Option Addr} {sl19 : Array (Option Value)}
    (a_Ground : PySem.W.nsIn K mainGlobals "Ground" = some (some (.ref C_Ground)))
    (pg_Ground : PySem.W.plainGet K C_Ground Str.empty = true)
    (hd_Ground : PySem.W.hasDictIn K C_Ground = true)
    (po_Ground : PySem.W.plainOver K C_Ground = true)
    (sa_Ground : PySem.W.findIn K (.ref C_Ground) "__setattr__" = some (some (.builtin "object.__setattr__")))
    (mk_Ground : PySem.W.makesIn K C_Ground = true)
    (kc_Ground : PySem.W.keepIn K (.ref C_Ground) = true)
    (n_Ground_p : PySem.W.findIn K (.ref C_Ground) "_p" = some none)
    (n_Ground_n : PySem.W.findIn K (.ref C_Ground) "_n" = some none)
    (a_power : PySem.W.nsIn K mainGlobals "power" = some (some (.ref f_power)))
    (l_power : K.lookup f_power = some ⟨oc1, od1, .func (PySem.W.fnOf "power" "power" (defArgs s_power) (defBody s_power) (defScope s_power) .none kV1 dc1 pm1 an1 cd1 ct1), sl1⟩)
    (c_power : PySem.W.codeIn K cd1 "power" = true)
    (k_power : PySem.W.keepIn K (.ref f_power) = true)
    (a_digits_at : PySem.W.nsIn K mainGlobals "digits_at" = some (some (.ref f_digits_at)))
    (l_digits_at : K.lookup f_digits_at = some ⟨oc2, od2, .func (PySem.W.fnOf "digits_at" "digits_at" (defArgs s_digits_at) (defBody s_digits_at) (defScope s_digits_at) .none kV2 dc2 pm2 an2 cd2 ct2), sl2⟩)
    (c_digits_at : PySem.W.codeIn K cd2 "digits_at" = true)
    (k_digits_at : PySem.W.keepIn K (.ref f_digits_at) = true)
    (a_digits_number : PySem.W.nsIn K mainGlobals "digits_number" = some (some (.ref f_digits_number)))
    (l_digits_number : K.lookup f_digits_number = some ⟨oc3, od3, .func (PySem.W.fnOf "digits_number" "digits_number" (defArgs s_digits_number) (defBody s_digits_number) (defScope s_digits_number) .none kV3 dc3 pm3 an3 cd3 ct3), sl3⟩)
    (c_digits_number : PySem.W.codeIn K cd3 "digits_number" = true)
    (k_digits_number : PySem.W.keepIn K (.ref f_digits_number) = true)
    (a_is_number : PySem.W.nsIn K mainGlobals "is_number" = some (some (.ref f_is_number)))
    (l_is_number : K.lookup f_is_number = some ⟨oc4, od4, .func (PySem.W.fnOf "is_number" "is_number" (defArgs s_is_number) (defBody s_is_number) (defScope s_is_number) .none kV4 dc4 pm4 an4 cd4 ct4), sl4⟩)
    (c_is_number : PySem.W.codeIn K cd4 "is_number" = true)
    (k_is_number : PySem.W.keepIn K (.ref f_is_number) = true)
    (a_row_at : PySem.W.nsIn K mainGlobals "row_at" = some (some (.ref f_row_at)))
    (l_row_at : K.lookup f_row_at = some ⟨oc5, od5, .func (PySem.W.fnOf "row_at" "row_at" (defArgs s_row_at) (defBody s_row_at) (defScope s_row_at) .none kV5 dc5 pm5 an5 cd5 ct5), sl5⟩)
    (c_row_at : PySem.W.codeIn K cd5 "row_at" = true)
    (k_row_at : PySem.W.keepIn K (.ref f_row_at) = true)
    (a_row_number : PySem.W.nsIn K mainGlobals "row_number" = some (some (.ref f_row_number)))
    (l_row_number : K.lookup f_row_number = some ⟨oc6, od6, .func (PySem.W.fnOf "row_number" "row_number" (defArgs s_row_number) (defBody s_row_number) (defScope s_row_number) .none kV6 dc6 pm6 an6 cd6 ct6), sl6⟩)
    (c_row_number : PySem.W.codeIn K cd6 "row_number" = true)
    (k_row_number : PySem.W.keepIn K (.ref f_row_number) = true)
    (a_all_rows : PySem.W.nsIn K mainGlobals "all_rows" = some (some (.ref f_all_rows)))
    (l_all_rows : K.lookup f_all_rows = some ⟨oc7, od7, .func (PySem.W.fnOf "all_rows" "all_rows" (defArgs s_all_rows) (defBody s_all_rows) (defScope s_all_rows) .none kV7 dc7 pm7 an7 cd7 ct7), sl7⟩)
    (c_all_rows : PySem.W.codeIn K cd7 "all_rows" = true)
    (k_all_rows : PySem.W.keepIn K (.ref f_all_rows) = true)
    (a_is_prime : PySem.W.nsIn K mainGlobals "is_prime" = some (some (.ref f_is_prime)))
    (l_is_prime : K.lookup f_is_prime = some ⟨oc8, od8, .func (PySem.W.fnOf "is_prime" "is_prime" (defArgs s_is_prime) (defBody s_is_prime) (defScope s_is_prime) .none kV8 dc8 pm8 an8 cd8 ct8), sl8⟩)
    (c_is_prime : PySem.W.codeIn K cd8 "is_prime" = true)
    (k_is_prime : PySem.W.keepIn K (.ref f_is_prime) = true)
    (a_Ground_init : PySem.W.findIn K (.ref C_Ground) "__init__" = some (some (.ref f_Ground_init)))
    (i_Ground_init : PySem.W.isFn K (.ref f_Ground_init) = true)
    (l_Ground_init : K.lookup f_Ground_init = some ⟨oc9, od9, .func (PySem.W.fnOf "__init__" "Ground.__init__" (defArgs s_Ground_init) (defBody s_Ground_init) (defScope s_Ground_init) .none kV9 dc9 pm9 an9 cd9 ct9), sl9⟩)
    (c_Ground_init : PySem.W.codeIn K cd9 "Ground.__init__" = true)
    (k_Ground_init : PySem.W.keepIn K (.ref f_Ground_init) = true)
    (a_Ground_p : PySem.W.findIn K (.ref C_Ground) "p" = some (some (.ref f_Ground_p)))
    (i_Ground_p : PySem.W.isFn K (.ref f_Ground_p) = true)
    (l_Ground_p : K.lookup f_Ground_p = some ⟨oc10, od10, .func (PySem.W.fnOf "p" "Ground.p" (defArgs s_Ground_p) (defBody s_Ground_p) (defScope s_Ground_p) .none kV10 dc10 pm10 an10 cd10 ct10), sl10⟩)
    (c_Ground_p : PySem.W.codeIn K cd10 "Ground.p" = true)
    (k_Ground_p : PySem.W.keepIn K (.ref f_Ground_p) = true)
    (a_Ground_n : PySem.W.findIn K (.ref C_Ground) "n" = some (some (.ref f_Ground_n)))
    (i_Ground_n : PySem.W.isFn K (.ref f_Ground_n) = true)
    (l_Ground_n : K.lookup f_Ground_n = some ⟨oc11, od11, .func (PySem.W.fnOf "n" "Ground.n" (defArgs s_Ground_n) (defBody s_Ground_n) (defScope s_Ground_n) .none kV11 dc11 pm11 an11 cd11 ct11), sl11⟩)
    (c_Ground_n : PySem.W.codeIn K cd11 "Ground.n" = true)
    (k_Ground_n : PySem.W.keepIn K (.ref f_Ground_n) = true)
    (a_l_source : PySem.W.nsIn K mainGlobals "_law_source" = some (some (.ref f_l_source)))
    (l_l_source : K.lookup f_l_source = some ⟨oc12, od12, .func (PySem.W.fnOf "_law_source" "_law_source" (defArgs s_l_source) (defBody s_l_source) (defScope s_l_source) .none kV12 dc12 pm12 an12 cd12 ct12), sl12⟩)
    (c_l_source : PySem.W.codeIn K cd12 "_law_source" = true)
    (k_l_source : PySem.W.keepIn K (.ref f_l_source) = true)
    (a_l_pick : PySem.W.nsIn K mainGlobals "_law_pick" = some (some (.ref f_l_pick)))
    (l_l_pick : K.lookup f_l_pick = some ⟨oc13, od13, .func (PySem.W.fnOf "_law_pick" "_law_pick" (defArgs s_l_pick) (defBody s_l_pick) (defScope s_l_pick) .none kV13 dc13 pm13 an13 cd13 ct13), sl13⟩)
    (c_l_pick : PySem.W.codeIn K cd13 "_law_pick" = true)
    (k_l_pick : PySem.W.keepIn K (.ref f_l_pick) = true)
    (a_l_of : PySem.W.nsIn K mainGlobals "_law_of" = some (some (.ref f_l_of)))
    (l_l_of : K.lookup f_l_of = some ⟨oc14, od14, .func (PySem.W.fnOf "_law_of" "_law_of" (defArgs s_l_of) (defBody s_l_of) (defScope s_l_of) .none kV14 dc14 pm14 an14 cd14 ct14), sl14⟩)
    (c_l_of : PySem.W.codeIn K cd14 "_law_of" = true)
    (k_l_of : PySem.W.keepIn K (.ref f_l_of) = true)
    (a_l_wide : PySem.W.nsIn K mainGlobals "_law_wide" = some (some (.ref f_l_wide)))
    (l_l_wide : K.lookup f_l_wide = some ⟨oc15, od15, .func (PySem.W.fnOf "_law_wide" "_law_wide" (defArgs s_l_wide) (defBody s_l_wide) (defScope s_l_wide) .none kV15 dc15 pm15 an15 cd15 ct15), sl15⟩)
    (c_l_wide : PySem.W.codeIn K cd15 "_law_wide" = true)
    (k_l_wide : PySem.W.keepIn K (.ref f_l_wide) = true)
    (a_l_row : PySem.W.nsIn K mainGlobals "_law_row" = some (some (.ref f_l_row)))
    (l_l_row : K.lookup f_l_row = some ⟨oc16, od16, .func (PySem.W.fnOf "_law_row" "_law_row" (defArgs s_l_row) (defBody s_l_row) (defScope s_l_row) .none kV16 dc16 pm16 an16 cd16 ct16), sl16⟩)
    (c_l_row : PySem.W.codeIn K cd16 "_law_row" = true)
    (k_l_row : PySem.W.keepIn K (.ref f_l_row) = true)
    (a_l_digits : PySem.W.nsIn K mainGlobals "_law_digits" = some (some (.ref f_l_digits)))
    (l_l_digits : K.lookup f_l_digits = some ⟨oc17, od17, .func (PySem.W.fnOf "_law_digits" "_law_digits" (defArgs s_l_digits) (defBody s_l_digits) (defScope s_l_digits) .none kV17 dc17 pm17 an17 cd17 ct17), sl17⟩)
    (c_l_digits : PySem.W.codeIn K cd17 "_law_digits" = true)
    (k_l_digits : PySem.W.keepIn K (.ref f_l_digits) = true)
    (a_l_is_great : PySem.W.nsIn K mainGlobals "_law_is_great" = some (some (.ref f_l_is_great)))
    (l_l_is_great : K.lookup f_l_is_great = some ⟨oc18, od18, .func (PySem.W.fnOf "_law_is_great" "_law_is_great" (defArgs s_l_is_great) (defBody s_l_is_great) (defScope s_l_is_great) .none kV18 dc18 pm18 an18 cd18 ct18), sl18⟩)
    (c_l_is_great : PySem.W.codeIn K cd18 "_law_is_great" = true)
    (k_l_is_great : PySem.W.keepIn K (.ref f_l_is_great) = true)
    (a_law : PySem.W.nsIn K mainGlobals "law" = some (some (.ref f_law)))
    (l_law : K.lookup f_law = some ⟨oc19, od19, .func (PySem.W.fnOf "law" "law" (defArgs s_law) (defBody s_law) (defScope s_law) .none kV19 dc19 pm19 an19 cd19 ct19), sl19⟩)
    (c_law : PySem.W.codeIn K cd19 "law" = true)
    (k_law : PySem.W.keepIn K (.ref f_law) = true)
    (a_TooGreat : PySem.W.nsIn K mainGlobals "TooGreat" = some (some (.ref C_TooGreat)))
    (xe_TooGreat : PySem.W.excIn K C_TooGreat [.type "ValueError", .type "Exception", .type "BaseException", .type "object"] "ValueError.__new__" = true)
    (xk_TooGreat : PySem.W.keepIn K (.ref C_TooGreat) = true)
    (xb_TooGreat : PySem.W.subIn K (.ref C_TooGreat) (.type "BaseException") = some true)
    (xt_TooGreat : PySem.W.typeIn K (.ref C_TooGreat) = some (.type "type"))
    (xi_TooGreat : PySem.W.isClsIn K C_TooGreat = true)
    (xs_TooGreat : PySem.W.subIn K (.ref C_TooGreat) (.ref C_TooGreat) = some true)
    (z_len : PySem.W.nsIn K mainGlobals "len" = some none)
    (z_range : PySem.W.nsIn K mainGlobals "range" = some none)
    (z_int : PySem.W.nsIn K mainGlobals "int" = some none)
    (z_bool : PySem.W.nsIn K mainGlobals "bool" = some none)
    (z_tuple : PySem.W.nsIn K mainGlobals "tuple" = some none)
    (z_isinstance : PySem.W.nsIn K mainGlobals "isinstance" = some none)
    (z_abs : PySem.W.nsIn K mainGlobals "abs" = some none)
    (z_max : PySem.W.nsIn K mainGlobals "max" = some none) : Tx K mg where
  C_Ground := C_Ground
  cl_Ground := ⟨pg_Ground, hd_Ground, po_Ground, sa_Ground⟩
  g_Ground := PySem.W.mg_of X G a_Ground
  n_Ground_p := n_Ground_p
  n_Ground_n := n_Ground_n
  f_power := f_power
  d_power := PySem.W.fnOf "power" "power" (defArgs s_power) (defBody s_power) (defScope s_power) .none kV1 dc1 pm1 an1 cd1 ct1
  F_power := fun_mk (st := s_power) l_power c_power k_power
  b_power := (fun_mk (st := s_power) l_power c_power k_power).binds (ps := ["base", "exponent"]) fun _ _ _ _ _ _ us hl => match us, hl with | [_, _], _ => rfl
  g_power := PySem.W.mg_of X G a_power
  f_digits_at := f_digits_at
  d_digits_at := PySem.W.fnOf "digits_at" "digits_at" (defArgs s_digits_at) (defBody s_digits_at) (defScope s_digits_at) .none kV2 dc2 pm2 an2 cd2 ct2
  F_digits_at := fun_mk (st := s_digits_at) l_digits_at c_digits_at k_digits_at
  b_digits_at := (fun_mk (st := s_digits_at) l_digits_at c_digits_at k_digits_at).binds (ps := ["base", "many", "number"]) fun _ _ _ _ _ _ us hl => match us, hl with | [_, _, _], _ => rfl
  g_digits_at := PySem.W.mg_of X G a_digits_at
  f_digits_number := f_digits_number
  d_digits_number := PySem.W.fnOf "digits_number" "digits_number" (defArgs s_digits_number) (defBody s_digits_number) (defScope s_digits_number) .none kV3 dc3 pm3 an3 cd3 ct3
  F_digits_number := fun_mk (st := s_digits_number) l_digits_number c_digits_number k_digits_number
  b_digits_number := (fun_mk (st := s_digits_number) l_digits_number c_digits_number k_digits_number).binds (ps := ["base", "digits"]) fun _ _ _ _ _ _ us hl => match us, hl with | [_, _], _ => rfl
  g_digits_number := PySem.W.mg_of X G a_digits_number
  f_is_number := f_is_number
  d_is_number := PySem.W.fnOf "is_number" "is_number" (defArgs s_is_number) (defBody s_is_number) (defScope s_is_number) .none kV4 dc4 pm4 an4 cd4 ct4
  F_is_number := fun_mk (st := s_is_number) l_is_number c_is_number k_is_number
  b_is_number := (fun_mk (st := s_is_number) l_is_number c_is_number k_is_number).binds (ps := ["value"]) fun _ _ _ _ _ _ us hl => match us, hl with | [_], _ => rfl
  g_is_number := PySem.W.mg_of X G a_is_number
  f_row_at := f_row_at
  d_row_at := PySem.W.fnOf "row_at" "row_at" (defArgs s_row_at) (defBody s_row_at) (defScope s_row_at) .none kV5 dc5 pm5 an5 cd5 ct5
  F_row_at := fun_mk (st := s_row_at) l_row_at c_row_at k_row_at
  b_row_at := (fun_mk (st := s_row_at) l_row_at c_row_at k_row_at).binds (ps := ["ground", "number"]) fun _ _ _ _ _ _ us hl => match us, hl with | [_, _], _ => rfl
  g_row_at := PySem.W.mg_of X G a_row_at
  f_row_number := f_row_number
  d_row_number := PySem.W.fnOf "row_number" "row_number" (defArgs s_row_number) (defBody s_row_number) (defScope s_row_number) .none kV6 dc6 pm6 an6 cd6 ct6
  F_row_number := fun_mk (st := s_row_number) l_row_number c_row_number k_row_number
  b_row_number := (fun_mk (st := s_row_number) l_row_number c_row_number k_row_number).binds (ps := ["ground", "row"]) fun _ _ _ _ _ _ us hl => match us, hl with | [_, _], _ => rfl
  g_row_number := PySem.W.mg_of X G a_row_number
  f_all_rows := f_all_rows
  d_all_rows := PySem.W.fnOf "all_rows" "all_rows" (defArgs s_all_rows) (defBody s_all_rows) (defScope s_all_rows) .none kV7 dc7 pm7 an7 cd7 ct7
  F_all_rows := fun_mk (st := s_all_rows) l_all_rows c_all_rows k_all_rows
  b_all_rows := (fun_mk (st := s_all_rows) l_all_rows c_all_rows k_all_rows).binds (ps := ["ground"]) fun _ _ _ _ _ _ us hl => match us, hl with | [_], _ => rfl
  g_all_rows := PySem.W.mg_of X G a_all_rows
  f_is_prime := f_is_prime
  d_is_prime := PySem.W.fnOf "is_prime" "is_prime" (defArgs s_is_prime) (defBody s_is_prime) (defScope s_is_prime) .none kV8 dc8 pm8 an8 cd8 ct8
  F_is_prime := fun_mk (st := s_is_prime) l_is_prime c_is_prime k_is_prime
  b_is_prime := (fun_mk (st := s_is_prime) l_is_prime c_is_prime k_is_prime).binds (ps := ["value"]) fun _ _ _ _ _ _ us hl => match us, hl with | [_], _ => rfl
  g_is_prime := PySem.W.mg_of X G a_is_prime
  f_Ground_init := f_Ground_init
  d_Ground_init := PySem.W.fnOf "__init__" "Ground.__init__" (defArgs s_Ground_init) (defBody s_Ground_init) (defScope s_Ground_init) .none kV9 dc9 pm9 an9 cd9 ct9
  F_Ground_init := fun_mk (st := s_Ground_init) l_Ground_init c_Ground_init k_Ground_init
  b_Ground_init := (fun_mk (st := s_Ground_init) l_Ground_init c_Ground_init k_Ground_init).binds (ps := ["self", "p", "n"]) fun _ _ _ _ _ _ us hl => match us, hl with | [_, _, _], _ => rfl
  M_Ground := ⟨mk_Ground, a_Ground_init, i_Ground_init, kc_Ground⟩
  f_Ground_p := f_Ground_p
  d_Ground_p := PySem.W.fnOf "p" "Ground.p" (defArgs s_Ground_p) (defBody s_Ground_p) (defScope s_Ground_p) .none kV10 dc10 pm10 an10 cd10 ct10
  F_Ground_p := fun_mk (st := s_Ground_p) l_Ground_p c_Ground_p k_Ground_p
  b_Ground_p := (fun_mk (st := s_Ground_p) l_Ground_p c_Ground_p k_Ground_p).binds (ps := ["self"]) fun _ _ _ _ _ _ us hl => match us, hl with | [_], _ => rfl
  m_Ground_p := ⟨a_Ground_p, i_Ground_p, k_Ground_p⟩
  f_Ground_n := f_Ground_n
  d_Ground_n := PySem.W.fnOf "n" "Ground.n" (defArgs s_Ground_n) (defBody s_Ground_n) (defScope s_Ground_n) .none kV11 dc11 pm11 an11 cd11 ct11
  F_Ground_n := fun_mk (st := s_Ground_n) l_Ground_n c_Ground_n k_Ground_n
  b_Ground_n := (fun_mk (st := s_Ground_n) l_Ground_n c_Ground_n k_Ground_n).binds (ps := ["self"]) fun _ _ _ _ _ _ us hl => match us, hl with | [_], _ => rfl
  m_Ground_n := ⟨a_Ground_n, i_Ground_n, k_Ground_n⟩
  f_l_source := f_l_source
  d_l_source := PySem.W.fnOf "_law_source" "_law_source" (defArgs s_l_source) (defBody s_l_source) (defScope s_l_source) .none kV12 dc12 pm12 an12 cd12 ct12
  F_l_source := fun_mk (st := s_l_source) l_l_source c_l_source k_l_source
  b_l_source := (fun_mk (st := s_l_source) l_l_source c_l_source k_l_source).binds (ps := ["_law_script"]) fun _ _ _ _ _ _ us hl => match us, hl with | [_], _ => rfl
  g_l_source := PySem.W.mg_of X G a_l_source
  f_l_pick := f_l_pick
  d_l_pick := PySem.W.fnOf "_law_pick" "_law_pick" (defArgs s_l_pick) (defBody s_l_pick) (defScope s_l_pick) .none kV13 dc13 pm13 an13 cd13 ct13
  F_l_pick := fun_mk (st := s_l_pick) l_l_pick c_l_pick k_l_pick
  b_l_pick := (fun_mk (st := s_l_pick) l_l_pick c_l_pick k_l_pick).binds (ps := ["_law_source_here", "_law_many"]) fun _ _ _ _ _ _ us hl => match us, hl with | [_, _], _ => rfl
  g_l_pick := PySem.W.mg_of X G a_l_pick
  f_l_of := f_l_of
  d_l_of := PySem.W.fnOf "_law_of" "_law_of" (defArgs s_l_of) (defBody s_l_of) (defScope s_l_of) .none kV14 dc14 pm14 an14 cd14 ct14
  F_l_of := fun_mk (st := s_l_of) l_l_of c_l_of k_l_of
  b_l_of := (fun_mk (st := s_l_of) l_l_of c_l_of k_l_of).binds (ps := ["_law_source_here", "_law_some"]) fun _ _ _ _ _ _ us hl => match us, hl with | [_, _], _ => rfl
  g_l_of := PySem.W.mg_of X G a_l_of
  f_l_wide := f_l_wide
  d_l_wide := PySem.W.fnOf "_law_wide" "_law_wide" (defArgs s_l_wide) (defBody s_l_wide) (defScope s_l_wide) .none kV15 dc15 pm15 an15 cd15 ct15
  F_l_wide := fun_mk (st := s_l_wide) l_l_wide c_l_wide k_l_wide
  b_l_wide := (fun_mk (st := s_l_wide) l_l_wide c_l_wide k_l_wide).binds (ps := ["_law_source_here", "_law_least", "_law_most"]) fun _ _ _ _ _ _ us hl => match us, hl with | [_, _, _], _ => rfl
  g_l_wide := PySem.W.mg_of X G a_l_wide
  f_l_row := f_l_row
  d_l_row := PySem.W.fnOf "_law_row" "_law_row" (defArgs s_l_row) (defBody s_l_row) (defScope s_l_row) .none kV16 dc16 pm16 an16 cd16 ct16
  F_l_row := fun_mk (st := s_l_row) l_l_row c_l_row k_l_row
  b_l_row := (fun_mk (st := s_l_row) l_l_row c_l_row k_l_row).binds (ps := ["_law_source_here", "_law_ground"]) fun _ _ _ _ _ _ us hl => match us, hl with | [_, _], _ => rfl
  g_l_row := PySem.W.mg_of X G a_l_row
  f_l_digits := f_l_digits
  d_l_digits := PySem.W.fnOf "_law_digits" "_law_digits" (defArgs s_l_digits) (defBody s_l_digits) (defScope s_l_digits) .none kV17 dc17 pm17 an17 cd17 ct17
  F_l_digits := fun_mk (st := s_l_digits) l_l_digits c_l_digits k_l_digits
  b_l_digits := (fun_mk (st := s_l_digits) l_l_digits c_l_digits k_l_digits).binds (ps := ["_law_p", "_law_many"]) fun _ _ _ _ _ _ us hl => match us, hl with | [_, _], _ => rfl
  g_l_digits := PySem.W.mg_of X G a_l_digits
  f_l_is_great := f_l_is_great
  d_l_is_great := PySem.W.fnOf "_law_is_great" "_law_is_great" (defArgs s_l_is_great) (defBody s_l_is_great) (defScope s_l_is_great) .none kV18 dc18 pm18 an18 cd18 ct18
  F_l_is_great := fun_mk (st := s_l_is_great) l_l_is_great c_l_is_great k_l_is_great
  b_l_is_great := (fun_mk (st := s_l_is_great) l_l_is_great c_l_is_great k_l_is_great).binds (ps := ["_law_ground", "_law_number"]) fun _ _ _ _ _ _ us hl => match us, hl with | [_, _], _ => rfl
  g_l_is_great := PySem.W.mg_of X G a_l_is_great
  f_law := f_law
  d_law := PySem.W.fnOf "law" "law" (defArgs s_law) (defBody s_law) (defScope s_law) .none kV19 dc19 pm19 an19 cd19 ct19
  F_law := fun_mk (st := s_law) l_law c_law k_law
  b_law := (fun_mk (st := s_law) l_law c_law k_law).binds (ps := ["_law_script"]) fun _ _ _ _ _ _ us hl => match us, hl with | [_], _ => rfl
  g_law := PySem.W.mg_of X G a_law
  C_TooGreat := C_TooGreat
  x_TooGreat := ⟨PySem.W.mg_of X G a_TooGreat, xe_TooGreat, xk_TooGreat, xb_TooGreat, xt_TooGreat, xi_TooGreat, xs_TooGreat⟩
  z_len := PySem.W.mg_none_of X G z_len
  z_range := PySem.W.mg_none_of X G z_range
  z_int := PySem.W.mg_none_of X G z_int
  z_bool := PySem.W.mg_none_of X G z_bool
  z_tuple := PySem.W.mg_none_of X G z_tuple
  z_isinstance := PySem.W.mg_none_of X G z_isinstance
  z_abs := PySem.W.mg_none_of X G z_abs
  z_max := PySem.W.mg_none_of X G z_max

section
variable {P : Program} {w : World} {K : PySem.W.Frag} {mg : Str → Option Value} {base : Heap}
/-- a drawn number below many -/
def spPick : Sp := fun vs H Q _ => ∃ (G : Hp) (d c : Addr) (many : Int), vs = [.ref d, .int many] ∧ Kn G H d c ∧ many < 1073741824 ∧
  ∀ (r : Int) (H' : Hp), Kn G H' d c → 0 ≤ r → (r < many ∨ (r = 0 ∧ many ≤ 1)) → Q (.int r) H'
theorem ok_pick (T : Tx K mg) : FnOk P w K mg base CX0 1 T.f_l_pick T.d_l_pick ["_law_source_here", "_law_many"] spPick := by
  refine T.F_l_pick.ok sc_l_pick (fun vs H Q E h => ?_) (fun cdv A outer s H vs Q E hr h => ?_)
  · obtain ⟨G, d, c, many, rfl, _⟩ := h
    rfl
  · obtain ⟨G, d, c, many, rfl, k, hm, q⟩ := h
    have hu := hu_of hr
    refine ⟨_, (pss_cons (ps_while PassesOwn.never (PW.pt (pw_and (pt_cmpR op_gt (pv 1) pe_int (nomark _)) (pw_and (pt_cmpR op_lt (pe_dget hu (pv 0) pe_str (fun _ _ => rfl)) pe_int (nomark _)) (pw_and1 (pt_cmpR op_gt (pe_callB call_len_seq (by rfl) T.z_len PySem.boot_len (pa_cons (pe_dget hu (pv 0) pe_str (fun _ _ => rfl)) pa_nil)) pe_int (nomark _)))))) (pss_one (ps_dput hu (pv 0) pe_str (pe_bm0 PySem.F.plainAttrs_list PySem.F.slot_list_pop PySem.F.type_list_pop mt_pop (pe_dget hu (pv 0) pe_str (fun _ _ => rfl))) rfl)))
    (pss_cons (ps_set (i := 2) sc_l_pick.nd rfl (Or.inl rfl) (pe_dget hu (pv 0) pe_str (fun _ _ => rfl)))
    (pss_cons (ps_if (PW.pt (pw_or (pt_cmpR op_lt (pv 1) pe_int (nomark _)) (pw_or1 (pt_cmpR op_gt (pv 2) pe_int (nomark _))))) (pss_cons (ps_dput hu (pv 0) pe_str (pe_op op_fdiv (pv 2) (pe_callB (call_max2 rfl) (by rfl) T.z_max (by decide +kernel) (pa_cons pe_int (pa_cons (pv 1) pa_nil)))) rfl)
    (pss_one (ps_ret (pe_op op_mod (pe_callTy call_int1 (by rfl) T.z_int (by decide +kernel) (pa_cons (pv 2) pa_nil)) (pe_callB (call_max2 rfl) (by rfl) T.z_max (by decide +kernel) (pa_cons pe_int (pa_cons (pv 1) pa_nil))))))) pss_nil)
    (pss_cons (ps_dput hu (pv 0) pe_str (pe_op op_add (pe_dget hu (pv 0) pe_str (fun _ _ => rfl)) pe_int) rfl)
    (pss_cons (ps_set (i := 3) sc_l_pick.nd rfl (Or.inl rfl) (pe_op op_mod (pe_callTy call_int1 (by rfl) T.z_int (by decide +kernel) (pa_cons (pe_op op_add (pe_dget hu (pv 0) pe_str (fun _ _ => rfl)) (pe_op op_mul (pe_dget hu (pv 0) pe_str (fun _ _ => rfl)) pe_int)) pa_nil)) pe_int))
    (pss_cons (ps_set (i := 3) sc_l_pick.nd rfl (Or.inl rfl) (pe_op op_mod (pe_callTy call_int1 (by rfl) T.z_int (by decide +kernel) (pa_cons (pe_op op_add (pe_op op_mul (pv 3) (pv 3)) (pe_op op_mul (pe_dget hu (pv 0) pe_str (fun _ _ => rfl)) pe_int)) pa_nil)) pe_int))
    (pss_cons (ps_dput hu (pv 0) pe_str (pv 3) rfl)
    (pss_one (ps_ret (pe_op op_mod (pe_callTy call_int1 (by rfl) T.z_int (by decide +kernel) (pa_cons (pe_op op_fdiv (pv 3) pe_int) pa_nil)) (pv 1))))))))))), ?_⟩
    obtain ⟨xs, l, m, t, e1, e2, e3, e4, e5, e6, e7⟩ := id k.src
    refine ⟨fun n σ H' => ∃ (xs : List Int) (l m t : Int), σ = [some (.ref d), some (.int many), none, none] ∧ n = xs.length ∧ Kn G H' d c ∧ H' d = some (.dK (srcK c l m t)) ∧ H' c = some (.lst (xs.map V.int)) ∧ xs.length ≤ 63 ∧ (∀ x ∈ xs, 0 ≤ x) ∧ 0 ≤ l ∧ 0 ≤ m ∧ m < 2147483647,
      ⟨xs.length, xs, l, m, t, rfl, rfl, k, e1, e2, e3, e4, e5, e6, e7⟩, fun n σ H' hW => ?_⟩
    obtain ⟨xs, l, m, t, rfl, rfl, k, e1, e2, e3, e4, e5, e6, e7⟩ := hW
    have ncd : c ≠ d := k.src.ne
    have vd : ∀ (a b : Option V), Val (tVar 0) [some (.ref d), some (.int many), a, b] H' (.ref d) := fun a b => val_var rfl
    -- while many > 1 and left < 2 and len(cells) > 0
    refine ans_and2 (b1 := decide (1 < many)) (b2 := decide (l < 2) && decide (0 < (xs.length : Int))) (ans_cmp (val_var rfl) val_c fun Q q => ⟨_, _, rfl, rfl, q⟩)
      (ans_and2 (ans_cmp (x := .int l) (val_dget (vd _ _) val_c (get_left e1)) val_c fun Q q => ⟨_, _, rfl, rfl, q⟩)
        (ans_cmp (x := .int (xs.length : Int)) (val_cb1 (val_dget (vd _ _) val_c (get_cells e1)) fun Q q => ⟨c, _, rfl, .inl (SqL.of e2), by rw [List.length_map]; exact q⟩) val_c fun Q q => ⟨_, _, rfl, rfl, q⟩)) _ ?_
    refine ite2 (fun hb => ?_) (fun hb => ?_)
    · -- a cell is taken
      have hlen : 0 < xs.length := by
        simp only [Bool.and_eq_true, decide_eq_true_eq] at hb
        omega
      obtain ⟨ys, y, rfl⟩ : ∃ ys y, xs = ys ++ [y] := ⟨xs.dropLast, xs.getLast (List.ne_nil_of_length_pos hlen), (List.dropLast_concat_getLast _).symm⟩
      have hy : 0 ≤ y := e4 y (by simp)
      refine ⟨fun σ H2 => ∃ (xs : List Int) (l m t : Int), σ = [some (.ref d), some (.int many), none, none] ∧ xs.length < (ys ++ [y]).length ∧ Kn G H2 d c ∧ H2 d = some (.dK (srcK c l m t)) ∧ H2 c = some (.lst (xs.map V.int)) ∧ xs.length ≤ 63 ∧ (∀ x ∈ xs, 0 ≤ x) ∧ 0 ≤ l ∧ 0 ≤ m ∧ m < 2147483647, fun σ2 H2 hN => ?_, ?_⟩
      · obtain ⟨zs, l', m', t', rfl, h1, h2⟩ := hN
        exact ⟨zs.length, h1, zs, l', m', t', rfl, rfl, h2⟩
      · refine ⟨.ref d, rfl, d, .ref c, rfl, get_cells e1, .inl ⟨rfl, _, SqL.of e2⟩, c, (ys ++ [y]).map V.int, .int y, rfl, rfl, e2, ?_, ?_⟩
        · rw [List.length_map, List.length_append, List.map_append]
          simp
        · have e2' : ((ys ++ [y]).map V.int).dropLast = ys.map V.int := by simp
          rw [e2']
          have f1 : (upd H' c (.lst (ys.map V.int))) d = some (.dK (srcK c l m t)) := by rw [upd_ne ncd.symm]; exact e1
          refine ⟨.ref d, rfl, d, _, rfl, dput_left f1, ?_⟩
          have g1 : (upd (upd H' c (.lst (ys.map V.int))) d (.dK (srcK c y m t))) d = some (.dK (srcK c y m t)) := upd_same
          have g2 : (upd (upd H' c (.lst (ys.map V.int))) d (.dK (srcK c y m t))) c = some (.lst (ys.map V.int)) := by rw [upd_ne ncd, upd_same]
          have hl : ys.length ≤ 63 := by simp at e3; omega
          have hn : ∀ x ∈ ys, 0 ≤ x := fun x hx => e4 x (by simp [hx])
          refine ⟨ys, y, m, t, rfl, by simp, ⟨fun b o e => ?_, k.gd, k.gc, ⟨ys, y, m, t, g1, g2, hl, hn, hy, e6, e7⟩⟩, g1, g2, hl, hn, hy, e6, e7⟩
          have nb1 : b ≠ d := fun z => by rw [z, k.gd] at e; cases e
          have nb2 : b ≠ c := fun z => by rw [z, k.gc] at e; cases e
          rw [upd_ne nb1, upd_ne nb2]
          exact k.le _ _ e
    · -- behind the loop
      have setk : ∀ (l' m' t' : Int), 0 ≤ l' → 0 ≤ m' → m' < 2147483647 → ∀ H2, (∀ b, b ≠ d → H2 b = H' b) → H2 d = some (.dK (srcK c l' m' t')) → Kn G H2 d c := fun l' m' t' h1 h2 h3 H2 hH hd =>
        ⟨fun b o e => by rw [hH b (fun z => by rw [z, k.gd] at e; cases e)]; exact k.le _ _ e, k.gd, k.gc, ⟨xs, l', m', t', hd, by rw [hH c ncd]; exact e2, e3, e4, h1, h2, h3⟩⟩
      have hmx : 0 < (if many > 1 then many else 1) := by split <;> omega
      have hmx2 : (if many > 1 then many else 1) < 1073741824 := by split <;> omega
      -- left = source["left"]; if many < 2 or left > 1
      refine ⟨.ref d, rfl, d, _, rfl, get_left e1, ?_⟩
      refine ans_or2 (b1 := decide (many < 2)) (b2 := decide (1 < l)) (ans_cmp (val_var rfl) val_c fun Q q => ⟨_, _, rfl, rfl, q⟩) (ans_cmp (val_var rfl) val_c fun Q q => ⟨_, _, rfl, rfl, q⟩) _ ?_
      refine ite2 (fun hb => ?_) (fun hb => ?_)
      · -- a digit of what is left
        refine ⟨.int l, rfl, .int many, rfl, 1, many, rfl, l, _, rfl, rfl, ⟨hmx, hmx2⟩, .ref d, rfl, d, _, rfl, dput_left e1, ?_⟩
        refine ⟨.int l, rfl, .inl ⟨_, rfl, .int many, rfl, 1, many, rfl, l, _, rfl, rfl, hmx, ?_⟩⟩
        refine q _ _ (setk _ _ _ (Int.ediv_nonneg e5 (Int.le_of_lt hmx)) e6 e7 _ (fun b hb => upd_ne hb) upd_same) (Int.emod_nonneg _ (Int.ne_of_gt hmx)) ?_
        have hlt := Int.emod_lt_of_pos l hmx
        by_cases h : many > 1
        · rw [if_pos h] at hlt ⊢
          exact .inl hlt
        · rw [if_neg h] at hlt ⊢
          exact .inr ⟨by omega, by omega⟩
      · -- mixed anew
        have hb1 : ¬ many < 2 := fun h => hb (by simp [h])
        refine ⟨.ref d, rfl, d, _, rfl, get_turn e1, t, 1, rfl, rfl, .ref d, rfl, d, _, rfl, dput_turn e1, ?_⟩
        have f1 : (upd H' d (.dK (srcK c l m (t + 1)))) d = some (.dK (srcK c l m (t + 1))) := upd_same
        refine ⟨.ref d, rfl, d, _, rfl, get_mixed f1, .ref d, rfl, d, _, rfl, get_turn f1, t + 1, 104729, rfl, rfl, .inr ⟨by decide, by decide⟩, m, _, rfl, rfl, .inl ⟨_, rfl, _, _, rfl, rfl, (by show (0 : Int) < 998244353; decide), ?_⟩⟩
        have b0 : 0 ≤ (m + (t + 1) * 104729) % 998244353 := Int.emod_nonneg _ (by decide)
        have b1 : (m + (t + 1) * 104729) % 998244353 < 998244353 := Int.emod_lt_of_pos _ (by decide)
        refine ⟨_, rfl, _, rfl, (m + (t + 1) * 104729) % 998244353, (m + (t + 1) * 104729) % 998244353, rfl, rfl, .inl ⟨by omega, by omega⟩, .ref d, rfl, d, _, rfl, get_turn f1, t + 1, 17, rfl, rfl, .inr ⟨by decide, by decide⟩, _, _, rfl, rfl, .inl ⟨_, rfl, _, _, rfl, rfl, (by show (0 : Int) < 2147483647; decide), ?_⟩⟩
        have b2 : 0 ≤ ((m + (t + 1) * 104729) % 998244353 * ((m + (t + 1) * 104729) % 998244353) + (t + 1) * 17) % 2147483647 := Int.emod_nonneg _ (by decide)
        have b3 : ((m + (t + 1) * 104729) % 998244353 * ((m + (t + 1) * 104729) % 998244353) + (t + 1) * 17) % 2147483647 < 2147483647 := Int.emod_lt_of_pos _ (by decide)
        refine ⟨_, rfl, .ref d, rfl, d, _, rfl, dput_mixed f1, ?_⟩
        refine ⟨_, rfl, _, 16, rfl, rfl, ⟨by decide, by decide⟩, .inl ⟨_, rfl, .int many, rfl, _, _, rfl, rfl, (by show (0 : Int) < many; omega), ?_⟩⟩
        exact q _ _ (setk l _ (t + 1) e5 b2 b3 _ (fun b hb => by rw [upd_ne hb, upd_ne hb]) upd_same) (Int.emod_nonneg _ (by omega)) (.inl (Int.emod_lt_of_pos _ (by omega)))
end

section
variable {P : Program} {w : World} {K : PySem.W.Frag} {mg : Str → Option Value} {base : Heap}
def absI (z : Int) : Int := if z < 0 then -z else z
def spSource (K : PySem.W.Frag) : Sp := fun vs H Q _ => ∃ (a : Addr) (ns : List Int), vs = [.ref a] ∧ SqL K H a (ns.map V.int) ∧ ns.length ≤ 63 ∧ ∀ (d c : Addr) (H' : Hp), Kn H H' d c → Q (.ref d) H'
theorem ok_source (T : Tx K mg) : FnOk P w K mg base CX0 1 T.f_l_source T.d_l_source ["_law_script"] (spSource K) := by
  refine T.F_l_source.ok sc_l_source (fun vs H Q E h => ?_) (fun cdv A outer s H vs Q E hr h => ?_)
  · obtain ⟨a, ns, rfl, _⟩ := h
    rfl
  · obtain ⟨a, ns, rfl, hS, hlen, q⟩ := h
    have hu := hu_of hr
    refine ⟨_, (pss_cons (ps_set (i := 1) sc_l_source.nd rfl (Or.inl rfl) pe_int)
    (pss_cons (ps_for PassesOwn.never rfl (pi_list (pv 0)) (pg_name (i := 2) sc_l_source.nd rfl (Or.inl rfl))
    (pss_one (ps_set (i := 1) sc_l_source.nd rfl (Or.inl rfl) (pe_op op_mod (pe_callTy call_int1 (by rfl) T.z_int (by decide +kernel) (pa_cons (pe_op op_add (pe_op op_add (pe_op op_mul (pv 1) pe_int) (pe_op op_mul (pv 2) pe_int)) pe_int) pa_nil)) pe_int))))
    (pss_one (ps_ret (pe_disp (pps_cons pe_str (pe_revL (pe_lc (own := [("_law_cell", 2)]) (g := gName 2) rfl sc_l_source.nd (pi_list (pv 0)) (blkOk_by (own := [("_law_cell", 2)]) (N := ["_law_script", "_law_mixed", "_law_cell"]) (sc := defScope s_l_source) (by decide +kernel)) (fun _ _ _ _ _ => (pg_name (i := 2) sc_l_source.nd rfl (Or.inl rfl))) (fun _ _ _ _ _ => pts_nil) (fun _ _ _ _ _ => (pe_callB call_abs (by rfl) T.z_abs (by decide +kernel) (pa_cons (pv 2) pa_nil))))) (pps_cons pe_str pe_int (pps_cons pe_str (pv 1) (pps_cons pe_str pe_int pps_nil)))) (by rfl) (by rfl) (fun z => by cases z) (by decide)))))), ?_⟩
    refine ⟨.ref a, rfl, a, rfl, ⟨_, hS⟩, for_list (K := K) (a := a) (xs := ns.map V.int) (fun i σ H' => ∃ (m : Int) (v : Option V), σ = [some (.ref a), some (.int m), v] ∧ H' = H ∧ 0 ≤ m ∧ m < 2147483647)
      ⟨11, none, rfl, rfl, by decide, by decide⟩ (fun i σ H' _ ⟨_, _, _, e, _⟩ => e ▸ hS) ?_ ?_⟩
    · rintro i y σ H' hi ⟨m, v, rfl, rfl, m0, m1⟩
      obtain ⟨z, rfl, hz⟩ := ints_at hi
      refine ⟨.int m, rfl, m, 69069, rfl, rfl, .inl ⟨by omega, by omega⟩, .int z, rfl, z, 31, rfl, rfl, .inr ⟨by decide, by decide⟩, _, _, rfl, rfl, _, _, rfl, rfl, .inl ⟨_, rfl, _, _, rfl, rfl, (by show (0 : Int) < 2147483629; decide), ?_⟩⟩
      exact ⟨_, _, rfl, rfl, Int.emod_nonneg _ (by decide), Int.lt_trans (Int.emod_lt_of_pos _ (by decide)) (by decide : (2147483629 : Int) < 2147483647)⟩
    · rintro σ H' ⟨m, v, rfl, rfl, m0, m1⟩
      intro d hd
      have sd : Same H' (upd H' d (.dK [])) := same_new hd
      refine ⟨.ref a, rfl, a, rfl, ⟨_, sd.seq hS⟩, fun D hD => ?_⟩
      have hDd : d ≠ D := fun e => by rw [← e, upd_same] at hD; cases hD
      have hD0 : H' D = none := sd.free hD
      have sD : Same (upd H' d (.dK [])) (upd (upd H' d (.dK [])) D (.lst [])) := same_new hD
      refine lc_list (K := K) (a := a) (xs := ns.map V.int) (fun i H2 => H2 = upd (upd H' d (.dK [])) D (.lst (((ns.take i).map absI).map V.int))) rfl (fun i H2 _ e => ?_) ?_ ?_
      · subst e
        exact (sd.trans (same_new hD)).seq hS
      · rintro i y H2 hi rfl
        obtain ⟨z, rfl, hz⟩ := ints_at hi
        refine ⟨rfl, tyes ?_⟩
        refine ⟨.int z, rfl, z, rfl, _, upd_same, ?_, ?_⟩
        · rw [List.length_map, List.length_map, List.length_take]
          exact Nat.lt_of_le_of_lt (Nat.min_le_right _ _) (small1000 (by omega))
        · show upd (upd (upd H' d (.dK [])) D _) D _ = _
          rw [upd_upd, List.take_add_one, hz, List.map_append, List.map_append]
          rfl
      · rintro H2 rfl
        rw [List.length_map, List.take_length]
        refine ⟨D, _, rfl, .inl (.inl upd_same), fun c hc => ?_⟩
        have hcd : c ≠ d := fun e => by rw [e, upd_ne hDd, upd_same] at hc; cases hc
        have hcD : c ≠ D := fun e => by rw [e, upd_same] at hc; cases hc
        have hc0 : H' c = none := by rw [upd_ne hcD, upd_ne hcd] at hc; exact hc
        refine ⟨_, rfl, ?_⟩
        refine ⟨by rw [upd_ne hcd.symm, upd_ne hDd]; exact upd_same, srcK c 1 m 0, rfl, by show 4 ≤ 15; decide, ?_⟩
        rw [merge_src]
        refine q d c _ ⟨fun b o e => ?_, hd, hc0, ⟨((ns.map absI).reverse), 1, m, 0, upd_same, ?_, ?_, ?_, by decide, m0, m1⟩⟩
        · rw [upd_ne (ne_of_none e hd), upd_ne (ne_of_none e hc0), upd_ne (ne_of_none e hD0), upd_ne (ne_of_none e hd)]
          exact e
        · rw [upd_ne hcd, upd_same, List.map_reverse]
        · rw [List.length_reverse, List.length_map]
          exact hlen
        · intro x hx
          rw [List.mem_reverse, List.mem_map] at hx
          obtain ⟨z, _, rfl⟩ := hx
          unfold absI
          split <;> omega
end

section
variable {P : Program} {w : World} {K : PySem.W.Frag} {mg : Str → Option Value} {base : Heap}
/-- a drawn member of a list -/
def spOf (K : PySem.W.Frag) : Sp := fun vs H Q _ => ∃ (G : Hp) (d c a : Addr) (xs : List V), vs = [.ref d, .ref a] ∧ Kn G H d c ∧ SqL K G a xs ∧ 0 < xs.length ∧ xs.length ≤ 100000 ∧
  ∀ (x : V) (H' : Hp), Kn G H' d c → x ∈ xs → Q x H'
theorem ok_of (T : Tx K mg) : FnOk P w K mg base CX0 2 T.f_l_of T.d_l_of ["_law_source_here", "_law_some"] (spOf K) := by
  have G_l_pick := ok_pick (P := P) (w := w) (base := base) T
  refine T.F_l_of.ok sc_l_of (fun vs H Q E h => ?_) (fun cdv A outer s H vs Q E hr h => ?_)
  · obtain ⟨G, d, c, a, xs, rfl, _⟩ := h
    rfl
  · obtain ⟨G, d, c, a, xs, rfl, k, hS, h0, h1, q⟩ := h
    refine ⟨_, (pss_one (ps_ret (pe_ix ix_list (pv 1) (pe_call G_l_pick (hr.mono (by decide)) (by rfl) T.g_l_pick T.F_l_pick.kp T.b_l_pick .nil pass0 (pa_cons (pv 0) (pa_cons (pe_callB call_len_seq (by rfl) T.z_len PySem.boot_len (pa_cons (pv 1) pa_nil)) pa_nil))) (fun _ _ => rfl)))), ?_⟩
    refine ⟨.ref a, rfl, .ref d, rfl, .ref a, rfl, a, xs, rfl, .inl (k.le.seq hS), G, d, c, xs.length, rfl, k, by omega, fun r H' k' r0 r1 => ?_⟩
    obtain ⟨j, rfl⟩ : ∃ j : Nat, r = j := ⟨r.toNat, by omega⟩
    have hj : j < xs.length := by omega
    refine ⟨a, xs, (j : Int), xs[j], rfl, rfl, k'.le.seq hS, atI_nat (List.getElem?_eq_getElem hj), ?_⟩
    exact q _ _ k' (List.getElem_mem hj)
end

section
variable {P : Program} {w : World} {K : PySem.W.Frag} {mg : Str → Option Value} {base : Heap}
theorem pn_ : ¬ (("_p" : Str) = "_n") := by decide +kernel
/-- the attributes of a Ground -/
def gf (p n : Int) : List (Str × V) := putF "_n" (.int n) (putF "_p" (.int p) [])
theorem gf_p (p n : Int) : (gf p n).lookup ("_p" : Str) = some (.int p) := by
  unfold gf
  rw [lookup_putF, if_neg pn_, lookup_putF, if_pos rfl]
theorem gf_n (p n : Int) : (gf p n).lookup ("_n" : Str) = some (.int n) := by
  unfold gf
  rw [lookup_putF, if_pos rfl]
theorem gf_no (p n : Int) {m : Str} (h1 : ¬ m = "_n") (h2 : ¬ m = "_p") : (gf p n).lookup m = none := by
  unfold gf
  rw [lookup_putF, if_neg h1, lookup_putF, if_neg h2]
  all_goals rfl
theorem no_p (p n : Int) : (gf p n).lookup ("p" : Str) = none := gf_no p n (by decide +kernel) (by decide +kernel)
theorem no_n (p n : Int) : (gf p n).lookup ("n" : Str) = none := gf_no p n (by decide +kernel) (by decide +kernel)
/-- a Ground of p and n stands at g -/
def Gd (C : Addr) (H : Hp) (g : Addr) (p n : Int) : Prop := ∃ dx, H g = some (.ins C dx (gf p n))
theorem Gd.mono {C : Addr} {H H' : Hp} {g : Addr} {p n : Int} (h : Gd C H g p n) (e : Same H H') : Gd C H' g p n := let ⟨dx, q⟩ := h; ⟨dx, e _ _ q⟩
/-- a number's own sentence -/
def Prm (p : Int) : Prop := 2 ≤ p ∧ p < 1073741824 ∧ ∀ d : Int, 2 ≤ d → d * d ≤ p → p % d ≠ 0
def spIsNum : Sp := fun vs H Q _ => ∃ n : Int, vs = [.int n] ∧ Q (.bl (decide (0 ≤ n))) H
theorem ok_is_number (T : Tx K mg) : FnOk P w K mg base CX0 1 T.f_is_number T.d_is_number ["value"] spIsNum := by
  refine T.F_is_number.ok sc_is_number (fun vs H Q E h => ?_) (fun cdv A outer s H vs Q E hr h => ?_)
  · obtain ⟨n, rfl, _⟩ := h
    rfl
  · obtain ⟨n, rfl, q⟩ := h
    refine ⟨_, (pss_one (ps_ret (pe_and (pe_callB call_isi (by rfl) T.z_isinstance (by decide +kernel) (pa_cons (pv 0) (pa_cons (pe_bltn (v := .ty "int") (by rfl) T.z_int (by decide +kernel) rfl) pa_nil))) (pe_and (pe_not (pe_callB call_isi (by rfl) T.z_isinstance (by decide +kernel) (pa_cons (pv 0) (pa_cons (pe_bltn (v := .ty "bool") (by rfl) T.z_bool (by decide +kernel) rfl) pa_nil)))) (pe_one (pe_cmpR op_ge (pv 0) pe_int (nomark _))))))), ?_⟩
    refine ⟨.int n, rfl, .int n, .ty "int", _, _, true, rfl, .ty _, .base (.int n), kit_ty (by decide +kernel), true, rfl, iteT ?_⟩
    refine ⟨.int n, rfl, .int n, .ty "bool", _, _, false, rfl, .ty _, .base (.int n), kit_ty (by decide +kernel), false, rfl, true, rfl, iteT ?_⟩
    exact ⟨.int n, rfl, _, _, rfl, rfl, q⟩
def spIsPrime : Sp := fun vs H Q _ => ∃ p : Int, vs = [.int p] ∧ Prm p ∧ Q (.bl true) H
theorem ok_is_prime (T : Tx K mg) : FnOk P w K mg base CX0 2 T.f_is_prime T.d_is_prime ["value"] spIsPrime := by
  have G_is_number := ok_is_number (P := P) (w := w) (base := base) T
  refine T.F_is_prime.ok sc_is_prime (fun vs H Q E h => ?_) (fun cdv A outer s H vs Q E hr h => ?_)
  · obtain ⟨p, rfl, _⟩ := h
    rfl
  · obtain ⟨p, rfl, ⟨p2, p3, hp⟩, q⟩ := h
    refine ⟨_, (pss_cons (ps_if (PW.pt (pw_or (pt_not (pt_val (pe_call G_is_number (hr.mono (by decide)) (by rfl) T.g_is_number T.F_is_number.kp T.b_is_number .nil pass0 (pa_cons (pv 0) pa_nil)))) (pw_or1 (pt_cmpR op_lt (pv 0) pe_int (nomark _))))) (pss_one (ps_ret pe_bl)) pss_nil)
    (pss_cons (ps_set (i := 1) sc_is_prime.nd rfl (Or.inl rfl) pe_int)
    (pss_cons (ps_while PassesOwn.never (pt_cmpR op_le (pe_op op_mul (pv 1) (pv 1)) (pv 0) (nomark _)) (pss_cons (ps_if (pt_cmpR op_eq (pe_op op_mod (pv 0) (pv 1)) pe_int (nomark _)) (pss_one (ps_ret pe_bl)) pss_nil)
    (pss_one (ps_aug (i := 1) sc_is_prime.nd rfl (Or.inl rfl) pe_int ip_add))))
    (pss_one (ps_ret pe_bl))))), ?_⟩
    refine ⟨.int p, rfl, p, rfl, true, by rw [decide_eq_true (by omega)], iteF ?_⟩
    refine ⟨.int p, rfl, p, 2, rfl, rfl, _, rfl, ?_⟩
    rw [decide_eq_false (by omega : ¬ p < 2)]
    refine iteF ?_
    refine ⟨fun m σ H' => ∃ d : Int, σ = [some (.int p), some (.int d)] ∧ m = (p + 1 - d).toNat ∧ H' = H ∧ 2 ≤ d ∧ d ≤ p, ⟨_, 2, rfl, rfl, rfl, by decide, p2⟩, fun m σ H' hW => ?_⟩
    obtain ⟨d, rfl, rfl, rfl, d2, d3⟩ := hW
    refine ⟨.int d, rfl, .int d, rfl, d, d, rfl, rfl, .inl ⟨by omega, by omega⟩, .int p, rfl, _, _, rfl, rfl, _, rfl, ?_⟩
    refine ite2 (fun hb => ?_) (fun hb => ?_)
    · have hb' : d * d ≤ p := of_decide_eq_true hb
      have hlt : d < p := by
        have h2 : 2 * d ≤ d * d := Int.mul_le_mul_of_nonneg_right d2 (by omega)
        omega
      refine ⟨fun σ H2 => ∃ e : Int, σ = [some (.int p), some (.int e)] ∧ (p + 1 - e).toNat < (p + 1 - d).toNat ∧ H2 = H' ∧ 2 ≤ e ∧ e ≤ p, fun σ2 H2 hN => ?_, ?_⟩
      · obtain ⟨e, rfl, h1, rfl, h2, h3⟩ := hN
        exact ⟨_, h1, e, rfl, rfl, rfl, h2, h3⟩
      · refine ⟨.int p, rfl, .int d, rfl, p, d, rfl, rfl, (by show (0 : Int) < d; omega), rfl, _, rfl, ?_⟩
        have hne : ¬ (V.int (p % d) = V.int 0) := fun z => hp d d2 hb' (V.int.inj z)
        show (if decide (V.int (p % d) = V.int 0) = true then _ else _)
        rw [decide_eq_false hne]
        refine iteF ?_
        exact ⟨_, rfl, d, 1, rfl, rfl, d + 1, rfl, by omega, rfl, by omega, by omega⟩
    · exact q
/-- Ground.__init__ of a prime and a number -/
def spInit (C : Addr) : Sp := fun vs H Q _ => ∃ (x dx : Addr) (p n : Int), vs = [.ref x, .int p, .int n] ∧ H x = some (.ins C dx []) ∧ Prm p ∧ 0 ≤ n ∧ ∀ H' : Hp, H' x = some (.ins C dx (gf p n)) → (∀ b, b ≠ x → H' b = H b) → Q .non H'
theorem ok_init (T : Tx K mg) : FnOk P w K mg base CX0 3 T.f_Ground_init T.d_Ground_init ["self", "p", "n"] (spInit T.C_Ground) := by
  have G_is_number := ok_is_number (P := P) (w := w) (base := base) T
  have G_is_prime := ok_is_prime (P := P) (w := w) (base := base) T
  refine T.F_Ground_init.ok sc_Ground_init (fun vs H Q E h => ?_) (fun cdv A outer s H vs Q E hr h => ?_)
  · obtain ⟨x, dx, p, n, rfl, _⟩ := h
    rfl
  · obtain ⟨x, dx, p, n, rfl, hx, hp, hn, q⟩ := h
    refine ⟨_, (pss_cons (ps_if (pt_not (pt_val (pe_call G_is_prime (hr.mono (by decide)) (by rfl) T.g_is_prime T.F_is_prime.kp T.b_is_prime .nil pass0 (pa_cons (pv 1) pa_nil)))) (pss_one ps_never) pss_nil)
    (pss_cons (ps_if (pt_not (pt_val (pe_call G_is_number (hr.mono (by decide)) (by rfl) T.g_is_number T.F_is_number.kp T.b_is_number .nil pass0 (pa_cons (pv 2) pa_nil)))) (pss_one ps_never) pss_nil)
    (pss_cons (ps_fld (pv 0) (pv 1) rfl)
    (pss_one (ps_fld (pv 0) (pv 2) rfl))))), ?_⟩
    refine ⟨.int p, rfl, p, rfl, hp, true, rfl, iteF ?_⟩
    refine ⟨.int n, rfl, n, rfl, true, by rw [decide_eq_true hn], iteF ?_⟩
    refine ⟨.int p, rfl, .ref x, rfl, x, T.C_Ground, dx, [], rfl, hx, T.cl_Ground, T.n_Ground_p, (by show 0 < 1000; decide), ?_⟩
    refine ⟨.int n, rfl, .ref x, rfl, x, T.C_Ground, dx, _, rfl, upd_same, T.cl_Ground, T.n_Ground_n, (by show 1 < 1000; decide), ?_⟩
    exact q _ upd_same fun b hb => by rw [upd_ne hb, upd_ne hb]
def spP (C : Addr) : Sp := fun vs H Q _ => ∃ (g : Addr) (p n : Int), vs = [.ref g] ∧ Gd C H g p n ∧ Q (.int p) H
theorem ok_p (T : Tx K mg) : FnOk P w K mg base CX0 1 T.f_Ground_p T.d_Ground_p ["self"] (spP T.C_Ground) := by
  refine T.F_Ground_p.ok sc_Ground_p (fun vs H Q E h => ?_) (fun cdv A outer s H vs Q E hr h => ?_)
  · obtain ⟨g, p, n, rfl, _⟩ := h
    rfl
  · obtain ⟨g, p, n, rfl, ⟨dx, hg⟩, q⟩ := h
    refine ⟨_, (pss_one (ps_ret (pe_fld (pv 0) rfl))), ?_⟩
    exact ⟨.ref g, rfl, g, T.C_Ground, dx, _, _, rfl, hg, T.cl_Ground, T.n_Ground_p, gf_p p n, q⟩
def spN (C : Addr) : Sp := fun vs H Q _ => ∃ (g : Addr) (p n : Int), vs = [.ref g] ∧ Gd C H g p n ∧ Q (.int n) H
theorem ok_n (T : Tx K mg) : FnOk P w K mg base CX0 1 T.f_Ground_n T.d_Ground_n ["self"] (spN T.C_Ground) := by
  refine T.F_Ground_n.ok sc_Ground_n (fun vs H Q E h => ?_) (fun cdv A outer s H vs Q E hr h => ?_)
  · obtain ⟨g, p, n, rfl, _⟩ := h
    rfl
  · obtain ⟨g, p, n, rfl, ⟨dx, hg⟩, q⟩ := h
    refine ⟨_, (pss_one (ps_ret (pe_fld (pv 0) rfl))), ?_⟩
    exact ⟨.ref g, rfl, g, T.C_Ground, dx, _, _, rfl, hg, T.cl_Ground, T.n_Ground_n, gf_n p n, q⟩
/-- a new Ground, all else as it was -/
theorem made_same {C x dx : Addr} {H H1 : Hp} {p n : Int} (nx : H x = none) (nd : H dx = none) (ne : dx ≠ x) (hx : H1 x = some (.ins C dx (gf p n))) (k : ∀ b, b ≠ x → H1 b = (upd (upd H dx (.own x)) x (.ins C dx [])) b) : Same H H1 := fun b o e => by
  have h1 : b ≠ x := ne_of_none e nx
  rw [k b h1, upd_ne h1, upd_ne (ne_of_none e nd)]
  exact e
end

section
variable {P : Program} {w : World} {K : PySem.W.Frag} {mg : Str → Option Value} {base : Heap}
def primes8 : List Int := [2, 2, 3, 3, 5, 7, 11, 13]
def IsP (p : Int) : Prop := p = 2 ∨ p = 3 ∨ p = 5 ∨ p = 7 ∨ p = 11 ∨ p = 13
theorem IsP.prm {p : Int} (h : IsP p) : Prm p := by
  refine ⟨?_, ?_, fun d d2 hd => ?_⟩
  · rcases h with rfl | rfl | rfl | rfl | rfl | rfl <;> decide
  · rcases h with rfl | rfl | rfl | rfl | rfl | rfl <;> decide
  · have d4 : d < 4 := by
      by_cases h4 : d < 4
      · exact h4
      · have h1 : 4 * d ≤ d * d := Int.mul_le_mul_of_nonneg_right (by omega) (by omega)
        have h2 : p ≤ 13 := by rcases h with rfl | rfl | rfl | rfl | rfl | rfl <;> decide
        omega
    rcases (by omega : d = 2 ∨ d = 3) with rfl | rfl
    · rcases h with rfl | rfl | rfl | rfl | rfl | rfl <;> first | decide | (exfalso; revert hd; decide)
    · rcases h with rfl | rfl | rfl | rfl | rfl | rfl <;> first | decide | (exfalso; revert hd; decide)
theorem IsP.lo {p : Int} (h : IsP p) : 2 ≤ p := h.prm.1
theorem IsP.hi {p : Int} (h : IsP p) : p ≤ 13 := by rcases h with rfl | rfl | rfl | rfl | rfl | rfl <;> decide
theorem IsP.of {x : V} (h : x ∈ primes8.map V.int) : ∃ p, x = .int p ∧ IsP p := by
  obtain ⟨p, hp, rfl⟩ := List.mem_map.mp h
  refine ⟨p, rfl, ?_⟩
  simp [primes8] at hp
  unfold IsP
  omega
/-- what _law_wide tells of a ground -/
def grK (g : Addr) (p n : Int) : List (Key × V) := [(ks "p", .int p), (ks "n", .int n), (ks "made", .ref g)]
theorem zpn : ¬ Str.ofString "p" = Str.ofString "n" := by decide +kernel
theorem zpm : ¬ Str.ofString "p" = Str.ofString "made" := by decide +kernel
theorem znm : ¬ Str.ofString "n" = Str.ofString "made" := by decide +kernel
theorem znp : ¬ Str.ofString "n" = Str.ofString "p" := by decide +kernel
theorem zmp : ¬ Str.ofString "made" = Str.ofString "p" := by decide +kernel
theorem zmn : ¬ Str.ofString "made" = Str.ofString "n" := by decide +kernel
theorem merge_gr (g : Addr) (p n : Int) : mergeK [] (grK g p n) = grK g p n := by
  simp [mergeK, putK, grK, zpn, zpm, znm, znp, zmp, zmn]
theorem gr_p {H : Hp} {d g : Addr} {p n : Int} (e : H d = some (.dK (grK g p n))) : DGet H d (.str "p") (some (.int p)) := by
  have h := DGet.k (k := ks "p") e
  rwa [show valV (grK g p n) (ks "p") = some (.int p) by simp [valV, grK, zpn, zpm, znm, znp, zmp, zmn]] at h
theorem gr_n {H : Hp} {d g : Addr} {p n : Int} (e : H d = some (.dK (grK g p n))) : DGet H d (.str "n") (some (.int n)) := by
  have h := DGet.k (k := ks "n") e
  rwa [show valV (grK g p n) (ks "n") = some (.int n) by simp [valV, grK, zpn, zpm, znm, znp, zmp, zmn]] at h
theorem gr_made {H : Hp} {d g : Addr} {p n : Int} (e : H d = some (.dK (grK g p n))) : DGet H d (.str "made") (some (.ref g)) := by
  have h := DGet.k (k := ks "made") e
  rwa [show valV (grK g p n) (ks "made") = some (.ref g) by simp [valV, grK, zpn, zpm, znm, znp, zmp, zmn]] at h
/-- a drawn ground is told at a: p, n and the Ground at g -/
structure Gr (C : Addr) (H : Hp) (a g : Addr) (p n : Int) : Prop where
  dk : H a = some (.dK (grK g p n))
  gd : Gd C H g p n
  ip : IsP p
theorem Gr.mono {C : Addr} {H H' : Hp} {a g : Addr} {p n : Int} (h : Gr C H a g p n) (e : Same H H') : Gr C H' a g p n := ⟨e _ _ h.dk, h.gd.mono e, h.ip⟩
def spWide (C : Addr) : Sp := fun vs H Q _ => ∃ (G : Hp) (d c : Addr) (lo hi : Int), vs = [.ref d, .int lo, .int hi] ∧ Kn G H d c ∧ 0 ≤ lo ∧ lo ≤ hi ∧ hi ≤ 1000 ∧
  ∀ (a g : Addr) (p n : Int) (G' H' : Hp), Same G G' → Kn G' H' d c → Gr C G' a g p n → lo ≤ n → n ≤ hi → Q (.ref a) H'
theorem ok_wide (T : Tx K mg) : FnOk P w K mg base CX0 5 T.f_l_wide T.d_l_wide ["_law_source_here", "_law_least", "_law_most"] (spWide T.C_Ground) := by
  have G_l_pick := ok_pick (P := P) (w := w) (base := base) T
  have G_l_of := ok_of (P := P) (w := w) (base := base) T
  have G_Ground_init := ok_init (P := P) (w := w) (base := base) T
  refine T.F_l_wide.ok sc_l_wide (fun vs H Q E h => ?_) (fun cdv A outer s H vs Q E hr h => ?_)
  · obtain ⟨G, d, c, lo, hi, rfl, _⟩ := h
    rfl
  · obtain ⟨G, d, c, lo, hi, rfl, k, h0, h1, h2, q⟩ := h
    have hu := hu_of hr
    refine ⟨_, (pss_cons (ps_par (i := 3) (j := 4) (by rfl) sc_l_wide.nd rfl rfl (by decide) rfl rfl (pa_cons (pe_call G_l_of (hr.mono (by decide)) (by rfl) T.g_l_of T.F_l_of.kp T.b_l_of .nil pass0 (pa_cons (pv 0) (pa_cons (pe_lst (pa_cons pe_int (pa_cons pe_int (pa_cons pe_int (pa_cons pe_int (pa_cons pe_int (pa_cons pe_int (pa_cons pe_int (pa_cons pe_int pa_nil))))))))) pa_nil))) (pa_cons (pe_op op_add (pv 1) (pe_call G_l_pick (hr.mono (by decide)) (by rfl) T.g_l_pick T.F_l_pick.kp T.b_l_pick .nil pass0 (pa_cons (pv 0) (pa_cons (pe_op op_sub (pe_op op_add (pv 2) pe_int) (pv 1)) pa_nil)))) pa_nil)) (by rfl))
    (pss_one (ps_ret (pe_disp (pps_cons pe_str (pv 3) (pps_cons pe_str (pv 4) (pps_cons pe_str (pe_make T.M_Ground G_Ground_init (hr.mono (by decide)) rfl T.g_Ground T.b_Ground_init .nil pass0 (pa_cons (pv 3) (pa_cons (pv 4) pa_nil))) pps_nil))) (by rfl) (by rfl) (fun z => by cases z) (by decide))))), ?_⟩
    -- _law_of(source, [2, 2, ..])
    refine ⟨.ref d, rfl, (by show 8 ≤ sizeLine; decide), fun t ht => ?_⟩
    refine ⟨upd G t (.lst (primes8.map V.int)), d, c, t, primes8.map V.int, rfl, k.new ht, .inl (.inl upd_same), by decide, by decide, fun x H1 k1 hx => ?_⟩
    obtain ⟨p, rfl, ip⟩ := IsP.of hx
    have k1 : Kn G H1 d c := k1.weak (same_new (k.free ht))
    -- least + _law_pick(..)
    refine ⟨.int lo, rfl, .ref d, rfl, .int hi, rfl, hi, 1, rfl, rfl, .int lo, rfl, hi + 1, lo, rfl, rfl, G, d, c, hi + 1 - lo, rfl, k1, by omega, fun r H2 k2 r0 r1 => ?_⟩
    refine ⟨lo, r, rfl, rfl, .int p, .int (lo + r), rfl, ?_⟩
    -- {"p": .., "n": .., "made": Ground(p, n)}
    intro a ha
    refine ⟨.int p, rfl, .int (lo + r), rfl, .int p, rfl, .int (lo + r), rfl, fun x dx nx ndx hne => ?_⟩
    have ax : a ≠ x := fun e => by rw [← e, upd_same] at nx; cases nx
    have adx : a ≠ dx := fun e => by rw [← e, upd_same] at ndx; cases ndx
    refine ⟨x, dx, p, lo + r, rfl, upd_same, ip.prm, by omega, fun H3 hx3 hk3 => ⟨rfl, ?_⟩⟩
    have sm : Same (upd H2 a (.dK [])) H3 := made_same nx ndx hne hx3 hk3
    refine ⟨sm _ _ upd_same, grK x p (lo + r), rfl, (by show 3 ≤ 15; decide), ?_⟩
    rw [merge_gr]
    have x0 : H2 x = none := by rw [upd_ne ax.symm] at nx; exact nx
    have s23 : Same H2 H3 := (same_new ha).trans sm
    have k3 : Kn (upd G x (.ins T.C_Ground dx (gf p (lo + r)))) H3 d c := k2.add s23 x0 hx3
    have ga : G a = none := k2.free ha
    have k4 : Kn (upd (upd G x (.ins T.C_Ground dx (gf p (lo + r)))) a (.dK (grK x p (lo + r)))) (upd H3 a (.dK (grK x p (lo + r)))) d c := by
      have n1 : a ≠ d := k2.src.some_d ha
      have n2 : a ≠ c := k2.src.some_c ha
      refine ⟨fun b o e => ?_, by rw [upd_ne n1.symm]; exact k3.gd, by rw [upd_ne n2.symm]; exact k3.gc, k3.src.off n1 n2⟩
      by_cases hb : b = a
      · subst hb
        rw [upd_same] at e ⊢
        exact e
      · rw [upd_ne hb] at e ⊢
        exact k3.le _ _ e
    refine q a x p (lo + r) _ _ ?_ k4 ⟨upd_same, ⟨dx, by rw [upd_ne ax.symm, upd_same]⟩, ip⟩ (by omega) (by omega)
    exact (same_new (k2.free x0)).trans (same_new (by rw [upd_ne ax]; exact ga))
/-- a drawn row -/
def Row (p : Int) (r : List Int) : Prop := ∀ x ∈ r, 0 ≤ x ∧ x < p
def spRow (C : Addr) : Sp := fun vs H Q _ => ∃ (G : Hp) (d c a g : Addr) (p n : Int), vs = [.ref d, .ref a] ∧ Kn G H d c ∧ Gr C G a g p n ∧ 0 ≤ n ∧ n ≤ 1000 ∧
  ∀ (t : Addr) (r : List Int) (G' H' : Hp), Same G G' → Kn G' H' d c → G' t = some (.tup (r.map V.int)) → (r.length : Int) = n → Row p r → Q (.ref t) H'
theorem ok_row (T : Tx K mg) : FnOk P w K mg base CX0 2 T.f_l_row T.d_l_row ["_law_source_here", "_law_ground"] (spRow T.C_Ground) := by
  have G_l_pick := ok_pick (P := P) (w := w) (base := base) T
  refine T.F_l_row.ok sc_l_row (fun vs H Q E h => ?_) (fun cdv A outer s H vs Q E hr h => ?_)
  · obtain ⟨G, d, c, a, g, p, n, rfl, _⟩ := h
    rfl
  · obtain ⟨G, d, c, a, g, p, n, rfl, k, gr, n0, n1, q⟩ := h
    have hu := hu_of hr
    refine ⟨_, (pss_one (ps_ret (pe_callTy call_tuple_of (by rfl) T.z_tuple (by decide +kernel) (pa_cons (pe_lc (own := [("_law_k", 2)]) (g := gName 2) rfl sc_l_row.nd (pi_range1 rfl T.z_range (pa_cons (pe_dget hu (pv 1) pe_str (fun _ _ => rfl)) pa_nil)) (blkOk_by (own := [("_law_k", 2)]) (N := ["_law_source_here", "_law_ground", "_law_k"]) (sc := defScope s_l_row) (by decide +kernel)) (fun _ _ _ _ _ => (pg_name (i := 2) sc_l_row.nd rfl (Or.inl rfl))) (fun _ _ _ _ _ => pts_nil) (fun _ _ _ _ _ => (pe_call G_l_pick (hr.mono (by decide)) (by rfl) T.g_l_pick T.F_l_pick.kp T.b_l_pick .nil pass0 (pa_cons (pv 0) (pa_cons (pe_dget hu (pv 1) pe_str (fun _ _ => rfl)) pa_nil))))) pa_nil)))), ?_⟩
    refine ⟨.ref a, rfl, a, _, rfl, gr_n (k.le _ _ gr.dk), n, rfl, by omega, by omega, fun D hD => ?_⟩
    refine lc_range (lo := 0) (n := n.toNat) (fun i H' => ∃ r : List Int, Kn (upd G D (.lst (r.map V.int))) H' d c ∧ r.length = i ∧ Row p r) ⟨[], k.new hD, rfl, fun x hx => by cases hx⟩ ?_ ?_
    · rintro i H1 hi ⟨r, k1, hl, hrow⟩
      have gr1 : Gr T.C_Ground (upd G D (.lst (r.map V.int))) a g p n := gr.mono (same_new (k.free hD))
      refine ⟨rfl, tyes ?_⟩
      refine ⟨.ref d, rfl, .ref a, rfl, a, _, rfl, gr_p (k1.le _ _ gr1.dk), _, d, c, p, rfl, k1, by have := gr.ip.hi; omega, fun z H2 k2 z0 z1 => ?_⟩
      have zp : z < p := by have := gr.ip.lo; omega
      refine ⟨_, k2.le _ _ upd_same, ?_, r ++ [z], ?_, by rw [List.length_append, hl]; rfl, fun x hx => ?_⟩
      · rw [List.length_map, hl]
        exact small1000 (by omega)
      · rw [List.map_append]
        exact k2.set
      · rcases List.mem_append.mp hx with hx | hx
        · exact hrow x hx
        · rw [List.mem_singleton] at hx
          subst hx
          exact ⟨z0, zp⟩
    · rintro H1 ⟨r, k1, hl, hrow⟩
      refine ⟨D, _, rfl, .inl ⟨SqL.of (k1.le _ _ upd_same), fun t ht => ?_⟩⟩
      have sG : Same G (upd G D (.lst (r.map V.int))) := same_new (k.free hD)
      refine q t r (upd (upd G D (.lst (r.map V.int))) t (.tup (r.map V.int))) _ (sG.trans (same_new (k1.free ht))) (k1.new ht) upd_same ?_ hrow
      rw [hl]
      omega
end

section
variable {P : Program} {w : World} {K : PySem.W.Frag} {mg : Str → Option Value} {base : Heap}
def spPower : Sp := fun vs H Q _ => ∃ b e : Int, vs = [.int b, .int e] ∧ 0 ≤ b ∧ b < 1000000 ∧ 0 ≤ e ∧ e < 1000000 ∧ Q (.int (b ^ e.toNat)) H
theorem ok_power (T : Tx K mg) : FnOk P w K mg base CX0 1 T.f_power T.d_power ["base", "exponent"] spPower := by
  refine T.F_power.ok sc_power (fun vs H Q E h => ?_) (fun cdv A outer s H vs Q E hr h => ?_)
  · obtain ⟨b, e, rfl, _⟩ := h
    rfl
  · obtain ⟨b, e, rfl, b0, b1, e0, e1, q⟩ := h
    refine ⟨_, (pss_cons (ps_set (i := 2) sc_power.nd rfl (Or.inl rfl) pe_int)
    (pss_cons (ps_for PassesOwn.never rfl (pi_range1 rfl T.z_range (pa_cons (pv 1) pa_nil)) (pg_name (i := 3) sc_power.nd rfl (Or.inl rfl))
    (pss_one (ps_set (i := 2) sc_power.nd rfl (Or.inl rfl) (pe_op op_mul (pv 2) (pv 0)))))
    (pss_one (ps_ret (pv 2))))), ?_⟩
    refine ⟨.int e, rfl, e, rfl, by omega, by omega, for_range (lo := 0) (n := e.toNat) (fun i σ H' => ∃ (v : Option V) (z : Int), σ = [some (.int b), some (.int e), some (.int z), v] ∧ z = b ^ i ∧ H' = H) ⟨none, 1, rfl, (Int.pow_zero b).symm, rfl⟩ ?_ ?_⟩
    · rintro i σ H' hi ⟨v, z, rfl, rfl, rfl⟩
      exact ⟨_, rfl, .int b, rfl, b ^ i, b, rfl, rfl, .inr ⟨by omega, by omega⟩, _, _, rfl, (Int.pow_succ b i).symm, rfl⟩
    · rintro σ H' ⟨v, z, rfl, rfl, rfl⟩
      exact ⟨_, rfl, q⟩
def spDigAt : Sp := fun vs H Q _ => ∃ b m x : Int, vs = [.int b, .int m, .int x] ∧ 0 < b ∧ b < 1000000 ∧ 0 ≤ m ∧ m ≤ 1000 ∧ ∀ t H', Same H H' → H t = none → H' t = some (.tup ((dg b m.toNat x).map V.int)) → Q (.ref t) H'
theorem ok_digits_at (T : Tx K mg) : FnOk P w K mg base CX0 1 T.f_digits_at T.d_digits_at ["base", "many", "number"] spDigAt := by
  refine T.F_digits_at.ok sc_digits_at (fun vs H Q E h => ?_) (fun cdv A outer s H vs Q E hr h => ?_)
  · obtain ⟨b, m, x, rfl, _⟩ := h
    rfl
  · obtain ⟨b, m, x, rfl, b0, b1, m0, m1, q⟩ := h
    refine ⟨_, (pss_cons (ps_set (i := 3) sc_digits_at.nd rfl (Or.inl rfl) (pe_lst pa_nil))
    (pss_cons (ps_set (i := 4) sc_digits_at.nd rfl (Or.inl rfl) (pv 2))
    (pss_cons (ps_for PassesOwn.never rfl (pi_range1 rfl T.z_range (pa_cons (pv 1) pa_nil)) (pg_name (i := 5) sc_digits_at.nd rfl (Or.inl rfl))
    (pss_cons (ps_expr (pe_bm PySem.F.plainAttrs_list PySem.F.slot_list_append PySem.F.type_list_append mt_append (pv 3) (pa_cons (pe_op op_mod (pv 4) (pv 0)) pa_nil)))
    (pss_one (ps_set (i := 4) sc_digits_at.nd rfl (Or.inl rfl) (pe_op op_fdiv (pv 4) (pv 0))))))
    (pss_cons (ps_expr (pe_bm0 PySem.F.plainAttrs_list PySem.F.slot_list_reverse PySem.F.type_list_reverse mt_reverse (pv 3)))
    (pss_one (ps_ret (pe_callTy call_tuple_of (by rfl) T.z_tuple (by decide +kernel) (pa_cons (pv 3) pa_nil)))))))), ?_⟩
    refine ⟨Nat.zero_le _, fun l hl => ?_⟩
    refine ⟨.int x, rfl, .int m, rfl, m, rfl, by omega, by omega, for_range (lo := 0) (n := m.toNat) (fun i σ H' => ∃ (v : Option V) (ds : List Int) (y : Int), σ = [some (.int b), some (.int m), some (.int x), some (.ref l), some (.int y), v] ∧ Same H H' ∧ H' l = some (.lst (ds.map V.int)) ∧ ds.length = i ∧ i ≤ m.toNat ∧ ds ++ lo b (m.toNat - i) y = lo b m.toNat x) ⟨none, [], x, rfl, same_new hl, upd_same, rfl, Nat.zero_le _, rfl⟩ ?_ ?_⟩
    · rintro i σ H' hi ⟨v, ds, y, rfl, sm, hL, hlen, hle, e⟩
      refine ⟨.ref l, rfl, .inl ⟨rfl, _, .inl (.inl hL)⟩, .int y, rfl, .int b, rfl, y, b, rfl, rfl, b0, l, _, _, rfl, rfl, hL, ?_, ?_⟩
      · rw [List.length_map, hlen]
        exact small1000 (by omega)
      · refine ⟨.int y, rfl, .int b, rfl, y, b, rfl, rfl, ⟨b0, by omega⟩, _, ds ++ [y % b], y / b, rfl, fun c o z => ?_, ?_, ?_, hi, ?_⟩
        · rw [upd_ne (ne_of_none z hl)]
          exact sm _ _ z
        · rw [upd_same, List.map_append]
          rfl
        · rw [List.length_append, hlen]
          rfl
        · rw [← e, List.append_assoc]
          congr 1
          rw [show m.toNat - i = (m.toNat - (i + 1)) + 1 by omega]
          rfl
    · rintro σ H' ⟨v, ds, y, rfl, sm, hL, hlen, hle, e⟩
      rw [Nat.sub_self] at e
      have e' : ds = lo b m.toNat x := by rw [← e]; simp [lo]
      subst e'
      refine ⟨.ref l, rfl, .inl ⟨rfl, _, .inl (.inl hL)⟩, l, _, rfl, rfl, hL, ?_⟩
      refine ⟨.ref l, rfl, l, _, rfl, .inl ⟨.inl (.inl upd_same), fun t ht => ?_⟩⟩
      have htl : t ≠ l := fun z => by rw [z, upd_same] at ht; cases ht
      have ht0 : H' t = none := by rw [upd_ne htl] at ht; exact ht
      refine q t _ (fun c o z => ?_) (sm.free ht0) ?_
      · rw [upd_ne (ne_of_none z (sm.free ht0)), upd_ne (ne_of_none z hl)]
        exact sm _ _ z
      · rw [upd_same, ← List.map_reverse]
        rfl
def spDigNum (K : PySem.W.Frag) : Sp := fun vs H Q _ => ∃ (b : Int) (a : Addr) (r : List Int), vs = [.int b, .ref a] ∧ SqT K H a (r.map V.int) ∧ 0 ≤ b ∧ b < 1000000 ∧ Q (.int (val b r)) H
theorem ok_digits_number (T : Tx K mg) : FnOk P w K mg base CX0 1 T.f_digits_number T.d_digits_number ["base", "digits"] (spDigNum K) := by
  refine T.F_digits_number.ok sc_digits_number (fun vs H Q E h => ?_) (fun cdv A outer s H vs Q E hr h => ?_)
  · obtain ⟨b, a, r, rfl, _⟩ := h
    rfl
  · obtain ⟨b, a, r, rfl, hS, b0, b1, q⟩ := h
    refine ⟨_, (pss_cons (ps_set (i := 2) sc_digits_number.nd rfl (Or.inl rfl) pe_int)
    (pss_cons (ps_for PassesOwn.never rfl (pi_tup (pv 1)) (pg_name (i := 3) sc_digits_number.nd rfl (Or.inl rfl))
    (pss_one (ps_set (i := 2) sc_digits_number.nd rfl (Or.inl rfl) (pe_op op_add (pe_op op_mul (pv 2) (pv 0)) (pv 3)))))
    (pss_one (ps_ret (pv 2))))), ?_⟩
    refine ⟨.ref a, rfl, a, rfl, ⟨_, hS⟩, for_tup (K := K) (a := a) (xs := r.map V.int) (fun i σ H' => ∃ (v : Option V) (z : Int), σ = [some (.int b), some (.ref a), some (.int z), v] ∧ z = val b (r.take i) ∧ H' = H) ⟨none, 0, rfl, rfl, rfl⟩ (fun i σ H' _ ⟨_, _, _, _, e⟩ => e ▸ hS) ?_ ?_⟩
    · rintro i y σ H' hi ⟨v, u, rfl, rfl, rfl⟩
      obtain ⟨z, rfl, hz⟩ := ints_at hi
      refine ⟨_, rfl, .int b, rfl, _, b, rfl, rfl, .inr ⟨by omega, by omega⟩, .int z, rfl, _, z, rfl, rfl, _, _, rfl, ?_, rfl⟩
      rw [List.take_add_one, hz]
      exact (val_snoc b (r.take i) z).symm
    · rintro σ H' ⟨v, u, rfl, rfl, rfl⟩
      refine ⟨_, rfl, ?_⟩
      rw [List.length_map, List.take_length]
      exact q
/-- row_at: TooGreat, or the row -/
def spRowAt (C X : Addr) : Sp := fun vs H Q E => ∃ (g : Addr) (p n x : Int), vs = [.ref g, .int x] ∧ Gd C H g p n ∧ 0 < p ∧ p < 1000000 ∧ 0 ≤ n ∧ n ≤ 1000 ∧
  (p ^ n.toNat ≤ x → E (.ref X) none H) ∧ (x < p ^ n.toNat → ∀ t H', Same H H' → H t = none → H' t = some (.tup ((dg p n.toNat x).map V.int)) → Q (.ref t) H')
theorem ok_row_at (T : Tx K mg) : FnOk P w K mg base (L2.CX P w) 2 T.f_row_at T.d_row_at ["ground", "number"] (spRowAt T.C_Ground T.C_TooGreat) := by
  have G_power := ok_power (P := P) (w := w) (base := base) T
  have G_digits_at := ok_digits_at (P := P) (w := w) (base := base) T
  have G_Ground_p := ok_p (P := P) (w := w) (base := base) T
  have G_Ground_n := ok_n (P := P) (w := w) (base := base) T
  refine T.F_row_at.okX sc_row_at (fun vs H Q E h => ?_) (fun cdv A outer s H vs Q E hr h => ?_)
  · obtain ⟨g, p, n, x, rfl, _⟩ := h
    rfl
  · obtain ⟨g, p, n, x, rfl, hg, p0, p1, n0, n1, hx, q⟩ := h
    obtain ⟨dx, hi⟩ := id hg
    refine ⟨_, (pss_cons (ps_if (pt_cmpR op_ge (pv 1) (pe_call G_power (hr.mono (by decide)) (by rfl) T.g_power T.F_power.kp T.b_power .nil pass0 (pa_cons (pe_meth0 (pv 0) T.cl_Ground T.m_Ground_p G_Ground_p (hr.mono (by decide)) T.b_Ground_p .nil pass0) (pa_cons (pe_meth0 (pv 0) T.cl_Ground T.m_Ground_n G_Ground_n (hr.mono (by decide)) T.b_Ground_n .nil pass0) pa_nil))) (nomark _)) (pss_one (ps_raise rfl (takes_of rfl rfl rfl rfl) (pmk_none PySem.F.excBase_ValueError T.x_TooGreat.ex T.x_TooGreat.g T.x_TooGreat.kp (raises_own T.x_TooGreat.bE T.x_TooGreat.tE) (by exact rfl)))) pss_nil)
    (pss_one (ps_ret (pe_call G_digits_at (hr.mono (by decide)) (by rfl) T.g_digits_at T.F_digits_at.kp T.b_digits_at .nil pass0 (pa_cons (pe_meth0 (pv 0) T.cl_Ground T.m_Ground_p G_Ground_p (hr.mono (by decide)) T.b_Ground_p .nil pass0) (pa_cons (pe_meth0 (pv 0) T.cl_Ground T.m_Ground_n G_Ground_n (hr.mono (by decide)) T.b_Ground_n .nil pass0) (pa_cons (pv 1) pa_nil))))))), ?_⟩
    refine ⟨.int x, rfl, .ref g, rfl, g, dx, _, rfl, hi, no_p _ _, g, p, n, rfl, hg, .ref g, rfl, g, dx, _, rfl, hi, no_n _ _, g, p, n, rfl, hg, p, n, rfl, by omega, p1, n0, by omega, ?_⟩
    refine ⟨x, p ^ n.toNat, rfl, rfl, _, rfl, ?_⟩
    refine ite2 (fun hb => ?_) (fun hb => ?_)
    · exact hx (of_decide_eq_true hb)
    · refine ⟨.ref g, rfl, g, dx, _, rfl, hi, no_p _ _, g, p, n, rfl, hg, .ref g, rfl, g, dx, _, rfl, hi, no_n _ _, g, p, n, rfl, hg, .int x, rfl, p, n, x, rfl, p0, p1, n0, n1, ?_⟩
      exact q (Int.not_le.mp fun z => hb (decide_eq_true z))
def spRowNum (K : PySem.W.Frag) (C : Addr) : Sp := fun vs H Q _ => ∃ (g a : Addr) (p n : Int) (r : List Int), vs = [.ref g, .ref a] ∧ Gd C H g p n ∧ SqT K H a (r.map V.int) ∧ 0 < p ∧ p < 1000000 ∧ Q (.int (val p r)) H
theorem ok_row_number (T : Tx K mg) : FnOk P w K mg base CX0 2 T.f_row_number T.d_row_number ["ground", "row"] (spRowNum K T.C_Ground) := by
  have G_digits_number := ok_digits_number (P := P) (w := w) (base := base) T
  have G_Ground_p := ok_p (P := P) (w := w) (base := base) T
  refine T.F_row_number.ok sc_row_number (fun vs H Q E h => ?_) (fun cdv A outer s H vs Q E hr h => ?_)
  · obtain ⟨g, a, p, n, r, rfl, _⟩ := h
    rfl
  · obtain ⟨g, a, p, n, r, rfl, hg, hS, p0, p1, q⟩ := h
    obtain ⟨dx, hi⟩ := id hg
    refine ⟨_, (pss_one (ps_ret (pe_call G_digits_number (hr.mono (by decide)) (by rfl) T.g_digits_number T.F_digits_number.kp T.b_digits_number .nil pass0 (pa_cons (pe_meth0 (pv 0) T.cl_Ground T.m_Ground_p G_Ground_p (hr.mono (by decide)) T.b_Ground_p .nil pass0) (pa_cons (pv 1) pa_nil))))), ?_⟩
    exact ⟨.ref g, rfl, g, dx, _, rfl, hi, no_p _ _, g, p, n, rfl, hg, .ref a, rfl, p, a, r, rfl, hS, by omega, p1, q⟩
/-- all rows -/
def spAllRows (K : PySem.W.Frag) (C : Addr) : Sp := fun vs H Q _ => ∃ (g : Addr) (p : Nat) (n : Int), vs = [.ref g] ∧ Gd C H g p n ∧ 0 < p ∧ p < 1000 ∧ 0 ≤ n ∧ n ≤ 1000 ∧ p ^ n.toNat ≤ 2000 ∧
  ∀ (l : Addr) (ts : List V) (H' : Hp), Same H H' → H l = none → H' l = some (.lst ts) → Rows K H' ts (rws p n.toNat) → Q (.ref l) H'
theorem ok_all_rows (T : Tx K mg) : FnOk P w K mg base CX0 2 T.f_all_rows T.d_all_rows ["ground"] (spAllRows K T.C_Ground) := by
  have G_power := ok_power (P := P) (w := w) (base := base) T
  have G_digits_at := ok_digits_at (P := P) (w := w) (base := base) T
  have G_Ground_p := ok_p (P := P) (w := w) (base := base) T
  have G_Ground_n := ok_n (P := P) (w := w) (base := base) T
  refine T.F_all_rows.ok sc_all_rows (fun vs H Q E h => ?_) (fun cdv A outer s H vs Q E hr h => ?_)
  · obtain ⟨g, p, n, rfl, _⟩ := h
    rfl
  · obtain ⟨g, p, n, rfl, hg, p0, p1, n0, n1, hz, q⟩ := h
    obtain ⟨dx, hi⟩ := id hg
    refine ⟨_, (pss_cons (ps_set (i := 1) sc_all_rows.nd rfl (Or.inl rfl) (pe_call G_power (hr.mono (by decide)) (by rfl) T.g_power T.F_power.kp T.b_power .nil pass0 (pa_cons (pe_meth0 (pv 0) T.cl_Ground T.m_Ground_p G_Ground_p (hr.mono (by decide)) T.b_Ground_p .nil pass0) (pa_cons (pe_meth0 (pv 0) T.cl_Ground T.m_Ground_n G_Ground_n (hr.mono (by decide)) T.b_Ground_n .nil pass0) pa_nil))))
    (pss_one (ps_ret (pe_lc (own := [("number", 2)]) (g := gName 2) rfl sc_all_rows.nd (pi_range1 rfl T.z_range (pa_cons (pv 1) pa_nil)) (blkOk_by (own := [("number", 2)]) (N := ["ground", "many", "number"]) (sc := defScope s_all_rows) (by decide +kernel)) (fun _ _ _ _ _ => (pg_name (i := 2) sc_all_rows.nd rfl (Or.inl rfl))) (fun _ _ _ _ _ => pts_nil) (fun _ _ _ _ _ => (pe_call G_digits_at (hr.mono (by decide)) (by rfl) T.g_digits_at T.F_digits_at.kp T.b_digits_at .nil pass0 (pa_cons (pe_meth0 (pv 0) T.cl_Ground T.m_Ground_p G_Ground_p (hr.mono (by decide)) T.b_Ground_p .nil pass0) (pa_cons (pe_meth0 (pv 0) T.cl_Ground T.m_Ground_n G_Ground_n (hr.mono (by decide)) T.b_Ground_n .nil pass0) (pa_cons (pv 2) pa_nil))))))))), ?_⟩
    refine ⟨.ref g, rfl, g, dx, _, rfl, hi, no_p _ _, g, p, n, rfl, hg, .ref g, rfl, g, dx, _, rfl, hi, no_n _ _, g, p, n, rfl, hg, p, n, rfl, by omega, by omega, n0, by omega, ?_⟩
    have ep : (p : Int) ^ n.toNat = ((p ^ n.toNat : Nat) : Int) := by simp
    refine ⟨.int (p ^ n.toNat), rfl, _, rfl, by rw [ep]; omega, by rw [ep]; omega, fun D hD => ?_⟩
    have et : ((p : Int) ^ n.toNat).toNat = p ^ n.toNat := by rw [ep]; omega
    refine lc_range (lo := 0) (n := ((p : Int) ^ n.toNat).toNat) (fun i H' => ∃ ts : List V, (∀ b o, H b = some o → H' b = some o) ∧ H' D = some (.lst ts) ∧ Rows K H' ts ((rws p n.toNat).take i)) ⟨[], same_new hD, upd_same, .nil⟩ ?_ ?_
    · rintro i H1 hi' ⟨ts, sm, hL, hR⟩
      rw [et] at hi'
      have hg1 : Gd T.C_Ground H1 g p n := hg.mono sm
      obtain ⟨dx1, hi1⟩ := id hg1
      refine ⟨rfl, tyes ?_⟩
      refine ⟨.ref g, rfl, g, dx1, _, rfl, hi1, no_p _ _, g, p, n, rfl, hg1, .ref g, rfl, g, dx1, _, rfl, hi1, no_n _ _, g, p, n, rfl, hg1, .int (0 + i), rfl, p, n, 0 + i, rfl, by omega, by omega, n0, n1, fun t H2 sm2 t0 ht => ?_⟩
      have hlen : ts.length = i := by
        rw [hR.len, List.length_take, rws_len]
        omega
      have tD : t ≠ D := fun z => by rw [z, hL] at t0; cases t0
      refine ⟨ts, sm2 _ _ hL, by rw [hlen]; exact small1000' (by omega), ts ++ [.ref t], fun b o e => ?_, upd_same, ?_⟩
      · rw [upd_ne (ne_of_none e hD)]
        exact sm2 _ _ (sm _ _ e)
      · have gi : (rws p n.toNat)[i]? = some (dg (p : Int) n.toNat (i : Int)) := by
          unfold rws
          rw [List.getElem?_map, List.getElem?_range hi']
          rfl
        rw [List.take_add_one, gi]
        have sR : Rows K (upd H2 D (.lst (ts ++ [.ref t]))) ts ((rws p n.toNat).take i) := rows_off (sm2 _ _ hL) (hR.mono sm2)
        refine sR.append (.one (.inl (.inl ?_)))
        rw [upd_ne tD, ht, Int.zero_add]
    · rintro H1 ⟨ts, sm, hL, hR⟩
      rw [et, List.take_of_length_le (Nat.le_of_eq (rws_len p n.toNat))] at hR
      exact q D ts H1 sm hD hL hR
end

section
variable {P : Program} {w : World} {K : PySem.W.Frag} {mg : Str → Option Value} {base : Heap}
def ext1 (p : Nat) (s : List Int) : List (List Int) := (List.range p).map fun k : Nat => s ++ [(k : Int)]
/-- the law's own listing -/
def spDigits (K : PySem.W.Frag) : Sp := fun vs H Q _ => ∃ (p : Nat) (n : Int), vs = [.int p, .int n] ∧ 0 < p ∧ p < 1000 ∧ 0 ≤ n ∧ n ≤ 1000 ∧ p ^ n.toNat ≤ 2000 ∧
  ∀ (l : Addr) (ts : List V) (H' : Hp), Same H H' → H' l = some (.lst ts) → Rows K H' ts (rws p n.toNat) → Q (.ref l) H'
theorem ok_digits (T : Tx K mg) : FnOk P w K mg base CX0 1 T.f_l_digits T.d_l_digits ["_law_p", "_law_many"] (spDigits K) := by
  refine T.F_l_digits.ok sc_l_digits (fun vs H Q E h => ?_) (fun cdv A outer s H vs Q E hr h => ?_)
  · obtain ⟨p, n, rfl, _⟩ := h
    rfl
  · obtain ⟨p, n, rfl, p0, p1, n0, n1, hz, q⟩ := h
    refine ⟨_, (pss_cons (ps_set (i := 2) sc_l_digits.nd rfl (Or.inl rfl) (pe_lst (pa_cons (pe_tup pa_nil) pa_nil)))
    (pss_cons (ps_for PassesOwn.never rfl (pi_range1 rfl T.z_range (pa_cons (pv 1) pa_nil)) (pg_name (i := 3) sc_l_digits.nd rfl (Or.inl rfl))
    (pss_cons (ps_set (i := 4) sc_l_digits.nd rfl (Or.inl rfl) (pe_lst pa_nil))
    (pss_cons (ps_for PassesOwn.never rfl (pi_list (pv 2)) (pg_name (i := 5) sc_l_digits.nd rfl (Or.inr rfl))
    (pss_one (ps_set (i := 4) sc_l_digits.nd rfl (Or.inl rfl) (pe_op op_cat (pv 4) (pe_lc (own := [("_law_k", 6)]) (g := gName 6) rfl sc_l_digits.nd (pi_range1 rfl T.z_range (pa_cons (pv 0) pa_nil)) (blkOk_by (own := [("_law_k", 6)]) (N := ["_law_p", "_law_many", "_law_found", "_law_lap", "_law_later", "_law_some", "_law_k"]) (sc := defScope s_l_digits) (by decide +kernel)) (fun _ _ _ _ _ => (pg_name (i := 6) sc_l_digits.nd rfl (Or.inl rfl))) (fun _ _ _ _ _ => pts_nil) (fun _ _ _ _ _ => (pe_op (show OpR _ (binaryOp .Add) (rCatA K) from op_catA) (pv 5) (pe_tup (pa_cons (pv 6) pa_nil)))))))))
    (pss_one (ps_set (i := 2) sc_l_digits.nd rfl (Or.inl rfl) (pv 4))))))
    (pss_one (ps_ret (pv 2))))), ?_⟩
    -- [()]
    refine ⟨Nat.zero_le _, fun e he => ⟨(by show 1 ≤ sizeLine; decide), fun l hl => ?_⟩⟩
    have he' : Same H (upd H e (.tup [])) := same_new he
    refine ⟨.int n, rfl, n, rfl, by omega, by omega, for_range (lo := 0) (n := n.toNat) (fun i σ H' => ∃ (a b c d : Option V) (l : Addr) (ts : List V), σ = [some (.int p), some (.int n), some (.ref l), a, b, c, d] ∧ Same H H' ∧ H' l = some (.lst ts) ∧ Rows K H' ts (rws p i)) ⟨none, none, none, none, l, [.ref e], rfl, he'.trans (same_new hl), upd_same, ?_⟩ ?_ ?_⟩
    · have : rws p 0 = [[]] := rfl
      rw [this]
      refine .one (.inl (.inl ?_))
      rw [upd_ne (fun z => by rw [← z, upd_same] at hl; cases hl), upd_same]
      rfl
    · rintro i σ H1 hi ⟨a, b, c, d, l, ts, rfl, sm, hL, hR⟩
      have hpow : p ^ i * p ≤ 2000 := by
        have h1 : p ^ (i + 1) ≤ p ^ n.toNat := Nat.pow_le_pow_right p0 hi
        rw [Nat.pow_succ] at h1
        omega
      -- later = []
      refine ⟨Nat.zero_le _, fun m hm => ?_⟩
      have hml : m ≠ l := fun z => by rw [z, hL] at hm; cases hm
      have sm1 : Same H1 (upd H1 m (.lst [])) := same_new hm
      refine ⟨.ref l, rfl, l, rfl, ⟨ts, .inl (.inl (sm1 _ _ hL))⟩, for_list (K := K) (a := l) (xs := ts) (fun j σ H' => ∃ (b c d : Option V) (m : Addr) (us : List V), σ = [some (.int p), some (.int n), some (.ref l), b, some (.ref m), c, d] ∧ Same H1 H' ∧ H' m = some (.lst us) ∧ Rows K H' us (((rws p i).take j).flatMap (ext1 p))) ⟨_, c, d, m, [], rfl, sm1, upd_same, .nil⟩ (fun j σ H' _ ⟨_, _, _, _, _, _, s, _⟩ => .inl (.inl (s _ _ hL))) ?_ ?_⟩
      · rintro j y σ H2 hj ⟨b, c, d, m, us, rfl, s2, hM, hU⟩
        have hlenT := hR.len
        rw [rws_len] at hlenT
        have hjlt := at_lt hj
        obtain ⟨t, r, rfl, hr', hT⟩ := hR.get hj
        have hulen : us.length = j * p := by
          rw [hU.len]
          have : ∀ (ss : List (List Int)), (ss.flatMap (ext1 p)).length = ss.length * p := fun ss => by
            induction ss with
            | nil => simp
            | cons x xs ih => simp [List.flatMap_cons, ih, ext1, Nat.succ_mul, Nat.add_comm]
          rw [this, List.length_take, rws_len]
          congr 1
          omega
        have hjp : j * p + p ≤ 2000 := by
          have h1 : (j + 1) * p ≤ p ^ i * p := Nat.mul_le_mul_right p (by omega)
          rw [Nat.succ_mul] at h1
          omega
        -- later + [some + (k,) for k in range(p)]
        refine ⟨.ref m, rfl, .int p, rfl, p, rfl, by omega, by omega, fun D hD => ?_⟩
        have hDm : D ≠ m := fun z => by rw [z, hM] at hD; cases hD
        refine lc_range (lo := 0) (n := (p : Int).toNat) (fun k H' => ∃ vs : List V, (∀ b o, H2 b = some o → H' b = some o) ∧ H' D = some (.lst vs) ∧ Rows K H' vs ((ext1 p r).take k)) ⟨[], same_new hD, upd_same, .nil⟩ ?_ ?_
        · rintro k H3 hk ⟨vs, s3, hV, hRv⟩
          have hk' : k < p := by simpa using hk
          refine ⟨rfl, tyes ?_⟩
          have hT3 : SqT K H3 t (r.map V.int) := sameT s3 (sameT s2 hT)
          refine ⟨.ref t, rfl, .int (0 + (k : Int)), rfl, (by show 1 ≤ sizeLine; decide), fun u hu' => ?_⟩
          have hTu : SqT K (upd H3 u (.tup [.int (0 + (k : Int))])) t (r.map V.int) := sameT (same_new hu') hT3
          have hlenV : vs.length = k := by
            rw [hRv.len, List.length_take]
            simp [ext1]
            omega
          have hrl : r.length = i := by
            have := List.mem_of_getElem? hr'
            simp [rws] at this
            obtain ⟨x, _, rfl⟩ := this
            exact dg_len _ _ _
          have gk : (ext1 p r)[k]? = some (r ++ [(k : Int)]) := by
            unfold ext1
            rw [List.getElem?_map, List.getElem?_range hk']
            rfl
          have fin : ∀ (z : Addr) (H4 : Hp), Same H3 H4 → SqT K H4 z ((r ++ [(k : Int)]).map V.int) → ∃ acc, H4 D = some (.lst acc) ∧ acc.length < sizeLine ∧ ∃ vs : List V, (∀ b o, H2 b = some o → (upd H4 D (.lst (acc ++ [.ref z]))) b = some o) ∧ (upd H4 D (.lst (acc ++ [.ref z]))) D = some (.lst vs) ∧ Rows K (upd H4 D (.lst (acc ++ [.ref z]))) vs ((ext1 p r).take (k + 1)) := fun z H4 s4 hz4 => by
            refine ⟨vs, s4 _ _ hV, by rw [hlenV]; exact small1000' (by omega), vs ++ [.ref z], fun b o e => ?_, upd_same, ?_⟩
            · rw [upd_ne (ne_of_none e hD)]
              exact s4 _ _ (s3 _ _ e)
            · rw [List.take_add_one, gk]
              exact (rows_off (s4 _ _ hV) (hRv.mono s4)).append (.one (sqt_off (s4 _ _ hV) hz4))
          refine ⟨t, u, _, _, rfl, rfl, hTu, .inl (.inl upd_same), ?_, fun hn => ?_, fun _ hn => ?_, fun _ _ z hz' => ?_⟩
          · rw [List.length_map, hrl]
            exact Nat.le_of_lt (small1000' (by show i + 1 ≤ 10000; omega))
          · have hr0 : r = [] := List.map_eq_nil_iff.mp hn
            subst hr0
            refine fin u _ (same_new hu') (.inl (.inl ?_))
            rw [upd_same, Int.zero_add]
            rfl
          · cases hn
          · refine fin z _ ((same_new hu').trans (same_new hz')) (.inl (.inl ?_))
            rw [upd_same, Int.zero_add, List.map_append]
            rfl
        · rintro H3 ⟨vs, s3, hV, hRv⟩
          have hp' : (p : Int).toNat = p := by omega
          rw [hp', List.take_of_length_le (by simp [ext1])] at hRv
          have hvl : vs.length = p := by rw [hRv.len]; simp [ext1]
          refine ⟨m, D, us, vs, rfl, rfl, s3 _ _ hM, hV, by rw [hulen, hvl]; exact Nat.le_of_lt (small1000' (by omega)), fun z hz' => ?_⟩
          refine ⟨_, _, _, z, _, rfl, (s2.trans s3).trans (same_new hz'), upd_same, ?_⟩
          rw [List.take_add_one, hr', List.flatMap_append]
          refine ((hU.mono s3).append ?_).mono (same_new hz')
          simpa using hRv
      · rintro σ H2 ⟨b, c, d, m, us, rfl, s2, hM, hU⟩
        rw [List.take_of_length_le (Nat.le_of_eq hR.len.symm)] at hU
        refine ⟨_, rfl, b, _, c, d, m, us, rfl, sm.trans s2, hM, ?_⟩
        rw [rws_succ p i p0]
        exact hU
    · rintro σ H1 ⟨a, b, c, d, l, ts, rfl, sm, hL, hR⟩
      exact ⟨_, rfl, q l ts H1 sm hL hR⟩
/-- is the number refused -/
def spGreat (C : Addr) : Sp := fun vs H Q _ => ∃ (a g : Addr) (p n x : Int), vs = [.ref a, .int x] ∧ Gr C H a g p n ∧ 0 ≤ n ∧ n ≤ 1000 ∧ ∀ H', Same H H' → Q (.bl (decide (p ^ n.toNat ≤ x))) H'
theorem ok_great (T : Tx K mg) : FnOk P w K mg base CX0 3 T.f_l_is_great T.d_l_is_great ["_law_ground", "_law_number"] (spGreat T.C_Ground) := by
  have G_row_at := ok_row_at (P := P) (w := w) (base := base) T
  refine T.F_l_is_great.ok sc_l_is_great (fun vs H Q E h => ?_) (fun cdv A outer s H vs Q E hr h => ?_)
  · obtain ⟨a, g, p, n, x, rfl, _⟩ := h
    rfl
  · obtain ⟨a, g, p, n, x, rfl, gr, n0, n1, q⟩ := h
    have hu := hu_of hr
    refine ⟨_, (pss_cons (ps_try_only (tb := fun W => tDrop (tCallS (spRowAt T.C_Ground T.C_TooGreat) (WE W) (tCons (tDGet (tVar 0) (tC (.str "made"))) (tCons (tVar 1) tNil)))) (ts := fun _ _ _ => tRet (tC (.bl true))) (Wout := fun _ _ _ _ => False) rfl rfl ⟨rfl, by decide, .inl T.x_TooGreat.g⟩ takes0 (fun W pn xe tk _ => pss_one (ps_expr (pe_callS G_row_at (hr.mono (by decide)) (by rfl) T.g_row_at T.F_row_at.kp T.b_row_at (fun σ => passAt tk σ) (pa_cons (pe_dget hu (pv 0) pe_str (fun _ _ => rfl)) (pa_cons (pv 1) pa_nil))))) (fun a oe cls d pn _ _ => pss_one (ps_ret pe_bl)))
    (pss_one (ps_ret pe_bl))), ?_⟩
    have ip := gr.ip
    refine ⟨.ref a, rfl, a, _, rfl, gr_made gr.dk, .int x, rfl, g, p, n, x, rfl, gr.gd, (by have := ip.lo; omega), (by have := ip.hi; omega), n0, n1, fun hx => ?_, fun hx t H' sm t0 ht => ?_⟩
    · refine ⟨true, T.x_TooGreat.me, fun _ b hb => ?_, fun z => nomatch z⟩
      have := q H (Same.refl H)
      rw [decide_eq_true hx] at this
      exact this
    · have := q H' sm
      rw [decide_eq_false (Int.not_le.mpr hx)] at this
      exact this
end

section
variable {P : Program} {w : World} {K : PySem.W.Frag} {mg : Str → Option Value} {base : Heap}
/-- law's: a list of at most 63 ints is handed in, True comes out -/
def spLaw (K : PySem.W.Frag) : Sp := fun vs H Q _ => ∃ (a : Addr) (ns : List Int), vs = [.ref a] ∧ SqL K H a (ns.map V.int) ∧ ns.length ≤ 63 ∧ ∀ H', Q (.bl true) H'
theorem prm2 : Prm 2 := (show IsP 2 from .inl rfl).prm
theorem ok_law (T : Tx K mg) : FnOk P w K mg base CX0 7 T.f_law T.d_law ["_law_script"] (spLaw K) := by
  have G_l_source := ok_source (P := P) (w := w) (base := base) T
  have G_l_wide := ok_wide (P := P) (w := w) (base := base) T
  have G_l_row := ok_row (P := P) (w := w) (base := base) T
  have G_row_number := ok_row_number (P := P) (w := w) (base := base) T
  have G_row_at := ok_row_at (P := P) (w := w) (base := base) T
  have G_l_is_great := ok_great (P := P) (w := w) (base := base) T
  have G_all_rows := ok_all_rows (P := P) (w := w) (base := base) T
  have G_l_digits := ok_digits (P := P) (w := w) (base := base) T
  have G_Ground_init := ok_init (P := P) (w := w) (base := base) T
  refine T.F_law.ok sc_law (fun vs H Q E h => ?_) (fun cdv A outer s H vs Q E hr h => ?_)
  · obtain ⟨a, ns, rfl, _⟩ := h
    rfl
  · obtain ⟨a, ns, rfl, hS, hlen, q⟩ := h
    have hu := hu_of hr
    refine ⟨_, (pss_cons (ps_set (i := 1) sc_law.nd rfl (Or.inl rfl) (pe_call G_l_source (hr.mono (by decide)) (by rfl) T.g_l_source T.F_l_source.kp T.b_l_source .nil pass0 (pa_cons (pv 0) pa_nil)))
    (pss_cons (ps_for PassesOwn.never rfl (pi_range1 rfl T.z_range (pa_cons pe_int pa_nil)) (pg_name (i := 2) sc_law.nd rfl (Or.inl rfl))
    (pss_cons (ps_asg (pe_tup (pa_cons (pe_call G_l_wide (hr.mono (by decide)) (by rfl) T.g_l_wide T.F_l_wide.kp T.b_l_wide .nil pass0 (pa_cons (pv 1) (pa_cons pe_int (pa_cons pe_int pa_nil)))) (pa_cons pe_int pa_nil))) (pg_tup rfl (pgs_cons (pg_name (i := 3) sc_law.nd rfl (Or.inr rfl)) (pgs_cons (pg_name (i := 4) sc_law.nd rfl (Or.inr rfl)) pgs_nil))))
    (pss_cons (ps_par (i := 5) (j := 6) (by rfl) sc_law.nd rfl rfl (by decide) rfl rfl (pa_cons (pe_call G_l_row (hr.mono (by decide)) (by rfl) T.g_l_row T.F_l_row.kp T.b_l_row .nil pass0 (pa_cons (pv 1) (pa_cons (pv 3) pa_nil))) (pa_cons pe_int pa_nil)) (by rfl))
    (pss_cons (ps_for PassesOwn.never rfl (pi_tup (pv 5)) (pg_name (i := 7) sc_law.nd rfl (Or.inl rfl))
    (pss_one (ps_asg (pe_tup (pa_cons (pe_op op_add (pe_op op_mul (pv 6) (pe_dget hu (pv 3) pe_str (fun _ _ => rfl))) (pv 7)) (pa_cons (pe_op op_mul (pv 4) (pe_dget hu (pv 3) pe_str (fun _ _ => rfl))) pa_nil))) (pg_tup rfl (pgs_cons (pg_name (i := 6) sc_law.nd rfl (Or.inl rfl)) (pgs_cons (pg_name (i := 4) sc_law.nd rfl (Or.inr rfl)) pgs_nil))))))
    (pss_cons (ps_if (PW.pt (pw_or (pt_cmpR op_ne (pe_call G_row_number (hr.mono (by decide)) (by rfl) T.g_row_number T.F_row_number.kp T.b_row_number .nil pass0 (pa_cons (pe_dget hu (pv 3) pe_str (fun _ _ => rfl)) (pa_cons (pv 5) pa_nil))) (pv 6) (nomark _)) (pw_or1 (pt_cmpR (op_neD hr.units) (pe_call G_row_at (hr.mono (by decide)) (by rfl) T.g_row_at T.F_row_at.kp T.b_row_at .nil passL (pa_cons (pe_dget hu (pv 3) pe_str (fun _ _ => rfl)) (pa_cons (pv 6) pa_nil))) (pv 5) (nomark _))))) (pss_one (ps_ret pe_bl)) pss_nil)
    (pss_cons (ps_if (PW.pt (pw_or (pt_cmpR (op_neD hr.units) (pe_call G_row_at (hr.mono (by decide)) (by rfl) T.g_row_at T.F_row_at.kp T.b_row_at .nil passL (pa_cons (pe_dget hu (pv 3) pe_str (fun _ _ => rfl)) (pa_cons (pe_op op_sub (pv 4) pe_int) pa_nil))) (pe_op op_rep1 (pe_tup (pa_cons (pe_op op_sub (pe_dget hu (pv 3) pe_str (fun _ _ => rfl)) pe_int) pa_nil)) (pe_dget hu (pv 3) pe_str (fun _ _ => rfl))) (nomark _)) (pw_or1 (pt_val (pe_call G_l_is_great (hr.mono (by decide)) (by rfl) T.g_l_is_great T.F_l_is_great.kp T.b_l_is_great .nil pass0 (pa_cons (pv 3) (pa_cons (pe_op op_sub (pv 4) pe_int) pa_nil))))))) (pss_one (ps_ret pe_bl)) pss_nil)
    (pss_cons (ps_if (pt_cmpR (op_neD hr.units) (pe_lc (own := [("_law_more", 8)]) (g := gName 8) rfl sc_law.nd (pi_tup (pe_tup (pa_cons pe_int (pa_cons pe_int (pa_cons (pe_op op_pow pe_int pe_int) pa_nil))))) (blkOk_by (own := [("_law_more", 8)]) (N := ["_law_script", "_law_source_here", "_law_lap", "_law_ground", "_law_many", "_law_row_here", "_law_due", "_law_entry", "_law_more", "_law_told"]) (sc := defScope s_law) (by decide +kernel)) (fun _ _ _ _ _ => (pg_name (i := 8) sc_law.nd rfl (Or.inl rfl))) (fun _ _ _ _ _ => pts_nil) (fun _ _ _ _ _ => (pe_call G_l_is_great (hr.mono (by decide)) (by rfl) T.g_l_is_great T.F_l_is_great.kp T.b_l_is_great .nil pass0 (pa_cons (pv 3) (pa_cons (pe_op op_add (pv 4) (pv 8)) pa_nil))))) (pe_op op_rep (pe_lst (pa_cons pe_bl pa_nil)) pe_int) (nomark _)) (pss_one (ps_ret pe_bl)) pss_nil)
    (pss_one (ps_if (pt_cmpR op_le (pv 4) pe_int (nomark _)) (pss_cons (ps_set (i := 9) sc_law.nd rfl (Or.inl rfl) (pe_call G_all_rows (hr.mono (by decide)) (by rfl) T.g_all_rows T.F_all_rows.kp T.b_all_rows .nil pass0 (pa_cons (pe_dget hu (pv 3) pe_str (fun _ _ => rfl)) pa_nil)))
    (pss_cons (ps_if (pt_cmpR (op_neD hr.units) (pv 9) (pe_call G_l_digits (hr.mono (by decide)) (by rfl) T.g_l_digits T.F_l_digits.kp T.b_l_digits .nil pass0 (pa_cons (pe_dget hu (pv 3) pe_str (fun _ _ => rfl)) (pa_cons (pe_dget hu (pv 3) pe_str (fun _ _ => rfl)) pa_nil))) (nomark _)) (pss_one (ps_ret pe_bl)) pss_nil)
    (pss_cons (ps_expr (pe_bm PySem.F.plainAttrs_list PySem.F.slot_list_append PySem.F.type_list_append mt_append (pv 9) (pa_cons pe_non pa_nil)))
    (pss_one (ps_if (pt_cmpR op_ne (pe_callB call_len_seq (by rfl) T.z_len PySem.boot_len (pa_cons (pe_call G_all_rows (hr.mono (by decide)) (by rfl) T.g_all_rows T.F_all_rows.kp T.b_all_rows .nil pass0 (pa_cons (pe_dget hu (pv 3) pe_str (fun _ _ => rfl)) pa_nil)) pa_nil)) (pv 4) (nomark _)) (pss_one (ps_ret pe_bl)) pss_nil))))) pss_nil)))))))))
    (pss_one (ps_ret (pe_cmpR (op_eqD hr.units) (pe_call G_row_at (hr.mono (by decide)) (by rfl) T.g_row_at T.F_row_at.kp T.b_row_at .nil passL (pa_cons (pe_make T.M_Ground G_Ground_init (hr.mono (by decide)) rfl T.g_Ground T.b_Ground_init .nil pass0 (pa_cons pe_int (pa_cons pe_int pa_nil))) (pa_cons pe_int pa_nil))) (pe_tup (pa_cons pe_int (pa_cons pe_int (pa_cons pe_int (pa_cons pe_int pa_nil))))) (nomark _)))))), ?_⟩
    refine ⟨.ref a, rfl, a, ns, rfl, hS, hlen, fun d c H1 k1 => ?_⟩
    refine ⟨4, rfl, by decide, by decide, for_range (lo := 0) (n := 4) (fun i σ H' => ∃ v2 v3 v4 v5 v6 v7 v8 v9 : Option V, σ = [some (.ref a), some (.ref d), v2, v3, v4, v5, v6, v7, v8, v9] ∧ Kn H H' d c) ⟨_, _, _, _, _, _, _, _, rfl, k1⟩ ?_ ?_⟩
    · rintro i σ H2 hi ⟨v2, v3, v4, v5, v6, v7, v8, v9, rfl, k2⟩
      -- ground, many = _law_wide(source, 0, 6), 1
      refine ⟨.ref d, rfl, H, d, c, 0, 6, rfl, k2, by decide, by decide, by decide, fun aG g p n G1 H3 s1 k3 gr n0 n6 => ?_⟩
      refine ⟨(by show 2 ≤ sizeLine; decide), fun tt htt => ?_⟩
      refine ⟨tt, [.ref aG, .int 1], rfl, .inl (.inl upd_same), rfl, .ref aG, [.int 1], rfl, .int 1, [], rfl, rfl, ?_⟩
      have k4 : Kn G1 (upd H3 tt (.tup [.ref aG, .int 1])) d c := k3.mono (same_new htt)
      -- row, due = _law_row(source, ground), 0
      refine ⟨.ref d, rfl, .ref aG, rfl, G1, d, c, aG, g, p, n, rfl, k4, gr, n0, by omega, fun t r G2 H5 s2 k5 ht hrl hrow => ⟨_, _, rfl, ?_⟩⟩
      have gr2 := gr.mono s2
      have p2 := gr.ip.lo
      have p13 := gr.ip.hi
      obtain ⟨pn, rfl⟩ : ∃ pn : Nat, p = (pn : Int) := ⟨p.toNat, by omega⟩
      obtain ⟨nn, rfl⟩ : ∃ nn : Nat, n = (nn : Int) := ⟨n.toNat, by omega⟩
      have hrl' : r.length = nn := by omega
      have hT : SqT K G2 t (r.map V.int) := .inl (.inl ht)
      -- for entry in row
      refine ⟨.ref t, rfl, t, rfl, ⟨_, sameT k5.le hT⟩, for_tup (K := K) (a := t) (xs := r.map V.int) (fun j σ H' => ∃ (v7 : Option V) (D M : Int), σ = [some (.ref a), some (.ref d), _, some (.ref aG), some (.int M), some (.ref t), some (.int D), v7, v8, v9] ∧ D = val pn (r.take j) ∧ M = (pn : Int) ^ j ∧ Kn G2 H' d c) ⟨_, 0, 1, rfl, rfl, (Int.pow_zero _).symm, k5⟩ (fun j σ H' _ ⟨_, _, _, _, _, _, k⟩ => sameT k.le hT) ?_ ?_⟩
      · rintro j y σ H6 hj ⟨w7, D, M, rfl, rfl, rfl, k6⟩
        obtain ⟨z, rfl, hz⟩ := ints_at hj
        have gk := gr2.mono k6.le
        refine ⟨_, rfl, .ref aG, rfl, aG, _, rfl, gr_p gk.dk, _, pn, rfl, rfl, .inr ⟨by omega, by omega⟩, .int z, rfl, _, z, rfl, rfl, _, rfl, .ref aG, rfl, aG, _, rfl, gr_p gk.dk, _, pn, rfl, rfl, .inr ⟨by omega, by omega⟩, (by show 2 ≤ sizeLine; decide), fun u hu6 => ?_⟩
        refine ⟨u, _, rfl, .inl (.inl upd_same), rfl, _, _, rfl, _, [], rfl, rfl, ?_⟩
        refine ⟨_, _, _, rfl, ?_, (Int.pow_succ _ _).symm, k6.mono (same_new hu6)⟩
        rw [List.take_add_one, hz]
        exact (val_snoc _ _ _).symm
      · rintro σ H6 ⟨w7, D, M, rfl, rfl, rfl, k6⟩
        rw [List.length_map, List.take_length, hrl']
        have gk := gr2.mono k6.le
        have bnd := val_lt pn (by omega) nn r hrl' hrow
        have hdv := dg_val pn (by omega) nn r hrl' hrow
        have hp0 : (0 : Int) < (pn : Int) ^ nn := Int.pow_pos (by omega)
        have tn : (nn : Int).toNat = nn := by omega
        -- the number of the row, the row of the number
        refine ⟨.ref aG, rfl, aG, _, rfl, gr_made gk.dk, .ref t, rfl, g, t, pn, nn, r, rfl, gk.gd, sameT k6.le hT, by omega, by omega, _, rfl, rfl, _, rfl, ne_no ?_⟩
        refine ⟨.ref aG, rfl, aG, _, rfl, gr_made gk.dk, _, rfl, g, pn, nn, val pn r, rfl, gk.gd, by omega, by omega, by omega, by omega, fun hx => ?_, fun hx t7 H7 s7 t70 ht7 => ?_⟩
        · rw [tn] at hx
          omega
        rw [tn, hdv] at ht7
        refine ⟨.ref t, rfl, dR r, dR r, dp_row (.inl (.inl ht7)), dp_row (sameT (k6.le.trans s7) hT), shp_row r, shp_row r, _, rfl, neD_no (shp_row r) ?_⟩
        have k7 := k6.mono s7
        have gk7 := gr2.mono k7.le
        -- the last row
        refine ⟨.ref aG, rfl, aG, _, rfl, gr_made gk7.dk, _, rfl, _, 1, rfl, rfl, g, pn, nn, (pn : Int) ^ nn - 1, rfl, gk7.gd, by omega, by omega, by omega, by omega, fun hx => ?_, fun hx t8 H8 s8 t80 ht8 => ?_⟩
        · rw [tn] at hx
          omega
        rw [tn, dg_full pn (by omega)] at ht8
        have k8 := k7.mono s8
        have gk8 := gr2.mono k8.le
        refine ⟨.ref aG, rfl, aG, _, rfl, gr_p gk8.dk, pn, 1, rfl, rfl, (by show 1 ≤ sizeLine; decide), fun u8 hu8 => ?_⟩
        have su8 : Same H8 (upd H8 u8 (.tup [.int ((pn : Int) - 1)])) := same_new hu8
        refine ⟨.ref aG, rfl, aG, _, rfl, gr_n (su8 _ _ gk8.dk), u8, nn, .int ((pn : Int) - 1), rfl, rfl, .inl (.inl upd_same), by omega, by omega, fun t9 H9 s9 ht9 => ?_⟩
        rw [tn] at ht9
        have er : (List.replicate nn (V.int ((pn : Int) - 1))) = (List.replicate nn ((pn : Int) - 1)).map V.int := by rw [List.map_replicate]
        rw [er] at ht9
        refine ⟨dR (List.replicate nn ((pn : Int) - 1)), dR (List.replicate nn ((pn : Int) - 1)), dp_row (.inl (.inl (s9 _ _ (su8 _ _ ht8)))), dp_row ht9, shp_row _, shp_row _, _, rfl, neD_no (shp_row _) ?_⟩
        have k9 := (k8.mono su8).mono s9
        have gk9 := gr2.mono k9.le
        -- is the last number refused
        refine ⟨.ref aG, rfl, _, rfl, _, 1, rfl, rfl, aG, g, pn, nn, (pn : Int) ^ nn - 1, rfl, gk9, by omega, by omega, fun H10 s10 => ⟨_, rfl, ?_⟩⟩
        rw [tn, decide_eq_false (by omega : ¬ (pn : Int) ^ nn ≤ (pn : Int) ^ nn - 1)]
        refine iteF ?_
        have k10 := k9.mono s10
        -- numbers beyond are refused
        refine ⟨10, 30, rfl, rfl, ⟨by decide, by decide, by decide⟩, (by show 3 ≤ sizeLine; decide), fun u hu10 => ?_⟩
        have su : Same H10 (upd H10 u (.tup [.int 0, .int 1, .int (10 ^ (30 : Int).toNat)])) := same_new hu10
        refine ⟨u, rfl, ⟨_, .inl (.inl upd_same)⟩, fun D hD => ?_⟩
        have sD : Same (upd H10 u (.tup [.int 0, .int 1, .int (10 ^ (30 : Int).toNat)])) (upd (upd H10 u (.tup [.int 0, .int 1, .int (10 ^ (30 : Int).toNat)])) D (.lst [])) := same_new hD
        have k11 := (k10.mono su)
        refine lc_tup (K := K) (a := u) (xs := [.int 0, .int 1, .int (10 ^ (30 : Int).toNat)]) (fun j H' => Same (upd H10 u (.tup [.int 0, .int 1, .int (10 ^ (30 : Int).toNat)])) H' ∧ H' D = some (.lst (List.replicate j (V.bl true)))) ⟨sD, upd_same⟩ (fun j H' _ ⟨s, _⟩ => .inl (.inl (s _ _ upd_same))) ?_ ?_
        · rintro j y H11 hj ⟨s11, hL11⟩
          obtain ⟨z, rfl, hz⟩ : ∃ z : Int, y = .int z ∧ 0 ≤ z := by
            match j, hj with
            | 0, h => exact ⟨0, (Option.some.inj h).symm, Int.le_refl _⟩
            | 1, h => exact ⟨1, (Option.some.inj h).symm, by decide⟩
            | 2, h => exact ⟨_, (Option.some.inj h).symm, by decide⟩
          have hj3 : j < 3 := at_lt hj
          refine ⟨rfl, tyes ?_⟩
          refine ⟨.ref aG, rfl, _, rfl, .int z, rfl, _, z, rfl, rfl, aG, g, pn, nn, (pn : Int) ^ nn + z, rfl, gr2.mono (k11.mono s11).le, by omega, by omega, fun H12 s12 => ⟨_, s12 _ _ hL11, by rw [List.length_replicate]; exact small1000' (by omega), fun b o e => ?_, ?_⟩⟩
          · rw [upd_ne (ne_of_none e hD)]
            exact s12 _ _ (s11 _ _ e)
          · rw [upd_same, tn, decide_eq_true (by omega : (pn : Int) ^ nn ≤ (pn : Int) ^ nn + z), List.replicate_succ']
        · rintro H11 ⟨s11, hL11⟩
          have k12 := k11.mono s11
          refine ⟨(by show 1 ≤ sizeLine; decide), fun l1 hl1 => ?_⟩
          have sl1 : Same H11 (upd H11 l1 (.lst [.bl true])) := same_new hl1
          refine ⟨l1, 3, [.bl true], rfl, rfl, upd_same, by decide, by decide, by decide, fun l2 hl2 => ?_⟩
          have sl2 := same_new (o := .lst (List.replicate (3 : Int).toNat [V.bl true]).flatten) hl2
          refine ⟨.list [.bool true, .bool true, .bool true], .list [.bool true, .bool true, .bool true], .lst (.inl (.inl (sl2 _ _ (sl1 _ _ hL11)))) (.cons (.bl true) (.cons (.bl true) (.cons (.bl true) .nil))), .lst (.inl (.inl upd_same)) (.cons (.bl true) (.cons (.bl true) (.cons (.bl true) .nil))), by decide +kernel, by decide +kernel, _, rfl, neD_no (by decide +kernel) ?_⟩
          have k13 := (k12.mono sl1).mono sl2
          generalize upd (upd H11 l1 (.lst [.bl true])) l2 (.lst (List.replicate (3 : Int).toNat [V.bl true]).flatten) = H13 at k13
          have kEnd : ∀ H', Kn G2 H' d c → Kn H H' d c := fun H' k => k.weak (s1.trans s2)
          -- small grounds: all rows
          refine ⟨_, rfl, _, _, rfl, rfl, _, rfl, ite2 (fun hb => ?_) (fun _ => ⟨_, _, _, _, _, _, _, _, rfl, kEnd _ k13⟩)⟩
          have hb' : (pn : Int) ^ nn ≤ 2000 := of_decide_eq_true hb
          have ez : (pn : Int) ^ nn = ((pn ^ nn : Nat) : Int) := by simp
          have hz2 : pn ^ (nn : Int).toNat ≤ 2000 := by rw [tn]; rw [ez] at hb'; omega
          have gk13 := gr2.mono k13.le
          refine ⟨.ref aG, rfl, aG, _, rfl, gr_made gk13.dk, g, pn, nn, rfl, gk13.gd, by omega, by omega, by omega, by omega, hz2, fun l ts H14 s14 l0 hl hR => ?_⟩
          have k14 := k13.mono s14
          have gk14 := gr2.mono k14.le
          refine ⟨.ref l, rfl, .ref aG, rfl, aG, _, rfl, gr_p gk14.dk, .ref aG, rfl, aG, _, rfl, gr_n gk14.dk, pn, nn, rfl, by omega, by omega, by omega, by omega, hz2, fun m us H15 s15 hm hU => ?_⟩
          refine ⟨dRs _, dRs _, .lst (.inl (.inl (s15 _ _ hl))) (dp_rows (hR.mono s15)), .lst (.inl (.inl hm)) (dp_rows hU), shp_rows _, shp_rows _, _, rfl, neD_no (shp_rows _) ?_⟩
          have k15 := k14.mono s15
          have hl15 := s15 _ _ hl
          -- told.append(None)
          refine ⟨.ref l, rfl, .inl ⟨rfl, _, .inl (.inl hl15)⟩, l, ts, .non, rfl, rfl, hl15, ?_, ?_⟩
          · rw [hR.len, rws_len]
            exact small1000' (by omega)
          have k16 : Kn G2 (upd H15 l (.lst (ts ++ [.non]))) d c := k15.mut (k13.free l0) (k13.src.some_d l0) (k13.src.some_c l0)
          have gk16 := gr2.mono k16.le
          refine ⟨.ref aG, rfl, aG, _, rfl, gr_made gk16.dk, g, pn, nn, rfl, gk16.gd, by omega, by omega, by omega, by omega, hz2, fun l3 ts3 H17 s17 l30 hl3 hR3 => ?_⟩
          refine ⟨l3, ts3, rfl, .inl (.inl (.inl hl3)), _, rfl, rfl, _, rfl, ?_⟩
          have e3 : (ts3.length : Int) = (pn : Int) ^ nn := by rw [hR3.len, rws_len, tn, ez]
          rw [e3]
          exact ne_no ⟨_, _, _, _, _, _, _, _, rfl, kEnd _ (k16.mono s17)⟩
    · rintro σ H2 ⟨v2, v3, v4, v5, v6, v7, v8, v9, rfl, k2⟩
      intro x dx nx ndx hne
      refine ⟨x, dx, 2, 4, rfl, upd_same, prm2, by decide, fun H3 hx hk => ⟨rfl, ?_⟩⟩
      refine ⟨x, 2, 4, 5, rfl, ⟨dx, hx⟩, by decide, by decide, by decide, by decide, fun hq => absurd hq (by decide), fun _ t H4 s4 t0 ht => ?_⟩
      refine ⟨(by show 4 ≤ sizeLine; decide), fun u hu2 => ?_⟩
      refine ⟨dR [0, 1, 0, 1], dR [0, 1, 0, 1], dp_row (.inl (.inl (same_new hu2 _ _ ht))), dp_row (.inl (.inl upd_same)), shp_row _, shp_row _, ?_⟩
      rw [eqv_same (shp_row _)]
      exact q _
end

theorem fin_ok {l : PySem.W.OpenLaw} {w : World} {K : PySem.W.Frag} {mg : Str → Option Value} {fa : Addr} (T : Tx K mg) (hfa : mg "law" = some (.ref fa)) :
    ∃ fd : FuncData, (∀ (s : Shared) (v : Value), BindsTo s fd ⟨[v], []⟩ [("_law_script", v)]) ∧ ∀ base : Heap, K.In base → base.Ns mainGlobals mg → FnOk l.prog w K mg base CX0 7 fa fd ["_law_script"] (spLaw K) := by
  have e := hfa.symm.trans T.g_law
  cases e
  refine ⟨T.d_law, fun s v => ?_, fun base _ _ => ok_law T⟩
  obtain ⟨oc, od, kV, doc, pm, an, cdv, ct, osl, ed, lk, hcd⟩ := T.F_law.ex
  rw [ed]
  exact .of_eq rfl
end Lw
open PySem PySem.W PyProof.Rows
set_option maxHeartbeats 0 in
theorem PySem.Challenge.cw_codenests_k04_rows_by_number_holds : PySem.Challenge.rw_codenests_k04_rows_by_number.Holds := by
  w_on; o_law; k_head; (case hw => w_witness2)
  k_fill
  refine L2.walk_of (l := PySem.Challenge.rw_codenests_k04_rows_by_number) (n := 63) (k := 7) (x := "_law_script") (CX := fun _ => L2.CX0) (sp := fun w => Lw.spLaw _) rfl (by decide) rfl ⟨rfl, by decide, by decide⟩ (fun w h Y => PySem.W.kIn_of Y) ?F (fun _ _ a ns hl _ hS => ⟨a, ns, rfl, hS, hl, fun _ => rfl⟩) (fun _ _ _ _ _ h => h)
  case F =>
    intro w mg fa h KX G hmg
    refine' Lw.fin_ok (Lw.tx_mk KX G ?a_Ground ?pg_Ground ?hd_Ground ?po_Ground ?sa_Ground ?mk_Ground ?kc_Ground ?n_Ground_p ?n_Ground_n ?a_power ?l_power ?c_power ?k_power ?a_digits_at ?l_digits_at ?c_digits_at ?k_digits_at ?a_digits_number ?l_digits_number ?c_digits_number ?k_digits_number ?a_is_number ?l_is_number ?c_is_number ?k_is_number ?a_row_at ?l_row_at ?c_row_at ?k_row_at ?a_row_number ?l_row_number ?c_row_number ?k_row_number ?a_all_rows ?l_all_rows ?c_all_rows ?k_all_rows ?a_is_prime ?l_is_prime ?c_is_prime ?k_is_prime ?a_Ground_init ?i_Ground_init ?l_Ground_init ?c_Ground_init ?k_Ground_init ?a_Ground_p ?i_Ground_p ?l_Ground_p ?c_Ground_p ?k_Ground_p ?a_Ground_n ?i_Ground_n ?l_Ground_n ?c_Ground_n ?k_Ground_n ?a_l_source ?l_l_source ?c_l_source ?k_l_source ?a_l_pick ?l_l_pick ?c_l_pick ?k_l_pick ?a_l_of ?l_l_of ?c_l_of ?k_l_of ?a_l_wide ?l_l_wide ?c_l_wide ?k_l_wide ?a_l_row ?l_l_row ?c_l_row ?k_l_row ?a_l_digits ?l_l_digits ?c_l_digits ?k_l_digits ?a_l_is_great ?l_l_is_great ?c_l_is_great ?k_l_is_great ?a_law ?l_law ?c_law ?k_law ?a_TooGreat ?xe_TooGreat ?xk_TooGreat ?xb_TooGreat ?xt_TooGreat ?xi_TooGreat ?xs_TooGreat ?z_len ?z_range ?z_int ?z_bool ?z_tuple ?z_isinstance ?z_abs ?z_max) hmg
    (case a_Ground => k_is)
    (case pg_Ground => k_is)
    (case hd_Ground => k_is)
    (case po_Ground => k_is)
    (case sa_Ground => k_is)
    (case mk_Ground => k_is)
    (case kc_Ground => k_is)
    (case n_Ground_p => k_is)
    (case n_Ground_n => k_is)
    (case a_power => k_is)
    (case l_power => k_is)
    (case c_power => k_is)
    (case k_power => k_is)
    (case a_digits_at => k_is)
    (case l_digits_at => k_is)
    (case c_digits_at => k_is)
    (case k_digits_at => k_is)
    (case a_digits_number => k_is)
    (case l_digits_number => k_is)
    (case c_digits_number => k_is)
    (case k_digits_number => k_is)
    (case a_is_number => k_is)
    (case l_is_number => k_is)
    (case c_is_number => k_is)
    (case k_is_number => k_is)
    (case a_row_at => k_is)
    (case l_row_at => k_is)
    (case c_row_at => k_is)
    (case k_row_at => k_is)
    (case a_row_number => k_is)
    (case l_row_number => k_is)
    (case c_row_number => k_is)
    (case k_row_number => k_is)
    (case a_all_rows => k_is)
    (case l_all_rows => k_is)
    (case c_all_rows => k_is)
    (case k_all_rows => k_is)
    (case a_is_prime => k_is)
    (case l_is_prime => k_is)
    (case c_is_prime => k_is)
    (case k_is_prime => k_is)
    (case a_Ground_init => k_is)
    (case i_Ground_init => k_is)
    (case l_Ground_init => k_is)
    (case c_Ground_init => k_is)
    (case k_Ground_init => k_is)
    (case a_Ground_p => k_is)
    (case i_Ground_p => k_is)
    (case l_Ground_p => k_is)
    (case c_Ground_p => k_is)
    (case k_Ground_p => k_is)
    (case a_Ground_n => k_is)
    (case i_Ground_n => k_is)
    (case l_Ground_n => k_is)
    (case c_Ground_n => k_is)
    (case k_Ground_n => k_is)
    (case a_l_source => k_is)
    (case l_l_source => k_is)
    (case c_l_source => k_is)
    (case k_l_source => k_is)
    (case a_l_pick => k_is)
    (case l_l_pick => k_is)
    (case c_l_pick => k_is)
    (case k_l_pick => k_is)
    (case a_l_of => k_is)
    (case l_l_of => k_is)
    (case c_l_of => k_is)
    (case k_l_of => k_is)
    (case a_l_wide => k_is)
    (case l_l_wide => k_is)
    (case c_l_wide => k_is)
    (case k_l_wide => k_is)
    (case a_l_row => k_is)
    (case l_l_row => k_is)
    (case c_l_row => k_is)
    (case k_l_row => k_is)
    (case a_l_digits => k_is)
    (case l_l_digits => k_is)
    (case c_l_digits => k_is)
    (case k_l_digits => k_is)
    (case a_l_is_great => k_is)
    (case l_l_is_great => k_is)
    (case c_l_is_great => k_is)
    (case k_l_is_great => k_is)
    (case a_law => k_is)
    (case l_law => k_is)
    (case c_law => k_is)
    (case k_law => k_is)
    (case a_TooGreat => k_is)
    (case xe_TooGreat => k_exc)
    (case xk_TooGreat => k_is)
    (case xb_TooGreat => k_is)
    (case xt_TooGreat => k_is)
    (case xi_TooGreat => k_is)
    (case xs_TooGreat => first | rfl | k_is)
    (case z_len => k_is)
    (case z_range => k_is)
    (case z_int => k_is)
    (case z_bool => k_is)
    (case z_tuple => k_is)
    (case z_isinstance => k_is)
    (case z_abs => k_is)
    (case z_max => k_is)
