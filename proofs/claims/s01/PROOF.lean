import PyProof.Rows.All
import Wide.All
import OpenK.AllK
import Wide.FinOn
import PyProof.EqAt
import PyProof.EqKinds
import PyProof.TupleCall
import KE.BitLaws
import KE.OsGo
import Open.SpecLaws
import Sc13Neutral
import PySc13
import PySem.Challenge.RW_equalterms_s01_answers
set_option Elab.async false
set_option linter.all false
set_option maxRecDepth 100000
namespace Eqm
open Sc13 Sc13Neutral

theorem getD_map_lt {f : Nat → Nat} {l : List Nat} {i : Nat} (h : i < l.length) : (l.map f).getD i 0 = f (l.getD i 0) := by
  simp [List.getD_eq_getElem?_getD, List.getElem?_map, List.getElem?_eq_getElem h]

structure Ok (n : Nat) (l : List Nat) : Prop where
  len : l.length = n
  le : ∀ i, i < n → l.getD i 0 ≤ i
  idem : ∀ i, i < n → l.getD (l.getD i 0) 0 = l.getD i 0

theorem rl_get {l : List Nat} {a b i : Nat} (h : i < l.length) : (relabel l a b).getD i 0 = if l.getD i 0 = l.getD a 0 ∨ l.getD i 0 = l.getD b 0 then min (l.getD a 0) (l.getD b 0) else l.getD i 0 := by
  unfold relabel
  exact getD_map_lt h

theorem min_or (x y : Nat) : min x y = x ∨ min x y = y := by omega

theorem Ok.relabel {n a b : Nat} {l : List Nat} (o : Ok n l) (ha : a < n) (hb : b < n) : Ok n (relabel l a b) := by
  refine ⟨by unfold Sc13Neutral.relabel; rw [List.length_map]; exact o.len, fun i hi => ?_, fun i hi => ?_⟩
  · rw [rl_get (by rw [o.len]; exact hi)]
    have h1 := o.le i hi
    split
    · omega
    · exact h1
  · have hxa := o.le a ha
    have hxb := o.le b hb
    have ia := o.idem a ha
    have ib := o.idem b hb
    have ii := o.idem i hi
    have hli := o.le i hi
    rw [rl_get (i := i) (by rw [o.len]; exact hi)]
    split
    · have hm : l.getD (min (l.getD a 0) (l.getD b 0)) 0 = min (l.getD a 0) (l.getD b 0) := by
        rcases min_or (l.getD a 0) (l.getD b 0) with e | e
        · rw [e]; exact ia
        · rw [e]; exact ib
      rw [rl_get (by rw [o.len]; omega), hm, if_pos (min_or _ _)]
    · rename_i hn
      rw [rl_get (by rw [o.len]; omega), ii, if_neg hn]

theorem rl_eq {n a b i j : Nat} {l : List Nat} (o : Ok n l) (hi : i < n) (hj : j < n) : (relabel l a b).getD i 0 = (relabel l a b).getD j 0 ↔
    (l.getD i 0 = l.getD j 0 ∨ ((l.getD i 0 = l.getD a 0 ∨ l.getD i 0 = l.getD b 0) ∧ (l.getD j 0 = l.getD a 0 ∨ l.getD j 0 = l.getD b 0))) := by
  rw [rl_get (by rw [o.len]; exact hi), rl_get (by rw [o.len]; exact hj)]
  generalize l.getD i 0 = u
  generalize l.getD j 0 = v
  generalize l.getD a 0 = x
  generalize l.getD b 0 = y
  split <;> split <;> omega

/-- labels that are equal hold -/
def Sd (s : Now) (l : List Nat) : Prop := ∀ i j, i < s.terms.length → j < s.terms.length → l.getD i 0 = l.getD j 0 → Holds s i j
/-- terms' parts stand ahead of them -/
def WF (s : Now) : Prop := ∀ (i : Nat) (t : Term), s.terms[i]? = some t → (∀ x, t.x = some x → x < i) ∧ (∀ y, t.y = some y → y < i) ∧ (t.x = none → t.y = none)
def InR (s : Now) : Prop := ∀ p, p ∈ s.equal → p.1 < s.terms.length ∧ p.2 < s.terms.length
def Said (s : Now) (l : List Nat) : Prop := ∀ p, p ∈ s.equal → l.getD p.1 0 = l.getD p.2 0
def Cl (s : Now) (l : List Nat) : Prop := ∀ (i j : Nat) (t u : Term), s.terms[i]? = some t → s.terms[j]? = some u → t.sign = u.sign → parts l t.x u.x = true → parts l t.y u.y = true → l.getD i 0 = l.getD j 0
structure Canon (s : Now) (l : List Nat) : Prop where
  ok : Ok s.terms.length l
  iff : ∀ i j, i < s.terms.length → j < s.terms.length → (l.getD i 0 = l.getD j 0 ↔ Holds s i j)

theorem lt_of_get {α : Type} {l : List α} {i : Nat} {x : α} (h : l[i]? = some x) : i < l.length := (List.getElem?_eq_some_iff.mp h).1

theorem Sd.relabel {s : Now} {l : List Nat} {a b : Nat} (o : Ok s.terms.length l) (h : Sd s l) (ha : a < s.terms.length) (hb : b < s.terms.length) (hab : Holds s a b) : Sd s (relabel l a b) := by
  intro i j hi hj e
  rcases (rl_eq o hi hj).mp e with e | ⟨e1, e2⟩
  · exact h i j hi hj e
  · have to_a : ∀ k, k < s.terms.length → (l.getD k 0 = l.getD a 0 ∨ l.getD k 0 = l.getD b 0) → Holds s k a := by
      intro k hk e
      rcases e with e | e
      · exact h k a hk ha e
      · exact .through (h k b hk hb e) (.back hab)
    exact .through (to_a i hi e1) (.back (to_a j hj e2))

theorem equal_iff {l : List Nat} {a b : Nat} : equal l a b = true ↔ l.getD a 0 = l.getD b 0 := by
  unfold equal; exact beq_iff_eq
theorem equal_false {l : List Nat} {a b : Nat} : equal l a b = false ↔ l.getD a 0 ≠ l.getD b 0 := by
  rw [← Bool.not_eq_true, equal_iff]

theorem Parts_of {s : Now} {l : List Nat} (h : Sd s l) {p q : Option Nat} (hp : ∀ x, p = some x → x < s.terms.length) (hq : ∀ x, q = some x → x < s.terms.length) (e : parts l p q = true) : Parts s p q := by
  cases p with
  | none => cases q with
    | none => trivial
    | some y => cases e
  | some x => cases q with
    | none => cases e
    | some y => exact h x y (hp x rfl) (hq y rfl) (equal_iff.mp e)

theorem holds_cong {s : Now} {i j : Nat} {t u : Term} (w : WF s) (hi : s.terms[i]? = some t) (hj : s.terms[j]? = some u) (hs : t.sign = u.sign) (hx : Parts s t.x u.x) (hy : Parts s t.y u.y) : Holds s i j := by
  obtain ⟨_, _, w1⟩ := w i t hi
  obtain ⟨_, _, w2⟩ := w j u hj
  obtain ⟨f, tx, ty⟩ := t
  obtain ⟨g, ux, uy⟩ := u
  cases hs
  cases tx with
  | none =>
    cases ux with
    | none =>
      have e1 : ty = none := w1 rfl
      have e2 : uy = none := w2 rfl
      subst e1; subst e2
      exact .none_ hi hj
    | some y => exact hx.elim
  | some x =>
    cases ux with
    | none => exact hx.elim
    | some x' =>
      cases ty with
      | none =>
        cases uy with
        | none => exact .one hi hj hx
        | some y => exact hy.elim
      | some y =>
        cases uy with
        | none => exact hy.elim
        | some y' => exact .two hi hj hx hy

theorem WF.px {s : Now} (w : WF s) {i : Nat} {t : Term} (h : s.terms[i]? = some t) : ∀ x, t.x = some x → x < s.terms.length := fun x e => Nat.lt_trans ((w i t h).1 x e) (lt_of_get h)
theorem WF.py {s : Now} (w : WF s) {i : Nat} {t : Term} (h : s.terms[i]? = some t) : ∀ x, t.y = some x → x < s.terms.length := fun x e => Nat.lt_trans ((w i t h).2.1 x e) (lt_of_get h)

theorem holds_of {s : Now} {l : List Nat} (w : WF s) (r : InR s) (sd : Said s l) (cl : Cl s l) {i j : Nat} (h : Holds s i j) : i = j ∨ (i < s.terms.length ∧ j < s.terms.length ∧ l.getD i 0 = l.getD j 0) := by
  have pe : ∀ {x x' : Nat}, x < s.terms.length → x' < s.terms.length → (x = x' ∨ (x < s.terms.length ∧ x' < s.terms.length ∧ l.getD x 0 = l.getD x' 0)) → equal l x x' = true := by
    intro x x' _ _ e
    rcases e with e | ⟨_, _, e⟩
    · rw [e]; exact equal_iff.mpr rfl
    · exact equal_iff.mpr e
  induction h with
  | said h => exact .inr ⟨(r _ h).1, (r _ h).2, sd _ h⟩
  | same a => exact .inl rfl
  | back _ ih => rcases ih with e | ⟨a, b, e⟩
                 · exact .inl e.symm
                 · exact .inr ⟨b, a, e.symm⟩
  | through _ _ ih1 ih2 =>
    rcases ih1 with e | ⟨a, b, e⟩
    · subst e; exact ih2
    · rcases ih2 with e' | ⟨a', b', e'⟩
      · subst e'; exact .inr ⟨a, b, e⟩
      · exact .inr ⟨a, b', e.trans e'⟩
  | none_ h1 h2 => exact .inr ⟨lt_of_get h1, lt_of_get h2, cl _ _ _ _ h1 h2 rfl rfl rfl⟩
  | one h1 h2 _ ih => exact .inr ⟨lt_of_get h1, lt_of_get h2, cl _ _ _ _ h1 h2 rfl (pe (w.px h1 _ rfl) (w.px h2 _ rfl) ih) rfl⟩
  | two h1 h2 _ _ ih1 ih2 => exact .inr ⟨lt_of_get h1, lt_of_get h2, cl _ _ _ _ h1 h2 rfl (pe (w.px h1 _ rfl) (w.px h2 _ rfl) ih1) (pe (w.py h1 _ rfl) (w.py h2 _ rfl) ih2)⟩

theorem canon_of {s : Now} {l : List Nat} (w : WF s) (r : InR s) (o : Ok s.terms.length l) (h : Sd s l) (sd : Said s l) (cl : Cl s l) : Canon s l :=
  ⟨o, fun i j hi hj => ⟨h i j hi hj, fun k => by
    rcases holds_of w r sd cl k with e | ⟨_, _, e⟩
    · rw [e]
    · exact e⟩⟩

theorem Canon.sd {s : Now} {l : List Nat} (c : Canon s l) : Sd s l := fun i j hi hj e => (c.iff i j hi hj).mp e
theorem Canon.said {s : Now} {l : List Nat} (r : InR s) (c : Canon s l) : Said s l := fun p hp => (c.iff _ _ (r p hp).1 (r p hp).2).mpr (.said hp)
theorem Canon.cl {s : Now} {l : List Nat} (w : WF s) (c : Canon s l) : Cl s l := fun i j t u hi hj hs hx hy =>
  (c.iff _ _ (lt_of_get hi) (lt_of_get hj)).mpr (holds_cong w hi hj hs (Parts_of c.sd (w.px hi) (w.px hj) hx) (Parts_of c.sd (w.py hi) (w.py hj) hy))

theorem Canon.unique {s : Now} {l m : List Nat} (c : Canon s l) (d : Canon s m) : l = m := by
  have key : ∀ {l m : List Nat}, Canon s l → Canon s m → ∀ i, i < s.terms.length → m.getD i 0 ≤ l.getD i 0 := by
    intro l m c d i hi
    have h1 := c.ok.le i hi
    have h2 : Holds s (l.getD i 0) i := (c.iff _ _ (by omega) hi).mp (c.ok.idem i hi)
    have h3 : m.getD (l.getD i 0) 0 = m.getD i 0 := (d.iff _ _ (by omega) hi).mpr h2
    have h4 := d.ok.le (l.getD i 0) (by omega)
    omega
  refine List.ext_getElem? fun i => ?_
  by_cases hi : i < s.terms.length
  · have e : l.getD i 0 = m.getD i 0 := Nat.le_antisymm (key d c i hi) (key c d i hi)
    have hl : i < l.length := by rw [c.ok.len]; exact hi
    have hm : i < m.length := by rw [d.ok.len]; exact hi
    rw [List.getElem?_eq_getElem hl, List.getElem?_eq_getElem hm]
    simpa [List.getD_eq_getElem?_getD, List.getElem?_eq_getElem hl, List.getElem?_eq_getElem hm] using e
  · rw [List.getElem?_eq_none (by rw [c.ok.len]; omega), List.getElem?_eq_none (by rw [d.ok.len]; omega)]

/-! ### how many roots -/
def roots (n : Nat) (l : List Nat) : Nat := (List.range n).countP fun i => l.getD i 0 == i

theorem countP_lt {p q : Nat → Bool} : ∀ {l : List Nat}, (∀ i, i ∈ l → p i = true → q i = true) → (∃ i, i ∈ l ∧ q i = true ∧ p i = false) → l.countP p < l.countP q
  | [], _, ⟨i, h, _⟩ => by simp at h
  | a :: r, h, ⟨i, hi, hq, hp⟩ => by
    have hle : r.countP p ≤ r.countP q := List.countP_mono_left fun x hx => h x (List.mem_cons_of_mem _ hx)
    rw [List.countP_cons, List.countP_cons]
    rcases List.mem_cons.mp hi with e | e
    · subst e
      rw [hq, hp]
      simp
      omega
    · have ih := countP_lt (l := r) (fun x hx => h x (List.mem_cons_of_mem _ hx)) ⟨i, e, hq, hp⟩
      have ha := h a (List.mem_cons_self ..)
      cases hpa : p a with
      | true => rw [ha hpa]; omega
      | false =>
        cases q a <;> simp <;> omega

theorem roots_relabel {n a b : Nat} {l : List Nat} (o : Ok n l) (ha : a < n) (hb : b < n) (ne : l.getD a 0 ≠ l.getD b 0) : roots n (relabel l a b) < roots n l := by
  have la := o.le a ha
  have lb := o.le b hb
  have ia := o.idem a ha
  have ib := o.idem b hb
  refine countP_lt (fun i hi h => ?_) ⟨max (l.getD a 0) (l.getD b 0), List.mem_range.mpr (by omega), ?_, ?_⟩
  · have hi' := List.mem_range.mp hi
    have h' := beq_iff_eq.mp h
    rw [rl_get (by rw [o.len]; exact hi')] at h'
    refine beq_iff_eq.mpr ?_
    split at h'
    · rcases min_or (l.getD a 0) (l.getD b 0) with e | e
      · rw [← h', e]; exact ia
      · rw [← h', e]; exact ib
    · exact h'
  · refine beq_iff_eq.mpr ?_
    by_cases h : l.getD a 0 ≤ l.getD b 0
    · rw [Nat.max_eq_right h]; exact ib
    · rw [Nat.max_eq_left (by omega)]; exact ia
  · rw [beq_eq_false_iff_ne]
    have hm : max (l.getD a 0) (l.getD b 0) < n := by omega
    rw [rl_get (by rw [o.len]; exact hm)]
    have e : l.getD (max (l.getD a 0) (l.getD b 0)) 0 = l.getD a 0 ∨ l.getD (max (l.getD a 0) (l.getD b 0)) 0 = l.getD b 0 := by
      by_cases h : l.getD a 0 ≤ l.getD b 0
      · rw [Nat.max_eq_right h]; exact .inr ib
      · rw [Nat.max_eq_left (by omega)]; exact .inl ia
    rw [if_pos e]
    omega

theorem roots_zero {n : Nat} {l : List Nat} (o : Ok n l) (h : roots n l = 0) : n = 0 := by
  cases n with
  | zero => rfl
  | succ n =>
    exfalso
    have h0 := o.le 0 (by omega)
    have := List.countP_eq_zero.mp h 0 (List.mem_range.mpr (by omega))
    exact this (beq_iff_eq.mpr (by omega))
theorem roots_le {n : Nat} {l : List Nat} : roots n l ≤ n := by
  have := List.countP_le_length (p := fun i => l.getD i 0 == i) (l := List.range n)
  rw [List.length_range] at this
  exact this

theorem Said.relabel {s : Now} {l : List Nat} {a b : Nat} (o : Ok s.terms.length l) (r : InR s) (h : Said s l) : Said s (relabel l a b) := fun p hp =>
  (rl_eq o (r p hp).1 (r p hp).2).mpr (.inl (h p hp))

theorem relabel_ab {n a b : Nat} {l : List Nat} (o : Ok n l) (ha : a < n) (hb : b < n) : (relabel l a b).getD a 0 = (relabel l a b).getD b 0 :=
  (rl_eq o ha hb).mpr (.inr ⟨.inl rfl, .inr rfl⟩)

/-! ### the specification's own closing -/
theorem close_spec {s : Now} (w : WF s) (r : InR s) : ∀ (k : Nat) (l : List Nat), Ok s.terms.length l → Sd s l → Said s l → roots s.terms.length l ≤ k →
    Ok s.terms.length (close s k l) ∧ Sd s (close s k l) ∧ Said s (close s k l) ∧ Cl s (close s k l)
  | 0, l, o, sd, sa, h => by
    have h0 : s.terms.length = 0 := roots_zero o (by omega)
    refine ⟨o, sd, sa, fun i j t u hi => ?_⟩
    have := lt_of_get hi
    omega
  | k + 1, l, o, sd, sa, h => by
    unfold close
    dsimp only
    split
    · rename_i q hq
      obtain ⟨i, hi, h1⟩ := List.exists_of_findSome?_eq_some hq
      obtain ⟨j, hj, h2⟩ := List.exists_of_findSome?_eq_some h1
      have hi' := List.mem_range.mp hi
      have hj' := List.mem_range.mp hj
      cases et : s.terms[i]? with
      | none => rw [et] at h2; cases h2
      | some t =>
        cases eu : s.terms[j]? with
        | none => rw [et, eu] at h2; cases h2
        | some u =>
          rw [et, eu] at h2
          dsimp only at h2
          split at h2
          · rename_i hc
            cases h2
            obtain ⟨c1, c2, c3, c4⟩ := hc
            have hh : Holds s i j := holds_cong w et eu c2 (Parts_of sd (w.px et) (w.px eu) c3) (Parts_of sd (w.py et) (w.py eu) c4)
            have hr := roots_relabel o hi' hj' (equal_false.mp c1)
            exact close_spec w r k _ (o.relabel hi' hj') (sd.relabel o hi' hj' hh) (sa.relabel o r) (by show roots _ (relabel l i j) ≤ k; omega)
          · cases h2
    · rename_i hq
      refine ⟨o, sd, sa, fun i j t u hi hj hs hx hy => ?_⟩
      have h1 := List.findSome?_eq_none_iff.mp hq i (List.mem_range.mpr (lt_of_get hi))
      have h2 := List.findSome?_eq_none_iff.mp h1 j (List.mem_range.mpr (lt_of_get hj))
      rw [hi, hj] at h2
      dsimp only at h2
      split at h2
      · cases h2
      · rename_i hc
        by_cases e : l.getD i 0 = l.getD j 0
        · exact e
        · exact absurd ⟨equal_false.mpr e, hs, hx, hy⟩ hc

theorem range_ok (n : Nat) : Ok n (List.range n) := by
  have h : ∀ i, i < n → (List.range n).getD i 0 = i := fun i hi => by
    simp [List.getD_eq_getElem?_getD, List.getElem?_range hi]
  exact ⟨List.length_range, fun i hi => by rw [h i hi]; exact Nat.le_refl _, fun i hi => by rw [h i hi, h i hi]⟩
theorem range_get {n i : Nat} (hi : i < n) : (List.range n).getD i 0 = i := by
  simp [List.getD_eq_getElem?_getD, List.getElem?_range hi]

theorem fold_spec {s : Now} (r : InR s) : ∀ (ps : List (Nat × Nat)) (l : List Nat), (∀ p, p ∈ ps → p ∈ s.equal) → Ok s.terms.length l → Sd s l →
    Ok s.terms.length (ps.foldl (fun l p => relabel l p.1 p.2) l) ∧ Sd s (ps.foldl (fun l p => relabel l p.1 p.2) l) ∧
    (∀ i j, i < s.terms.length → j < s.terms.length → l.getD i 0 = l.getD j 0 → (ps.foldl (fun l p => relabel l p.1 p.2) l).getD i 0 = (ps.foldl (fun l p => relabel l p.1 p.2) l).getD j 0) ∧
    (∀ p, p ∈ ps → (ps.foldl (fun l p => relabel l p.1 p.2) l).getD p.1 0 = (ps.foldl (fun l p => relabel l p.1 p.2) l).getD p.2 0)
  | [], l, _, o, sd => ⟨o, sd, fun _ _ _ _ e => e, fun p hp => by simp at hp⟩
  | q :: ps, l, hs, o, sd => by
    have hq := hs q (List.mem_cons_self ..)
    obtain ⟨q1, q2⟩ := r q hq
    have o' := o.relabel q1 q2
    obtain ⟨h1, h2, h3, h4⟩ := fold_spec r ps (relabel l q.1 q.2) (fun p hp => hs p (List.mem_cons_of_mem _ hp)) o' (sd.relabel o q1 q2 (.said hq))
    rw [List.foldl_cons]
    refine ⟨h1, h2, fun i j hi hj e => h3 i j hi hj ((rl_eq o hi hj).mpr (.inl e)), fun p hp => ?_⟩
    rcases List.mem_cons.mp hp with e | e
    · subst e; exact h3 _ _ q1 q2 (relabel_ab o q1 q2)
    · exact h4 p e

theorem classes_canon {s : Now} (w : WF s) (r : InR s) : Canon s (classes s) := by
  have sd0 : Sd s (List.range s.terms.length) := fun i j hi hj e => by
    rw [range_get hi, range_get hj] at e
    rw [e]; exact .same j
  obtain ⟨h1, h2, _, h4⟩ := fold_spec r s.equal (List.range s.terms.length) (fun _ h => h) (range_ok _) sd0
  have hr := roots_le (n := s.terms.length) (l := s.equal.foldl (fun l p => relabel l p.1 p.2) (List.range s.terms.length))
  obtain ⟨a, b, c, d⟩ := close_spec w r (s.terms.length + 1) _ h1 h2 h4 (by omega)
  exact canon_of w r a b c d
end Eqm

namespace Eqm
open Sc13 Sc13Neutral

/-! ### one term more -/
def likeT (l : List Nat) (t u : Term) : Bool := u.sign == t.sign && (parts l u.x t.x && parts l u.y t.y)
def addT (s : Now) (t : Term) : Now := { s with terms := s.terms ++ [t] }
def hbp (ts : List Term) (l : List Nat) (t : Term) : Option Nat := (ts.findIdx? (likeT l t)).map fun k => l.getD k 0

theorem likeT_iff {l : List Nat} {t u : Term} : likeT l t u = true ↔ u.sign = t.sign ∧ parts l u.x t.x = true ∧ parts l u.y t.y = true := by
  unfold likeT
  rw [Bool.and_eq_true, Bool.and_eq_true, beq_iff_eq]

theorem parts_symm {l : List Nat} {p q : Option Nat} (h : parts l p q = true) : parts l q p = true := by
  cases p <;> cases q
  · rfl
  · cases h
  · cases h
  · exact equal_iff.mpr (equal_iff.mp h).symm
theorem parts_trans {l : List Nat} {p q r : Option Nat} (h : parts l p q = true) (k : parts l q r = true) : parts l p r = true := by
  cases p <;> cases q <;> cases r
  · rfl
  · cases k
  · cases h
  · cases h
  · cases h
  · cases h
  · cases k
  · exact equal_iff.mpr ((equal_iff.mp h).trans (equal_iff.mp k))
theorem parts_congr {l m : List Nat} {n : Nat} {p q : Option Nat} (e : ∀ i, i < n → l.getD i 0 = m.getD i 0) (hp : ∀ x, p = some x → x < n) (hq : ∀ x, q = some x → x < n) : parts l p q = parts m p q := by
  cases p <;> cases q
  · rfl
  · rfl
  · rfl
  · rename_i x y
    show equal l x y = equal m x y
    unfold equal
    rw [e x (hp x rfl), e y (hq y rfl)]

theorem holds_addT {s : Now} {t : Term} {i j : Nat} (h : Holds s i j) : Holds (addT s t) i j := by
  have up : ∀ {k : Nat} {u : Term}, s.terms[k]? = some u → (addT s t).terms[k]? = some u := fun {k u} e => by
    show (s.terms ++ [t])[k]? = some u
    rw [List.getElem?_append_left (lt_of_get e)]; exact e
  induction h with
  | said h => exact .said h
  | same a => exact .same a
  | back _ ih => exact .back ih
  | through _ _ a b => exact .through a b
  | none_ h1 h2 => exact .none_ (up h1) (up h2)
  | one h1 h2 _ ih => exact .one (up h1) (up h2) ih
  | two h1 h2 _ _ i1 i2 => exact .two (up h1) (up h2) i1 i2

structure TermOk (n : Nat) (t : Term) : Prop where
  x : ∀ x, t.x = some x → x < n
  y : ∀ y, t.y = some y → y < n
  no : t.x = none → t.y = none

theorem get_snoc {α : Type} {l : List α} {a b : α} {i : Nat} (h : (l ++ [a])[i]? = some b) : (i < l.length ∧ l[i]? = some b) ∨ (i = l.length ∧ b = a) := by
  by_cases hi : i < l.length
  · rw [List.getElem?_append_left hi] at h; exact .inl ⟨hi, h⟩
  · have h1 := lt_of_get h
    rw [List.length_append] at h1
    have h2 : i = l.length := by simp at h1; omega
    subst h2
    rw [List.getElem?_append_right (Nat.le_refl _)] at h
    simp at h
    exact .inr ⟨rfl, h.symm⟩

theorem WF.addT {s : Now} {t : Term} (w : WF s) (k : TermOk s.terms.length t) : WF (addT s t) := by
  intro i u h
  rcases get_snoc (show (s.terms ++ [t])[i]? = some u from h) with ⟨_, h⟩ | ⟨e, e'⟩
  · exact w i u h
  · subst e; subst e'; exact ⟨k.x, k.y, k.no⟩
theorem InR.addT {s : Now} {t : Term} (r : InR s) : InR (addT s t) := fun p hp => by
  have h := r p hp
  show p.1 < (s.terms ++ [t]).length ∧ p.2 < (s.terms ++ [t]).length
  rw [List.length_append]
  exact ⟨by simp; omega, by simp; omega⟩

theorem getD_snoc_lt {l : List Nat} {a i : Nat} (h : i < l.length) : (l ++ [a]).getD i 0 = l.getD i 0 := by
  rw [List.getD_eq_getElem?_getD, List.getD_eq_getElem?_getD, List.getElem?_append_left h]
theorem getD_snoc_last {l : List Nat} {a : Nat} : (l ++ [a]).getD l.length 0 = a := by
  simp [List.getD_eq_getElem?_getD]

/-- the label of one term more -/
def headT (s : Now) (l : List Nat) (t : Term) : Nat := (hbp s.terms l t).getD s.terms.length

theorem hbp_some {ts : List Term} {l : List Nat} {t : Term} {c : Nat} (h : hbp ts l t = some c) : ∃ (k : Nat) (u : Term), ts[k]? = some u ∧ likeT l t u = true ∧ c = l.getD k 0 := by
  unfold hbp at h
  cases e : ts.findIdx? (likeT l t) with
  | none => rw [e] at h; cases h
  | some k =>
    rw [e] at h
    obtain ⟨hk, h1, _⟩ := List.findIdx?_eq_some_iff_getElem.mp e
    exact ⟨k, ts[k], List.getElem?_eq_getElem hk, h1, (Option.some.inj h).symm⟩
theorem hbp_none {ts : List Term} {l : List Nat} {t : Term} (h : hbp ts l t = none) : ∀ (k : Nat) (u : Term), ts[k]? = some u → likeT l t u = false := by
  unfold hbp at h
  rw [Option.map_eq_none_iff] at h
  intro k u hk
  have := List.findIdx?_eq_none_iff.mp h u (List.mem_of_getElem? hk)
  exact this

theorem canon_term {s : Now} {l : List Nat} {t : Term} (w : WF s) (r : InR s) (c : Canon s l) (k : TermOk s.terms.length t) : Canon (addT s t) (l ++ [headT s l t]) := by
  have wl := w.addT k
  have hl := c.ok.len
  have hn : (addT s t).terms.length = s.terms.length + 1 := by show (s.terms ++ [t]).length = _; rw [List.length_append]; rfl
  have gl : ∀ i, i < s.terms.length → (l ++ [headT s l t]).getD i 0 = l.getD i 0 := fun i hi => getD_snoc_lt (by rw [hl]; exact hi)
  have gn : (l ++ [headT s l t]).getD s.terms.length 0 = headT s l t := by rw [← hl]; exact getD_snoc_last
  have hlast : (addT s t).terms[s.terms.length]? = some t := by
    show (s.terms ++ [t])[s.terms.length]? = some t
    rw [List.getElem?_append_right (Nat.le_refl _)]; simp
  have hold : ∀ {i : Nat} {u : Term}, s.terms[i]? = some u → (addT s t).terms[i]? = some u := fun {i u} h => by
    show (s.terms ++ [t])[i]? = some u
    rw [List.getElem?_append_left (lt_of_get h)]; exact h
  -- what the new label is
  have hc : (∃ (q : Nat) (u : Term), s.terms[q]? = some u ∧ likeT l t u = true ∧ headT s l t = l.getD q 0) ∨ ((∀ (q : Nat) (u : Term), s.terms[q]? = some u → likeT l t u = false) ∧ headT s l t = s.terms.length) := by
    unfold headT
    cases e : hbp s.terms l t with
    | none => exact .inr ⟨hbp_none e, rfl⟩
    | some c =>
      obtain ⟨q, u, h1, h2, h3⟩ := hbp_some e
      exact .inl ⟨q, u, h1, h2, h3⟩
  have hP : ∀ {p q : Option Nat}, (∀ x, p = some x → x < s.terms.length) → (∀ x, q = some x → x < s.terms.length) → parts l p q = true → Parts (addT s t) p q := by
    intro p q hp hq e
    have := Parts_of c.sd hp hq e
    cases p with
    | none => cases q with
      | none => trivial
      | some y => cases e
    | some x => cases q with
      | none => cases e
      | some y => exact holds_addT this
  have sd : ∀ i j, i < s.terms.length → j ≤ s.terms.length → (l ++ [headT s l t]).getD i 0 = (l ++ [headT s l t]).getD j 0 → Holds (addT s t) i j := by
    intro i j hi hj e
    rcases Nat.lt_or_eq_of_le hj with hj | hj
    · rw [gl i hi, gl j hj] at e
      exact holds_addT (c.sd i j hi hj e)
    · subst hj
      rw [gl i hi, gn] at e
      rcases hc with ⟨q, u, h1, h2, h3⟩ | ⟨_, h3⟩
      · obtain ⟨g1, g2, g3⟩ := likeT_iff.mp h2
        have hq := lt_of_get h1
        refine .through (holds_addT (c.sd i q hi hq (e.trans h3))) (holds_cong wl (hold h1) hlast g1 (hP (w.px h1) k.x g2) (hP (w.py h1) k.y g3))
      · have := c.ok.le i hi
        omega
  refine canon_of wl r.addT ⟨by rw [List.length_append, hl, hn]; rfl, fun i hi => ?_, fun i hi => ?_⟩ (fun i j hi hj e => ?_) (fun p hp => ?_) (fun i j a b hi hj hs hx hy => ?_)
  · rw [hn] at hi
    by_cases h : i < s.terms.length
    · rw [gl i h]; exact c.ok.le i h
    · have e : i = s.terms.length := by omega
      subst e
      rw [gn]
      rcases hc with ⟨q, u, h1, h2, h3⟩ | ⟨_, h3⟩
      · have hq := lt_of_get h1
        have := c.ok.le q hq
        omega
      · omega
  · rw [hn] at hi
    by_cases h : i < s.terms.length
    · rw [gl i h]
      have := c.ok.le i h
      rw [gl _ (by omega)]
      exact c.ok.idem i h
    · have e : i = s.terms.length := by omega
      subst e
      rw [gn]
      rcases hc with ⟨q, u, h1, h2, h3⟩ | ⟨_, h3⟩
      · have hq := lt_of_get h1
        have := c.ok.le q hq
        rw [gl (headT s l t) (by omega), h3]
        exact c.ok.idem q hq
      · have g2 := gn
        rw [← h3] at g2
        exact g2
  · rw [hn] at hi hj
    by_cases h : i < s.terms.length
    · exact sd i j h (by omega) e
    · by_cases h' : j < s.terms.length
      · exact .back (sd j i h' (by omega) e.symm)
      · have e1 : i = j := by omega
        rw [e1]; exact .same j
  · have h := r p hp
    rw [gl _ h.1, gl _ h.2]
    exact c.said r p hp
  · have pc : ∀ {p q : Option Nat}, (∀ x, p = some x → x < s.terms.length) → (∀ x, q = some x → x < s.terms.length) → parts (l ++ [headT s l t]) p q = true → parts l p q = true := by
      intro p q hp hq e
      rw [← parts_congr (n := s.terms.length) gl hp hq]; exact e
    -- one old, the last
    have mix : ∀ {i : Nat} {a : Term}, s.terms[i]? = some a → a.sign = t.sign → parts l a.x t.x = true → parts l a.y t.y = true → l.getD i 0 = headT s l t := by
      intro i a hi hs hx hy
      have hi' : likeT l t a = true := likeT_iff.mpr ⟨hs, hx, hy⟩
      rcases hc with ⟨q, u, h1, h2, h3⟩ | ⟨h2, _⟩
      · obtain ⟨g1, g2, g3⟩ := likeT_iff.mp h2
        rw [h3]
        exact c.cl w _ _ _ _ hi h1 (hs.trans g1.symm) (parts_trans hx (parts_symm g2)) (parts_trans hy (parts_symm g3))
      · rw [h2 i a hi] at hi'; cases hi'
    rcases get_snoc (show (s.terms ++ [t])[i]? = some a from hi) with ⟨h1, h2⟩ | ⟨h1, h2⟩
    · rcases get_snoc (show (s.terms ++ [t])[j]? = some b from hj) with ⟨g1, g2⟩ | ⟨g1, g2⟩
      · rw [gl i h1, gl j g1]
        exact c.cl w _ _ _ _ h2 g2 hs (pc (w.px h2) (w.px g2) hx) (pc (w.py h2) (w.py g2) hy)
      · subst g1; subst g2
        rw [gl i h1, gn]
        exact mix h2 hs (pc (w.px h2) k.x hx) (pc (w.py h2) k.y hy)
    · subst h1; subst h2
      rcases get_snoc (show (s.terms ++ [a])[j]? = some b from hj) with ⟨g1, g2⟩ | ⟨g1, g2⟩
      · rw [gl j g1, gn]
        exact (mix g2 hs.symm (parts_symm (pc k.x (w.px g2) hx)) (parts_symm (pc k.y (w.py g2) hy))).symm
      · subst g1; rfl

/-! ### find -/
theorem find_spec {s : Now} {l : List Nat} {t : Term} (w : WF s) (c : Canon s l) :
    ((List.range s.terms.length).find? fun i => (List.range s.terms.length).any fun b => equal l i b && (match s.terms[b]? with
        | some u => u.sign == t.sign && (parts l u.x t.x && parts l u.y t.y)
        | none => false)) = hbp s.terms l t := by
  have any_iff : ∀ i, ((List.range s.terms.length).any fun b => equal l i b && (match s.terms[b]? with
        | some u => u.sign == t.sign && (parts l u.x t.x && parts l u.y t.y)
        | none => false)) = true ↔ ∃ (b : Nat) (u : Term), s.terms[b]? = some u ∧ likeT l t u = true ∧ l.getD i 0 = l.getD b 0 := by
    intro i
    rw [List.any_eq_true]
    constructor
    · rintro ⟨b, hb, h⟩
      rw [Bool.and_eq_true] at h
      obtain ⟨h1, h2⟩ := h
      cases e : s.terms[b]? with
      | none => rw [e] at h2; cases h2
      | some u => rw [e] at h2; exact ⟨b, u, e, h2, equal_iff.mp h1⟩
    · rintro ⟨b, u, e, h2, h1⟩
      refine ⟨b, List.mem_range.mpr (lt_of_get e), ?_⟩
      rw [Bool.and_eq_true]
      refine ⟨equal_iff.mpr h1, ?_⟩
      rw [e]; exact h2
  cases e : hbp s.terms l t with
  | none =>
    rw [List.find?_eq_none]
    intro i hi h
    obtain ⟨b, u, h1, h2, _⟩ := (any_iff i).mp h
    rw [hbp_none e b u h1] at h2; cases h2
  | some d =>
    obtain ⟨k, u, h1, h2, h3⟩ := hbp_some e
    have hk := lt_of_get h1
    have hd := c.ok.le k hk
    rw [List.find?_range_eq_some]
    refine ⟨(any_iff d).mpr ⟨k, u, h1, h2, by rw [h3]; exact c.ok.idem k hk⟩, List.mem_range.mpr (by omega), fun j hj => ?_⟩
    rw [Bool.not_eq_true', ← Bool.not_eq_true]
    intro h
    obtain ⟨b, v, g1, g2, g3⟩ := (any_iff j).mp h
    obtain ⟨a1, a2, a3⟩ := likeT_iff.mp h2
    obtain ⟨b1, b2, b3⟩ := likeT_iff.mp g2
    have hb : l.getD b 0 = l.getD k 0 := c.cl w _ _ _ _ g1 h1 (b1.trans a1.symm) (parts_trans b2 (parts_symm a2)) (parts_trans b3 (parts_symm a3))
    have := c.ok.le j (by omega)
    omega

/-! ### one saying more -/
theorem holds_join {s : Now} {a b i j : Nat} (h : Holds s i j) : Holds (s.join a b) i j := by
  induction h with
  | said h => exact .said (List.mem_append_left _ h)
  | same a => exact .same a
  | back _ ih => exact .back ih
  | through _ _ a b => exact .through a b
  | none_ h1 h2 => exact .none_ h1 h2
  | one h1 h2 _ ih => exact .one h1 h2 ih
  | two h1 h2 _ _ i1 i2 => exact .two h1 h2 i1 i2
theorem WF.join {s : Now} {a b : Nat} (w : WF s) : WF (s.join a b) := w
theorem InR.join {s : Now} {a b : Nat} (r : InR s) (ha : a < s.terms.length) (hb : b < s.terms.length) : InR (s.join a b) := fun p hp => by
  rcases List.mem_append.mp (show p ∈ s.equal ++ [(a, b)] from hp) with h | h
  · exact r p h
  · rw [List.mem_singleton.mp h]; exact ⟨ha, hb⟩

/-- on the way to a join's labels -/
structure Jn (s : Now) (l : List Nat) : Prop where
  ok : Ok s.terms.length l
  sd : Sd s l
  said : Said s l

theorem Jn.start {s : Now} {l : List Nat} {a b : Nat} (r : InR s) (c : Canon s l) (ha : a < s.terms.length) (hb : b < s.terms.length) : Jn (s.join a b) (relabel l a b) := by
  have sd0 : Sd (s.join a b) l := fun i j hi hj e => holds_join (c.sd i j hi hj e)
  refine ⟨c.ok.relabel ha hb, sd0.relabel (s := s.join a b) c.ok ha hb (.said (List.mem_append_right _ (List.mem_singleton.mpr rfl))), fun p hp => ?_⟩
  rcases List.mem_append.mp (show p ∈ s.equal ++ [(a, b)] from hp) with h | h
  · exact (rl_eq c.ok (r p h).1 (r p h).2).mpr (.inl (c.said r p h))
  · rw [List.mem_singleton.mp h]; exact relabel_ab c.ok ha hb
theorem Jn.step {s : Now} {l : List Nat} {i j : Nat} {t u : Term} (w : WF s) (r : InR s) (h : Jn s l) (hi : s.terms[i]? = some t) (hj : s.terms[j]? = some u) (e : likeT l u t = true) : Jn s (relabel l i j) := by
  obtain ⟨e1, e2, e3⟩ := likeT_iff.mp e
  exact ⟨h.ok.relabel (lt_of_get hi) (lt_of_get hj), h.sd.relabel h.ok (lt_of_get hi) (lt_of_get hj) (holds_cong w hi hj e1 (Parts_of h.sd (w.px hi) (w.px hj) e2) (Parts_of h.sd (w.py hi) (w.py hj) e3)), h.said.relabel h.ok r⟩
theorem Jn.canon {s : Now} {l : List Nat} (w : WF s) (r : InR s) (h : Jn s l) (c : Cl s l) : Canon s l := canon_of w r h.ok h.sd h.said c

/-! ### depths -/
def own (l : List Nat) (d : Nat → Nat) (t : Term) : Nat := match t.x, t.y with
  | none, _ => 1
  | some x, none => d (l.getD x 0) + 1
  | some x, some y => max (d (l.getD x 0)) (d (l.getD y 0)) + 1
/-- what the specification takes for a term's own depth -/
def ownS (s : Now) (l d : List Nat) (i : Nat) : Nat := match s.terms[i]? with
  | some ⟨_, none, _⟩ => 1
  | some ⟨_, some x, none⟩ => let a := d.getD (l.getD x 0) 0
    if a = 0 then 0 else a + 1
  | some ⟨_, some x, some y⟩ => let a := d.getD (l.getD x 0) 0
    let b := d.getD (l.getD y 0) 0
    if a = 0 ∨ b = 0 then 0 else max a b + 1
  | none => 0
def better (s : Now) (l d : List Nat) : List Nat := (List.range s.terms.length).map fun c => (List.range s.terms.length).foldl (fun (m i : Nat) => if l.getD i 0 = c ∧ ownS s l d i ≠ 0 ∧ (m = 0 ∨ ownS s l d i < m) then ownS s l d i else m) 0
theorem depths_succ (s : Now) (l : List Nat) (k : Nat) (d : List Nat) : depths s l (k + 1) d = depths s l k (better s l d) := rfl

theorem fold_min {P : Nat → Prop} [DecidablePred P] {f : Nat → Nat} : ∀ (xs : List Nat) (m : Nat), (m ≠ 0 → xs.foldl (fun m i => if P i ∧ f i ≠ 0 ∧ (m = 0 ∨ f i < m) then f i else m) m ≠ 0 ∧ xs.foldl (fun m i => if P i ∧ f i ≠ 0 ∧ (m = 0 ∨ f i < m) then f i else m) m ≤ m) ∧
    (∀ x, x ∈ xs → P x → f x ≠ 0 → xs.foldl (fun m i => if P i ∧ f i ≠ 0 ∧ (m = 0 ∨ f i < m) then f i else m) m ≠ 0 ∧ xs.foldl (fun m i => if P i ∧ f i ≠ 0 ∧ (m = 0 ∨ f i < m) then f i else m) m ≤ f x) ∧
    (xs.foldl (fun m i => if P i ∧ f i ≠ 0 ∧ (m = 0 ∨ f i < m) then f i else m) m = m ∨ ∃ x, x ∈ xs ∧ P x ∧ f x ≠ 0 ∧ f x = xs.foldl (fun m i => if P i ∧ f i ≠ 0 ∧ (m = 0 ∨ f i < m) then f i else m) m)
  | [], m => ⟨fun h => ⟨h, Nat.le_refl _⟩, fun x hx => by simp at hx, .inl rfl⟩
  | a :: r, m => by
    rw [List.foldl_cons]
    by_cases hc : P a ∧ f a ≠ 0 ∧ (m = 0 ∨ f a < m)
    · rw [if_pos hc]
      obtain ⟨h1, h2, h3⟩ := fold_min (P := P) (f := f) r (f a)
      have g := h1 hc.2.1
      refine ⟨fun hm => ⟨g.1, by omega⟩, fun x hx hp hf => ?_, ?_⟩
      · rcases List.mem_cons.mp hx with e | e
        · subst e; exact g
        · exact h2 x e hp hf
      · rcases h3 with e | ⟨x, hx, hp, hf, e⟩
        · exact .inr ⟨a, List.mem_cons_self .., hc.1, hc.2.1, e.symm⟩
        · exact .inr ⟨x, List.mem_cons_of_mem _ hx, hp, hf, e⟩
    · rw [if_neg hc]
      obtain ⟨h1, h2, h3⟩ := fold_min (P := P) (f := f) r m
      refine ⟨h1, fun x hx hp hf => ?_, ?_⟩
      · rcases List.mem_cons.mp hx with e | e
        · subst e
          have hm : m ≠ 0 ∧ m ≤ f x := by
            refine ⟨fun z => hc ⟨hp, hf, .inl z⟩, ?_⟩
            by_cases q : f x < m
            · exact absurd ⟨hp, hf, .inr q⟩ hc
            · omega
          have g := h1 hm.1
          exact ⟨g.1, by omega⟩
        · exact h2 x e hp hf
      · rcases h3 with e | ⟨x, hx, hp, hf, e⟩
        · exact .inl e
        · exact .inr ⟨x, List.mem_cons_of_mem _ hx, hp, hf, e⟩

/-- depths that no term's own betters, and each is some term's own -/
structure Dp (s : Now) (l : List Nat) (d : Nat → Nat) : Prop where
  le : ∀ (i : Nat) (t : Term), s.terms[i]? = some t → d (l.getD i 0) ≤ own l d t
  at_ : ∀ i, i < s.terms.length → ∃ (j : Nat) (t : Term), s.terms[j]? = some t ∧ l.getD j 0 = l.getD i 0 ∧ d (l.getD i 0) = own l d t

theorem own_pos (l : List Nat) (d : Nat → Nat) (t : Term) : 1 ≤ own l d t := by
  unfold own; split <;> omega

theorem Dp.pos {s : Now} {l : List Nat} {d : Nat → Nat} (h : Dp s l d) {i : Nat} (hi : i < s.terms.length) : 1 ≤ d (l.getD i 0) := by
  obtain ⟨j, t, _, _, e⟩ := h.at_ i hi
  rw [e]; exact own_pos l d t
theorem Dp.small {s : Now} {l : List Nat} {d : Nat → Nat} (w : WF s) (h : Dp s l d) : ∀ (k i : Nat), i < k → i < s.terms.length → d (l.getD i 0) ≤ i + 1
  | 0, i, h0, _ => by omega
  | k + 1, i, h0, hi => by
    have ht : s.terms[i]? = some s.terms[i] := List.getElem?_eq_getElem hi
    have h1 := h.le i _ ht
    obtain ⟨wx, wy, _⟩ := w i _ ht
    have : own l d s.terms[i] ≤ i + 1 := by
      unfold own
      split
      · omega
      · rename_i x ex ey
        have := Dp.small w h k x (by have := wx x ex; omega) (by have := wx x ex; omega)
        have := wx x ex
        omega
      · rename_i x y ex ey
        have h2 := wx x ex
        have h3 := wy y ey
        have := Dp.small w h k x (by omega) (by omega)
        have := Dp.small w h k y (by omega) (by omega)
        omega
    omega

theorem ownS_of {s : Now} {l v : List Nat} {d : Nat → Nat} {k i : Nat} {t : Term} (w : WF s) (h : Dp s l d) (hv : ∀ i, i < s.terms.length → v.getD (l.getD i 0) 0 = if d (l.getD i 0) ≤ k then d (l.getD i 0) else 0) (ht : s.terms[i]? = some t) :
    ownS s l v i = if own l d t ≤ k + 1 then own l d t else 0 := by
  unfold ownS
  rw [ht]
  obtain ⟨f, tx, ty⟩ := t
  cases tx with
  | none =>
    have e : own l d ⟨f, none, ty⟩ = 1 := by cases ty <;> rfl
    rw [e]
    show 1 = if 1 ≤ k + 1 then 1 else 0
    rw [if_pos (by omega)]
  | some x =>
    have hx := w.px ht x rfl
    have px := h.pos hx
    have vx := hv x hx
    cases ty with
    | none =>
      show (if v.getD (l.getD x 0) 0 = 0 then 0 else v.getD (l.getD x 0) 0 + 1) = if d (l.getD x 0) + 1 ≤ k + 1 then d (l.getD x 0) + 1 else 0
      rw [vx]
      by_cases q : d (l.getD x 0) ≤ k
      · rw [if_pos q, if_neg (by omega), if_pos (by omega)]
      · rw [if_neg q, if_pos rfl, if_neg (by omega)]
    | some y =>
      have hy := w.py ht y rfl
      have py := h.pos hy
      have vy := hv y hy
      show (if v.getD (l.getD x 0) 0 = 0 ∨ v.getD (l.getD y 0) 0 = 0 then 0 else max (v.getD (l.getD x 0) 0) (v.getD (l.getD y 0) 0) + 1) = if max (d (l.getD x 0)) (d (l.getD y 0)) + 1 ≤ k + 1 then max (d (l.getD x 0)) (d (l.getD y 0)) + 1 else 0
      rw [vx, vy]
      by_cases q : d (l.getD x 0) ≤ k
      · by_cases q' : d (l.getD y 0) ≤ k
        · rw [if_pos q, if_pos q', if_neg (by omega), if_pos (by omega)]
        · rw [if_neg q', if_pos (.inr rfl), if_neg (by omega)]
      · rw [if_neg q, if_pos (.inl rfl), if_neg (by omega)]

theorem better_of {s : Now} {l v : List Nat} {d : Nat → Nat} {k : Nat} (w : WF s) (o : Ok s.terms.length l) (h : Dp s l d) (hv : ∀ i, i < s.terms.length → v.getD (l.getD i 0) 0 = if d (l.getD i 0) ≤ k then d (l.getD i 0) else 0) :
    ∀ i, i < s.terms.length → (better s l v).getD (l.getD i 0) 0 = if d (l.getD i 0) ≤ k + 1 then d (l.getD i 0) else 0 := by
  intro i hi
  have hc : l.getD i 0 < s.terms.length := by have := o.le i hi; omega
  unfold better
  rw [getD_map_lt (by rw [List.length_range]; exact hc), range_get hc]
  obtain ⟨_, h2, h3⟩ := fold_min (P := fun j => l.getD j 0 = l.getD i 0) (f := ownS s l v) (List.range s.terms.length) 0
  generalize hR : (List.range s.terms.length).foldl (fun (m j : Nat) => if l.getD j 0 = l.getD i 0 ∧ ownS s l v j ≠ 0 ∧ (m = 0 ∨ ownS s l v j < m) then ownS s l v j else m) 0 = R at h2 h3 ⊢
  have lo : R ≠ 0 → d (l.getD i 0) ≤ R ∧ R ≤ k + 1 := by
    intro hR0
    rcases h3 with e | ⟨x, hx, hp, hf, e⟩
    · exact absurd e hR0
    · have hx' := List.mem_range.mp hx
      have ht : s.terms[x]? = some s.terms[x] := List.getElem?_eq_getElem hx'
      have e1 := ownS_of w h hv ht
      have e2 := h.le x _ ht
      rw [hp] at e2
      rw [e1] at hf e
      by_cases q : own l d s.terms[x] ≤ k + 1
      · rw [if_pos q] at e; omega
      · rw [if_neg q] at hf; exact absurd rfl hf
  by_cases q : d (l.getD i 0) ≤ k + 1
  · rw [if_pos q]
    obtain ⟨j, t, ht, hj, e⟩ := h.at_ i hi
    have e1 := ownS_of w h hv ht
    rw [← e, if_pos q] at e1
    have hpos := h.pos hi
    obtain ⟨g1, g2⟩ := h2 j (List.mem_range.mpr (lt_of_get ht)) hj (by omega)
    have := lo g1
    omega
  · rw [if_neg q]
    by_cases z : R = 0
    · exact z
    · have := lo z
      omega

theorem depths_of {s : Now} {l : List Nat} {d : Nat → Nat} (w : WF s) (o : Ok s.terms.length l) (h : Dp s l d) : ∀ (k j : Nat) (v : List Nat), (∀ i, i < s.terms.length → v.getD (l.getD i 0) 0 = if d (l.getD i 0) ≤ j then d (l.getD i 0) else 0) →
    ∀ i, i < s.terms.length → (depths s l k v).getD (l.getD i 0) 0 = if d (l.getD i 0) ≤ j + k then d (l.getD i 0) else 0
  | 0, j, v, hv => hv
  | k + 1, j, v, hv => by
    intro i hi
    rw [depths_succ, depths_of w o h k (j + 1) _ (better_of w o h hv) i hi]
    have e : j + 1 + k = j + (k + 1) := by omega
    rw [e]

theorem depth_spec {s : Now} {l : List Nat} {d : Nat → Nat} (w : WF s) (o : Ok s.terms.length l) (h : Dp s l d) {a : Nat} (ha : a < s.terms.length) :
    (depths s l (s.terms.length + 1) (List.replicate s.terms.length 0)).getD (l.getD a 0) 0 = d (l.getD a 0) := by
  rw [depths_of w o h (s.terms.length + 1) 0 _ (fun i hi => ?_) a ha, if_pos]
  · have := Dp.small w h (a + 1) a (by omega) ha
    omega
  · have := h.pos hi
    rw [if_neg (by omega)]
    generalize l.getD i 0 = x
    rw [List.getD_eq_getElem?_getD, List.getElem?_replicate]
    split <;> rfl
end Eqm

namespace Eqm
open Sc13 Sc13Neutral

/-! ### the calls, one behind another -/
theorem whole_id (c : List (List Int)) : PySc13.whole c = c := by
  unfold PySc13.whole
  split <;> rfl
theorem map_whole : ∀ cs : List (List (List Int)), cs.map PySc13.whole = cs
  | [] => rfl
  | c :: cs => by rw [List.map_cons, whole_id, map_whole cs]

/-- how many numbers a call has behind its own -/
def argn (p : Int) : Nat := if p = 1 ∨ p = 2 then 3 else if p = 3 ∨ p = 4 ∨ p = 5 then 2 else if p = 6 ∨ p = 7 ∨ p = 8 ∨ p = 9 then 1 else 0
theorem shape_some {p : Int} {q : Nat × Nat} (h : PySc13.shape p = some q) : q = (argn p, 0) ∧ 0 ≤ p ∧ p ≤ 11 := by
  by_cases e0 : p = 0
  · subst e0; have h' : some ((0 : Nat), (0 : Nat)) = some q := h; cases h'; exact ⟨rfl, by decide, by decide⟩
  by_cases e1 : p = 1
  · subst e1; have h' : some ((3 : Nat), (0 : Nat)) = some q := h; cases h'; exact ⟨rfl, by decide, by decide⟩
  by_cases e2 : p = 2
  · subst e2; have h' : some ((3 : Nat), (0 : Nat)) = some q := h; cases h'; exact ⟨rfl, by decide, by decide⟩
  by_cases e3 : p = 3
  · subst e3; have h' : some ((2 : Nat), (0 : Nat)) = some q := h; cases h'; exact ⟨rfl, by decide, by decide⟩
  by_cases e4 : p = 4
  · subst e4; have h' : some ((2 : Nat), (0 : Nat)) = some q := h; cases h'; exact ⟨rfl, by decide, by decide⟩
  by_cases e5 : p = 5
  · subst e5; have h' : some ((2 : Nat), (0 : Nat)) = some q := h; cases h'; exact ⟨rfl, by decide, by decide⟩
  by_cases e6 : p = 6
  · subst e6; have h' : some ((1 : Nat), (0 : Nat)) = some q := h; cases h'; exact ⟨rfl, by decide, by decide⟩
  by_cases e7 : p = 7
  · subst e7; have h' : some ((1 : Nat), (0 : Nat)) = some q := h; cases h'; exact ⟨rfl, by decide, by decide⟩
  by_cases e8 : p = 8
  · subst e8; have h' : some ((1 : Nat), (0 : Nat)) = some q := h; cases h'; exact ⟨rfl, by decide, by decide⟩
  by_cases e9 : p = 9
  · subst e9; have h' : some ((1 : Nat), (0 : Nat)) = some q := h; cases h'; exact ⟨rfl, by decide, by decide⟩
  by_cases e10 : p = 10
  · subst e10; have h' : some ((0 : Nat), (0 : Nat)) = some q := h; cases h'; exact ⟨rfl, by decide, by decide⟩
  by_cases e11 : p = 11
  · subst e11; have h' : some ((0 : Nat), (0 : Nat)) = some q := h; cases h'; exact ⟨rfl, by decide, by decide⟩
  simp [PySc13.shape, e0, e1, e2, e3, e4, e5, e6, e7, e8, e9, e10, e11] at h

theorem calls_step {f : Nat} {p : Int} {r : List Int} {cs : List (List (List Int))} (h : PyFlat.calls PySc13.shape f (p :: r) = some cs) :
    ∃ f' cs', 0 ≤ p ∧ p ≤ 11 ∧ argn p ≤ r.length ∧ cs = [p :: r.take (argn p)] :: cs' ∧ PyFlat.calls PySc13.shape f' (r.drop (argn p)) = some cs' := by
  cases f with
  | zero => cases h
  | succ f =>
    unfold PyFlat.calls at h
    unfold PyFlat.call at h
    cases e : PySc13.shape p with
    | none => simp only [e] at h; cases h
    | some q =>
      obtain ⟨rfl, h0, h1⟩ := shape_some e
      simp only [e] at h
      by_cases hl : r.length < argn p
      · simp only [hl, if_true] at h; cases h
      · simp only [hl, if_false, PyFlat.rows] at h
        cases e2 : PyFlat.calls PySc13.shape f (r.drop (argn p)) with
        | none => simp only [e2] at h; cases h
        | some cs' =>
          simp only [e2] at h
          cases h
          exact ⟨f, cs', h0, h1, by omega, rfl, e2⟩
theorem calls_nil {f : Nat} {cs : List (List (List Int))} (h : PyFlat.calls PySc13.shape f [] = some cs) : cs = [] := by
  cases f <;> (cases h; rfl)

theorem answers_of {l : List Int} {cs : List (List (List Int))} (h : PyFlat.calls PySc13.shape l.length l = some cs) : PySc13.answers l = PyFlat.told (PyFlat.played step start cs) := by
  unfold PySc13.answers PySc13.calls
  simp only [h, map_whole]
theorem asked_of {l : List Int} (h : PySc13.answers_asked l = true) : ∃ cs, PyFlat.calls PySc13.shape l.length l = some cs ∧ cs.all asked1 = true := by
  unfold PySc13.answers_asked PySc13.calls at h
  cases e : PyFlat.calls PySc13.shape l.length l with
  | none => simp only [e] at h; cases h
  | some cs =>
    simp only [e, map_whole, Bool.and_eq_true] at h
    refine ⟨cs, rfl, ?_⟩
    have h2 := h.2
    unfold asked at h2
    rw [Bool.and_eq_true] at h2
    exact h2.1
theorem told_cons (a : List Int) (r : List (List Int)) : PyFlat.told (a :: r) = ((a.length : Int) :: a) ++ PyFlat.told r := by
  unfold PyFlat.told
  rw [List.flatMap_cons]

/-! ### a state of sense -/
structure Good (n : Now) : Prop where
  wf : WF n
  ir : InR n
  dr : ∀ p, p ∈ n.differ → p.1 < n.terms.length ∧ p.2 < n.terms.length
  tl : n.terms.length ≤ 512
  el : n.equal.length ≤ 1024
  dl : n.differ.length ≤ 1024
structure GoodA (s : Abs) : Prop where
  now : Good s.now
  marks : ∀ m, m ∈ s.marks → Good m
  few : s.marks.length ≤ 64
theorem good_none : Good ⟨[], [], []⟩ where
  wf := fun i t h => by simp at h
  ir := fun p hp => by simp at hp
  dr := fun p hp => by simp at hp
  tl := by simp
  el := by simp
  dl := by simp
theorem good_empty : GoodA empty where
  now := good_none
  marks := fun m hm => by simp [empty] at hm
  few := by simp [empty]
theorem Good.canon {n : Now} (g : Good n) : Canon n (classes n) := classes_canon g.wf g.ir

theorem has_iff {n : Now} {a : Int} : n.has a = true ↔ 0 ≤ a ∧ a < (n.terms.length : Int) := by
  unfold Now.has
  rw [Bool.and_eq_true, decide_eq_true_eq, decide_eq_true_eq]
theorem fine_ok {n : Now} {f : Nat} {x y : Int} (h : n.fine x y = true) : TermOk n.terms.length (termOf f x y) := by
  unfold Now.fine at h
  rw [Bool.and_eq_true, Bool.and_eq_true] at h
  obtain ⟨h1, h2, h3⟩ := h
  have part : ∀ {z : Int}, n.may z = true → ∀ k, partOf z = some k → k < n.terms.length := by
    intro z hz k hk
    unfold partOf at hk
    split at hk
    · cases hk
    · rename_i hn
      cases hk
      unfold Now.may at hz
      rw [Bool.or_eq_true, has_iff] at hz
      rcases hz with hz | hz
      · omega
      · exact absurd (beq_iff_eq.mp hz) hn
  refine ⟨part h1, part h2, fun hx => ?_⟩
  have hx' : partOf x = none := hx
  unfold partOf at hx'
  split at hx'
  · rename_i e
    subst e
    show partOf y = none
    unfold partOf
    by_cases e : y = -1
    · rw [if_pos e]
    · exfalso
      simp [e] at h3
  · cases hx'
theorem Good.addT {n : Now} {t : Term} (g : Good n) (k : TermOk n.terms.length t) (h : n.terms.length < 512) : Good (addT n t) := by
  have hl : (Eqm.addT n t).terms.length = n.terms.length + 1 := by show (n.terms ++ [t]).length = _; rw [List.length_append]; rfl
  refine ⟨g.wf.addT k, g.ir.addT, fun p hp => ?_, by omega, g.el, g.dl⟩
  have := g.dr p hp
  omega
theorem Good.join {n : Now} {a b : Nat} (g : Good n) (ha : a < n.terms.length) (hb : b < n.terms.length) (h : n.equal.length < 1024) : Good (n.join a b) :=
  ⟨g.wf.join, g.ir.join ha hb, g.dr, g.tl, by show (n.equal ++ [(a, b)]).length ≤ 1024; rw [List.length_append]; simp; omega, g.dl⟩
theorem Good.part {n : Now} {a b : Nat} (g : Good n) (ha : a < n.terms.length) (hb : b < n.terms.length) (h : n.differ.length < 1024) : Good (n.part a b) := by
  refine ⟨g.wf, g.ir, fun p hp => ?_, g.tl, g.el, by show (n.differ ++ [(a, b)]).length ≤ 1024; rw [List.length_append]; simp; omega⟩
  rcases List.mem_append.mp (show p ∈ n.differ ++ [(a, b)] from hp) with h | h
  · exact g.dr p h
  · rw [List.mem_singleton.mp h]; exact ⟨ha, hb⟩

/-! ### the answers, call by call, over the labels -/
example (s : Abs) (f x y : Int) : step s [[1, f, x, y]] = (if s.now.fine x y = false then (s, [-2]) else
    match s.now.terms.findIdx? fun u => u == termOf f.toNat x y with
    | some i => (s, [(i : Int)])
    | none => if TERMS ≤ s.now.terms.length then (s, [-2]) else (s.put (addT s.now (termOf f.toNat x y)), [(s.now.terms.length : Int)])) := rfl
example (s : Abs) (a : Int) : step s [[8, a]] = (s, if s.now.has a = false then [(-2 : Int)] else [(((depths s.now (classes s.now) (s.now.terms.length + 1) (List.replicate s.now.terms.length 0)).getD ((classes s.now).getD a.toNat 0) 0 : Nat) : Int)]) := rfl
end Eqm

namespace Eqm
open Sc13 Sc13Neutral
/-! ### terms as three numbers -/
def pI : Option Nat → Int
  | none => -1
  | some x => (x : Int)
def tvI (t : Term) : List Int := [(t.sign : Int), pI t.x, pI t.y]
theorem pI_inj {p q : Option Nat} (h : pI p = pI q) : p = q := by
  cases p <;> cases q
  · rfl
  · simp only [pI] at h; omega
  · simp only [pI] at h; omega
  · simp only [pI] at h
    congr 1
    omega
theorem tvI_inj {t u : Term} (h : tvI t = tvI u) : t = u := by
  obtain ⟨f, x, y⟩ := t
  obtain ⟨g, z, w⟩ := u
  unfold tvI at h
  injection h with h1 h2
  injection h2 with h2 h3
  injection h3 with h3 h4
  have e1 : f = g := by simp only at h1; omega
  have e2 : x = z := pI_inj h2
  have e3 : y = w := pI_inj h3
  rw [e1, e2, e3]
theorem may_pI {n : Now} {x : Int} (h : n.may x = true) : pI (partOf x) = x := by
  unfold Now.may at h
  rw [Bool.or_eq_true, has_iff] at h
  unfold partOf
  split
  · rename_i e; rw [e]; rfl
  · rename_i e
    rcases h with h | h
    · simp only [pI]; omega
    · exact absurd (beq_iff_eq.mp h) e
theorem fine_may {n : Now} {x y : Int} (h : n.fine x y = true) : n.may x = true ∧ n.may y = true := by
  unfold Now.fine at h
  rw [Bool.and_eq_true, Bool.and_eq_true] at h
  exact ⟨h.1, h.2.1⟩
theorem tvI_termOf {n : Now} {f x y : Int} (hf : 0 ≤ f) (h : n.fine x y = true) : tvI (termOf f.toNat x y) = [f, x, y] := by
  obtain ⟨h1, h2⟩ := fine_may h
  show [((f.toNat : Nat) : Int), pI (partOf x), pI (partOf y)] = [f, x, y]
  rw [may_pI h1, may_pI h2, Int.toNat_of_nonneg hf]
/-- what the program asks of parts -/
theorem fine_eq (n : Now) (x y : Int) : n.fine x y = if x = -1 then decide (y = -1) else n.has x && (decide (y = -1) || n.has y) := by
  unfold Now.fine Now.may
  by_cases hx : x = -1
  · subst hx
    rw [if_pos rfl]
    by_cases hy : y = -1
    · subst hy; simp
    · simp [hy]
  · rw [if_neg hx]
    have hx' : (x == -1) = false := beq_eq_false_iff_ne.mpr hx
    by_cases hy : y = -1
    · subst hy; simp [hx']
    · have hy' : (y == -1) = false := beq_eq_false_iff_ne.mpr hy
      simp [hx', hy', hy]
/-- the place of that very term -/
theorem find_there {ts : List Term} {t : Term} : (ts.map tvI).any (fun ks => decide (ks = tvI t)) = (ts.findIdx? fun u => u == t).isSome := by
  rw [List.findIdx?_isSome, List.any_map]
  congr 1
  funext u
  show decide (tvI u = tvI t) = (u == t)
  rw [Bool.eq_iff_iff, decide_eq_true_eq, beq_iff_eq]
  exact ⟨tvI_inj, fun e => by rw [e]⟩
theorem find_at {ts : List Term} {t : Term} {i : Nat} (h : ts.findIdx? (fun u => u == t) = some i) : (ts.map tvI)[i]? = some (tvI t) ∧ ∀ m, m < i → (ts.map tvI)[m]? ≠ some (tvI t) := by
  obtain ⟨h1, h2, h3⟩ := List.findIdx?_eq_some_iff_getElem.mp h
  refine ⟨?_, fun m hm e => ?_⟩
  · rw [List.getElem?_map, List.getElem?_eq_getElem h1, beq_iff_eq.mp h2]; rfl
  · have hml : m < ts.length := by omega
    rw [List.getElem?_map, List.getElem?_eq_getElem hml] at e
    have := h3 m hm
    simp only [Option.map_some, Option.some.injEq] at e
    rw [tvI_inj e] at this
    simp at this

/-! ### the labels of what is there -/
theorem classes_addT {n : Now} {t : Term} (g : Good n) (k : TermOk n.terms.length t) : classes (addT n t) = classes n ++ [headT n (classes n) t] :=
  (classes_canon (g.wf.addT k) g.ir.addT).unique (canon_term g.wf g.ir g.canon k)
theorem close_congr {s s' : Now} (h : s.terms = s'.terms) : ∀ (k : Nat) (l : List Nat), close s k l = close s' k l
  | 0, _ => rfl
  | k + 1, l => by
    unfold close
    simp only [h, close_congr h k]
theorem classes_part (n : Now) (a b : Nat) : classes (n.part a b) = classes n := by
  unfold classes
  rw [close_congr (s := n.part a b) (s' := n) rfl]
  rfl
theorem classes_len {n : Now} (g : Good n) : (classes n).length = n.terms.length := g.canon.ok.len
theorem classes_none : classes ⟨[], [], []⟩ = [] := rfl

/-! ### the answers -/
theorem step_find {s : Abs} {f x y : Int} (g : Good s.now) (h : s.now.fine x y = true) : step s [[2, f, x, y]] = (s, [pI (hbp s.now.terms (classes s.now) (termOf f.toNat x y))]) := by
  have e := find_spec (t := termOf f.toNat x y) g.wf g.canon
  show (s, if s.now.fine x y = false then [(-2 : Int)] else _) = _
  rw [if_neg (by rw [h]; exact Bool.noConfusion)]
  refine congrArg (Prod.mk s) ?_
  refine (congrArg (fun o : Option Nat => match o with | some i => [(i : Int)] | none => [(-1 : Int)]) e).trans ?_
  cases hbp s.now.terms (classes s.now) (termOf f.toNat x y) <;> rfl
end Eqm

namespace Eqm
open Sc13 Sc13Neutral
/-! ### the least depths, as the program finds them -/
def low1 (ts : List Term) (l v : List Nat) (i : Nat) : List Nat := match ts[i]? with
  | some t => v.set (l.getD i 0) (min (v.getD (l.getD i 0) 0) (own l (fun c => v.getD c 0) t))
  | none => v
def lowN (ts : List Term) (l v : List Nat) : Nat → List Nat
  | 0 => v
  | i + 1 => low1 ts l (lowN ts l v i) i
theorem getD_set (v : List Nat) (i j x : Nat) : (v.set i x).getD j 0 = if i = j ∧ i < v.length then x else v.getD j 0 := by
  rw [List.getD_eq_getElem?_getD, List.getD_eq_getElem?_getD, List.getElem?_set]
  by_cases h : i = j
  · subst h
    by_cases h2 : i < v.length
    · simp [h2]
    · simp [h2]
  · simp [h]
theorem own_mono {l : List Nat} {d e : Nat → Nat} (h : ∀ c, d c ≤ e c) (t : Term) : own l d t ≤ own l e t := by
  unfold own
  split
  · exact Nat.le_refl _
  · rename_i x _ _
    have := h (l.getD x 0); omega
  · rename_i x y _ _
    have := h (l.getD x 0); have := h (l.getD y 0); omega
theorem low1_len (ts : List Term) (l v : List Nat) (i : Nat) : (low1 ts l v i).length = v.length := by
  unfold low1; split
  · rw [List.length_set]
  · rfl
theorem low1_le (ts : List Term) (l v : List Nat) (i c : Nat) : (low1 ts l v i).getD c 0 ≤ v.getD c 0 := by
  unfold low1; split
  · rw [getD_set]
    split
    · rename_i h; rw [← h.1]; exact Nat.min_le_left _ _
    · exact Nat.le_refl _
  · exact Nat.le_refl _
theorem lowN_len (ts : List Term) (l v : List Nat) : ∀ i, (lowN ts l v i).length = v.length
  | 0 => rfl
  | i + 1 => (low1_len ts l _ i).trans (lowN_len ts l v i)
theorem lowN_le (ts : List Term) (l v : List Nat) (c : Nat) : ∀ i, (lowN ts l v i).getD c 0 ≤ v.getD c 0
  | 0 => Nat.le_refl _
  | i + 1 => Nat.le_trans (low1_le ts l _ i c) (lowN_le ts l v c i)
/-- not below what some term of the class tells, but at the start -/
def Abv (s : Now) (l v : List Nat) : Prop := ∀ i, i < s.terms.length → v.getD (l.getD i 0) 0 = s.terms.length ∨ ∃ (j : Nat) (t : Term), s.terms[j]? = some t ∧ l.getD j 0 = l.getD i 0 ∧ own l (fun c => v.getD c 0) t ≤ v.getD (l.getD i 0) 0
theorem Abv.low1 {s : Now} {l v : List Nat} (o : Ok s.terms.length l) (hv : v.length = s.terms.length) (h : Abv s l v) (i : Nat) : Abv s l (low1 s.terms l v i) := by
  intro k hk
  have mono := own_mono (l := l) (fun c => low1_le s.terms l v i c)
  cases ht : s.terms[i]? with
  | none =>
    have e : Eqm.low1 s.terms l v i = v := by unfold Eqm.low1; rw [ht]
    rw [e]; exact h k hk
  | some t =>
    have e : Eqm.low1 s.terms l v i = v.set (l.getD i 0) (min (v.getD (l.getD i 0) 0) (own l (fun c => v.getD c 0) t)) := by unfold Eqm.low1; rw [ht]
    by_cases c : l.getD i 0 = l.getD k 0 ∧ own l (fun c => v.getD c 0) t < v.getD (l.getD i 0) 0
    · refine .inr ⟨i, t, ht, c.1, Nat.le_trans (mono t) ?_⟩
      have hl : l.getD i 0 < v.length := by have := o.le i (lt_of_get ht); have := lt_of_get ht; omega
      rw [e, getD_set, if_pos ⟨c.1, hl⟩, Nat.min_eq_right (by omega)]
      exact Nat.le_refl _
    · have e2 : (Eqm.low1 s.terms l v i).getD (l.getD k 0) 0 = v.getD (l.getD k 0) 0 := by
        rw [e, getD_set]
        split
        · rename_i h2
          rw [← h2.1]
          have : ¬ own l (fun c => v.getD c 0) t < v.getD (l.getD i 0) 0 := fun z => c ⟨h2.1, z⟩
          exact Nat.min_eq_left (by omega)
        · rfl
      rw [e2]
      rcases h k hk with h | ⟨j, u, hj, hl, ho⟩
      · exact .inl h
      · exact .inr ⟨j, u, hj, hl, Nat.le_trans (mono u) ho⟩
theorem Abv.lowN {s : Now} {l v : List Nat} (o : Ok s.terms.length l) (hv : v.length = s.terms.length) (h : Abv s l v) : ∀ i, Abv s l (lowN s.terms l v i)
  | 0 => h
  | i + 1 => Abv.low1 o ((lowN_len s.terms l v i).trans hv) (Abv.lowN o hv h i) i
theorem low_fix {ts : List Term} {l v : List Nat} (hl : ∀ i, i < ts.length → l.getD i 0 < v.length) : ∀ n, (∀ c, (lowN ts l v n).getD c 0 = v.getD c 0) → ∀ (i : Nat) (t : Term), i < n → ts[i]? = some t → v.getD (l.getD i 0) 0 ≤ own l (fun c => v.getD c 0) t
  | 0, _, i, t, hi, _ => by omega
  | n + 1, h, i, t, hi, ht => by
    have h0 : ∀ c, (lowN ts l v n).getD c 0 = v.getD c 0 := fun c => Nat.le_antisymm (lowN_le ts l v c n) (by rw [← h c]; exact low1_le ts l _ n c)
    rcases Nat.lt_or_eq_of_le (Nat.le_of_lt_succ hi) with hi | hi
    · exact low_fix hl n h0 i t hi ht
    · subst hi
      have e := h (l.getD i 0)
      have e1 : Eqm.lowN ts l v (i + 1) = (lowN ts l v i).set (l.getD i 0) (min ((lowN ts l v i).getD (l.getD i 0) 0) (own l (fun c => (lowN ts l v i).getD c 0) t)) := by
        show low1 ts l _ i = _
        unfold low1; rw [ht]
      have e2 : (fun c => (lowN ts l v i).getD c 0) = fun c => v.getD c 0 := funext h0
      rw [e1, getD_set, if_pos ⟨rfl, by rw [lowN_len]; exact hl i (lt_of_get ht)⟩, h0, e2] at e
      omega
/-- no round changes it: the depths -/
theorem low_dp {s : Now} {l v : List Nat} (w : WF s) (o : Ok s.terms.length l) (hv : v.length = s.terms.length) (ab : Abv s l v) (fx : lowN s.terms l v s.terms.length = v) : Dp s l (fun c => v.getD c 0) := by
  have le : ∀ (i : Nat) (t : Term), s.terms[i]? = some t → v.getD (l.getD i 0) 0 ≤ own l (fun c => v.getD c 0) t := fun i t ht =>
    low_fix (fun i hi => by have := o.le i hi; omega) s.terms.length (fun c => by rw [fx]) i t (lt_of_get ht) ht
  have small : ∀ (k i : Nat), i < k → i < s.terms.length → v.getD (l.getD i 0) 0 ≤ i + 1 := by
    intro k
    induction k with
    | zero => intro i hi; omega
    | succ k ih =>
      intro i hi hn
      have ht : s.terms[i]? = some s.terms[i] := List.getElem?_eq_getElem hn
      have h1 := le i _ ht
      generalize s.terms[i] = t at ht h1
      obtain ⟨wx, wy, _⟩ := w i t ht
      unfold own at h1
      split at h1
      · omega
      · rename_i x ex _
        have := wx x ex
        have := ih x (by omega) (by omega)
        dsimp only at h1
        omega
      · rename_i x y ex ey
        have := wx x ex
        have := wy y ey
        have := ih x (by omega) (by omega)
        have := ih y (by omega) (by omega)
        dsimp only at h1
        omega
  refine ⟨le, fun i hi => ?_⟩
  rcases ab i hi with h | ⟨j, t, hj, hl, ho⟩
  · have hc := o.le i hi
    have hid := o.idem i hi
    have hcn : l.getD i 0 < s.terms.length := by omega
    have ht : s.terms[l.getD i 0]? = some s.terms[l.getD i 0] := List.getElem?_eq_getElem hcn
    have h1 := le _ _ ht
    refine ⟨l.getD i 0, _, ht, hid, Nat.le_antisymm (by rw [hid] at h1; exact h1) ?_⟩
    show own l (fun c => v.getD c 0) _ ≤ v.getD (l.getD i 0) 0
    rw [h]
    generalize s.terms[l.getD i 0] = t at ht h1
    obtain ⟨wx, wy, _⟩ := w _ t ht
    unfold own
    split
    · omega
    · rename_i x ex _
      have := wx x ex
      have := small (x + 1) x (by omega) (by omega)
      dsimp only
      omega
    · rename_i x y ex ey
      have := wx x ex
      have := wy y ey
      have := small (x + 1) x (by omega) (by omega)
      have := small (y + 1) y (by omega) (by omega)
      dsimp only
      omega
  · exact ⟨j, t, hj, hl, Nat.le_antisymm (by rw [← hl]; exact le j t hj) ho⟩
theorem abv_start (s : Now) (l : List Nat) (o : Ok s.terms.length l) : Abv s l (List.replicate s.terms.length s.terms.length) := by
  intro i hi
  left
  have := o.le i hi
  rw [List.getD_eq_getElem?_getD, List.getElem?_replicate, if_pos (by omega)]
  rfl
/-- a round that changes something makes the sum less -/
theorem sum_le : ∀ {v w : List Nat}, v.length = w.length → (∀ c, v.getD c 0 ≤ w.getD c 0) → v.sum ≤ w.sum ∧ (v ≠ w → v.sum < w.sum)
  | [], [], _, _ => ⟨Nat.le_refl _, fun h => absurd rfl h⟩
  | a :: v, b :: w, hl, h => by
    have h0 : a ≤ b := h 0
    obtain ⟨i1, i2⟩ := sum_le (v := v) (w := w) (by simpa using hl) (fun c => h (c + 1))
    rw [List.sum_cons, List.sum_cons]
    refine ⟨by omega, fun ne => ?_⟩
    by_cases e : a = b
    · have : v ≠ w := fun z => ne (by rw [e, z])
      have := i2 this
      omega
    · omega
  | [], _ :: _, hl, _ => by simp at hl
  | _ :: _, [], hl, _ => by simp at hl
theorem low_sum {ts : List Term} {l v : List Nat} (n : Nat) (h : lowN ts l v n ≠ v) : (lowN ts l v n).sum < v.sum := (sum_le (lowN_len ts l v n) (fun c => lowN_le ts l v c n)).2 h
theorem step_depth {s : Abs} {v : List Nat} {a : Nat} (g : Good s.now) (ha : a < s.now.terms.length) (hv : v.length = s.now.terms.length) (ab : Abv s.now (classes s.now) v) (fx : lowN s.now.terms (classes s.now) v s.now.terms.length = v) :
    step s [[8, (a : Int)]] = (s, [((v.getD ((classes s.now).getD a 0) 0 : Nat) : Int)]) := by
  have d := low_dp g.wf g.canon.ok hv ab fx
  have e := depth_spec g.wf g.canon.ok d ha
  have hh : s.now.has (a : Int) = true := has_iff.mpr ⟨by omega, by omega⟩
  show (s, if s.now.has (a : Int) = false then [(-2 : Int)] else [(((depths s.now (classes s.now) (s.now.terms.length + 1) (List.replicate s.now.terms.length 0)).getD ((classes s.now).getD (a : Int).toNat 0) 0 : Nat) : Int)]) = _
  rw [if_neg (by rw [hh]; exact Bool.noConfusion), Int.toNat_natCast, e]
end Eqm

namespace Eqm
open Sc13 Sc13Neutral
/-! ### what a call does, way by way -/
theorem nf {b : Bool} (h : b = true) : ¬ b = false := by rw [h]; exact Bool.noConfusion
section
variable {s : Abs} {f x y a b : Int}
theorem st_init : step s [[0]] = (empty, [0]) := rfl
theorem st_term_ref (h : s.now.fine x y = false) : step s [[1, f, x, y]] = (s, [-2]) := by
  show (if s.now.fine x y = false then (s, [-2]) else _) = _
  rw [if_pos h]
theorem st_term_there {i : Nat} (h : s.now.fine x y = true) (hi : s.now.terms.findIdx? (fun u => u == termOf f.toNat x y) = some i) : step s [[1, f, x, y]] = (s, [(i : Int)]) := by
  show (if s.now.fine x y = false then (s, [-2]) else match s.now.terms.findIdx? fun u => u == termOf f.toNat x y with
    | some i => (s, [(i : Int)])
    | none => if TERMS ≤ s.now.terms.length then (s, [-2]) else (s.put (addT s.now (termOf f.toNat x y)), [(s.now.terms.length : Int)])) = _
  rw [if_neg (nf h), hi]
theorem st_term_full (h : s.now.fine x y = true) (hi : s.now.terms.findIdx? (fun u => u == termOf f.toNat x y) = none) (hl : 512 ≤ s.now.terms.length) : step s [[1, f, x, y]] = (s, [-2]) := by
  show (if s.now.fine x y = false then (s, [-2]) else match s.now.terms.findIdx? fun u => u == termOf f.toNat x y with
    | some i => (s, [(i : Int)])
    | none => if TERMS ≤ s.now.terms.length then (s, [-2]) else (s.put (addT s.now (termOf f.toNat x y)), [(s.now.terms.length : Int)])) = _
  rw [if_neg (nf h), hi]
  exact if_pos hl
theorem st_term_made (h : s.now.fine x y = true) (hi : s.now.terms.findIdx? (fun u => u == termOf f.toNat x y) = none) (hl : ¬ 512 ≤ s.now.terms.length) : step s [[1, f, x, y]] = (s.put (addT s.now (termOf f.toNat x y)), [(s.now.terms.length : Int)]) := by
  show (if s.now.fine x y = false then (s, [-2]) else match s.now.terms.findIdx? fun u => u == termOf f.toNat x y with
    | some i => (s, [(i : Int)])
    | none => if TERMS ≤ s.now.terms.length then (s, [-2]) else (s.put (addT s.now (termOf f.toNat x y)), [(s.now.terms.length : Int)])) = _
  rw [if_neg (nf h), hi]
  exact if_neg hl
theorem st_find_ref (h : s.now.fine x y = false) : step s [[2, f, x, y]] = (s, [-2]) := by
  show (s, if s.now.fine x y = false then [(-2 : Int)] else _) = _
  rw [if_pos h]
theorem st_join_ref (h : (s.now.has a && s.now.has b) = false) : step s [[3, a, b]] = (s, [-2]) := by
  show (if (s.now.has a && s.now.has b) = false then (s, [-2]) else _) = _
  rw [if_pos h]
theorem st_join_eq (h : (s.now.has a && s.now.has b) = true) (e : equal (classes s.now) a.toNat b.toNat = true) : step s [[3, a, b]] = (s, [0]) := by
  show (if (s.now.has a && s.now.has b) = false then (s, [-2]) else if equal (classes s.now) a.toNat b.toNat = true then (s, [0]) else _) = _
  rw [if_neg (nf h), if_pos e]
theorem st_join_not (h : (s.now.has a && s.now.has b) = true) (e : ¬ equal (classes s.now) a.toNat b.toNat = true) (n : 1024 ≤ s.now.equal.length ∨ sound (s.now.join a.toNat b.toNat) = false) : step s [[3, a, b]] = (s, [-1]) := by
  show (if (s.now.has a && s.now.has b) = false then (s, [-2]) else if equal (classes s.now) a.toNat b.toNat = true then (s, [0]) else
    if SAYINGS ≤ s.now.equal.length ∨ sound (s.now.join a.toNat b.toNat) = false then (s, [-1]) else _) = _
  rw [if_neg (nf h), if_neg e]
  exact if_pos n
theorem st_join_done (h : (s.now.has a && s.now.has b) = true) (e : ¬ equal (classes s.now) a.toNat b.toNat = true) (n : ¬ 1024 ≤ s.now.equal.length) (m : sound (s.now.join a.toNat b.toNat) = true) : step s [[3, a, b]] = (s.put (s.now.join a.toNat b.toNat), [0]) := by
  show (if (s.now.has a && s.now.has b) = false then (s, [-2]) else if equal (classes s.now) a.toNat b.toNat = true then (s, [0]) else
    if SAYINGS ≤ s.now.equal.length ∨ sound (s.now.join a.toNat b.toNat) = false then (s, [-1]) else _) = _
  rw [if_neg (nf h), if_neg e]
  exact if_neg (by rintro (z | z); exact n z; exact nf m z)
theorem st_part_ref (h : (s.now.has a && s.now.has b) = false) : step s [[4, a, b]] = (s, [-2]) := by
  show (if (s.now.has a && s.now.has b) = false then (s, [-2]) else _) = _
  rw [if_pos h]
theorem st_part_not (h : (s.now.has a && s.now.has b) = true) (e : equal (classes s.now) a.toNat b.toNat = true ∨ 1024 ≤ s.now.differ.length) : step s [[4, a, b]] = (s, [-1]) := by
  show (if (s.now.has a && s.now.has b) = false then (s, [-2]) else if equal (classes s.now) a.toNat b.toNat = true ∨ SAYINGS ≤ s.now.differ.length then (s, [-1]) else _) = _
  rw [if_neg (nf h)]
  exact if_pos e
theorem st_part_done (h : (s.now.has a && s.now.has b) = true) (e : ¬ equal (classes s.now) a.toNat b.toNat = true) (n : ¬ 1024 ≤ s.now.differ.length) : step s [[4, a, b]] = (s.put (s.now.part a.toNat b.toNat), [0]) := by
  show (if (s.now.has a && s.now.has b) = false then (s, [-2]) else if equal (classes s.now) a.toNat b.toNat = true ∨ SAYINGS ≤ s.now.differ.length then (s, [-1]) else _) = _
  rw [if_neg (nf h)]
  exact if_neg (by rintro (z | z); exact e z; exact n z)
theorem st_same_ref (h : (s.now.has a && s.now.has b) = false) : step s [[5, a, b]] = (s, [-2]) := by
  show (s, if (s.now.has a && s.now.has b) = false then [(-2 : Int)] else _) = _
  rw [if_pos h]
def dif (l : List Nat) (a b : Nat) (ps : List (Nat × Nat)) : Bool := ps.any fun p => (equal l p.1 a && equal l p.2 b) || (equal l p.1 b && equal l p.2 a)
theorem st_same_eq (h : (s.now.has a && s.now.has b) = true) (e : equal (classes s.now) a.toNat b.toNat = true) : step s [[5, a, b]] = (s, [1]) := by
  show (s, if (s.now.has a && s.now.has b) = false then [(-2 : Int)] else if equal (classes s.now) a.toNat b.toNat = true then [1] else _) = _
  rw [if_neg (nf h), if_pos e]
theorem st_same_dif (h : (s.now.has a && s.now.has b) = true) (e : ¬ equal (classes s.now) a.toNat b.toNat = true) (d : dif (classes s.now) a.toNat b.toNat s.now.differ = true) : step s [[5, a, b]] = (s, [2]) := by
  show (s, if (s.now.has a && s.now.has b) = false then [(-2 : Int)] else if equal (classes s.now) a.toNat b.toNat = true then [1] else if dif (classes s.now) a.toNat b.toNat s.now.differ = true then [2] else [0]) = _
  rw [if_neg (nf h), if_neg e, if_pos d]
theorem st_same_no (h : (s.now.has a && s.now.has b) = true) (e : ¬ equal (classes s.now) a.toNat b.toNat = true) (d : ¬ dif (classes s.now) a.toNat b.toNat s.now.differ = true) : step s [[5, a, b]] = (s, [0]) := by
  show (s, if (s.now.has a && s.now.has b) = false then [(-2 : Int)] else if equal (classes s.now) a.toNat b.toNat = true then [1] else if dif (classes s.now) a.toNat b.toNat s.now.differ = true then [2] else [0]) = _
  rw [if_neg (nf h), if_neg e, if_neg d]
theorem st_head_ref (h : s.now.has a = false) : step s [[6, a]] = (s, [-2]) := by
  show (s, if s.now.has a = false then [(-2 : Int)] else _) = _
  rw [if_pos h]
theorem st_head (h : s.now.has a = true) : step s [[6, a]] = (s, [(((classes s.now).getD a.toNat 0 : Nat) : Int)]) := by
  show (s, if s.now.has a = false then [(-2 : Int)] else _) = _
  rw [if_neg (nf h)]
def mem_ (s : Abs) (a : Int) : List Nat := (List.range s.now.terms.length).filter fun i => equal (classes s.now) i a.toNat
theorem st_size_ref (h : s.now.has a = false) : step s [[7, a]] = (s, [-2]) := by
  show (s, if s.now.has a = false then [(-2 : Int)] else _) = _
  rw [if_pos h]
theorem st_size (h : s.now.has a = true) : step s [[7, a]] = (s, [(((mem_ s a).length : Nat) : Int)]) := by
  show (s, if s.now.has a = false then [(-2 : Int)] else [(((mem_ s a).length : Nat) : Int)]) = _
  rw [if_neg (nf h)]
theorem st_depth_ref (h : s.now.has a = false) : step s [[8, a]] = (s, [-2]) := by
  show (s, if s.now.has a = false then [(-2 : Int)] else _) = _
  rw [if_pos h]
theorem st_list_ref (h : s.now.has a = false) : step s [[9, a]] = (s, [-2]) := by
  show (s, if s.now.has a = false then [(-2 : Int)] else _) = _
  rw [if_pos h]
theorem st_list (h : s.now.has a = true) : step s [[9, a]] = (s, ((mem_ s a).length : Int) :: Sc13Neutral.ints (mem_ s a)) := by
  show (s, if s.now.has a = false then [(-2 : Int)] else (((mem_ s a).length : Nat) : Int) :: Sc13Neutral.ints (mem_ s a)) = _
  rw [if_neg (nf h)]
theorem st_mark_ref (h : 64 ≤ s.marks.length) : step s [[10]] = (s, [-2]) := by
  show (if MARKS ≤ s.marks.length then (s, [(-2 : Int)]) else _) = _
  exact if_pos h
theorem st_mark (h : ¬ 64 ≤ s.marks.length) : step s [[10]] = (⟨s.now, s.now :: s.marks⟩, [((s.marks.length + 1 : Nat) : Int)]) := by
  show (if MARKS ≤ s.marks.length then (s, [(-2 : Int)]) else _) = _
  exact if_neg h
theorem st_back_no (h : s.marks = []) : step s [[11]] = (s, [-1]) := by
  show (match s.marks with | m :: r => ((⟨m, r⟩ : Abs), [(0 : Int)]) | [] => (s, [-1])) = _
  rw [h]
theorem st_back {m : Now} {r : List Now} (h : s.marks = m :: r) : step s [[11]] = (⟨m, r⟩, [0]) := by
  show (match s.marks with | m :: r => ((⟨m, r⟩ : Abs), [(0 : Int)]) | [] => (s, [-1])) = _
  rw [h]
end
theorem GoodA.put {s : Abs} {n : Now} (g : GoodA s) (h : Good n) : GoodA (s.put n) := ⟨h, g.marks, g.few⟩
theorem has_nat {n : Now} {a : Int} (h : n.has a = true) : ∃ k : Nat, a = (k : Int) ∧ k < n.terms.length := by
  obtain ⟨h1, h2⟩ := has_iff.mp h
  exact ⟨a.toNat, by omega, by omega⟩
/-- the heads that come out of a join are the classes -/
theorem join_classes {n : Now} {a b : Nat} {hs : List Nat} (g : Good n) (ha : a < n.terms.length) (hb : b < n.terms.length) (c : Canon (n.join a b) hs) : hs = classes (n.join a b) :=
  c.unique (classes_canon g.wf.join (g.ir.join ha hb))
theorem sound_join {n : Now} {a b : Nat} {hs : List Nat} (g : Good n) (ha : a < n.terms.length) (hb : b < n.terms.length) (c : Canon (n.join a b) hs) : sound (n.join a b) = !(n.differ.any fun p => equal hs p.1 p.2) := by
  rw [join_classes g ha hb c]
  show (n.differ.all fun p => !equal (classes (n.join a b)) p.1 p.2) = _
  rw [List.all_eq_not_any_not]
  simp
/-- no answer is long -/
theorem mem_le (s : Abs) (a : Int) : (mem_ s a).length ≤ s.now.terms.length := by
  unfold mem_
  have := List.length_filter_le (fun i => equal (classes s.now) i a.toNat) (List.range s.now.terms.length)
  rw [List.length_range] at this
  exact this
end Eqm

namespace L2
open PySem PySem.Spec PyProof.Rows

abbrev Key := Sum Int Str
def keyIs : Key → Value → Bool
  | .inl k, v => Value.isInt k v
  | .inr x, v => Value.isStrOf x v
def keyH (w : World) : Key → Int
  | .inl k => hashInt k
  | .inr x => hashStr w x
theorem keyIs_shape : ∀ {k : Key} {v : Value}, keyIs k v = true → (∃ i t, k = Sum.inl i ∧ v = Value.int i t) ∨ (∃ x t, k = Sum.inr x ∧ v = Value.str x t)
  | .inl i, v, h => by
    obtain ⟨t, e⟩ := Value.isInt_shape (k := i) (v := v) h
    exact .inl ⟨i, t, rfl, e⟩
  | .inr x, v, h => by
    obtain ⟨t, e⟩ := Value.isStrOf_shape (x := x) (v := v) h
    exact .inr ⟨x, t, rfl, e⟩
theorem keyIs_int (i : Int) (t : Tok) : keyIs (.inl i) (.int i t) = true := by simp [keyIs, Value.isInt]
theorem keyIs_str (x : Str) (t : Tok) : keyIs (.inr x) (.str x t) = true := by simp [keyIs, Value.isStrOf]
theorem key_ll (a b : Int) : decide ((Sum.inl a : Key) = Sum.inl b) = (a == b) := by
  by_cases e : a = b
  · subst e; simp
  · have h : ¬ (Sum.inl a : Key) = Sum.inl b := fun q => e (Sum.inl.inj q)
    rw [decide_eq_false h]
    exact (beq_eq_false_iff_ne.mpr e).symm
theorem key_rr (a b : Str) : decide ((Sum.inr a : Key) = Sum.inr b) = decide (a = b) := by
  by_cases e : a = b
  · subst e; simp
  · have h : ¬ (Sum.inr a : Key) = Sum.inr b := fun q => e (Sum.inr.inj q)
    rw [decide_eq_false h, decide_eq_false e]
theorem key_lr (a : Int) (b : Str) : decide ((Sum.inl a : Key) = Sum.inr b) = false := decide_eq_false (fun q => nomatch q)
theorem key_rl (a : Str) (b : Int) : decide ((Sum.inr a : Key) = Sum.inl b) = false := decide_eq_false (fun q => nomatch q)

def mixKind (prog : Program) (w : World) : PySem.KeyKind prog w Key where
  is := keyIs
  hash := keyH w
  inj := fun v a b ha hb => by
    rcases keyIs_shape ha with ⟨i, t, rfl, rfl⟩ | ⟨x, t, rfl, rfl⟩
    · rcases keyIs_shape hb with ⟨j, u, rfl, e⟩ | ⟨y, u, rfl, e⟩
      · injection e with e1 _; rw [e1]
      · exact nomatch e
    · rcases keyIs_shape hb with ⟨j, u, rfl, e⟩ | ⟨y, u, rfl, e⟩
      · exact nomatch e
      · injection e with e1 _; rw [e1]
  byValue := fun k v h => by
    rcases keyIs_shape h with ⟨i, t, rfl, rfl⟩ | ⟨x, t, rfl, rfl⟩ <;> rfl
  pyHash := fun hv h => by
    rcases keyIs_shape hv with ⟨i, t, rfl, rfl⟩ | ⟨x, t, rfl, rfl⟩
    · exact wpAny_pyHash_int h
    · exact wpAny_pyHash_str h
  eqBool := fun hu hv h => by
    rcases keyIs_shape hu with ⟨i, t, rfl, rfl⟩ | ⟨x, t, rfl, rfl⟩
    · rcases keyIs_shape hv with ⟨j, u, rfl, rfl⟩ | ⟨y, u, rfl, rfl⟩
      · rw [key_ll] at h; exact wpAny_eqBool_int h
      · rw [key_lr] at h; exact SeqAt.EqAt.int_str i t y u _ _ _ _ h
    · rcases keyIs_shape hv with ⟨j, u, rfl, rfl⟩ | ⟨y, u, rfl, rfl⟩
      · rw [key_rl] at h; exact SeqAt.EqAt.str_int x t j u _ _ _ _ h
      · rw [key_rr] at h; exact wpAny_eqBool_str h
  «strs» := fun k x t v h => by
    rcases keyIs_shape h with ⟨i, u, rfl, e⟩ | ⟨y, u, rfl, e⟩
    · exact nomatch e
    · injection e with e1 _
      subst e1
      cases v <;> rfl

theorem mixKind_int (prog : Program) (w : World) (i : Int) (t : Tok) : (mixKind prog w).is (.inl i) (.int i t) = true := keyIs_int i t
theorem mixKind_str (prog : Program) (w : World) (x : Str) (t : Tok) : (mixKind prog w).is (.inr x) (.str x t) = true := keyIs_str x t
end L2

namespace L2
open PySem PySem.Spec PyProof.Rows

inductive V where
  | non | bl (b : Bool) | int (i : Int) | str (x : Str) | byt (b : Array UInt8) | flt (b : UInt64) | ref (a : Addr) | ty (n : String)
  deriving DecidableEq

def RelV : V → Value → Prop
  | .non, u => u = Value.none
  | .bl b, u => u = Value.bool b
  | .int i, u => ∃ t, u = Value.int i t
  | .str x, u => ∃ t, u = Value.str x t
  | .byt b, u => ∃ t, u = Value.bytes b t
  | .flt b, u => ∃ t, u = Value.float b t
  | .ref a, u => u = Value.ref a
  | .ty n, u => u = Value.type n

abbrev Vals : List V → List Value → Prop := Paired RelV
theorem Vals.length {xs : List V} {us : List Value} (r : Vals xs us) : xs.length = us.length := Paired.length r
theorem Vals.get : ∀ {xs : List V} {us : List Value} {i : Nat} {x : V}, Vals xs us → xs[i]? = some x → ∃ u, us[i]? = some u ∧ RelV x u
  | _, _, _, _, .nil, e => by simp at e
  | _, _, 0, _, .cons r _, e => by simp at e; subst e; exact ⟨_, rfl, r⟩
  | _, _, i + 1, x, .cons _ t, e => by
    obtain ⟨u, h1, h2⟩ := Vals.get (i := i) (x := x) t (by simpa using e)
    exact ⟨u, by simpa using h1, h2⟩
theorem Vals.set {x : V} {u : Value} (r : RelV x u) : ∀ {xs : List V} {us : List Value} (i : Nat), Vals xs us → Vals (xs.set i x) (us.set i u)
  | _, _, _, .nil => .nil
  | _, _, 0, .cons _ t => .cons r t
  | _, _, i + 1, .cons q t => .cons q (Vals.set r i t)
theorem Vals.append : ∀ {xs ys : List V} {us ws : List Value}, Vals xs us → Vals ys ws → Vals (xs ++ ys) (us ++ ws)
  | _, _, _, _, .nil, s => s
  | _, _, _, _, .cons r t, s => .cons r (Vals.append t s)
theorem Vals.take : ∀ {xs : List V} {us : List Value} (n : Nat), Vals xs us → Vals (xs.take n) (us.take n)
  | _, _, 0, _ => .nil
  | _, _, _ + 1, .nil => .nil
  | _, _, n + 1, .cons r t => .cons r (Vals.take n t)
theorem Vals.drop : ∀ {xs : List V} {us : List Value} (n : Nat), Vals xs us → Vals (xs.drop n) (us.drop n)
  | _, _, 0, r => r
  | _, _, _ + 1, .nil => .nil
  | _, _, n + 1, .cons _ t => Vals.drop n t
def RelO : Option V → Option Value → Prop
  | some v, some u => RelV v u
  | none, none => True
  | _, _ => False
def KV {κ : Type} : List (κ × V) → List (κ × Value) → Prop := Paired fun (p : κ × V) (q : κ × Value) => p.1 = q.1 ∧ RelV p.2 q.2

def kV : Key → V
  | .inl i => .int i
  | .inr x => .str x

inductive HO where
  /-- a list -/
  | lst (xs : List V)
  /-- a tuple (never changes) -/
  | tup (xs : List V)
  /-- a dict whose keys are ints and texts; one whose keys are tuples of ints and texts (the empty one is both) -/
  | dK (kvs : List (Key × V)) | dT (kvs : List (List Key × V))
  /-- a set of ints: its members, its size -/
  | set (S : Int → Bool) (n : Nat)
  /-- an instance of the class at C, its dict at dx, its attributes -/
  | ins (C dx : Addr) (fs : List (Str × V))
  /-- the dict of the instance at x -/
  | own (x : Addr)
  /-- the dict of an exception -/
  | xd (fs : List (Str × V))
  /-- a bound method, f of x -/
  | met (f x : Addr)
  /-- a range object lo, lo + 1, .. below hi -/
  | rng (lo hi : Int)
  /-- a thing that is known to the object (the script; a dict while a loop walks it): read, never written while it is so -/
  | frz (o : Obj) (u : HO)
  /-- a code object's table -/
  | tbl (ps : Array Value)
  /-- any other thing, by what is true of its one object (a def of one's own: SetO a S n := HO.ext fun h => ..) -/
  | ext (φ : Heap → Prop)

abbrev Hp := Addr → Option HO
def upd (H : Hp) (a : Addr) (o : HO) : Hp := fun b => if b = a then some o else H b
theorem upd_same {H : Hp} {a : Addr} {o : HO} : upd H a o a = some o := by unfold upd; rw [if_pos rfl]
theorem upd_ne {H : Hp} {a b : Addr} {o : HO} (h : b ≠ a) : upd H a o b = H b := by unfold upd; rw [if_neg h]
theorem ne_of {H : Hp} {a b : Addr} {o u : HO} (h : H a = some o) (h' : H b = some u) (d : o ≠ u) : a ≠ b := by
  intro e; subst e; rw [h] at h'; exact d (Option.some.inj h')
theorem ne_of_none {H : Hp} {a b : Addr} {o : HO} (h : H a = some o) (h' : H b = none) : a ≠ b := by
  intro e; subst e; rw [h] at h'; cases h'

section
variable (P : Program) (w : World)
def ObjOk (H : Hp) (h : Heap) (a : Addr) : HO → Prop
  | .lst xs => xs.length ≤ sizeLine ∧ ∃ (its : List Value) (n : Nat), Vals xs its ∧ h.get? a = some { cls := .type "list", data := .seq its.toArray n }
  | .tup xs => xs.length ≤ sizeLine ∧ ∃ its : List Value, Vals xs its ∧ IsTup h a its.toArray
  | .dK kvs => kvs.length ≤ sizeLine ∧ (a == sysModules) = false ∧ ∃ vs, KV kvs vs ∧ h.DictOf (mixKind P w) a vs
  | .dT kvs => kvs.length ≤ sizeLine ∧ (a == sysModules) = false ∧ ∃ xs : List (List Key × Addr × Value),
      Paired (fun (p : List Key × V) (q : List Key × Addr × Value) => p.1 = q.1 ∧ H q.2.1 = some (.tup (p.1.map kV)) ∧ RelV p.2 q.2.2) kvs xs ∧
      ∃ o es ep, h.get? a = some o ∧ o.ExactDict ∧ o.data = .dict es ep ∧ es.toList = xs.map (entryOfKey (tupleKind (mixKind P w))) ∧ (xs.map (·.1)).Nodup
  | .set S n => h.SetOf (intKind P w) a S n
  | .ins C dx fs => H dx = some (.own a) ∧ fs.length ≤ 1000 ∧ dx ≠ a ∧ h.get? a = some (PySem.W.instObj C dx) ∧
      ∃ mA, h.Ns1 dx mA ∧ (∀ f, RelO (fs.lookup f) (mA f)) ∧ PySem.Within mA (fs.map (·.1))
  | .own _ => ∃ o, h.get? a = some o
  | .xd fs => ∃ mA, h.Ns1 a mA ∧ ∀ f, RelO (fs.lookup f) (mA f)
  | .rng lo hi => ∃ t u v, h.get? a = some { cls := .type "range", data := .fields #[.int lo t, .int hi u, .int 1 v] }
  | .frz o u => h.get? a = some o ∧ ObjOk H h a u
  | .tbl ps => h.get? a = some { cls := .none, data := .fields ps }
  | .met f x => h.get? a = some (PySem.W.methodObj (.ref f) (.ref x))
  | .ext φ => φ h ∧ (∃ o, h.get? a = some o) ∧ ∀ h1 h2 : Heap, φ h1 → (∀ o, h1.get? a = some o → h2.get? a = some o) → φ h2
def HOk (H : Hp) (h : Heap) : Prop := ∀ a o, H a = some o → ObjOk P w H h a o
end

section
variable {P : Program} {w : World} {H H' : Hp} {h h' : Heap} {a : Addr} {o : HO}
theorem ObjOk.lt (x : ObjOk P w H h a o) : a < h.objs.size := by
  cases o with
  | lst xs => obtain ⟨_, _, _, _, e⟩ := x; exact Heap.lt_size e
  | tup xs => obtain ⟨_, _, _, p⟩ := x; exact p.lt
  | dK kvs => obtain ⟨_, _, _, _, o, _, _, e, _⟩ := x; exact Heap.lt_size e
  | dT kvs => obtain ⟨_, _, _, _, o, _, _, e, _⟩ := x; exact Heap.lt_size e
  | set S n => obtain ⟨o, _, _, _, e, _⟩ := x; exact Heap.lt_size e
  | ins C dx fs => obtain ⟨_, _, _, e, _⟩ := x; exact Heap.lt_size e
  | own y => obtain ⟨_, e⟩ := x; exact Heap.lt_size e
  | xd fs => obtain ⟨_, ⟨_, _, _, e, _⟩, _⟩ := x; exact Heap.lt_size e
  | rng lo hi => obtain ⟨_, _, _, e⟩ := x; exact Heap.lt_size e
  | frz ob u => obtain ⟨e, _⟩ := x; exact Heap.lt_size e
  | tbl ps => exact Heap.lt_size (show h.get? a = some _ from x)
  | met f y => exact Heap.lt_size (show h.get? a = some _ from x)
  | ext φ => obtain ⟨_, ⟨_, e⟩, _⟩ := x; exact Heap.lt_size e
theorem Paired.mapP {α β : Type} {F G : α → β → Prop} : ∀ {l₁ : List α} {l₂ : List β}, Paired F l₁ l₂ → (∀ a b, F a b → G a b) → Paired G l₁ l₂
  | _, _, .nil, _ => .nil
  | _, _, .cons r t, f => .cons (f _ _ r) (Paired.mapP t f)
theorem ObjOk.stay (x : ObjOk P w H h a o) (k : ∀ b u, (b = a ∨ H b = some (.own a)) → h.get? b = some u → h'.get? b = some u)
    (ho : ∀ b, H b = some (.own a) → H' b = some (.own a)) (ht : ∀ b xs, H b = some (.tup xs) → H' b = some (.tup xs)) : ObjOk P w H' h' a o := by
  induction o with
  | lst xs => obtain ⟨z, its, n, r, e⟩ := x; exact ⟨z, its, n, r, k _ _ (.inl rfl) e⟩
  | tup xs => obtain ⟨z, its, r, ob, e, c⟩ := x; exact ⟨z, its, r, ob, k _ _ (.inl rfl) e, c⟩
  | dK kvs => obtain ⟨z, y, vs, r, ob, es, ep, e, c⟩ := x; exact ⟨z, y, vs, r, ob, es, ep, k _ _ (.inl rfl) e, c⟩
  | dT kvs =>
    obtain ⟨z, y, xs, r, ob, es, ep, e, c⟩ := x
    exact ⟨z, y, xs, Paired.mapP r fun p q z => ⟨z.1, ht _ _ z.2.1, z.2.2⟩, ob, es, ep, k _ _ (.inl rfl) e, c⟩
  | set S n => obtain ⟨ob, es, ep, t, e, c⟩ := x; exact ⟨ob, es, ep, t, k _ _ (.inl rfl) e, c⟩
  | ins C dx fs =>
    obtain ⟨d, z, ne, e, mA, ⟨od, es, ep, e2, c⟩, r⟩ := x
    exact ⟨ho _ d, z, ne, k _ _ (.inl rfl) e, mA, ⟨od, es, ep, k _ _ (.inr d) e2, c⟩, r⟩
  | own y => obtain ⟨ob, e⟩ := x; exact ⟨ob, k _ _ (.inl rfl) e⟩
  | xd fs => obtain ⟨mA, ⟨od, es, ep, e, c⟩, r⟩ := x; exact ⟨mA, ⟨od, es, ep, k _ _ (.inl rfl) e, c⟩, r⟩
  | rng lo hi => obtain ⟨t, u, v, e⟩ := x; exact ⟨t, u, v, k _ _ (.inl rfl) e⟩
  | frz ob u ih => obtain ⟨e, q⟩ := x; exact ⟨k _ _ (.inl rfl) e, ih q⟩
  | tbl ps =>
    have e : h.get? a = some { cls := .none, data := .fields ps } := x
    show h'.get? a = some { cls := .none, data := .fields ps }
    exact k a _ (.inl rfl) e
  | met f y =>
    have e : h.get? a = some (PySem.W.methodObj (.ref f) (.ref y)) := x
    show h'.get? a = some (PySem.W.methodObj (.ref f) (.ref y))
    exact k a _ (.inl rfl) e
  | ext φ => obtain ⟨p, ⟨o, e⟩, st⟩ := x; exact ⟨st _ _ p fun o q => k _ _ (.inl rfl) q, ⟨o, k _ _ (.inl rfl) e⟩, st⟩
theorem HOk.lt (x : HOk P w H h) (e : H a = some o) : a < h.objs.size := (x a o e).lt
theorem HOk.fresh (x : HOk P w H h) (e : h.objs.size ≤ a) : H a = none := by
  cases q : H a with
  | none => rfl
  | some u => exact absurd (Nat.lt_of_lt_of_le (x.lt q) e) (Nat.lt_irrefl _)
theorem HOk.kept (x : HOk P w H h) (k : ∀ b u, h.get? b = some u → h'.get? b = some u) : HOk P w H h' := fun a o e =>
  (x a o e).stay (fun b u _ q => k b u q) (fun _ q => q) fun _ _ q => q
theorem HOk.laid (x : HOk P w H h) (k : ∀ b u, h.get? b = some u → h'.get? b = some u) (hp : h.objs.size ≤ a) (new : ObjOk P w (upd H a o) h' a o) : HOk P w (upd H a o) h' := fun b u e => by
  have hn := x.fresh hp
  by_cases hb : b = a
  · subst hb; rw [upd_same] at e; cases e; exact new
  · rw [upd_ne hb] at e
    exact (x b u e).stay (fun c v _ q => k c v q) (fun c q => by rw [upd_ne (ne_of_none q hn)]; exact q) fun c xs q => by rw [upd_ne (ne_of_none q hn)]; exact q
end

def Rd (H : Hp) (a : Addr) (u : HO) : Prop := H a = some u ∨ ∃ o, H a = some (.frz o u)
theorem Rd.ok {P : Program} {w : World} {H : Hp} {h : Heap} {a : Addr} {u : HO} (r : Rd H a u) (x : HOk P w H h) : ObjOk P w H h a u := by
  rcases r with r | ⟨o, r⟩
  · exact x a u r
  · obtain ⟨_, q⟩ := x a _ r
    exact q
def Mut : Option HO → Prop
  | some (.lst _) => True
  | some (.dK _) => True
  | some (.dT _) => True
  | some (.set _ _) => True
  | some (.ins _ _ _) => True
  | some (.ext _) => True
  | _ => False
section
variable {P : Program} {w : World} {H : Hp} {h h' : Heap} {x e : Addr} {o' : HO}
theorem HOk.write (ok : HOk P w H h) (mu : Mut (H x)) (he : e = x ∨ H e = some (.own x)) (k : ∀ b u, b ≠ e → h.get? b = some u → h'.get? b = some u) (heo : ∃ u, h'.get? e = some u)
    (new : ObjOk P w (upd H x o') h' x o') : HOk P w (upd H x o') h' := fun b u q => by
  have nown : ∀ c y, H c = some (.own y) → c ≠ x := fun c y r z => by subst z; rw [r] at mu; exact mu
  have ntup : ∀ c xs, H c = some (.tup xs) → c ≠ x := fun c xs r z => by subst z; rw [r] at mu; exact mu
  by_cases hb : b = x
  · subst hb; rw [upd_same] at q; cases q; exact new
  · rw [upd_ne hb] at q
    by_cases hbe : b = e
    · have q' : H b = some (.own x) := by
        rcases he with z | z
        · exact absurd (hbe.trans z) hb
        · rw [hbe]; exact z
      rw [q] at q'; cases q'
      obtain ⟨v, hv⟩ := heo
      exact ⟨v, by rw [hbe]; exact hv⟩
    · refine (ok b u q).stay (fun c v hc r => k c v ?_ r) (fun c r => by rw [upd_ne (nown c b r)]; exact r) fun c xs r => by rw [upd_ne (ntup c xs r)]; exact r
      rcases hc with rfl | hc
      · exact hbe
      · rintro rfl
        rcases he with z | z
        · exact nown c b hc z
        · rw [hc] at z; cases z; exact hb rfl
end

structure Un (fs ex : List Addr) (H H' : Hp) (h h' : Heap) : Prop where
  keep : ∀ b o, h.get? b = some o → H b = none → b ∉ fs → b ∉ ex → h'.get? b = some o
  slot : ∀ b o, h.get? b = some o → H b = none → b ∈ fs → b ∉ ex → ∃ sl, h'.get? b = some { o with slots := sl }
  free : ∀ b o, h.get? b = some o → H b = none → b ∉ ex → H' b = none
  there : ∀ b o, h.get? b = some o → b ∉ ex → ∃ o', h'.get? b = some o'
  tups : ∀ b xs, H b = some (.tup xs) → H' b = some (.tup xs)
  frzs : ∀ b o u, H b = some (.frz o u) → H' b = some (.frz o u)
  tbls : ∀ b ps, H b = some (.tbl ps) → ∃ more, H' b = some (.tbl (ps ++ more))
section
variable {fs fs' ex ex' : List Addr} {H H1 H2 : Hp} {h h1 h2 h' : Heap} {a x e : Addr} {o : HO}
theorem Un.any (u : Un fs ex H H1 h h1) {b : Addr} {ob : Obj} (q : h.get? b = some ob) (n : H b = none) (hx : b ∉ ex) : ∃ sl, h1.get? b = some { ob with slots := sl } := by
  by_cases hb : b ∈ fs
  · exact u.slot b ob q n hb hx
  · exact ⟨ob.slots, u.keep b ob q n hb hx⟩
theorem Un.kept (k : ∀ b u, h.get? b = some u → h'.get? b = some u) : Un fs ex H H h h' :=
  ⟨fun b ob q _ _ _ => k b ob q, fun b ob q _ _ _ => ⟨ob.slots, k b ob q⟩, fun _ _ _ n _ => n, fun b ob q _ => ⟨ob, k b ob q⟩, fun _ _ q => q, fun _ _ _ q => q, fun _ ps q => ⟨#[], by rw [q]; simp⟩⟩
theorem Un.refl : Un fs ex H H h h := Un.kept fun _ _ q => q
theorem Un.laid (k : ∀ b u, h.get? b = some u → h'.get? b = some u) (hp : h.objs.size ≤ a) (hn : H a = none) : Un fs ex H (upd H a o) h h' where
  keep := fun b u q _ _ _ => k b u q
  slot := fun b u q _ _ _ => ⟨u.slots, k b u q⟩
  free := fun b u q n _ => by rw [upd_ne (Nat.ne_of_lt (Nat.lt_of_lt_of_le (Heap.lt_size q) hp))]; exact n
  there := fun b u q _ => ⟨u, k b u q⟩
  tups := fun b xs q => by rw [upd_ne (ne_of_none q hn)]; exact q
  frzs := fun b u xs q => by rw [upd_ne (ne_of_none q hn)]; exact q
  tbls := fun b ps q => ⟨#[], by rw [upd_ne (ne_of_none q hn), q]; simp⟩
theorem Un.write (mu : Mut (H x)) (he : e = x ∨ H e = some (.own x)) (k : ∀ b u, b ≠ e → h.get? b = some u → h'.get? b = some u) (heo : ∃ u, h'.get? e = some u) : Un fs ex H (upd H x o) h h' := by
  have hx : ∀ b, H b = none → b ≠ x := fun b n z => by subst z; rw [n] at mu; exact mu
  have hb : ∀ b, H b = none → b ≠ e := fun b n z => by
    subst z
    rcases he with r | r
    · exact hx b n r
    · rw [n] at r; cases r
  have hm : ∀ b u, H b = some u → ¬ Mut (some u) → b ≠ x := fun b u q nm z => by subst z; rw [q] at mu; exact nm mu
  refine ⟨fun b u q n _ _ => k b u (hb b n) q, fun b u q n _ _ => ⟨u.slots, k b u (hb b n) q⟩, fun b u q n _ => by rw [upd_ne (hx b n)]; exact n, fun b u q _ => ?_,
    fun b xs q => by rw [upd_ne (hm b _ q fun z => z)]; exact q, fun b u xs q => by rw [upd_ne (hm b _ q fun z => z)]; exact q, fun b ps q => ⟨#[], by rw [upd_ne (hm b _ q fun z => z), q]; simp⟩⟩
  by_cases hbe : b = e
  · subst hbe; exact heo
  · exact ⟨u, k b u hbe q⟩
end

def trk (h : Heap) (H : Hp) : List Addr := (List.range h.objs.size).filter fun a => (H a).isSome
def hidT (h : Heap) (H : Hp) : Heap := PySem.W.hideAll h (trk h H)
theorem hidT_size (h : Heap) (H : Hp) : (hidT h H).objs.size = h.objs.size := PySem.W.hideAll_size _ _
theorem hidT_get {h : Heap} {H : Hp} {b : Addr} {o : Obj} (e : h.get? b = some o) (n : H b = none) : (hidT h H).get? b = some o :=
  PySem.W.hideAll_get _ e fun hm => by
    have q : (H b).isSome = true := (List.mem_filter.mp hm).2
    rw [n] at q; simp at q
theorem of_hidT {h : Heap} {H : Hp} {b : Addr} {o : Obj} (e : (hidT h H).get? b = some o) : h.get? b = some o ∧ H b = none := by
  have e' : h.get? b = some o := PySem.W.of_hideAll (trk h H) e
  refine ⟨e', ?_⟩
  cases q : H b with
  | none => rfl
  | some x =>
    have hm : b ∈ trk h H := List.mem_filter.mpr ⟨List.mem_range.mpr (Heap.lt_size e'), by simp [q]⟩
    have z : (hidT h H).get? b = none := PySem.W.hideAll_none (trk h H) hm
    rw [z] at e; cases e

end L2

namespace L2
open PySem PySem.Spec PyProof.Rows

structure Mod (K : PySem.W.Frag) (mg : Str → Option Value) (base : Heap) : Prop where
  kin : K.In base
  glob : base.Ns mainGlobals mg
  blt : ∃ mb, base.Ns builtinsNs mb ∧ ∀ x : Str, x ≠ "__name__" → mb x = bootBuiltins x
  nolimit : base.NoLimit

structure Cx where
  prog : Program
  w : World
  K : PySem.W.Frag
  mg : Str → Option Value
  base : Heap
  A : Around
  N : List Str
  s_0 : Shared
  H_0 : Hp
  env : Env
  outer : List Env
  stack : List Env
  ex : List Addr
  fn : Str → Bool
  calm : Bool
  pn : List (Addr × Obj)
  xe : Value → Shared → Prop
def frs (l : List Env) : List Addr := l.filterMap (·.frame)
abbrev Cx.fs (X : Cx) : List Addr := frs X.outer

def Vis (sc : Scope) (x : Str) : Prop := sc.names.lookup x = some .local ∨ sc.names.lookup x = some .cell ∨ sc.names.lookup x = some .free
def Loc (sc : Scope) (x : Str) : Prop := sc.names.lookup x = some .local ∨ sc.names.lookup x = some .cell
def Look (env : Env) (h : Heap) (m : Str → Option Value) (x : Str) (u : Value) : Prop :=
  (env.kindOf x = some .local ∧ m x = some u) ∨ ((env.kindOf x = some .cell ∨ env.kindOf x = some .free) ∧ ∃ c, env.cells.lookup x = some c ∧ h.IsCell c (some u))

structure Cx.Ok (X : Cx) : Prop where
  mod : Mod X.K X.mg X.base
  kind : X.env.scope.kind = .function
  glob : X.env.globals = mainGlobals
  blt : X.env.builtins = builtinsNs
  above : X.s_0.heap.objs.size ≤ X.env.locals
  inj : ∀ x y c, X.env.cells.lookup x = some c → X.env.cells.lookup y = some c → x = y
  has : ∀ x, (X.env.kindOf x = some .cell ∨ X.env.kindOf x = some .free) → ∃ c, X.env.cells.lookup x = some c
  cab : ∀ x c, X.fn x = true → X.env.cells.lookup x = some c → X.s_0.heap.objs.size ≤ c
  hd : X.calm = true → X.A.handled = none
  frames : X.A.frames = some X.stack
  stk : X.stack = X.outer ∨ (X.stack = X.env :: X.outer ∧ X.env.frame = some X.env.locals)
  exf : ∀ b ∈ X.ex, b ≠ X.env.locals ∧ ∀ x c, X.env.cells.lookup x = some c → c ≠ b
  bs : ∀ b o, X.base.get? b = some o → X.s_0.heap.get? b = some o ∧ X.H_0 b = none
  bsz : X.base.objs.size ≤ X.s_0.heap.objs.size
  noex : ∀ b o, X.base.get? b = some o → b ∉ X.ex
  exfs : ∀ b ∈ X.ex, b ∉ X.fs
  funs : X.s_0.heap.FunFrames X.base X.outer
  frf : ∀ b ∈ X.fs, X.H_0 b = none

structure Inv (X : Cx) (pins : List (Addr × Obj)) (σ : List (Option V)) (H : Hp) (s : Shared) : Prop where
  ok : X.Ok
  os : s.os = X.s_0.os
  bare : AllBare s.gens
  base : Un X.fs X.ex X.H_0 H X.s_0.heap s.heap
  loc : ∃ m, s.heap.Ns X.env.locals m ∧ ∀ (i : Nat) (x : Str) (v : V), X.N[i]? = some x → σ[i]? = some (some v) → Vis X.env.scope x → ∃ u, RelV v u ∧ Look X.env s.heap m x u
  cell : ∀ x c, X.env.cells.lookup x = some c → ∃ v, s.heap.IsCell c v
  free : H X.env.locals = none
  freeC : ∀ x c, X.env.cells.lookup x = some c → H c = none
  pin : ∀ p ∈ X.pn ++ pins, s.heap.get? p.1 = some p.2 ∧ H p.1 = none ∧ p.1 ≠ X.env.locals ∧ p.1 ∉ X.fs ∧ ∀ v, p.2.data ≠ .cell v
  hok : HOk X.prog X.w H s.heap
  len : σ.length = X.N.length

section
variable {X : Cx} {pins : List (Addr × Obj)} {σ : List (Option V)} {H H' : Hp} {s : Shared} {h' : Heap}

theorem Cx.Ok.nofr (ok : X.Ok) {b : Addr} {o : Obj} (e : X.base.get? b = some o) : b ∉ X.fs := fun hb => by
  have := (ok.funs.mem hb).1
  rw [e] at this; cases this
theorem Inv.bs (I : Inv X pins σ H s) : ∀ b o, X.base.get? b = some o → s.heap.get? b = some o ∧ H b = none := fun b o e =>
  ⟨I.base.keep b o (I.ok.bs b o e).1 (I.ok.bs b o e).2 (I.ok.nofr e) (I.ok.noex b o e), I.base.free b o (I.ok.bs b o e).1 (I.ok.bs b o e).2 (I.ok.noex b o e)⟩
theorem Inv.bk (I : Inv X pins σ H s) : ∀ b o, X.base.get? b = some o → s.heap.get? b = some o := fun b o e => (I.bs b o e).1
theorem Inv.mod (I : Inv X pins σ H s) : Mod X.K X.mg X.base := I.ok.mod
theorem Inv.kIn (I : Inv X pins σ H s) : X.K.In s.heap := I.ok.mod.kin.keeps I.bk
theorem Inv.lt (I : Inv X pins σ H s) : X.env.locals < s.heap.objs.size := let ⟨_, hn, _⟩ := I.loc; hn.lt
theorem Inv.sz (I : Inv X pins σ H s) : X.s_0.heap.objs.size ≤ s.heap.objs.size := Nat.le_trans I.ok.above (Nat.le_of_lt I.lt)
theorem Inv.nofs (I : Inv X pins σ H s) {a : Addr} (h : s.heap.objs.size ≤ a) : a ∉ X.fs := fun hb => by
  obtain ⟨_, o, ho, _⟩ := I.ok.funs.mem hb
  exact absurd (Nat.lt_of_lt_of_le (Heap.lt_size ho) (Nat.le_trans I.sz h)) (Nat.lt_irrefl _)
theorem Inv.cne (I : Inv X pins σ H s) : ∀ x c, X.env.cells.lookup x = some c → c ≠ X.env.locals := fun x c e z => by
  obtain ⟨v, o, ho, hd⟩ := I.cell x c e
  obtain ⟨m, ⟨o', es, ep, ho', hd', _⟩, _⟩ := I.loc
  rw [z, ho'] at ho; cases ho; rw [hd'] at hd; cases hd
theorem Inv.funs (I : Inv X pins σ H s) : s.heap.FunFrames X.base X.outer := by
  have all : ∀ (l : List Env), (∀ b ∈ frs l, b ∈ X.fs) → X.s_0.heap.FunFrames X.base l → s.heap.FunFrames X.base l := by
    intro l
    induction l with
    | nil => intro _ _; trivial
    | cons env r ih =>
      intro hs hl
      obtain ⟨hk, ⟨L, o, hf, hn, ho, hd⟩, hr⟩ := hl
      have hL : L ∈ X.fs := hs L (by unfold frs; rw [List.filterMap_cons, hf]; exact List.mem_cons_self)
      obtain ⟨sl, e⟩ := I.base.slot L o ho (I.ok.frf L hL) hL fun z => I.ok.exfs L z hL
      exact ⟨hk, ⟨L, _, hf, hn, e, hd⟩, ih (fun b hb => hs b (by unfold frs; rw [List.filterMap_cons, hf]; exact List.mem_cons_of_mem _ hb)) hr⟩
  exact all X.outer (fun _ hb => hb) I.ok.funs

theorem Inv.stack (I : Inv X pins σ H s) : s.heap.FunFrames X.base X.stack := by
  rcases I.ok.stk with e | ⟨e, hf⟩
  · rw [e]; exact I.funs
  · rw [e]
    obtain ⟨m, hn, _⟩ := I.loc
    refine .cons (by rw [I.ok.kind]; decide) hf hn ?_ I.funs
    exact Heap.get?_none_of_le (Nat.le_trans I.ok.bsz I.ok.above)
theorem Inv.stkSub (I : Inv X pins σ H s) : ∀ b ∈ frs X.stack, b ∈ X.env.locals :: X.fs := fun b hb => by
  rcases I.ok.stk with e | ⟨e, hf⟩
  · rw [e] at hb; exact List.mem_cons_of_mem _ hb
  · rw [e] at hb
    unfold frs at hb
    rw [List.filterMap_cons, hf] at hb
    exact hb
theorem Inv.stkFree (I : Inv X pins σ H s) : ∀ b ∈ frs X.stack, H b = none := fun b hb => by
  rcases List.mem_cons.mp (I.stkSub b hb) with e | hb
  · rw [e]; exact I.free
  · obtain ⟨_, o, ho, _⟩ := I.ok.funs.mem hb
    exact I.base.free b o ho (I.ok.frf b hb) fun z => I.ok.exfs b z hb

theorem Inv.step {g' : Array GenState} {t' : Nat} {d' : Drawn} {ch : List Addr} (I : Inv X pins σ H s)
    (hch : ∀ b ∈ ch, (b ∈ X.ex ∨ X.s_0.heap.objs.size ≤ b) ∧ b ≠ X.env.locals ∧ (∀ x c, X.env.cells.lookup x = some c → c ≠ b) ∧ ∀ p ∈ X.pn ++ pins, p.1 ≠ b)
    (keep : ∀ b o, b ≠ X.env.locals → b ∉ X.fs → b ∉ ch → s.heap.get? b = some o → H b = none → h'.get? b = some o)
    (slot : ∀ b o, b ≠ X.env.locals → b ∈ X.fs → b ∉ ch → s.heap.get? b = some o → H b = none → ∃ sl, h'.get? b = some { o with slots := sl }) (free : ∀ b o, b ∉ ch → s.heap.get? b = some o → H b = none → H' b = none)
    (there : ∀ b o, b ∉ ch → s.heap.get? b = some o → ∃ o', h'.get? b = some o')
    (tups : ∀ b xs, H b = some (.tup xs) → H' b = some (.tup xs)) (frzs : ∀ b o u, H b = some (.frz o u) → H' b = some (.frz o u)) (tbls : ∀ b ps, H b = some (.tbl ps) → ∃ more, H' b = some (.tbl (ps ++ more)))
    (ns : ∀ m, s.heap.Ns X.env.locals m → h'.Ns X.env.locals m) (hok : HOk X.prog X.w H' h') (hg : AllBare g') :
    Inv X pins σ H' { s with heap := h', gens := g', drawn := d', toks := t' } := by
  have neL : ∀ b o, X.s_0.heap.get? b = some o → b ≠ X.env.locals := fun b o e => Nat.ne_of_lt (Nat.lt_of_lt_of_le (Heap.lt_size e) I.ok.above)
  have neC : ∀ b o, X.s_0.heap.get? b = some o → b ∉ X.ex → b ∉ ch := fun b o e hx hb => by
    rcases (hch b hb).1 with z | z
    · exact hx z
    · exact absurd (Nat.lt_of_lt_of_le (Heap.lt_size e) z) (Nat.lt_irrefl _)
  have cellK : ∀ x c, X.env.cells.lookup x = some c → ∀ v, s.heap.IsCell c v → h'.IsCell c v := fun x c e v ⟨o, ho, hd⟩ => by
    have nch : c ∉ ch := fun z => (hch c z).2.2.1 x c e rfl
    by_cases hc : c ∈ X.fs
    · obtain ⟨sl, q⟩ := slot c o (I.cne x c e) hc nch ho (I.freeC x c e)
      exact ⟨_, q, hd⟩
    · exact ⟨o, keep c o (I.cne x c e) hc nch ho (I.freeC x c e), hd⟩
  refine ⟨I.ok, I.os, hg, ⟨fun b o e n hb hx => ?_, fun b o e n hb hx => ?_, fun b o e n hx => ?_, fun b o e hx => ?_, fun b xs e => tups b xs (I.base.tups b xs e), fun b o xs e => frzs b o xs (I.base.frzs b o xs e), fun b ps e => ?_⟩, ?_, fun x c e => ?_, ?_, fun x c e => ?_, fun p hp => ?_, hok, I.len⟩
  · exact keep b o (neL b o e) hb (neC b o e hx) (I.base.keep b o e n hb hx) (I.base.free b o e n hx)
  · obtain ⟨sl, e1⟩ := I.base.slot b o e n hb hx
    obtain ⟨sl', e2⟩ := slot b _ (neL b o e) hb (neC b o e hx) e1 (I.base.free b o e n hx)
    exact ⟨sl', e2⟩
  · obtain ⟨o', e1⟩ := I.base.there b o e hx
    exact free b o' (neC b o e hx) e1 (I.base.free b o e n hx)
  · obtain ⟨o', e1⟩ := I.base.there b o e hx
    exact there b o' (neC b o e hx) e1
  · obtain ⟨m1, e1⟩ := I.base.tbls b ps e
    obtain ⟨m2, e2⟩ := tbls b _ e1
    exact ⟨m1 ++ m2, by rw [e2, Array.append_assoc]⟩
  · obtain ⟨m, hn, hl⟩ := I.loc
    refine ⟨m, ns m hn, fun i x v e1 e2 e3 => ?_⟩
    obtain ⟨u, r, l⟩ := hl i x v e1 e2 e3
    refine ⟨u, r, ?_⟩
    rcases l with l | ⟨k, c, e, z⟩
    · exact .inl l
    · exact .inr ⟨k, c, e, cellK x c e _ z⟩
  · obtain ⟨v, z⟩ := I.cell x c e
    exact ⟨v, cellK x c e v z⟩
  · obtain ⟨m, ⟨o, _, _, ho, _⟩, _⟩ := I.loc
    exact free _ o (fun z => (hch _ z).2.1 rfl) ho I.free
  · obtain ⟨v, o, ho, hd⟩ := I.cell x c e
    exact free c o (fun z => (hch c z).2.2.1 x c e rfl) ho (I.freeC x c e)
  · obtain ⟨e, n, ne, nf, d⟩ := I.pin p hp
    have nch : p.1 ∉ ch := fun z => (hch p.1 z).2.2.2 p hp rfl
    exact ⟨keep p.1 p.2 ne nf nch e n, free p.1 p.2 nch e n, ne, nf, d⟩
theorem Inv.un {t' : Nat} (I : Inv X pins σ H s) (u : Un X.fs [] H H' s.heap h') (hok : HOk X.prog X.w H' h') : Inv X pins σ H' { s with heap := h', toks := t' } := by
  obtain ⟨m, ⟨o, es, ep, ho, r⟩, _⟩ := id I.loc
  obtain ⟨sl, hL⟩ := u.any ho I.free (by simp)
  exact I.step (g' := s.gens) (d' := s.drawn) (ch := []) (fun _ z => nomatch z) (fun b o _ hb _ e n => u.keep b o e n hb (by simp)) (fun b o _ hb _ e n => u.slot b o e n hb (by simp)) (fun b o _ e n => u.free b o e n (by simp)) (fun b o _ e => u.there b o e (by simp)) u.tups u.frzs u.tbls (fun m' hm => by
    obtain ⟨o', es', ep', ho', r'⟩ := hm
    rw [ho] at ho'; cases ho'
    exact ⟨_, es', ep', hL, r'⟩) hok I.bare
theorem Inv.call {g' : Array GenState} {t' : Nat} {d' : Drawn} {ch : List Addr} (I : Inv X pins σ H s) (u : Un (frs X.stack) ch H H' s.heap h') (hok : HOk X.prog X.w H' h') (hg : AllBare g')
    (hch : ∀ b ∈ ch, (b ∈ X.ex ∨ X.s_0.heap.objs.size ≤ b) ∧ b ≠ X.env.locals ∧ (∀ x c, X.env.cells.lookup x = some c → c ≠ b) ∧ ∀ p ∈ X.pn ++ pins, p.1 ≠ b) :
    Inv X pins σ H' { s with heap := h', gens := g', drawn := d', toks := t' } := by
  obtain ⟨m, ⟨o, es, ep, ho, r⟩, _⟩ := id I.loc
  obtain ⟨sl, hL⟩ := u.any ho I.free fun z => (hch _ z).2.1 rfl
  exact I.step (ch := ch) hch (fun b o hL hb hc e n => u.keep b o e n (fun z => (List.mem_cons.mp (I.stkSub b z)).elim hL hb) hc) (fun b o _ _ hc e n => u.any e n hc) (fun b o hc e n => u.free b o e n hc) (fun b o hc e => u.there b o e hc) u.tups u.frzs u.tbls (fun m' hm => by
    obtain ⟨o', es', ep', ho', r'⟩ := hm
    rw [ho] at ho'; cases ho'
    exact ⟨_, es', ep', hL, r'⟩) hok hg
theorem Inv.turned {t' : Nat} {it : Addr} (I : Inv X pins σ H s) (k : ∀ b o, b ≠ it → s.heap.get? b = some o → h'.get? b = some o) (hn : H it = none) (hL : it ≠ X.env.locals)
    (h1 : it ∈ X.ex ∨ X.s_0.heap.objs.size ≤ it) (h2 : ∀ x c, X.env.cells.lookup x = some c → c ≠ it) (h3 : ∀ p ∈ X.pn ++ pins, p.1 ≠ it) : Inv X pins σ H { s with heap := h', toks := t' } := by
  have nit : ∀ b u, H b = some u → b ≠ it := fun b u e z => by rw [z, hn] at e; cases e
  refine I.step (g' := s.gens) (d' := s.drawn) (ch := [it]) (fun b hb => ?_) (fun b o _ _ hc e _ => k b o (fun z => hc (by simp [z])) e) (fun b o _ _ hc e _ => ⟨o.slots, k b o (fun z => hc (by simp [z])) e⟩) (fun _ _ _ _ n => n)
    (fun b o hc e => ⟨o, k b o (fun z => hc (by simp [z])) e⟩) (fun _ _ e => e) (fun _ _ _ e => e) (fun b ps e => ⟨#[], by rw [e]; simp⟩) (fun m hm => ?_) (fun b u e => ?_) I.bare
  · have e : b = it := by simpa using hb
    subst e
    exact ⟨h1, hL, h2, h3⟩
  · obtain ⟨o, es, ep, ho, r⟩ := hm
    exact ⟨o, es, ep, k _ o (Ne.symm hL) ho, r⟩
  · refine (I.hok b u e).stay (fun c v hc q => k c v ?_ q) (fun _ q => q) fun _ _ q => q
    rcases hc with z | z
    · rw [z]; exact nit b u e
    · exact nit c _ z
theorem Inv.tok (I : Inv X pins σ H s) (t : Nat) : Inv X pins σ H { s with toks := t } := I.un (h' := s.heap) (t' := t) Un.refl I.hok
theorem Inv.kept {t' : Nat} (I : Inv X pins σ H s) (k : ∀ b u, s.heap.get? b = some u → h'.get? b = some u) : Inv X pins σ H { s with heap := h', toks := t' } := I.un (Un.kept k) (I.hok.kept k)
theorem Inv.laid {a : Addr} {o : HO} {t' : Nat} (I : Inv X pins σ H s) (k : ∀ b u, s.heap.get? b = some u → h'.get? b = some u) (hp : s.heap.objs.size ≤ a) (new : ObjOk X.prog X.w (upd H a o) h' a o) :
    Inv X pins σ (upd H a o) { s with heap := h', toks := t' } := I.un (Un.laid k hp (I.hok.fresh hp)) (I.hok.laid k hp new)
theorem Inv.write {x e : Addr} {o : HO} {t' : Nat} (I : Inv X pins σ H s) (mu : Mut (H x)) (he : e = x ∨ H e = some (.own x)) (k : ∀ b u, b ≠ e → s.heap.get? b = some u → h'.get? b = some u) (heo : ∃ u, h'.get? e = some u)
    (new : ObjOk X.prog X.w (upd H x o) h' x o) : Inv X pins σ (upd H x o) { s with heap := h', toks := t' } := I.un (Un.write mu he k heo) (I.hok.write mu he k heo new)
theorem Inv.weak {σ' : List (Option V)} (I : Inv X pins σ H s) (hl : σ'.length = σ.length) (w : ∀ (i : Nat) v, σ'[i]? = some (some v) → σ[i]? = some (some v)) : Inv X pins σ' H s :=
  ⟨I.ok, I.os, I.bare, I.base, let ⟨m, hn, hl'⟩ := I.loc; ⟨m, hn, fun i x v e1 e2 e3 => hl' i x v e1 (w i v e2) e3⟩, I.cell, I.free, I.freeC, I.pin, I.hok, hl.trans I.len⟩
theorem Inv.pins_of {pins' : List (Addr × Obj)} (I : Inv X pins σ H s) (h : ∀ p ∈ pins', s.heap.get? p.1 = some p.2 ∧ H p.1 = none ∧ p.1 ≠ X.env.locals ∧ p.1 ∉ X.fs ∧ ∀ v, p.2.data ≠ .cell v) : Inv X pins' σ H s :=
  ⟨I.ok, I.os, I.bare, I.base, I.loc, I.cell, I.free, I.freeC, fun p hp => (List.mem_append.mp hp).elim (fun z => I.pin p (List.mem_append_left _ z)) (h p), I.hok, I.len⟩

theorem nodup_ix {N : List Str} (hN : N.Nodup) {i j : Nat} {x : Str} (a : N[i]? = some x) (b : N[j]? = some x) : i = j := by
  obtain ⟨h1, e1⟩ := List.getElem?_eq_some_iff.mp a
  obtain ⟨h2, e2⟩ := List.getElem?_eq_some_iff.mp b
  exact (List.getElem_inj hN).mp (e1.trans e2.symm)

theorem store_ok2 {M : Model} {A : Around} {E : Value → Shared → Prop} {i : Nat} {x : Str} {v : V} {u : Value} {Q : Unit → Shared → Prop} (I : Inv X pins σ H s) (hN : X.N.Nodup) (hi : X.N[i]? = some x) (hx : Loc X.env.scope x) (r : RelV v u)
    (h : ∀ s', Inv X pins (σ.set i (some v)) H s' → (∃ a, Heap.SameBut a s.heap s'.heap ∧ (a = X.env.locals ∨ X.env.cells.lookup x = some a)) → Q () s') (hf : X.fn x = true ∨ X.env.scope.names.lookup x = some .local := by first | exact .inl rfl | exact .inr rfl | assumption) : wpAny M A (storeName X.env x u) Q E s := by
  obtain ⟨m, hn, hl⟩ := id I.loc
  have hcls : (X.env.scope.kind == .class || (X.env.scope.kind == .module && X.env.locals != X.env.globals)) = false := by rw [I.ok.kind]; rfl
  have hiσ : i < σ.length := by rw [I.len]; exact (List.getElem?_eq_some_iff.mp hi).1
  have cne := I.cne
  have tracked : ∀ {a : Addr} {h' : Heap}, (∃ o, s.heap.get? a = some o ∧ H a = none) → Heap.SameBut a s.heap h' → HOk X.prog X.w H h' := fun {a h'} ha hs b ob e => by
    obtain ⟨_, _, hfree⟩ := ha
    refine (I.hok b ob e).stay (fun c w' hc q => (hs.2 c ?_).trans q) (fun _ q => q) fun _ _ q => q
    rintro rfl
    rcases hc with rfl | hc
    · rw [hfree] at e; cases e
    · rw [hfree] at hc; cases hc
  rcases hx with hk | hk
  · refine wpAny_storeName_local hk hn (fun h' hn' hs => ?_) hcls
    obtain ⟨oL, _, _, hoL, _⟩ := id hn
    refine h _ ⟨I.ok, I.os, I.bare, ⟨fun b o e n hb hx => ?_, fun b o e n hb hx => ?_, I.base.free, fun b o e hx => ?_, I.base.tups, I.base.frzs, I.base.tbls⟩, ⟨_, hn', fun j y v' e1 e2 e3 => ?_⟩, fun y c e => ?_, I.free, I.freeC, fun p hp => ?_, tracked ⟨oL, hoL, I.free⟩ hs, by simpa using I.len⟩ ⟨_, hs, .inl rfl⟩
    · exact (hs.2 b (Nat.ne_of_lt (Nat.lt_of_lt_of_le (Heap.lt_size e) I.ok.above))).trans (I.base.keep b o e n hb hx)
    · obtain ⟨sl, e1⟩ := I.base.slot b o e n hb hx
      exact ⟨sl, (hs.2 b (Nat.ne_of_lt (Nat.lt_of_lt_of_le (Heap.lt_size e) I.ok.above))).trans e1⟩
    · obtain ⟨o', e1⟩ := I.base.there b o e hx
      exact ⟨o', (hs.2 b (Nat.ne_of_lt (Nat.lt_of_lt_of_le (Heap.lt_size e) I.ok.above))).trans e1⟩
    · by_cases hj : j = i
      · subst hj
        rw [hi] at e1; cases e1
        rw [List.getElem?_set_self hiσ] at e2
        cases e2
        exact ⟨u, r, .inl ⟨hk, by simp⟩⟩
      · rw [List.getElem?_set_ne (Ne.symm hj)] at e2
        obtain ⟨u', r', q⟩ := hl j y v' e1 e2 e3
        refine ⟨u', r', ?_⟩
        rcases q with ⟨k, e⟩ | ⟨k, c, e, z⟩
        · refine .inl ⟨k, ?_⟩
          have : y ≠ x := fun e => hj (nodup_ix hN e1 (e ▸ hi))
          simp [this, e]
        · exact .inr ⟨k, c, e, z.sameBut hs (cne y c e)⟩
    · obtain ⟨w', z⟩ := I.cell y c e
      exact ⟨w', z.sameBut hs (cne y c e)⟩
    · obtain ⟨e, n, ne, nf, d⟩ := I.pin p hp
      exact ⟨(hs.2 p.1 ne).trans e, n, ne, nf, d⟩
  · have hfn : X.fn x = true := by
      rcases hf with z | z
      · exact z
      · rw [z] at hk; cases hk
    obtain ⟨c, hc⟩ := I.ok.has x (.inl hk)
    obtain ⟨w', z⟩ := I.cell x c hc
    refine wpAny_storeName_cell I.ok.kind hk hc z (fun h' hc' hs => ?_)
    obtain ⟨oc, hoc, hocd⟩ := id z
    refine h { s with heap := h' } ⟨I.ok, I.os, I.bare, ⟨fun b o e n hb hx => ?_, fun b o e n hb hx => ?_, I.base.free, fun b o e hx => ?_, I.base.tups, I.base.frzs, I.base.tbls⟩, ⟨m, hn.sameBut hs (Ne.symm (cne x c hc)), fun j y v' e1 e2 e3 => ?_⟩, fun y c' e => ?_, I.free, I.freeC, fun p hp => ?_, tracked ⟨oc, hoc, I.freeC x c hc⟩ hs, by simpa using I.len⟩ ⟨c, hs, .inr hc⟩
    · exact (hs.2 b (Nat.ne_of_lt (Nat.lt_of_lt_of_le (Heap.lt_size e) (I.ok.cab x c hfn hc)))).trans (I.base.keep b o e n hb hx)
    · obtain ⟨sl, e1⟩ := I.base.slot b o e n hb hx
      exact ⟨sl, (hs.2 b (Nat.ne_of_lt (Nat.lt_of_lt_of_le (Heap.lt_size e) (I.ok.cab x c hfn hc)))).trans e1⟩
    · obtain ⟨o', e1⟩ := I.base.there b o e hx
      exact ⟨o', (hs.2 b (Nat.ne_of_lt (Nat.lt_of_lt_of_le (Heap.lt_size e) (I.ok.cab x c hfn hc)))).trans e1⟩
    · by_cases hj : j = i
      · subst hj
        rw [hi] at e1; cases e1
        rw [List.getElem?_set_self hiσ] at e2
        cases e2
        exact ⟨u, r, .inr ⟨.inl hk, c, hc, hc'⟩⟩
      · rw [List.getElem?_set_ne (Ne.symm hj)] at e2
        obtain ⟨u', r', q⟩ := hl j y v' e1 e2 e3
        refine ⟨u', r', ?_⟩
        rcases q with q | ⟨k, c', e, z'⟩
        · exact .inl q
        · refine .inr ⟨k, c', e, z'.sameBut hs ?_⟩
          rintro rfl
          exact hj (nodup_ix hN e1 (I.ok.inj _ _ _ e hc ▸ hi))
    · by_cases hcc : c' = c
      · subst hcc; exact ⟨_, hc'⟩
      · obtain ⟨w2, z2⟩ := I.cell y c' e
        exact ⟨w2, z2.sameBut hs hcc⟩
    · obtain ⟨e, n, ne, nf, d⟩ := I.pin p hp
      refine ⟨(hs.2 p.1 ?_).trans e, n, ne, nf, d⟩
      intro q
      rw [q, hoc] at e
      have q' : oc = p.2 := Option.some.inj e
      exact d w' (by rw [← q']; exact hocd)
theorem store_ok {M : Model} {A : Around} {E : Value → Shared → Prop} {i : Nat} {x : Str} {v : V} {u : Value} {Q : Unit → Shared → Prop} (I : Inv X pins σ H s) (hN : X.N.Nodup) (hi : X.N[i]? = some x) (hx : Loc X.env.scope x) (r : RelV v u)
    (h : ∀ s', Inv X pins (σ.set i (some v)) H s' → Q () s') (hf : X.fn x = true ∨ X.env.scope.names.lookup x = some .local := by first | exact .inl rfl | exact .inr rfl | assumption) : wpAny M A (storeName X.env x u) Q E s :=
  store_ok2 I hN hi hx r (fun s' I' _ => h s' I') hf
theorem Inv.call' {s' : Shared} {ch : List Addr} (I : Inv X pins σ H s) (ho : s'.os = s.os) (u : Un (frs X.stack) ch H H' s.heap s'.heap) (hok : HOk X.prog X.w H' s'.heap) (hg : AllBare s'.gens)
    (hch : ∀ b ∈ ch, (b ∈ X.ex ∨ X.s_0.heap.objs.size ≤ b) ∧ b ≠ X.env.locals ∧ (∀ x c, X.env.cells.lookup x = some c → c ≠ b) ∧ ∀ p ∈ X.pn ++ pins, p.1 ≠ b) : Inv X pins σ H' s' := by
  obtain ⟨h', g', d', t', o'⟩ := s'
  have e : o' = s.os := ho
  subst e
  exact I.call (g' := g') (t' := t') (d' := d') u hok hg hch
end

abbrev XK := Value → Option Addr → Hp → Prop
abbrev St := List (Option V)
abbrev VK := V → Hp → Prop
abbrev TE := St → Hp → VK → Prop
abbrev TT := St → Hp → (Bool → Hp → Prop) → Prop
abbrev TA := St → Hp → (List V → Hp → Prop) → Prop
structure Ends where
  nx : St → Hp → Prop
  rt : VK
  bk : St → Hp → Prop := fun _ _ => False
  ct : St → Hp → Prop := fun _ _ => False
abbrev TS := Ends → St → Hp → Prop

def EP (X : Cx) (pins : List (Addr × Obj)) (σ : St) (Q : VK) (u : Value) (s' : Shared) : Prop := ∃ v H', Inv X pins σ H' s' ∧ RelV v u ∧ Q v H'
def TP (X : Cx) (pins : List (Addr × Obj)) (σ : St) (Q : Bool → Hp → Prop) (b : Bool) (s' : Shared) : Prop := ∃ H', Inv X pins σ H' s' ∧ Q b H'
def AP (X : Cx) (pins : List (Addr × Obj)) (σ : St) (Q : List V → Hp → Prop) (us : List Value) (s' : Shared) : Prop := ∃ vs H', Inv X pins σ H' s' ∧ Vals vs us ∧ Q vs H'
def SP (X : Cx) (pins : List (Addr × Obj)) (D : Ends) (f : Flow) (s' : Shared) : Prop :=
  match f with
  | .next => ∃ σ' H', Inv X pins σ' H' s' ∧ D.nx σ' H'
  | .brk => ∃ σ' H', Inv X pins σ' H' s' ∧ D.bk σ' H'
  | .cont => ∃ σ' H', Inv X pins σ' H' s' ∧ D.ct σ' H'
  | .ret u => ∃ v σ' H', Inv X pins σ' H' s' ∧ RelV v u ∧ D.rt v H'

def PE (X : Cx) (e : Expr) (t : TE) : Prop :=
  ∀ (pins : List (Addr × Obj)) (s : Shared) (σ : St) (H : Hp) (Q : VK), Inv X pins σ H s → t σ H Q → wpAny (model X.prog X.w) X.A (eval e X.env) (EP X pins σ Q) X.xe s
def PT (X : Cx) (e : Expr) (t : TT) : Prop :=
  ∀ (pins : List (Addr × Obj)) (s : Shared) (σ : St) (H : Hp) (Q : Bool → Hp → Prop), Inv X pins σ H s → t σ H Q → wpAny (model X.prog X.w) X.A (isTrue e X.env (eval e X.env)) (TP X pins σ Q) X.xe s
def PA (X : Cx) (es : List Expr) (t : TA) : Prop :=
  ∀ (pos : Pos) (pins : List (Addr × Obj)) (s : Shared) (σ : St) (H : Hp) (Q : List V → Hp → Prop), Inv X pins σ H s → t σ H Q → wpAny (model X.prog X.w) X.A (spliced (backTo pos (starEach es X.env))) (AP X pins σ Q) X.xe s
def PS (X : Cx) (st : Stmt) (t : TS) : Prop :=
  ∀ (pins : List (Addr × Obj)) (s : Shared) (σ : St) (H : Hp) (D : Ends), Inv X pins σ H s → t D σ H → wpAny (model X.prog X.w) X.A (exec st X.env) (SP X pins D) X.xe s
def PSs (X : Cx) (st : List Stmt) (t : TS) : Prop :=
  ∀ (pins : List (Addr × Obj)) (s : Shared) (σ : St) (H : Hp) (D : Ends), Inv X pins σ H s → t D σ H → wpAny (model X.prog X.w) X.A (execs st X.env) (SP X pins D) X.xe s
theorem thn {α : Type} {t : Sem α} {Q Q' : α → Shared → Prop} {M : Model} {A : Around} {E : Value → Shared → Prop} {s : Shared} (h : wpAny M A t Q E s) (hQ : ∀ a s, Q a s → Q' a s) : wpAny M A t Q' E s := wpAny_mono h hQ fun _ _ x => x
end L2

namespace L2
open PySem PySem.Spec PyProof.Rows
section
variable {X : Cx}

def tVar (i : Nat) : TE := fun σ H Q => ∃ v, σ[i]? = some (some v) ∧ Q v H
def tC (v : V) : TE := fun _ H Q => Q v H
theorem pe_var {i : Nat} {x : Str} {pos : Pos} (hN : X.N[i]? = some x) (hv : Vis X.env.scope x) (hd : (x == ("__debug__" : Str)) = false := by decide) (hcd : (x == ("__classdict__" : Str)) = false := by decide) : PE X (.Name x pos) (tVar i) := by
  intro pins s σ H Q I h
  obtain ⟨v, e, h⟩ := h
  obtain ⟨m, hn, hl⟩ := I.loc
  obtain ⟨u, r, l⟩ := hl i x v hN e hv
  have fin : EP X pins σ Q u s := ⟨v, H, I, r, h⟩
  rcases l with ⟨hk, hm⟩ | ⟨hk, c, hc, hcell⟩
  · exact wpAny_Name (wpAny_loadName_local I.ok.kind hk hn hm fin) hd
  · rcases hk with hk | hk
    · exact wpAny_Name (wpAny_loadName_cell I.ok.kind hk hc hcell fin) hd
    · exact wpAny_Name (wpAny_loadName_free I.ok.kind hk hc hcell fin hcd) hd
theorem pe_int {i j pos} : PE X (.Constant (.int i) j pos) (tC (.int i)) := fun _ _ _ H _ I h => wpAny_Constant_int ⟨.int i, H, I.tok _, ⟨_, rfl⟩, h⟩
theorem pe_bl {b j pos} : PE X (.Constant (.bool b) j pos) (tC (.bl b)) := fun _ _ _ H _ I h => Constant_bool ⟨.bl b, H, I, rfl, h⟩
theorem pe_non {j pos} : PE X (.Constant .none j pos) (tC .non) := fun _ _ _ H _ I h => Constant_none ⟨.non, H, I, rfl, h⟩
def Gl (X : Cx) (x : Str) : Prop := X.env.kindOf x = some .globalImplicit
theorem ld_glob {E : Value → Shared → Prop} {pins : List (Addr × Obj)} {s : Shared} {σ : St} {H : Hp} {x : Str} {u : Value} {pos : Pos} {Q : Value → Shared → Prop} (I : Inv X pins σ H s) (hg : Gl X x) (hm : X.mg x = some u) (h : Q u s)
    (hd : (x == ("__debug__" : Str)) = false := by decide) : wpAny (model X.prog X.w) X.A (eval (.Name x pos) X.env) Q E s :=
  Calls.Name_function_global I.ok.kind hg (Calls.loadGlobal_global (by rw [I.ok.glob]; exact I.mod.glob.keeps I.bk) hm h) hd
theorem ld_blt {E : Value → Shared → Prop} {pins : List (Addr × Obj)} {s : Shared} {σ : St} {H : Hp} {x : Str} {u : Value} {pos : Pos} {Q : Value → Shared → Prop} (I : Inv X pins σ H s) (hg : Gl X x) (hm : X.mg x = none) (hv : bootBuiltins x = some u) (h : Q u s)
    (hn : x ≠ "__name__" := by decide) (hd : (x == ("__debug__" : Str)) = false := by decide) : wpAny (model X.prog X.w) X.A (eval (.Name x pos) X.env) Q E s := by
  obtain ⟨mb, h1, h2⟩ := I.mod.blt
  exact Calls.Name_function_global I.ok.kind hg (Calls.loadGlobal_builtin (by rw [I.ok.glob]; exact I.mod.glob.keeps I.bk) hm (by rw [I.ok.blt]; exact h1.keeps I.bk) ((h2 x hn).trans hv) h) hd
theorem pe_glob {x : Str} {v : V} {u : Value} {pos : Pos} (hg : Gl X x) (hm : X.mg x = some u) (r : RelV v u) (hd : (x == ("__debug__" : Str)) = false := by decide) : PE X (.Name x pos) (tC v) :=
  fun _ _ _ H _ I h => ld_glob I hg hm ⟨v, H, I, r, h⟩ hd
variable {a b : Expr} {ta tb : TE} {pos : Pos}
def tB (t : TE) : TT := fun σ H Q => t σ H fun x H1 => ∃ c, x = .bl c ∧ Q c H1
theorem pt_val {e : Expr} {t : TE} (h : PE X e t) (he : ∀ whole, isTrue e X.env whole = (do let v ← whole; standAt e.pos; holding [v] (truthy v)) := by intro _; rfl) : PT X e (tB t) := by
  intro pins s σ H Q I hw
  refine isTrue_plain (thn (h pins s σ H _ I hw) fun v s1 ⟨x, H1, I1, r1, q1⟩ => ?_) (he _)
  obtain ⟨d, rfl, q⟩ := q1
  cases r1
  exact wpAny_truthy_bool ⟨H1, I1, q⟩

variable {tA tB' : TT} {rest : List Expr}
def tNot (t : TT) : TT := fun σ H Q => t σ H fun c H1 => Q (!c) H1
theorem pt_not (ha : PT X a tA) : PT X (.UnaryOp .Not a pos) (tNot tA) := by
  intro pins s σ H Q I h
  exact isTrue_not (ha pins s σ H (fun c H1 => Q (!c) H1) I h)
def tAndV (ta tb : TE) : TE := fun σ H Q => ta σ H fun x H1 => ∃ c, x = .bl c ∧ if c = true then tb σ H1 Q else Q (.bl false) H1
def tOrV (ta tb : TE) : TE := fun σ H Q => ta σ H fun x H1 => ∃ c, x = .bl c ∧ if c = true then Q (.bl true) H1 else tb σ H1 Q
theorem pe_one {op} {t : TE} (h : PE X a t) : PE X (.BoolOp op [a] pos) t := fun pins s σ H Q I hw => BoolOp_one (h pins s σ H Q I hw)
theorem pe_and (ha : PE X a ta) (hb : PE X (.BoolOp .And (b :: rest) pos) tb) : PE X (.BoolOp .And (a :: b :: rest) pos) (tAndV ta tb) := by
  intro pins s σ H Q I h
  refine BoolOp_and (thn (ha pins s σ H _ I h) fun v s1 ⟨x, H1, I1, r1, q1⟩ => ?_)
  obtain ⟨c, rfl, q1⟩ := q1
  cases r1
  refine wpAny_truthy_bool ?_
  cases c with
  | true => exact hb pins s1 σ H1 Q I1 q1
  | false => exact ⟨.bl false, H1, I1, rfl, q1⟩
theorem pe_or (ha : PE X a ta) (hb : PE X (.BoolOp .Or (b :: rest) pos) tb) : PE X (.BoolOp .Or (a :: b :: rest) pos) (tOrV ta tb) := by
  intro pins s σ H Q I h
  refine BoolOp_or (thn (ha pins s σ H _ I h) fun v s1 ⟨x, H1, I1, r1, q1⟩ => ?_)
  obtain ⟨c, rfl, q1⟩ := q1
  cases r1
  refine wpAny_truthy_bool ?_
  cases c with
  | false => exact hb pins s1 σ H1 Q I1 q1
  | true => exact ⟨.bl true, H1, I1, rfl, q1⟩
def tIf (t : TT) (ta tb : TE) : TE := fun σ H Q => t σ H fun c H1 => if c = true then ta σ H1 Q else tb σ H1 Q
theorem pe_ifExp {c : Expr} (hc : PT X c tA) (ha : PE X a ta) (hb : PE X b tb) : PE X (.IfExp c a b pos) (tIf tA ta tb) := by
  intro pins s σ H Q I h
  refine wpAny_IfExp (thn (hc pins s σ H _ I h) fun d s1 ⟨H1, I1, q1⟩ => ?_)
  cases d with
  | true => exact ha pins s1 σ H1 Q I1 q1
  | false => exact hb pins s1 σ H1 Q I1 q1
end
end L2

namespace L2
open PySem PySem.Spec PyProof.Rows

def SqL (K : PySem.W.Frag) (H : Hp) (a : Addr) (xs : List V) : Prop :=
  Rd H a (.lst xs) ∨
    ∃ (o : Obj) (its : Array Value) (n : Nat), K.lookup a = some o ∧ o.cls = .type "list" ∧ o.dict = none ∧ o.data = .seq its n ∧ its.size ≤ sizeLine ∧ Vals xs its.toList
def SqT (K : PySem.W.Frag) (H : Hp) (a : Addr) (xs : List V) : Prop :=
  Rd H a (.tup xs) ∨
    ∃ (o : Obj) (its : Array Value) (n : Nat), K.lookup a = some o ∧ o.cls = .type "tuple" ∧ o.data = .seq its n ∧ its.size ≤ sizeLine ∧ Vals xs its.toList
def absV : Value → Option V
  | .none => some .non
  | .bool b => some (.bl b)
  | .int i _ => some (.int i)
  | .str x _ => some (.str x)
  | .bytes b _ => some (.byt b)
  | .float b _ => some (.flt b)
  | .ref a => some (.ref a)
  | .type n => some (.ty n)
  | _ => none
theorem RelV.abs {x : V} {u : Value} (r : RelV x u) : absV u = some x := by
  cases x with
  | non => cases r; rfl
  | bl _ => cases r; rfl
  | int _ => obtain ⟨t, rfl⟩ := r; rfl
  | str _ => obtain ⟨t, rfl⟩ := r; rfl
  | byt _ => obtain ⟨t, rfl⟩ := r; rfl
  | flt _ => obtain ⟨t, rfl⟩ := r; rfl
  | ref _ => cases r; rfl
  | ty _ => cases r; rfl
theorem RelV.inj {x y : V} {u : Value} (r : RelV x u) (q : RelV y u) : x = y := Option.some.inj (r.abs.symm.trans q.abs)
theorem Vals.inj : ∀ {xs ys : List V} {us : List Value}, Vals xs us → Vals ys us → xs = ys
  | _, _, _, .nil, .nil => rfl
  | _, _, _, .cons r t, .cons r' t' => by rw [r.inj r', Vals.inj t t']
section
variable {X : Cx} {pins : List (Addr × Obj)} {σ : St} {H : Hp} {s : Shared} {a : Addr} {xs ys : List V}
theorem SqL.of {K : PySem.W.Frag} (h : H a = some (.lst xs)) : SqL K H a xs := .inl (.inl h)
theorem SqT.of {K : PySem.W.Frag} (h : H a = some (.tup xs)) : SqT K H a xs := .inl (.inl h)
theorem Inv.list (I : Inv X pins σ H s) (h : SqL X.K H a xs) : ∃ its : List Value, Vals xs its ∧ PlainL s.heap a its.toArray ∧ xs.length ≤ sizeLine := by
  rcases h with h | ⟨o, its, n, hk, hc, hd, hs, hz, r⟩
  · obtain ⟨z, its, n, r, e⟩ := h.ok I.hok
    exact ⟨its, r, ⟨_, n, e, rfl, rfl, rfl⟩, z⟩
  · refine ⟨its.toList, r, ⟨o, n, I.kIn a o hk, hc, hd, by simpa using hs⟩, ?_⟩
    have e := r.length
    simp only [Array.length_toList] at e
    omega
theorem Inv.tuple (I : Inv X pins σ H s) (h : SqT X.K H a xs) : ∃ its : List Value, Vals xs its ∧ IsTup s.heap a its.toArray ∧ xs.length ≤ sizeLine := by
  rcases h with h | ⟨o, its, n, hk, hc, hs, hz, r⟩
  · obtain ⟨z, its, r, p⟩ := h.ok I.hok
    exact ⟨its, r, p, z⟩
  · refine ⟨its.toList, r, ⟨o, I.kIn a o hk, hc, n, by simpa using hs⟩, ?_⟩
    have e := r.length
    simp only [Array.length_toList] at e
    omega
theorem Inv.list_inj (I : Inv X pins σ H s) (h : SqL X.K H a xs) (h' : SqL X.K H a ys) : xs = ys := by
  obtain ⟨its, r, ⟨o, n, e, _, _, d⟩, _⟩ := I.list h
  obtain ⟨its', r', ⟨o', n', e', _, _, d'⟩, _⟩ := I.list h'
  rw [e] at e'; cases e'
  rw [d] at d'
  injection d' with d1 _
  have : its = its' := by simpa using congrArg Array.toList d1
  subst this
  exact r.inj r'
end

abbrev Cx.wish (X : Cx) (E : Value → Shared → Prop) : Cx := { X with xe := E }
abbrev Cx.nox (X : Cx) : Cx := X.wish fun _ _ => False
theorem Cx.Ok.wish {X : Cx} (ok : X.Ok) (E : Value → Shared → Prop) : (X.wish E).Ok :=
  ⟨ok.mod, ok.kind, ok.glob, ok.blt, ok.above, ok.inj, ok.has, ok.cab, ok.hd, ok.frames, ok.stk, ok.exf, ok.bs, ok.bsz, ok.noex, ok.exfs, ok.funs, ok.frf⟩
theorem Cx.Ok.unwish {X : Cx} {E : Value → Shared → Prop} (ok : (X.wish E).Ok) : X.Ok :=
  ⟨ok.mod, ok.kind, ok.glob, ok.blt, ok.above, ok.inj, ok.has, ok.cab, ok.hd, ok.frames, ok.stk, ok.exf, ok.bs, ok.bsz, ok.noex, ok.exfs, ok.funs, ok.frf⟩
section
variable {X : Cx} {pins : List (Addr × Obj)} {σ : St} {H : Hp} {s : Shared} {E : Value → Shared → Prop}
theorem Inv.wish (I : Inv X pins σ H s) (E : Value → Shared → Prop) : Inv (X.wish E) pins σ H s := ⟨I.ok.wish E, I.os, I.bare, I.base, I.loc, I.cell, I.free, I.freeC, I.pin, I.hok, I.len⟩
theorem Inv.unwish (I : Inv (X.wish E) pins σ H s) : Inv X pins σ H s := ⟨I.ok.unwish, I.os, I.bare, I.base, I.loc, I.cell, I.free, I.freeC, I.pin, I.hok, I.len⟩
theorem SP.unwish {D : Ends} {f : Flow} {s' : Shared} (h : SP (X.wish E) pins D f s') : SP X pins D f s' := by
  cases f with
  | next => obtain ⟨σ', H', I, q⟩ := h; exact ⟨σ', H', I.unwish, q⟩
  | brk => obtain ⟨σ', H', I, q⟩ := h; exact ⟨σ', H', I.unwish, q⟩
  | cont => obtain ⟨σ', H', I, q⟩ := h; exact ⟨σ', H', I.unwish, q⟩
  | ret u => obtain ⟨v, σ', H', I, r, q⟩ := h; exact ⟨v, σ', H', I.unwish, r, q⟩
theorem PSs.nox {st : List Stmt} {t : TS} (h : PSs X.nox st t) : PSs X st t := fun pins s σ H D I hw =>
  wpAny_mono (h pins s σ H D (I.wish _) hw) (fun _ _ q => q.unwish) fun _ _ z => False.elim z
end

section
variable {X : Cx} {st : Stmt} {rest : List Stmt} {t u : TS} {e : Expr} {te : TE} {pos : Pos}
def tNext : TS := fun D σ H => D.nx σ H
def tSeq (t u : TS) : TS := fun D σ H => t { D with nx := u D } σ H
theorem pss_nil : PSs X [] tNext := fun _ _ σ H _ I h => wpAny_execs_nil ⟨σ, H, I, h⟩
theorem pss_cons (h1 : PS X st t) (h2 : PSs X rest u) : PSs X (st :: rest) (tSeq t u) := by
  intro pins s σ H D I h
  refine wpAny_execs_cons (thn (h1 pins s σ H { D with nx := u D } I h) fun f s1 q => ?_)
  cases f with
  | next =>
    obtain ⟨σ', H', I', q⟩ := q
    exact h2 pins s1 σ' H' D I' q
  | ret v => exact q
  | brk => exact q
  | cont => exact q
theorem pss_one (h1 : PS X st t) : PSs X [st] t := by
  intro pins s σ H D I h
  refine wpAny_execs_cons (thn (h1 pins s σ H D I h) fun f s1 q => ?_)
  cases f with
  | next => exact wpAny_execs_nil q
  | ret v => exact q
  | brk => exact q
  | cont => exact q
theorem Inv.quiet {pins : List (Addr × Obj)} {σ : St} {H : Hp} {s : Shared} (I : Inv X pins σ H s) : interactive X.env = false := by simp [interactive, I.ok.kind]
def tDrop (te : TE) : TS := fun D σ H => te σ H fun _ H1 => D.nx σ H1
theorem ps_expr (he : PE X e te) (hs : swapsWith e none pos.line X.env = pure false := by rfl) : PS X (.Expr e pos) (tDrop te) := by
  intro pins s σ H D I h
  exact wpAny_Expr_any (thn (he pins s σ H _ I h) fun v s1 ⟨x, H1, I1, r1, q1⟩ => ⟨σ, H1, I1, q1⟩) I.quiet hs
def tRet (te : TE) : TS := fun D σ H => te σ H D.rt
theorem ps_ret (he : PE X e te) : PS X (.Return (some e) pos) (tRet te) := by
  intro pins s σ H D I h
  exact wpAny_Return_some (thn (he pins s σ H _ I h) fun v s1 ⟨x, H1, I1, r1, q1⟩ => ⟨x, σ, H1, I1, r1, q1⟩)
def tIfS (c : TT) (t u : TS) : TS := fun D σ H => c σ H fun b H1 => if b = true then t D σ H1 else u D σ H1
theorem ps_if {c : Expr} {a b : List Stmt} {tc : TT} (hc : PT X c tc) (ha : PSs X a t) (hb : PSs X b u) : PS X (.If c a b pos) (tIfS tc t u) := by
  intro pins s σ H D I h
  refine wpAny_If (thn (hc pins s σ H _ I h) fun d s1 ⟨H1, I1, q1⟩ => ?_)
  cases d with
  | true => exact ha pins s1 σ H1 D I1 q1
  | false => exact hb pins s1 σ H1 D I1 q1
end

abbrev TG := V → St → Hp → (St → Hp → Prop) → Prop
def PG (X : Cx) (target : Expr) (t : TG) : Prop :=
  ∀ (pins : List (Addr × Obj)) (s : Shared) (σ : St) (H : Hp) (v : V) (u : Value) (Q : St → Hp → Prop), Inv X pins σ H s → RelV v u → t v σ H Q →
    wpAny (model X.prog X.w) X.A (assign target X.env u) (fun _ s' => ∃ σ' H', Inv X pins σ' H' s' ∧ Q σ' H') X.xe s
abbrev TSet := V → V → V → Hp → (Hp → Prop) → Prop
def PSet (X : Cx) (t : TSet) : Prop :=
  ∀ (pins : List (Addr × Obj)) (s : Shared) (σ : St) (H : Hp) (o i v : V) (ov iv u : Value) (Q : Hp → Prop), Inv X pins σ H s → RelV o ov → RelV i iv → RelV v u → t o i v H Q →
    wpAny (model X.prog X.w) X.A (setItem ov iv u) (fun _ s' => ∃ H', Inv X pins σ H' s' ∧ Q H') X.xe s
section
variable {X : Cx} {pos : Pos}
def gName (i : Nat) : TG := fun v σ H Q => Q (σ.set i (some v)) H
theorem pg_name {i : Nat} {x : Str} (hN : X.N.Nodup) (hi : X.N[i]? = some x) (hx : Loc X.env.scope x) (hf : X.fn x = true ∨ X.env.scope.names.lookup x = some .local := by first | exact .inl rfl | exact .inr rfl | assumption) : PG X (.Name x pos) (gName i) := by
  intro pins s σ H v u Q I r h
  exact wpAny_assign_Name (store_ok I hN hi hx r (fun s' I' => ⟨_, H, I', h⟩) hf)
def gSub (to ti : TE) (t : TSet) : TG := fun v σ H Q => to σ H fun o H1 => ti σ H1 fun i H2 => t o i v H2 fun H3 => Q σ H3
theorem pg_sub {o i : Expr} {to ti : TE} {t : TSet} (ho : PE X o to) (hi : PE X i ti) (hs : PSet X t)
    (ha : ∀ v, assign (.Subscript o i pos) X.env v = (do
      let ov ← holding [v] (eval o X.env)
      let iv ← holding [v, ov] (eval i X.env)
      standAt pos
      holding [v, ov, iv] (setItem ov iv v)
      release [v, ov, iv] []) := by intro _; rfl) : PG X (.Subscript o i pos) (gSub to ti t) := by
  intro pins s σ H v u Q I r h
  rw [ha]
  refine wpAny_bind (wpAny_holding (thn (ho pins s σ H _ I h) fun ov s1 ⟨x, H1, I1, r1, q1⟩ => ?_))
  refine wpAny_bind (wpAny_holding (thn (hi pins s1 σ H1 _ I1 q1) fun iv s2 ⟨y, H2, I2, r2, q2⟩ => ?_))
  refine wpAny_bind (wpAny_standAt (wpAny_bind (wpAny_holding (thn (hs pins s2 σ H2 x y v ov iv u _ I2 r1 r2 r q2) fun _ s3 ⟨H3, I3, q3⟩ => ?_))))
  exact wpAny_release ⟨σ, H3, I3, q3⟩
def tAsg (te : TE) (g : TG) : TS := fun D σ H => te σ H fun x H1 => g x σ H1 D.nx
theorem ps_asg {tg e : Expr} {te : TE} {g : TG} (he : PE X e te) (hg : PG X tg g) (hs : swapsWithSole [tg] e pos.line X.env = pure false := by rfl) (hw : swappedStores [tg] e X.env = pure none := by rfl)
    (h1 : (assignEach [tg] X.env).map (·.2) = [assign tg X.env] := by rfl) : PS X (.Assign [tg] e pos) (tAsg te g) := by
  intro pins s σ H D I h
  refine wpAny_Assign_stores (thn (he pins s σ H _ I h) fun v s1 ⟨x, H1, I1, r1, q1⟩ => ?_) hs hw
  rw [h1]
  exact thn (hg pins s1 σ H1 x v _ I1 r1 q1) fun _ s2 q => q
theorem ps_set {i : Nat} {x : Str} {e : Expr} {te : TE} {pos' : Pos} (hN : X.N.Nodup) (hi : X.N[i]? = some x) (hx : Loc X.env.scope x) (he : PE X e te) (hs : swapsWith e (some (.Name x pos')) pos.line X.env = pure false := by rfl) (hf : X.fn x = true ∨ X.env.scope.names.lookup x = some .local := by first | exact .inl rfl | exact .inr rfl | assumption) :
    PS X (.Assign [.Name x pos'] e pos) (tAsg te (gName i)) := by
  intro pins s σ H D I h
  refine wpAny_Assign_Name (thn (he pins s σ H _ I h) fun v s1 ⟨y, H1, I1, r1, q1⟩ => ?_) hs
  exact store_ok I1 hN hi hx r1 (fun s2 I2 => ⟨_, H1, I2, q1⟩) hf
end

section
variable {X : Cx} {pos : Pos}
def tWhile (c : TT) (tb : TS) : TS := fun D σ H => ∃ W : Nat → St → Hp → Prop, (∃ m, W m σ H) ∧ ∀ m σ H, W m σ H →
  c σ H fun b H1 => if b = true then ∃ N : St → Hp → Prop, (∀ σ' H', N σ' H' → ∃ m', m' < m ∧ W m' σ' H') ∧ tb { D with nx := N, ct := N, bk := D.nx } σ H1 else D.nx σ H1
theorem ps_while {c : Expr} {body : List Stmt} {tc : TT} {tb : TS} (hp : PassesOwn (model X.prog X.w) X.A X.env X.xe) (hc : PT X c tc) (hb : PSs X body tb) : PS X (.While c body [] pos) (tWhile tc tb) := by
  intro pins s σ H D I h
  obtain ⟨W, ⟨m0, w0⟩, turn⟩ := h
  refine wpAny_While (codeAny_whileLoop (fun n s' => ∃ σ' H', Inv X pins σ' H' s' ∧ W n σ' H') ?_ m0 ⟨σ, H, I, w0⟩)
  rintro n s1 ⟨σ1, H1, I1, w1⟩
  refine wpAny_passesOwn hp (thn (hc pins s1 σ1 H1 _ I1 (turn n σ1 H1 w1)) fun b s2 ⟨H2, I2, q2⟩ => ?_)
  cases b with
  | true =>
    obtain ⟨N, hN, q2⟩ := q2
    rw [if_pos rfl]
    refine wpAny_passesOwn hp (thn (hb pins s2 σ1 H2 _ I2 q2) fun f s3 q3 => ?_)
    cases f with
    | next =>
      obtain ⟨σ3, H3, I3, n3⟩ := q3
      obtain ⟨m', hm, w3⟩ := hN σ3 H3 n3
      exact ⟨m', hm, σ3, H3, I3, w3⟩
    | cont =>
      obtain ⟨σ3, H3, I3, n3⟩ := q3
      obtain ⟨m', hm, w3⟩ := hN σ3 H3 n3
      exact ⟨m', hm, σ3, H3, I3, w3⟩
    | brk => exact q3
    | ret v => exact q3
  | false =>
    rw [if_neg Bool.false_ne_true]
    exact wpAny_execs_nil ⟨σ1, H2, I2, q2⟩
end

structure It where
  go : Nat → Hp → Prop
  yld : Nat → Hp → V → Hp → Prop
  stop : Nat → Hp → Prop
def FpOk (X : Cx) (pins : List (Addr × Obj)) (H : Hp) (b : Addr) : Prop :=
  H b = none ∧ b ≠ X.env.locals ∧ b ∉ X.fs ∧ (b ∈ X.ex ∨ X.s_0.heap.objs.size ≤ b) ∧ (∀ x c, X.env.cells.lookup x = some c → c ≠ b) ∧ ∀ p ∈ X.pn ++ pins, p.1 ≠ b
theorem Inv.fpOk {X : Cx} {pins : List (Addr × Obj)} {σ : St} {H H' : Hp} {s : Shared} {b : Addr} (I : Inv X pins σ H s) (hb : s.heap.objs.size ≤ b) (hn : H' b = none) : FpOk X pins H' b := by
  refine ⟨hn, Nat.ne_of_gt (Nat.lt_of_lt_of_le I.lt hb), I.nofs hb, .inr (Nat.le_trans I.sz hb), fun x c e z => ?_, fun p hp z => ?_⟩
  · obtain ⟨v, q⟩ := I.cell x c e
    exact absurd (Nat.lt_of_lt_of_le q.lt (by rw [z]; exact hb)) (Nat.lt_irrefl _)
  · exact absurd (Nat.lt_of_lt_of_le (Heap.lt_size (I.pin p hp).1) (by rw [z]; exact hb)) (Nat.lt_irrefl _)
structure Turn (P : Program) (w : World) (K : PySem.W.Frag) (tg : Expr) (J : It) (fp : List Addr) (it : Addr) (tn : Nat → Heap → Prop) : Prop where
  mem : it ∈ fp
  obj : ∀ i h, tn i h → ∀ b ∈ fp, ∃ o, h.get? b = some o ∧ ∀ v, o.data ≠ .cell v
  keep : ∀ i h h', tn i h → (∀ b ∈ fp, ∀ o, h.get? b = some o → h'.get? b = some o) → tn i h'
  item : ∀ (X : Cx), X.prog = P → X.w = w → X.K = K → X.calm = true → ∀ (i : Nat) (pins : List (Addr × Obj)) (s : Shared) (σ : St) (H : Hp) (E : Value → Shared → Prop), Inv X pins σ H s → (∀ b ∈ fp, FpOk X pins H b) → tn i s.heap → J.go i H →
    wpAny (model P w) X.A (pyNext (.ref it)) (fun r s1 => ∃ u, r = some u ∧
      wpAny (model P w) X.A (letOwnedTupleGo tg (.ref it) u) (fun _ s2 => ∃ x H', Inv X pins σ H' s2 ∧ RelV x u ∧ J.yld i H x H' ∧ tn (i + 1) s2.heap ∧ ∀ b ∈ fp, H' b = none) E s1) E s
  done : ∀ (X : Cx), X.prog = P → X.w = w → X.K = K → X.calm = true → ∀ (i : Nat) (pins : List (Addr × Obj)) (s : Shared) (σ : St) (H : Hp) (E : Value → Shared → Prop), Inv X pins σ H s → (∀ b ∈ fp, FpOk X pins H b) → tn i s.heap → J.stop i H →
    wpAny (model P w) X.A (pyNext (.ref it)) (fun r s1 => r = none ∧ Inv X pins σ H s1) E s
  self : ∀ (A : Around) (i : Nat) (s : Shared) (Q : Value → Shared → Prop) (E : Value → Shared → Prop), tn i s.heap → Q (.ref it) s → wpAny (model P w) A (pyIter (.ref it)) Q E s
abbrev TI := St → Hp → (It → Hp → Prop) → Prop
def PIE (X : Cx) (pins : List (Addr × Obj)) (σ : St) (tg : Expr) (R : It → Hp → Prop) (itv : Value) (s2 : Shared) : Prop :=
  ∃ (it : Addr) (fp : List Addr) (tn : Nat → Heap → Prop) (J : It) (H' : Hp), itv = .ref it ∧ Inv X pins σ H' s2 ∧ Turn X.prog X.w X.K tg J fp it tn ∧ tn 0 s2.heap ∧ (∀ b ∈ fp, FpOk X pins H' b) ∧ R J H'
def PI (X : Cx) (tg iter : Expr) (wi : TI) : Prop :=
  ∀ (pins : List (Addr × Obj)) (s : Shared) (σ : St) (H : Hp) (R : It → Hp → Prop), Inv X pins σ H s → wi σ H R →
    wpAny (model X.prog X.w) X.A (eval iter X.env) (fun v s1 => wpAny (model X.prog X.w) X.A (pyIter v) (PIE X pins σ tg R) X.xe s1) X.xe s

theorem go_of {M : Model} {A : Around} {E : Value → Shared → Prop} {s : Shared} {tg : Expr} {it : Addr} {u : Value} {o : Obj} {n : String} {vs : Array Value} {Q : Unit → Shared → Prop} (ho : s.heap.get? it = some o) (hc : o.cls = .type n) (hd : o.data = .fields vs)
    (hn : ["enumerate", "zip", "dict_itemiterator", "dict_reverseitemiterator", "odict_iterator", "itertools.zip_longest", "itertools.pairwise"].contains n = false) (hQ : Q () s) : wpAny M A (letOwnedTupleGo tg (.ref it) u) Q E s := by
  unfold letOwnedTupleGo
  cases tg <;> first
    | exact wpAny_pure hQ
    | (cases u <;> first
        | exact wpAny_pure hQ
        | (refine wpAny_bind (wpAny_load ho ?_)
           rw [hc, hd]
           show wpAny M A (if (["enumerate", "zip", "dict_itemiterator", "dict_reverseitemiterator", "odict_iterator", "itertools.zip_longest", "itertools.pairwise"].contains n && vs[0]? == some (rawInt _)) = true then _ else _) Q E s
           rw [if_neg (by intro h; rw [hn, Bool.false_and] at h; cases h)]
           exact wpAny_pure hQ))

def Itl (K : PySem.W.Frag) (a : Addr) : It :=
  ⟨fun i H => ∃ xs x, SqL K H a xs ∧ xs[i]? = some x, fun i H x H' => H' = H ∧ ∀ xs, SqL K H a xs → xs[i]? = some x, fun i H => ∃ xs, SqL K H a xs ∧ xs.length ≤ i⟩
def Itr (lo : Int) (n : Nat) : It := ⟨fun i _ => i < n, fun i H x H' => H' = H ∧ x = .int (lo + i), fun i _ => n ≤ i⟩
theorem turn_list {P : Program} {w : World} {K : PySem.W.Frag} {tg : Expr} (a it : Addr) : Turn P w K tg (Itl K a) [it] it (fun i h => h.IsListIter it a i) where
  mem := by simp
  obj := fun i h st b hb => by
    have e : b = it := by simpa using hb
    subst e
    obtain ⟨o, e, c, d⟩ := st
    exact ⟨o, e, fun v z => by rw [d] at z; cases z⟩
  keep := fun i h h' st k => st.at fun o e => k it (by simp) o e
  item := by
    intro X hP hw hK hc i pins s σ H E I hf st hg
    subst hP hw hK
    obtain ⟨xs, x, hq, hx⟩ := hg
    obtain ⟨its, rv, p, hz⟩ := I.list hq
    obtain ⟨u, hu, ru⟩ := rv.get hx
    obtain ⟨f0, f1, f2, f3, f4, f5⟩ := hf it (by simp)
    refine wpAny_pyNext_list_item st p.isList (x := u) (by simpa using hu) fun h' st' sb => ?_
    have I1 : Inv X pins σ H { s with heap := h' } := I.turned (t' := s.toks) (fun b o hb e => (sb.2 b hb).trans e) f0 f1 f3 f4 f5
    obtain ⟨o, e, c, d⟩ := id st'
    exact ⟨u, rfl, go_of (s := { s with heap := h' }) e c d (by decide) ⟨x, H, I1, ru, ⟨rfl, fun ys hy => by rw [I.list_inj hy hq]; exact hx⟩, st', fun b hb => (hf b hb).1⟩⟩
  done := by
    intro X hP hw hK hc i pins s σ H E I hf st hg
    subst hP hw hK
    obtain ⟨xs, hq, hx⟩ := hg
    obtain ⟨its, rv, p, hz⟩ := I.list hq
    obtain ⟨f0, f1, f2, f3, f4, f5⟩ := hf it (by simp)
    have hl := rv.length
    exact wpAny_pyNext_list_end (I.ok.hd hc) st p.isList (by simp; omega) fun h' eb => ⟨rfl, I.turned (t' := s.toks) (fun b o hb e => eb b o hb e) f0 f1 f3 f4 f5⟩
  self := fun _ _ _ _ _ st h => wpAny_pyIter_listiter st h
theorem turn_range {P : Program} {w : World} {K : PySem.W.Frag} {tg : Expr} (it : Addr) (lo : Int) (n : Nat) : Turn P w K tg (Itr lo n) [it] it (fun i h => IsRangeIter h it (lo + (i : Nat) * 1) ((n : Int) - (i : Nat)) 1) where
  mem := by simp
  obj := fun i h st b hb => by
    have e : b = it := by simpa using hb
    subst e
    exact ⟨_, st, fun v z => by
      have z' : Data.fields _ = Data.cell v := z
      cases z'⟩
  keep := fun i h h' st k => k it (by simp) _ st
  item := by
    intro X hP hw hK hc i pins s σ H E I hf st hg
    subst hP hw hK
    obtain ⟨f0, f1, f2, f3, f4, f5⟩ := hf it (by simp)
    have W := Walks.range (prog := X.prog) (w := X.w) (I.ok.hd hc) it lo 1 n
    refine W.item i s _ _ hg st fun v h' tk hv st' kk => ?_
    obtain ⟨t, rfl⟩ := hv
    have I1 : Inv X pins σ H { s with heap := h', toks := tk } := I.turned (fun b o hb e => kk b o (by simpa using hb) e) f0 f1 f3 f4 f5
    refine ⟨_, rfl, go_of (s := { s with heap := h', toks := tk }) (n := "range_iterator") st' rfl rfl (by decide) ⟨.int (lo + i), H, I1, ⟨t, ?_⟩, ⟨rfl, rfl⟩, st', fun b hb => (hf b hb).1⟩⟩
    rw [Int.mul_one]
  done := by
    intro X hP hw hK hc i pins s σ H E I hf st hg
    subst hP hw hK
    obtain ⟨f0, f1, f2, f3, f4, f5⟩ := hf it (by simp)
    exact wpAny_pyNext_range_end (I.ok.hd hc) st (by have : n ≤ i := hg; omega) fun h' eb => ⟨rfl, I.turned (t' := s.toks) (fun b o hb e => eb b o hb e) f0 f1 f3 f4 f5⟩
  self := fun _ _ _ _ _ st h => wpAny_pyIter_rangeiter st h
end L2

namespace L2
open PySem PySem.Spec PyProof.Rows
section
variable {X : Cx} {tg : Expr}
def iList (K : PySem.W.Frag) (tl : TE) : TI := fun σ H R => tl σ H fun x H1 => ∃ a, x = .ref a ∧ (∃ xs, SqL K H1 a xs) ∧ R (Itl K a) H1
theorem pi_list {l : Expr} {tl : TE} (hl : PE X l tl) : PI X tg l (iList X.K tl) := by
  intro pins s σ H R I h
  refine thn (hl pins s σ H _ I h) fun v s1 ⟨x, H1, I1, r1, q1⟩ => ?_
  obtain ⟨a, e, ⟨xs, hq⟩, q⟩ := q1
  subst e
  cases r1
  obtain ⟨its, rv, p, hz⟩ := I1.list hq
  refine wpAny_pyIter_list p.isList ?_
  refine ⟨s1.heap.objs.size, [s1.heap.objs.size], _, _, H1, rfl, I1.kept (t' := s1.toks) fun b o e => Heap.get?_push_of_some _ e, turn_list a _, ⟨_, Heap.get?_push_size _ rfl, rfl, rfl⟩, fun b hb => ?_, q⟩
  have e : b = s1.heap.objs.size := by simpa using hb
  subst e
  exact I1.fpOk (Nat.le_refl _) (I1.hok.fresh (Nat.le_refl _))
theorem range_it {pins : List (Addr × Obj)} {σ : St} {H : Hp} {s : Shared} {R : It → Hp → Prop} {E : Value → Shared → Prop} {lo hi : Int} {t u v : Tok} {tk : Nat} (I : Inv X pins σ H s) (h1 : -(2 ^ 62) ≤ lo) (h2 : lo < 2 ^ 62) (h3 : -(2 ^ 62) ≤ hi) (h4 : hi < 2 ^ 62)
    (q : R (Itr lo (hi - lo).toNat) H) : wpAny (model X.prog X.w) X.A (pyIter (.ref s.heap.objs.size)) (PIE X pins σ tg R) E { s with heap := s.heap.push { cls := .type "range", data := .fields #[.int lo t, .int hi u, .int 1 v] }, toks := tk } := by
  refine wpAny_pyIter_range (IsRange.new ..) (small_one h1 h2 h3 h4) ?_
  have I1 : Inv X pins σ H { s with heap := s.heap.push { cls := .type "range", data := .fields #[.int lo t, .int hi u, .int 1 v] }, toks := tk } := I.kept fun b o e => Heap.get?_push_of_some _ e
  refine ⟨(s.heap.push { cls := .type "range", data := .fields #[.int lo t, .int hi u, .int 1 v] }).objs.size, [(s.heap.push { cls := .type "range", data := .fields #[.int lo t, .int hi u, .int 1 v] }).objs.size], _, _, H, rfl,
    I1.kept (t' := tk) fun b o e => Heap.get?_push_of_some _ e, turn_range _ lo (hi - lo).toNat, ?_, fun b hb => ?_, q⟩
  · have e1 : lo + ((0 : Nat) : Int) * 1 = lo := by simp
    have e2 : (((hi - lo).toNat : Nat) : Int) - ((0 : Nat) : Int) = Builtin.Range.rangeSize lo hi 1 := by rw [rangeSize_one]; split <;> omega
    show IsRangeIter _ _ (lo + ((0 : Nat) : Int) * 1) ((((hi - lo).toNat : Nat) : Int) - ((0 : Nat) : Int)) 1
    rw [e1, e2]
    exact Heap.get?_push_size _ rfl
  · have e : b = (s.heap.push { cls := .type "range", data := .fields #[.int lo t, .int hi u, .int 1 v] }).objs.size := by simpa using hb
    subst e
    exact I1.fpOk (Nat.le_refl _) (I1.hok.fresh (Nat.le_refl _))
def iRng1 (ta : TA) : TI := fun σ H R => ta σ H fun vs H1 => ∃ j : Int, vs = [.int j] ∧ -(2 ^ 62) ≤ j ∧ j < 2 ^ 62 ∧ R (Itr 0 j.toNat) H1
theorem pi_range1 {a : Expr} {ta : TA} {p pos : Pos} (hg : Gl X "range") (hm : X.mg "range" = none) (ha : PA X [a] ta) (hs : starEach [a] X.env = [(false, eval a X.env)] := by rfl) : PI X tg (.Call (.Name "range" p) [a] [] pos) (iRng1 ta) := by
  intro pins s σ H R I h
  refine Call_ (ld_blt I hg hm boot_range (PyProof.Rows.callWith_type1 (thn (ha pos pins s σ H _ I h) fun us s1 ⟨vs, H1, I1, r1, q1⟩ => ?_) hs rfl))
  obtain ⟨j, e, q1, q2, q⟩ := q1
  subst e
  cases r1 with
  | cons r rr =>
    cases rr
    obtain ⟨t, rfl⟩ := r
    exact call_range_1 (range_it I1 (by omega) (by omega) q1 q2 (by simpa using q))
def tFor (wi : TI) (g : TG) (tb : TS) : TS := fun D σ H => wi σ H fun J H1 => ∃ W : Nat → Nat → St → Hp → Prop, (∃ m, W 0 m σ H1) ∧ ∀ i m σ H, W i m σ H →
  (J.stop i H ∧ D.nx σ H) ∨ (J.go i H ∧ ∃ N : St → Hp → Prop, (∀ σ' H', N σ' H' → ∃ m', m' < m ∧ W (i + 1) m' σ' H') ∧ ∀ x H', J.yld i H x H' → g x σ H' fun σ2 H2 => tb { D with nx := N, ct := N, bk := D.nx } σ2 H2)
def pinsAt (fp : List Addr) (h : Heap) : List (Addr × Obj) := fp.filterMap fun b => (h.get? b).map fun o => (b, o)
theorem mem_pinsAt {fp : List Addr} {h : Heap} {b : Addr} {o : Obj} (hb : b ∈ fp) (e : h.get? b = some o) : (b, o) ∈ pinsAt fp h := List.mem_filterMap.mpr ⟨b, hb, by rw [e]; rfl⟩
theorem of_pinsAt {fp : List Addr} {h : Heap} {p : Addr × Obj} (hp : p ∈ pinsAt fp h) : p.1 ∈ fp ∧ h.get? p.1 = some p.2 := by
  obtain ⟨b, hb, e⟩ := List.mem_filterMap.mp hp
  cases q : h.get? b with
  | none => rw [q] at e; cases e
  | some o =>
    rw [q] at e
    have e' : (b, o) = p := Option.some.inj e
    subst e'
    exact ⟨hb, q⟩
theorem Inv.pinned {pins : List (Addr × Obj)} {σ : St} {H : Hp} {s : Shared} {fp : List Addr} (I : Inv X pins σ H s) (hf : ∀ b ∈ fp, FpOk X pins H b) (ho : ∀ b ∈ fp, ∃ o, s.heap.get? b = some o ∧ ∀ v, o.data ≠ .cell v) : Inv X (pins ++ pinsAt fp s.heap) σ H s :=
  I.pins_of fun p hp => (List.mem_append.mp hp).elim (fun z => I.pin p (List.mem_append_right _ z)) fun z => by
    obtain ⟨hb, e⟩ := of_pinsAt z
    obtain ⟨f0, f1, f2, _⟩ := hf p.1 hb
    obtain ⟨o, e', d⟩ := ho p.1 hb
    rw [e] at e'; cases e'
    exact ⟨e, f0, f1, f2, d⟩
theorem Inv.unpinned {pins pl : List (Addr × Obj)} {σ : St} {H : Hp} {s : Shared} (I : Inv X (pins ++ pl) σ H s) : Inv X pins σ H s := I.pins_of fun p hp => I.pin p (List.mem_append_right _ (List.mem_append_left _ hp))
theorem ps_for {iter : Expr} {body : List Stmt} {wi : TI} {g : TG} {tb : TS} {pos : Pos} (hp : PassesOwn (model X.prog X.w) X.A X.env X.xe) (hc : X.calm = true) (hi : PI X tg iter wi) (hg : PG X tg g) (hb : PSs X body tb)
    (hs : ∀ x, foldedSetIterable iter X.env x = pure x := by intro _; rfl) : PS X (.For tg iter body [] pos) (tFor wi g tb) := by
  intro pins s σ H D I h
  refine wpAny_For (thn (hi pins s σ H _ I h) fun v s1 h1 => thn h1 fun itv s2 h2 => ?_) hs
  obtain ⟨it, fp, tn, J, H2, e, I2, T, st2, f2, W, ⟨m0, w0⟩, turn⟩ := h2
  subst e
  -- what stays true of the iterator's objects through the loop
  have stat : ∀ {H' : Hp}, (∀ b ∈ fp, H' b = none) → ∀ b ∈ fp, FpOk X pins H' b := fun hn b hb => ⟨hn b hb, (f2 b hb).2⟩
  refine codeAny_forLoop_any (fun n s' => ∃ i σ' H', Inv X pins σ' H' s' ∧ tn i s'.heap ∧ (∀ b ∈ fp, H' b = none) ∧ W i n σ' H') ?_ m0 ⟨0, σ, H2, I2, st2, fun b hb => (f2 b hb).1, w0⟩
  rintro n s3 ⟨i, σ3, H3, I3, st3, fr3, w3⟩
  rcases turn i n σ3 H3 w3 with ⟨stop, qn⟩ | ⟨go, N, hN, step⟩
  · refine wpAny_passesOwn hp (thn (T.done X rfl rfl rfl hc i pins s3 σ3 H3 X.xe I3 (stat fr3) st3 stop) fun r s4 ⟨hr, I4⟩ => ?_)
    subst hr
    exact wpAny_execs_nil ⟨σ3, H3, I4, qn⟩
  · refine wpAny_passesOwn hp (thn (T.item X rfl rfl rfl hc i pins s3 σ3 H3 X.xe I3 (stat fr3) st3 go) fun r s4 ⟨u, hr, h4⟩ => ?_)
    subst hr
    refine wpAny_passesOwn hp (thn h4 fun _ s5 ⟨x, H5, I5, r5, y5, st5, fr5⟩ => ?_)
    have I5' := I5.pinned (stat fr5) (T.obj _ _ st5)
    refine wpAny_passesOwn hp (thn (hg _ s5 σ3 H5 x u _ I5' r5 (step x H5 y5)) fun _ s6 ⟨σ6, H6, I6, q6⟩ => ?_)
    refine wpAny_passesOwn hp (thn (hb _ s6 σ6 H6 _ I6 q6) fun f s7 q7 => ?_)
    have again : ∀ {σ7 : St} {H7 : Hp}, Inv X (pins ++ pinsAt fp s5.heap) σ7 H7 s7 → N σ7 H7 → ∃ m, m < n ∧ ∃ i σ' H', Inv X pins σ' H' s7 ∧ tn i s7.heap ∧ (∀ b ∈ fp, H' b = none) ∧ W i m σ' H' := fun {σ7 H7} I7 n7 => by
      obtain ⟨m', hm, w7⟩ := hN σ7 H7 n7
      refine ⟨m', hm, i + 1, σ7, H7, I7.unpinned, T.keep _ _ _ st5 fun b hb o e => (I7.pin (b, o) (List.mem_append_right _ (List.mem_append_right _ (mem_pinsAt hb e)))).1, fun b hb => ?_, w7⟩
      obtain ⟨o, e, d⟩ := T.obj _ _ st5 b hb
      exact (I7.pin (b, o) (List.mem_append_right _ (List.mem_append_right _ (mem_pinsAt hb e)))).2.1
    cases f with
    | next => obtain ⟨σ7, H7, I7, n7⟩ := q7; exact again I7 n7
    | cont => obtain ⟨σ7, H7, I7, n7⟩ := q7; exact again I7 n7
    | brk => obtain ⟨σ7, H7, I7, q7⟩ := q7; exact ⟨σ7, H7, I7.unpinned, q7⟩
    | ret v => obtain ⟨x7, σ7, H7, I7, r7, q7⟩ := q7; exact ⟨x7, σ7, H7, I7.unpinned, r7, q7⟩
end

theorem for_list {K : PySem.W.Frag} {a : Addr} {xs : List V} {g : TG} {tb : TS} {D : Ends} {σ : St} {H : Hp} (Pv : Nat → St → Hp → Prop) (h0 : Pv 0 σ H) (hl : ∀ i σ H, i ≤ xs.length → Pv i σ H → SqL K H a xs)
    (hs : ∀ i x σ H, xs[i]? = some x → Pv i σ H → g x σ H fun σ2 H2 => tb { D with nx := Pv (i + 1), ct := Pv (i + 1), bk := D.nx } σ2 H2) (hd : ∀ σ H, Pv xs.length σ H → D.nx σ H) :
    ∃ W : Nat → Nat → St → Hp → Prop, (∃ m, W 0 m σ H) ∧ ∀ i m σ H, W i m σ H →
      ((Itl K a).stop i H ∧ D.nx σ H) ∨ ((Itl K a).go i H ∧ ∃ N : St → Hp → Prop, (∀ σ' H', N σ' H' → ∃ m', m' < m ∧ W (i + 1) m' σ' H') ∧ ∀ x H', (Itl K a).yld i H x H' → g x σ H' fun σ2 H2 => tb { D with nx := N, ct := N, bk := D.nx } σ2 H2) := by
  refine ⟨fun i m σ H => m = xs.length - i ∧ i ≤ xs.length ∧ Pv i σ H, ⟨xs.length, by simp, Nat.zero_le _, h0⟩, ?_⟩
  rintro i m σ H ⟨rfl, hi, p⟩
  have q := hl i σ H hi p
  by_cases hlt : i < xs.length
  · refine .inr ⟨⟨xs, xs[i], q, by simp [hlt]⟩, Pv (i + 1), fun σ' H' p' => ⟨xs.length - (i + 1), by omega, rfl, hlt, p'⟩, fun x H' y => ?_⟩
    obtain ⟨e, y⟩ := y
    subst e
    exact hs i x σ _ (y xs q) p
  · have e : i = xs.length := by omega
    subst e
    exact .inl ⟨⟨xs, q, Nat.le_refl _⟩, hd σ H p⟩
theorem for_range {lo : Int} {n : Nat} {g : TG} {tb : TS} {D : Ends} {σ : St} {H : Hp} (Pv : Nat → St → Hp → Prop) (h0 : Pv 0 σ H)
    (hs : ∀ i σ H, i < n → Pv i σ H → g (.int (lo + i)) σ H fun σ2 H2 => tb { D with nx := Pv (i + 1), ct := Pv (i + 1), bk := D.nx } σ2 H2) (hd : ∀ σ H, Pv n σ H → D.nx σ H) :
    ∃ W : Nat → Nat → St → Hp → Prop, (∃ m, W 0 m σ H) ∧ ∀ i m σ H, W i m σ H →
      ((Itr lo n).stop i H ∧ D.nx σ H) ∨ ((Itr lo n).go i H ∧ ∃ N : St → Hp → Prop, (∀ σ' H', N σ' H' → ∃ m', m' < m ∧ W (i + 1) m' σ' H') ∧ ∀ x H', (Itr lo n).yld i H x H' → g x σ H' fun σ2 H2 => tb { D with nx := N, ct := N, bk := D.nx } σ2 H2) := by
  refine ⟨fun i m σ H => m = n - i ∧ i ≤ n ∧ Pv i σ H, ⟨n, by simp, Nat.zero_le _, h0⟩, ?_⟩
  rintro i m σ H ⟨rfl, hi, p⟩
  by_cases hlt : i < n
  · refine .inr ⟨hlt, Pv (i + 1), fun σ' H' p' => ⟨n - (i + 1), by omega, rfl, hlt, p'⟩, fun x H' y => ?_⟩
    obtain ⟨e, y⟩ := y
    subst e y
    exact hs i σ _ hlt p
  · have e : i = n := by omega
    subst e
    exact .inl ⟨Nat.le_refl _, hd σ H p⟩
end L2

namespace L2
open PySem PySem.Spec PyProof.Rows

abbrev R2 := V → V → Hp → VK → Prop
def OpR (X : Cx) (f : Value → Value → Sem Value) (r : R2) : Prop :=
  ∀ (pins : List (Addr × Obj)) (s : Shared) (σ : St) (H : Hp) (x y : V) (v u : Value) (Q : VK), Inv X pins σ H s → RelV x v → RelV y u → r x y H Q →
    wpAny (model X.prog X.w) X.A (f v u) (EP X pins σ Q) X.xe s
def CallR (X : Cx) (f : Value) (r : List V → Hp → VK → Prop) : Prop :=
  ∀ (pins : List (Addr × Obj)) (s : Shared) (σ : St) (H : Hp) (xs : List V) (us : List Value) (Q : VK), Inv X pins σ H s → Vals xs us → r xs H Q →
    wpAny (model X.prog X.w) X.A (call f us) (EP X pins σ Q) X.xe s
def tOp (r : R2) (ta tb : TE) : TE := fun σ H Q => ta σ H fun x H1 => tb σ H1 fun y H2 => r x y H2 Q
def rI0 (g : Int → Int → V) : R2 := fun x y H Q => ∃ i j, x = .int i ∧ y = .int j ∧ Q (g i j) H
section
variable {X : Cx} {a b c : Expr} {ta tb tc : TE} {pos : Pos}

theorem binT (ha : PE X a ta) (hb : PE X b tb) {pins : List (Addr × Obj)} {s : Shared} {σ : St} {H : Hp} {R : V → V → Hp → Prop} (I : Inv X pins σ H s)
    (h : ta σ H fun x H1 => tb σ H1 fun y H2 => R x y H2) {Q : Value → Shared → Prop} {f : Value → Value → Sem Value}
    (hf : ∀ v u s2 x y H2, Inv X pins σ H2 s2 → RelV x v → RelV y u → R x y H2 → wpAny (model X.prog X.w) X.A (f v u) Q X.xe s2) :
    wpAny (model X.prog X.w) X.A (eval a X.env) (fun v s₁ => wpAny (model X.prog X.w) X.A (eval b X.env) (fun u s₂ => wpAny (model X.prog X.w) X.A (f v u) Q X.xe s₂) X.xe s₁) X.xe s := by
  refine thn (ha pins s σ H _ I h) fun v s1 ⟨x, H1, I1, r1, q1⟩ => ?_
  refine thn (hb pins s1 σ H1 _ I1 q1) fun u s2 ⟨y, H2, I2, r2, q2⟩ => ?_
  exact hf v u s2 x y H2 I2 r1 r2 q2

theorem pe_op {op : Operator} {r : R2} (ho : OpR X (binaryOp op) r) (ha : PE X a ta) (hb : PE X b tb) : PE X (.BinOp a op b pos) (tOp r ta tb) := by
  intro pins s σ H Q I h
  exact wpAny_BinOp (binT ha hb I h fun v u s2 x y H2 I2 rx ry q => ho pins s2 σ H2 x y v u Q I2 rx ry q)
theorem opI0 {f : Value → Value → Sem Value} {g : Int → Int → Int}
    (rule : ∀ (i j : Int) (t u : Tok) (s : Shared) (Q : Value → Shared → Prop) (E : Value → Shared → Prop), Q (.int (g i j) s.toks) { s with toks := s.toks + 1 } → wpAny (model X.prog X.w) X.A (f (.int i t) (.int j u)) Q E s) :
    OpR X f (rI0 fun i j => .int (g i j)) := by
  intro pins s σ H x y v u Q I rx ry h
  obtain ⟨i, j, rfl, rfl, q⟩ := h
  obtain ⟨t, rfl⟩ := rx
  obtain ⟨t', rfl⟩ := ry
  exact rule i j t t' s _ _ ⟨.int (g i j), H, I.tok _, ⟨_, rfl⟩, q⟩
theorem opB0 {f : Value → Value → Sem Value} {g : Int → Int → Bool}
    (rule : ∀ (i j : Int) (t u : Tok) (s : Shared) (Q : Value → Shared → Prop) (E : Value → Shared → Prop), Q (.bool (g i j)) s → wpAny (model X.prog X.w) X.A (f (.int i t) (.int j u)) Q E s) :
    OpR X f (rI0 fun i j => .bl (g i j)) := by
  intro pins s σ H x y v u Q I rx ry h
  obtain ⟨i, j, rfl, rfl, q⟩ := h
  obtain ⟨t, rfl⟩ := rx
  obtain ⟨t', rfl⟩ := ry
  exact rule i j t t' s _ _ ⟨.bl (g i j), H, I, rfl, q⟩

theorem op_add : OpR X (binaryOp .Add) (rI0 fun i j => .int (i + j)) := opI0 fun _ _ _ _ _ _ _ q => add_int q
end

def scal : V → V → Bool
  | .non, .non => true | .non, .int _ => true | .int _, .non => true | .non, .bl _ => true | .bl _, .non => true | .non, .str _ => true | .str _, .non => true
  | .int _, .int _ => true | .bl _, .bl _ => true | .str _, .str _ => true | .byt _, .byt _ => true
  | .int _, .str _ => true | .str _, .int _ => true | .bl _, .str _ => true | .str _, .bl _ => true
  | _, _ => false
def rEq : R2 := fun x y H Q => scal x y = true ∧ Q (.bl (decide (x = y))) H
def rNe : R2 := fun x y H Q => scal x y = true ∧ Q (.bl (!decide (x = y))) H

theorem dec_int {i j : Int} : decide (V.int i = V.int j) = (i == j) := by
  rw [Bool.eq_iff_iff]
  simp
theorem dec_bl {i j : Bool} : decide (V.bl i = V.bl j) = (i == j) := by
  rw [Bool.eq_iff_iff]
  simp
theorem dec_str {i j : Str} : decide (V.str i = V.str j) = (i == j) := by
  rw [Bool.eq_iff_iff]
  simp
theorem dec_byt {i j : Array UInt8} : decide (V.byt i = V.byt j) = (i.toList == j.toList) := by
  rw [Bool.eq_iff_iff]
  cases i
  cases j
  simp

section
variable {X : Cx} {a b c : Expr} {ta tb tc : TE} {pos : Pos}
theorem fin_bl {pins : List (Addr × Obj)} {σ : St} {H : Hp} {s : Shared} {Q : VK} {k k' : Bool} (I : Inv X pins σ H s) (q : Q (.bl k) H) (e : k = k') : EP X pins σ Q (.bool k') s := by
  subst e
  exact ⟨.bl k, H, I, rfl, q⟩
theorem op_eq : OpR X (compareOp .Eq) rEq := by
  intro pins s σ H x y v u Q I rx ry h
  obtain ⟨hs, q⟩ := h
  cases x with
  | non =>
    cases rx
    cases y with
    | non => cases ry; exact PySem.EqNone.eq_none_none (fin_bl I q (by simp))
    | bl j => cases ry; exact PySem.EqNone.eq_none_bool (fin_bl I q (by simp))
    | int j => obtain ⟨t', rfl⟩ := ry; exact PySem.EqNone.eq_none_int (fin_bl I q (by simp))
    | str j => obtain ⟨t', rfl⟩ := ry; exact PySem.EqNone.eq_none_str (fin_bl I q (by simp))
    | _ => exact absurd (show false = true from hs) Bool.false_ne_true
  | bl i =>
    cases rx
    cases y with
    | non => cases ry; exact PySem.EqNone.eq_bool_none (fin_bl I q (by simp))
    | bl j => cases ry; exact eq_bool (fin_bl I q dec_bl)
    | str j => obtain ⟨t', rfl⟩ := ry; exact PySem.EqMixed.eq_bool_str (fin_bl I q (by simp))
    | _ => exact absurd (show false = true from hs) Bool.false_ne_true
  | int i =>
    obtain ⟨t, rfl⟩ := rx
    cases y with
    | non => cases ry; exact PySem.EqNone.eq_int_none (fin_bl I q (by simp))
    | int j => obtain ⟨t', rfl⟩ := ry; exact eq_int (fin_bl I q dec_int)
    | str j => obtain ⟨t', rfl⟩ := ry; exact PySem.EqMixed.eq_int_str (fin_bl I q (by simp))
    | _ => exact absurd (show false = true from hs) Bool.false_ne_true
  | str i =>
    obtain ⟨t, rfl⟩ := rx
    cases y with
    | non => cases ry; exact PySem.EqNone.eq_str_none (fin_bl I q (by simp))
    | bl j => cases ry; exact PySem.EqMixed.eq_str_bool (fin_bl I q (by simp))
    | int j => obtain ⟨t', rfl⟩ := ry; exact PySem.EqMixed.eq_str_int (fin_bl I q (by simp))
    | str j => obtain ⟨t', rfl⟩ := ry; exact eq_str (fin_bl I q dec_str)
    | _ => exact absurd (show false = true from hs) Bool.false_ne_true
  | byt i =>
    obtain ⟨t, rfl⟩ := rx
    cases y with
    | byt j => obtain ⟨t', rfl⟩ := ry; exact PySem.W.eq_bytes (fin_bl I q dec_byt)
    | _ => exact absurd (show false = true from hs) Bool.false_ne_true
  | _ => cases y <;> exact absurd (show false = true from hs) Bool.false_ne_true
theorem op_ne : OpR X (compareOp .NotEq) rNe := by
  intro pins s σ H x y v u Q I rx ry h
  obtain ⟨hs, q⟩ := h
  cases x with
  | non =>
    cases rx
    cases y with
    | non => cases ry; exact PySem.EqNone.ne_none_none (fin_bl I q (by simp))
    | bl j => cases ry; exact PySem.EqNone.ne_none_bool (fin_bl I q (by simp))
    | int j => obtain ⟨t', rfl⟩ := ry; exact PySem.EqNone.ne_none_int (fin_bl I q (by simp))
    | str j => obtain ⟨t', rfl⟩ := ry; exact PySem.EqNone.ne_none_str (fin_bl I q (by simp))
    | _ => exact absurd (show false = true from hs) Bool.false_ne_true
  | bl i =>
    cases rx
    cases y with
    | non => cases ry; exact PySem.EqNone.ne_bool_none (fin_bl I q (by simp))
    | bl j => cases ry; exact ne_bool (fin_bl I q (congrArg not dec_bl))
    | str j => obtain ⟨t', rfl⟩ := ry; exact PySem.EqMixed.ne_bool_str (fin_bl I q (by simp))
    | _ => exact absurd (show false = true from hs) Bool.false_ne_true
  | int i =>
    obtain ⟨t, rfl⟩ := rx
    cases y with
    | non => cases ry; exact PySem.EqNone.ne_int_none (fin_bl I q (by simp))
    | int j => obtain ⟨t', rfl⟩ := ry; exact ne_int (fin_bl I q (congrArg not dec_int))
    | str j => obtain ⟨t', rfl⟩ := ry; exact PySem.EqMixed.ne_int_str (fin_bl I q (by simp))
    | _ => exact absurd (show false = true from hs) Bool.false_ne_true
  | str i =>
    obtain ⟨t, rfl⟩ := rx
    cases y with
    | non => cases ry; exact PySem.EqNone.ne_str_none (fin_bl I q (by simp))
    | bl j => cases ry; exact PySem.EqMixed.ne_str_bool (fin_bl I q (by simp))
    | int j => obtain ⟨t', rfl⟩ := ry; exact PySem.EqMixed.ne_str_int (fin_bl I q (by simp))
    | str j => obtain ⟨t', rfl⟩ := ry; exact ne_str (fin_bl I q (congrArg not dec_str))
    | _ => exact absurd (show false = true from hs) Bool.false_ne_true
  | byt i =>
    obtain ⟨t, rfl⟩ := rx
    cases y with
    | byt j => obtain ⟨t', rfl⟩ := ry; exact PySem.W.ne_bytes (fin_bl I q (congrArg not dec_byt))
    | _ => exact absurd (show false = true from hs) Bool.false_ne_true
  | _ => cases y <;> exact absurd (show false = true from hs) Bool.false_ne_true

theorem op_lt : OpR X (compareOp .Lt) (rI0 fun i j => .bl (decide (i < j))) := opB0 fun _ _ _ _ _ _ _ q => lt_int q
theorem op_le : OpR X (compareOp .LtE) (rI0 fun i j => .bl (decide (i ≤ j))) := opB0 fun _ _ _ _ _ _ _ q => le_int q
theorem op_ge : OpR X (compareOp .GtE) (rI0 fun i j => .bl (decide (j ≤ i))) := opB0 fun _ _ _ _ _ _ _ q => ge_int q
theorem op_notN : OpR X (compareOp .IsNot) (fun x y H Q => y = .non ∧ Q (.bl (!decide (x = .non))) H) := by
  intro pins s σ H x y v u Q I rx ry h
  obtain ⟨rfl, q⟩ := h
  cases ry
  refine isnot_none_gen (fin_bl I q ?_)
  cases x <;> first
    | (cases rx; rfl)
    | (obtain ⟨t, rfl⟩ := rx; rfl)

theorem nomark (b : Expr) {op : CmpOp} (h : op ≠ .In := by decide) (h2 : op ≠ .NotIn := by decide) : behindInMarks op b = false := by
  have e1 : (op == CmpOp.In) = false := by cases op <;> first | rfl | exact absurd rfl h
  have e2 : (op == CmpOp.NotIn) = false := by cases op <;> first | rfl | exact absurd rfl h2
  cases b <;> simp [behindInMarks, e1, e2]
theorem pe_cmpR {op : CmpOp} {r : R2} (ho : OpR X (compareOp op) r) (ha : PE X a ta) (hb : PE X b tb) (hm : behindInMarks op b = false) : PE X (.Compare a [op] [b] pos) (tOp r ta tb) := by
  intro pins s σ H Q I h
  exact wpAny_Compare1 (binT ha hb I h fun v u s2 x y H2 I2 rx ry q => ho pins s2 σ H2 x y v u Q I2 rx ry q) hm
def tTest (t : TE) : TT := fun σ H Q => t σ H fun x H' => ∃ k, x = .bl k ∧ Q k H'
theorem pt_cmpR {op : CmpOp} {r : R2} (ho : OpR X (compareOp op) r) (ha : PE X a ta) (hb : PE X b tb) (hm : behindInMarks op b = false) : PT X (.Compare a [op] [b] pos) (tTest (tOp r ta tb)) := by
  intro pins s σ H Q I h
  refine wpAny_isTrue_Compare1 (thn (ha pins s σ H _ I h) fun v s1 ⟨x, H1, I1, r1, q1⟩ => thn (hb pins s1 σ H1 _ I1 q1) fun u s2 ⟨y, H2, I2, r2, q2⟩ =>
    thn (ho pins s2 σ H2 x y v u _ I2 r1 r2 q2) fun c s3 ⟨z, H3, I3, r3, k, e, q3⟩ => ?_) hm
  subst e
  cases r3
  exact wpAny_truthy_bool ⟨H3, I3, q3⟩
def tChain (r r' : R2) (ta tb tc : TE) : TE := fun σ H Q => ta σ H fun x H1 => tb σ H1 fun y H2 => r x y H2 fun z H3 => ∃ k, z = .bl k ∧
  (if k = true then tc σ H3 fun w' H4 => r' y w' H4 Q else Q (.bl false) H3)
theorem pe_chain {op op' : CmpOp} {r r' : R2} (ho : OpR X (compareOp op) r) (ho' : OpR X (compareOp op') r') (ha : PE X a ta) (hb : PE X b tb) (hc : PE X c tc)
    (hm : lastMarks [op, op'] [b, c] = false := by with_unfolding_all rfl) : PE X (.Compare a [op, op'] [b, c] pos) (tChain r r' ta tb tc) := by
  intro pins s σ H Q I h
  refine Compare_chain (thn (ha pins s σ H _ I h) fun v s1 ⟨x, H1, I1, r1, q1⟩ => chain_link (thn (hb pins s1 σ H1 _ I1 q1) fun u s2 ⟨y, H2, I2, r2, q2⟩ =>
    thn (ho pins s2 σ H2 x y v u _ I2 r1 r2 q2) fun d s3 ⟨z, H3, I3, r3, k, e, q3⟩ => ?_)) hm
  subst e
  cases r3
  refine wpAny_truthy_bool ?_
  cases k with
  | false => exact ite_ff ⟨.bl false, H3, I3, rfl, q3⟩
  | true => exact ite_tt (chain_last (thn (hc pins s3 σ H3 _ I3 q3) fun w' s4 ⟨z', H4, I4, r4, q4⟩ => ho' pins s4 σ H4 y z' u w' Q I4 r2 r4 q4))
theorem line63 : (sizeLine : Nat) < 2 ^ 63 := by rw [sizeLine_eq]; decide
theorem vals1 {x : V} {us : List Value} (r : Vals [x] us) : ∃ u, us = [u] ∧ RelV x u := by
  cases r with
  | cons r1 r2 => cases r2; exact ⟨_, rfl, r1⟩
theorem vals2 {x y : V} {us : List Value} (r : Vals [x, y] us) : ∃ u w', us = [u, w'] ∧ RelV x u ∧ RelV y w' := by
  cases r with
  | cons r1 r2 =>
    cases r2 with
    | cons r3 r4 => cases r4; exact ⟨_, _, rfl, r1, r3⟩
theorem call_max2 (hc : X.calm = true) : CallR X (.builtin "max") (fun xs H Q => ∃ i j, xs = [.int i, .int j] ∧ Q (.int (if j > i then j else i)) H) := by
  intro pins s σ H xs us Q I r h
  obtain ⟨i, j, rfl, q⟩ := h
  obtain ⟨u, w', rfl, ⟨t, rfl⟩, ⟨t', rfl⟩⟩ := vals2 r
  refine max_two_ints (I.ok.hd hc) fun h' tk k => ⟨_, H, I.kept k, ?_, q⟩
  by_cases hj : j > i
  · rw [if_pos hj, if_pos hj]; exact ⟨_, rfl⟩
  · rw [if_neg hj, if_neg hj]; exact ⟨_, rfl⟩
theorem call_min2 (hc : X.calm = true) : CallR X (.builtin "min") (fun xs H Q => ∃ i j, xs = [.int i, .int j] ∧ Q (.int (if j < i then j else i)) H) := by
  intro pins s σ H xs us Q I r h
  obtain ⟨i, j, rfl, q⟩ := h
  obtain ⟨u, w', rfl, ⟨t, rfl⟩, ⟨t', rfl⟩⟩ := vals2 r
  refine min_two_ints (I.ok.hd hc) fun h' tk k => ⟨_, H, I.kept k, ?_, q⟩
  by_cases hj : j < i
  · rw [if_pos hj, if_pos hj]; exact ⟨_, rfl⟩
  · rw [if_neg hj, if_neg hj]; exact ⟨_, rfl⟩
end
end L2

namespace L2
open PySem PySem.Spec PyProof.Rows

structure ObjM (h : Heap) (x dx C : Addr) (mA : Str → Option Value) : Prop where
  obj : h.get? x = some (PySem.W.instObj C dx)
  ns : h.Ns1 dx mA
  ne : dx ≠ x

theorem lookIn_ns {h : Heap} {dx : Addr} {mA : Str → Option Value} (n : h.Ns1 dx mA) : ∃ od, h.get? dx = some od ∧ ∀ name, PySem.W.lookIn name od = some (mA name) := by
  obtain ⟨o, es, ep, ho, hd, hk, _, hm⟩ := n
  refine ⟨o, ho, fun name => ?_⟩
  have e := hm name
  unfold nsFind findBy at e
  rw [← Array.find?_toList] at e
  unfold PySem.W.lookIn
  rw [hd]
  dsimp only
  split
  · rename_i y q
    rw [q] at e
    exact congrArg some e
  · rename_i q
    rw [q] at e
    have a : es.toList.any (·.refKey) = false := by
      rw [List.any_eq_false]
      intro y hy
      obtain ⟨z, t, hkey⟩ := hk y (Array.mem_toList_iff.mp hy)
      simp [DictEntry.refKey, hkey]
    have a' : ¬ es.toList.any (·.refKey) = true := by rw [a]; exact Bool.false_ne_true
    rw [if_neg a']
    exact congrArg some e

theorem ObjM.look {h : Heap} {x dx C : Addr} {mA : Str → Option Value} (I : ObjM h x dx C mA) : ∃ od, PySem.W.InstAt h x (PySem.W.instObj C dx) C (some od) ∧ ∀ name, PySem.W.lookIn name od = some (mA name) :=
  let ⟨od, ho, hl⟩ := lookIn_ns I.ns
  ⟨od, ⟨I.obj, rfl, rfl, ho⟩, hl⟩

section
variable {prog : Program} {w : World} {A : Around} {E : Value → Shared → Prop} {s : Shared} {K : PySem.W.Frag} {x dx C f : Addr} {mA : Str → Option Value} {name : Str} {v : Value}

theorem get_map {expr : Bool} {Q : Value → Shared → Prop} (X : K.In s.heap) (I : ObjM s.heap x dx C mA) (hg : PySem.W.plainGet K C name = true) (hh : PySem.W.hasDictIn K C = true)
    (ha : PySem.W.findIn K (.ref C) name = some none) (hv : mA name = some v) (hv' : PySem.W.handedIn v = true) (h : Q v { s with toks := s.toks + 1 }) :
    wpAny (model prog w) A (getAttr (.ref x) name expr) Q E s := by
  obtain ⟨od, J, hl⟩ := I.look
  exact PySem.W.get_value X J (PySem.W.plainGet_of hg).1 (PySem.W.findObj_own hh ha rfl (by rw [hl, hv])) hv' h

theorem get_meth {pl : Sem Bool} {Q : Value × List Value → Shared → Prop} (X : K.In s.heap) (I : ObjM s.heap x dx C mA) (hg : PySem.W.plainGet K C name = true)
    (hf : PySem.W.findIn K (.ref C) name = some (some (.ref f))) (ht : PySem.W.isFn K (.ref f) = true) (hv : mA name = none) (h : Q (.ref f, [.ref x]) s) :
    wpAny (model prog w) A (getMethod (.ref x) name pl) Q E s := by
  obtain ⟨od, J, hl⟩ := I.look
  exact PySem.W.method_fn X J (PySem.W.plainGet_of hg).1 (PySem.W.plainGet_of hg).2 hf (beq_iff_eq.mp ht) (by show (PySem.W.lookIn name od).map (·.isSome) = some false; rw [hl, hv]; rfl) h

theorem set_map {ns : List Str} {Q : Unit → Shared → Prop} (X : K.In s.heap) (I : ObjM s.heap x dx C mA)
    (hs : PySem.W.findIn K (.ref C) "__setattr__" = some (some (.builtin "object.__setattr__"))) (hp : PySem.W.plainOver K C = true) (ht : PySem.W.takerIn K C name = some none) (hh : PySem.W.hasDictIn K C = true)
    (hw : PySem.Within mA ns) (hsz : ns.length ≤ sizeLine)
    (h : ∀ h', ObjM h' x dx C (fun y => if y = name then some v else mA y) → Heap.SameBut dx s.heap h' → Q () { s with heap := h', toks := s.toks + 2 }) :
    wpAny (model prog w) A (setAttr (.ref x) name v) Q E s := by
  obtain ⟨od, J, hl⟩ := I.look
  refine PySem.W.set_plain X J hs (PySem.W.osa_open (s := { s with toks := s.toks + 1 }) (r := none) X J hp ht fun b => ?_)
  obtain ⟨cd, hc, hd'⟩ := PySem.W.any_some hh
  have hx : s.heap.get? x = some ⟨.ref C, some dx, .plain, #[]⟩ := I.obj
  refine wpAny_bind (wpAny_pure (wpAny_bind (wpAny_bind (wpAny_loadPart hx (wpAny_bind (PySem.W.Looks.here (s := { s with toks := s.toks + 1 }) (PySem.W.looks_clsIn X hc) ?_))))))
  rw [hd']
  refine wpAny_pure (a := some dx) (wpAny_bind (wpAny_pure (wpAny_bind ?_)))
  refine wpAny_nsSet1 (s := { s with toks := s.toks + 1 }) I.ns fun h' hn2 hs2 => ?_
  obtain ⟨oD, esD, epD, hoD, hdD, hcD⟩ := hn2.count (PySem.Within.cons name v hw)
  refine wpAny_bind (wpAny_lookBehind hoD (by rw [hdD]; exact pastItsLine_dict (Nat.le_trans hcD (by rw [List.length_cons]; omega))) ?_)
  exact wpAny_pure (h _ ⟨(hs2.2 _ (Ne.symm I.ne)).trans I.obj, hn2, I.ne⟩ hs2)

theorem make_map {R : Result → Shared → Prop} {vs : List Value} {kw : List (Str × Value)} (X : K.In s.heap) (hm : PySem.W.makesIn K C = true)
    (hi : PySem.W.findIn K (.ref C) "__init__" = some (some (.ref f))) (hf : PySem.W.typeIn K (.ref f) = some (.type "function"))
    (h : codeAny (model prog w) (A.under (.builtin "type.__call__" ⟨.ref C :: vs, kw⟩)) (.call (.ref f) ⟨.ref (s.heap.objs.size + 1) :: vs, kw⟩) (PySem.W.InitBack (s.heap.objs.size + 1) R)
      { s with heap := (s.heap.push PySem.W.emptyDict).push (PySem.W.instObj C s.heap.objs.size) }) :
    codeAny (model prog w) A (.call (.ref C) ⟨vs, kw⟩) R s := by
  obtain ⟨hh, g, d, t, os⟩ := s
  exact PySem.W.make_core (PySem.W.makes_of X hm) (PySem.W.looks_findIn X hi) (fun self => PySem.W.bind_fn X self hf) (.inl rfl) h
end

def putF (f : Str) (v : V) : List (Str × V) → List (Str × V)
  | [] => [(f, v)]
  | (g, x) :: r => if g = f then (g, v) :: r else (g, x) :: putF f v r
theorem lookup_putF (f g : Str) (v : V) : ∀ fs : List (Str × V), (putF f v fs).lookup g = if g = f then some v else fs.lookup g
  | [] => by
    show List.lookup g [(f, v)] = _
    by_cases h : g = f
    · have hb : (g == f) = true := beq_iff_eq.mpr h
      simp only [List.lookup, hb, if_pos h]
    · have hb : (g == f) = false := beq_eq_false_iff_ne.mpr h
      simp only [List.lookup, hb, if_neg h]
  | (k, x) :: r => by
    have ih := lookup_putF f g v r
    rw [show putF f v ((k, x) :: r) = (if k = f then (k, v) :: r else (k, x) :: putF f v r) from rfl]
    by_cases hk : k = f
    · rw [if_pos hk]
      by_cases h : g = k
      · have hb : (g == k) = true := beq_iff_eq.mpr h
        simp only [List.lookup, hb, if_pos (h.trans hk)]
      · have hb : (g == k) = false := beq_eq_false_iff_ne.mpr h
        simp only [List.lookup, hb, if_neg (fun e : g = f => h (e.trans hk.symm))]
    · rw [if_neg hk]
      by_cases h : g = k
      · have hb : (g == k) = true := beq_iff_eq.mpr h
        simp only [List.lookup, hb, if_neg (fun e : g = f => hk (h.symm.trans e))]
      · have hb : (g == k) = false := beq_eq_false_iff_ne.mpr h
        simp only [List.lookup, hb]
        exact ih
theorem keys_putF (f : Str) (v : V) : ∀ fs : List (Str × V), f ∈ (putF f v fs).map (·.1) ∧ ∀ g, g ∈ fs.map (·.1) → g ∈ (putF f v fs).map (·.1)
  | [] => ⟨by simp [putF], fun g h => by simp at h⟩
  | (k, x) :: r => by
    obtain ⟨i1, i2⟩ := keys_putF f v r
    rw [show putF f v ((k, x) :: r) = (if k = f then (k, v) :: r else (k, x) :: putF f v r) from rfl]
    by_cases hk : k = f
    · rw [if_pos hk]
      subst hk
      exact ⟨by simp, fun g h => by simpa using h⟩
    · rw [if_neg hk]
      refine ⟨?_, fun g h => ?_⟩
      · rw [List.map_cons]
        exact List.mem_cons_of_mem _ i1
      · rw [List.map_cons] at h ⊢
        rcases List.mem_cons.mp h with e | e
        · exact List.mem_cons.mpr (.inl e)
        · exact List.mem_cons_of_mem _ (i2 g e)
theorem length_putF (f : Str) (v : V) : ∀ fs : List (Str × V), (putF f v fs).length ≤ fs.length + 1
  | [] => by simp [putF]
  | (k, x) :: r => by
    have ih := length_putF f v r
    rw [show putF f v ((k, x) :: r) = (if k = f then (k, v) :: r else (k, x) :: putF f v r) from rfl]
    by_cases hk : k = f
    · rw [if_pos hk, List.length_cons, List.length_cons]; omega
    · rw [if_neg hk, List.length_cons, List.length_cons]; omega

theorem RelO.some_of {v : V} {o : Option Value} (r : RelO (some v) o) : ∃ u, o = some u ∧ RelV v u := by
  cases o with
  | none => exact (show False from r).elim
  | some u => exact ⟨u, rfl, r⟩
theorem RelO.none_of {o : Option Value} (r : RelO none o) : o = none := by
  cases o with
  | none => rfl
  | some u => exact (show False from r).elim
theorem handed_of {v : V} {u : Value} (r : RelV v u) : PySem.W.handedIn u = true := by
  cases v with
  | non => cases (show u = Value.none from r); rfl
  | bl b => cases (show u = Value.bool b from r); rfl
  | int i => obtain ⟨t, e⟩ := (show ∃ t, u = Value.int i t from r); cases e; rfl
  | str x => obtain ⟨t, e⟩ := (show ∃ t, u = Value.str x t from r); cases e; rfl
  | byt b => obtain ⟨t, e⟩ := (show ∃ t, u = Value.bytes b t from r); cases e; rfl
  | flt b => obtain ⟨t, e⟩ := (show ∃ t, u = Value.float b t from r); cases e; rfl
  | ref a => cases (show u = Value.ref a from r); rfl
  | ty n => cases (show u = Value.type n from r); rfl

section
variable {P : Program} {w : World} {H H' : Hp} {h h' : Heap} {a C dx : Addr} {fs fs' : List (Str × V)}
theorem ins_get (hok : HOk P w H h) (e : H a = some (.ins C dx fs)) : ∃ mA, ObjM h a dx C mA ∧ (∀ f, RelO (fs.lookup f) (mA f)) ∧ PySem.Within mA (fs.map (·.1)) ∧ fs.length ≤ 1000 ∧ H dx = some (.own a) := by
  obtain ⟨d, z, ne, ob, mA, n, r, q⟩ := (show ObjOk P w H h a (.ins C dx fs) from hok a _ e)
  exact ⟨mA, ⟨ob, n, ne⟩, r, q, z, d⟩
end

structure Cls (K : PySem.W.Frag) (C : Addr) : Prop where
  pg : PySem.W.plainGet K C Str.empty = true
  hd : PySem.W.hasDictIn K C = true
  po : PySem.W.plainOver K C = true
  sa : PySem.W.findIn K (.ref C) "__setattr__" = some (some (.builtin "object.__setattr__"))
theorem Cls.get {K : PySem.W.Frag} {C : Addr} (c : Cls K C) (f : Str) : PySem.W.plainGet K C f = true := c.pg
def NoAttr (K : PySem.W.Frag) (C : Addr) (f : Str) : Prop := PySem.W.findIn K (.ref C) f = some none
theorem NoAttr.taker {K : PySem.W.Frag} {C : Addr} {f : Str} (n : NoAttr K C f) : PySem.W.takerIn K C f = some none := by
  unfold PySem.W.takerIn
  rw [show PySem.W.findIn K (.ref C) f = some none from n]
  rfl
structure Meth (K : PySem.W.Frag) (C : Addr) (m : Str) (f : Addr) : Prop where
  at_ : PySem.W.findIn K (.ref C) m = some (some (.ref f))
  fn : PySem.W.isFn K (.ref f) = true
  kp : PySem.W.keepIn K (.ref f) = true

section
variable {X : Cx} {pins : List (Addr × Obj)} {σ : St} {H : Hp} {s : Shared} {a C dx : Addr} {fs : List (Str × V)} {f : Str} {v : V} {A : Around} {E : Value → Shared → Prop}

theorem getattr_ok {b : Bool} {Q : Value → Shared → Prop} (I : Inv X pins σ H s) (e : H a = some (.ins C dx fs)) (c : Cls X.K C) (n : NoAttr X.K C f) (l : fs.lookup f = some v)
    (h : ∀ u s', Inv X pins σ H s' → RelV v u → Q u s') : wpAny (model X.prog X.w) A (getAttr (.ref a) f b) Q E s := by
  obtain ⟨mA, O, r, _, _, _⟩ := ins_get I.hok e
  obtain ⟨u, hu, ru⟩ := RelO.some_of (v := v) (o := mA f) (by rw [← l]; exact r f)
  exact get_map I.kIn O (c.get f) c.hd n hu (handed_of ru) (h u _ (I.tok _) ru)

theorem getmeth_ok {m : Str} {g : Addr} {pl : Sem Bool} {Q : Value × List Value → Shared → Prop} (I : Inv X pins σ H s) (e : H a = some (.ins C dx fs)) (c : Cls X.K C) (k : Meth X.K C m g) (l : fs.lookup m = none)
    (h : Q (.ref g, [.ref a]) s) : wpAny (model X.prog X.w) A (getMethod (.ref a) m pl) Q E s := by
  obtain ⟨mA, O, r, _, _, _⟩ := ins_get I.hok e
  have hn : mA m = none := RelO.none_of (by rw [← l]; exact r m)
  exact get_meth I.kIn O (c.get m) k.at_ k.fn hn h

theorem setattr_ok {y : V} {u : Value} {Q : Unit → Shared → Prop} (I : Inv X pins σ H s) (e : H a = some (.ins C dx fs)) (c : Cls X.K C) (n : NoAttr X.K C f) (hl : fs.length < 1000) (ry : RelV y u)
    (h : ∀ s', Inv X pins σ (upd H a (.ins C dx (putF f y fs))) s' → Q () s') : wpAny (model X.prog X.w) A (setAttr (.ref a) f u) Q E s := by
  obtain ⟨mA, O, r, wi, _, ho⟩ := ins_get I.hok e
  have hz : (fs.map (·.1)).length ≤ sizeLine := by rw [List.length_map, sizeLine_eq]; omega
  refine set_map I.kIn O c.sa c.po n.taker c.hd wi hz fun h' O' sb => h _ ?_
  have hd : ∃ o, h'.get? dx = some o := let ⟨o, _, _, e', _⟩ := O'.ns; ⟨o, e'⟩
  refine I.write (x := a) (e := dx) (by rw [e]; exact True.intro) (.inr ho) (fun b q hb z => (sb.2 b hb).trans z) hd ?_
  refine ⟨by rw [upd_ne O.ne]; exact ho, ?_, O.ne, O'.obj, _, O'.ns, fun g => ?_, fun g hg => ?_⟩
  · have := length_putF f y fs; omega
  · show RelO ((putF f y fs).lookup g) (if g = f then some u else mA g)
    rw [lookup_putF]
    by_cases q : g = f
    · rw [if_pos q, if_pos q]; exact ry
    · rw [if_neg q, if_neg q]; exact r g
  · by_cases q : g = f
    · rw [q]; exact (keys_putF f y fs).1
    · refine (keys_putF f y fs).2 g (wi g fun z => hg ?_)
      show (if g = f then some u else mA g) = none
      rw [if_neg q]; exact z

theorem Inv.made (I : Inv X pins σ H s) : Inv X pins σ (upd (upd H s.heap.objs.size (.own (s.heap.objs.size + 1))) (s.heap.objs.size + 1) (.ins C s.heap.objs.size []))
    { s with heap := (s.heap.push PySem.W.emptyDict).push (PySem.W.instObj C s.heap.objs.size) } := by
  have e1 : (s.heap.push PySem.W.emptyDict).get? s.heap.objs.size = some PySem.W.emptyDict := Heap.get?_push_size s.heap rfl
  have e2 : ((s.heap.push PySem.W.emptyDict).push (PySem.W.instObj C s.heap.objs.size)).get? (s.heap.objs.size + 1) = some (PySem.W.instObj C s.heap.objs.size) := by
    have := Heap.get?_push_size (s.heap.push PySem.W.emptyDict) (o := PySem.W.instObj C s.heap.objs.size) rfl
    rwa [Heap.size_push] at this
  have e3 : (s.heap.push PySem.W.emptyDict).Ns s.heap.objs.size (fun _ => none) := ⟨PySem.W.emptyDict, #[], _, e1, rfl, (fun e he => absurd he (by simp)), fun _ => rfl⟩
  have I1 := I.laid (a := s.heap.objs.size) (o := .own (s.heap.objs.size + 1)) (h' := s.heap.push PySem.W.emptyDict) (t' := s.toks) (fun b u q => Heap.get?_push_of_some _ q) (Nat.le_refl _) ⟨_, e1⟩
  refine I1.laid (a := s.heap.objs.size + 1) (o := .ins C s.heap.objs.size []) (t' := s.toks) (fun b u q => Heap.get?_push_of_some _ q) (Nat.le_of_eq (Heap.size_push _ _)) ?_
  have ne : s.heap.objs.size ≠ s.heap.objs.size + 1 := Nat.ne_of_lt (Nat.lt_succ_self _)
  refine ⟨by rw [upd_ne ne, upd_same], Nat.zero_le _, ne, e2, fun _ => none, (Heap.Ns1.of_empty e3).at fun o q => Heap.get?_push_of_some _ q, fun _ => True.intro, fun y hy => absurd rfl hy⟩

theorem attr_of {prog : Program} {w : World} {env : Env} {e : Expr} {f : Str} {pos : Pos} {s : Shared} {Q : Value → Shared → Prop} (hb : attributeBase e f env (eval e env) = eval e env)
    (h : wpAny (model prog w) A (eval e env) (fun o s₁ => wpAny (model prog w) A (getAttr o f true) Q E s₁) E s) : wpAny (model prog w) A (eval (.Attribute e f pos) env) Q E s :=
  Attribute_any_ h (by rw [arm_eval_Attribute, hb])
end

def tFld (K : PySem.W.Frag) (ta : TE) (f : Str) : TE := fun σ H Q => ta σ H fun x H1 => ∃ a C dx fs v, x = .ref a ∧ H1 a = some (.ins C dx fs) ∧ Cls K C ∧ NoAttr K C f ∧ fs.lookup f = some v ∧ Q v H1
def sFld (K : PySem.W.Frag) (ta tv : TE) (f : Str) : TS := fun D σ H => tv σ H fun y H1 => ta σ H1 fun x H2 => ∃ a C dx fs, x = .ref a ∧ H2 a = some (.ins C dx fs) ∧ Cls K C ∧ NoAttr K C f ∧ fs.length < 1000 ∧
  D.nx σ (upd H2 a (.ins C dx (putF f y fs)))
def InOp (X : Cx) (op : Operator) (rd : V → V → Hp → VK → Prop) : Prop :=
  ∀ (pins : List (Addr × Obj)) (s : Shared) (σ : St) (H : Hp) (x y : V) (u v : Value) (Q : VK), Inv X pins σ H s → RelV x u → RelV y v → rd x y H Q → wpAny (model X.prog X.w) X.A (inplaceOp op u v) (EP X pins σ Q) X.xe s
def sFldAug (K : PySem.W.Frag) (ta tv : TE) (rd : V → V → Hp → VK → Prop) (f : Str) : TS := fun D σ H => ta σ H fun x H1 => ∃ a C dx fs v, x = .ref a ∧ H1 a = some (.ins C dx fs) ∧ Cls K C ∧ NoAttr K C f ∧ fs.lookup f = some v ∧
  tv σ H1 fun y H2 => rd v y H2 fun z H3 => ∃ dx' fs', H3 a = some (.ins C dx' fs') ∧ fs'.length < 1000 ∧ D.nx σ (upd H3 a (.ins C dx' (putF f z fs')))

section
variable {X : Cx} {o e value : Expr} {f : Str} {pos pos' tpos : Pos} {ta tv : TE}
theorem pe_fld (he : PE X e ta) (hb : attributeBase e f X.env (eval e X.env) = eval e X.env) : PE X (.Attribute e f pos) (tFld X.K ta f) := by
  intro pins s σ H Q I h
  refine attr_of hb (thn (he pins s σ H _ I h) fun u s1 ⟨x, H1, I1, rx, a, C, dx, fs, v, ex, ea, c, n, l, q⟩ => ?_)
  subst ex
  obtain rfl : u = Value.ref a := rx
  exact getattr_ok I1 ea c n l fun u' s2 I2 ru => ⟨v, H1, I2, ru, q⟩
theorem ps_fld (ha : PE X o ta) (hv : PE X value tv) (hs : swapsWith value (some (.Attribute o f pos')) pos.line X.env = pure false) : PS X (.Assign [.Attribute o f pos'] value pos) (sFld X.K ta tv f) := by
  intro pins s σ H D I h
  refine plainObj_wpAny_Assign_Attribute (thn (hv pins s σ H _ I h) fun u s1 ⟨y, H1, I1, ry, q⟩ => thn (ha pins s1 σ H1 _ I1 q) fun ov s2 ⟨x, H2, I2, rx, a, C, dx, fs, ex, ea, c, n, l, q2⟩ => ?_) hs
  subst ex
  obtain rfl : ov = Value.ref a := rx
  exact setattr_ok I2 ea c n l ry fun s3 I3 => ⟨σ, _, I3, q2⟩
theorem ps_fldaug {op : Operator} {rd : V → V → Hp → VK → Prop} (ha : PE X o ta) (hv : PE X value tv) (hop : InOp X op rd) : PS X (.AugAssign (.Attribute o f tpos) op value pos) (sFldAug X.K ta tv rd f) := by
  intro pins s σ H D I h
  refine wpAny_AugAssign_AttributeAny (thn (ha pins s σ H _ I h) fun ov s1 ⟨x, H1, I1, rx, a, C, dx, fs, v, ex, ea, c, n, l, q⟩ => ?_)
  subst ex
  obtain rfl : ov = Value.ref a := rx
  refine getattr_ok I1 ea c n l fun u s2 I2 ru => thn (hv pins s2 σ H1 _ I2 q) fun w3 s3 ⟨y, H2, I3, ry, q3⟩ => thn (hop pins s3 σ H2 v y u w3 _ I3 ru ry q3) fun w4 s4 ⟨z, H3, I4, rz, dx', fs', ea', l', q4⟩ => ?_
  exact setattr_ok I4 ea' c n l' rz fun s5 I5 => ⟨σ, _, I5, q4⟩
def rAdd : V → V → Hp → VK → Prop := fun x y H Q => ∃ i j, x = .int i ∧ y = .int j ∧ Q (.int (i + j)) H
theorem in_add : InOp X .Add rAdd := by
  rintro pins s σ H x y u v Q I rx ry ⟨i, j, rfl, rfl, q⟩
  obtain ⟨t, rfl⟩ := (show ∃ t, u = Value.int i t from rx)
  obtain ⟨t', rfl⟩ := (show ∃ t', v = Value.int j t' from ry)
  exact PyProof.Rows.iadd_int ⟨.int (i + j), H, I.tok _, ⟨_, rfl⟩, q⟩
end

section
variable {X : Cx} {pins : List (Addr × Obj)} {σ : St} {H : Hp} {s : Shared} {A : Around} {E : Value → Shared → Prop} {Q : Value → Shared → Prop} {c : Value} {b : Bool}
end
end L2

namespace L2
open PySem PySem.Spec PyProof.Rows

structure Room (k : Nat) (A : Around) : Prop where
  hd : A.handled = none
  dp : A.depth + 3 * k + 5 < recursionLimit
  un : A.units + 16 * k + 200 < cLine
theorem Room.mono {j k : Nat} {A : Around} (r : Room k A) (h : j ≤ k) : Room j A := ⟨r.hd, by have := r.dp; omega, by have := r.un; omega⟩
theorem Room.deeper {k : Nat} {A : Around} (r : Room (k + 1) A) (env : Env) : Room k (A.deeper env) :=
  ⟨r.hd, by have := r.dp; show A.depth + 1 + 3 * k + 5 < _; omega, by have := r.un; show A.units + 3 + 16 * k + 200 < _; omega⟩
theorem make_depth {A : Around} {C : Addr} {us : List Value} {kw : List (Str × Value)} : (A.under (.builtin "type.__call__" ⟨.ref C :: us, kw⟩)).depth = A.depth + 1 := by
  first | rfl | simp [Around.under, Code.weight, Code.isCreation, Code.isGuard, Code.isCaller, Code.frames, Code.isFrame, guardIds]
theorem make_units {A : Around} {C : Addr} {us : List Value} {kw : List (Str × Value)} : (A.under (.builtin "type.__call__" ⟨.ref C :: us, kw⟩)).units = A.units + 1 := by
  first | rfl | simp [Around.under, Code.cUnits, Code.frames, Code.isFrame]
theorem Room.make {k : Nat} {A : Around} (r : Room (k + 1) A) (C : Addr) (us : List Value) (kw : List (Str × Value)) : Room k (A.under (.builtin "type.__call__" ⟨.ref C :: us, kw⟩)) :=
  ⟨r.hd, by have := r.dp; rw [make_depth]; omega, by have := r.un; rw [make_units]; omega⟩
theorem Room.depth {k : Nat} {A : Around} (r : Room k A) : A.depth < recursionLimit := by have := r.dp; omega
theorem Room.units {k : Nat} {A : Around} (r : Room k A) : A.units + 64 < cLine := by have := r.un; omega
def tNil : TA := fun _ H Q => Q [] H
def tCons (ta : TE) (tr : TA) : TA := fun σ H Q => ta σ H fun x H1 => tr σ H1 fun xs H2 => Q (x :: xs) H2
section
variable {X : Cx} {e : Expr} {es : List Expr} {te : TE} {t : TA} {pos : Pos}
theorem pa_nil : PA X [] tNil := fun _ _ _ _ H Q I h => Calls.spliced_nil ⟨[], H, I, .nil, h⟩
theorem pa_cons (ha : PE X e te) (hr : PA X es t) (hs : starEach (e :: es) X.env = (false, eval e X.env) :: starEach es X.env := by rfl) : PA X (e :: es) (tCons te t) := by
  intro pos pins s σ H Q I h
  rw [hs]
  show wpAny _ _ (spliced ((false, eval e X.env) :: backTo pos (starEach es X.env))) _ _ s
  refine Calls.spliced_cons (thn (ha pins s σ H _ I h) fun u s1 ⟨x, H1, I1, r1, q1⟩ => ?_)
  exact thn (hr pos pins s1 σ H1 _ I1 q1) fun us s2 ⟨xs, H2, I2, r2, q2⟩ => ⟨x :: xs, H2, I2, .cons r1 r2, q2⟩

def tTup (t : TA) : TE := fun σ H Q => t σ H fun xs H1 => xs.length ≤ sizeLine ∧ ∀ p, H1 p = none → Q (.ref p) (upd H1 p (.tup xs))
def tLst (t : TA) : TE := fun σ H Q => t σ H fun xs H1 => xs.length ≤ sizeLine ∧ ∀ p, H1 p = none → Q (.ref p) (upd H1 p (.lst xs))
theorem pe_tup {x1} (h : PA X es t) : PE X (.Tuple es x1 pos) (tTup t) := by
  intro pins s σ H Q I hq
  refine wpAny_Tuple_spliced (thn (h pos pins s σ H _ I hq) fun us s1 ⟨xs, H1, I1, r, z, q⟩ => ⟨by rw [← r.length]; exact z, ?_⟩)
  have hf : H1 s1.heap.objs.size = none := I1.hok.fresh (Nat.le_refl _)
  refine ⟨.ref s1.heap.objs.size, upd H1 s1.heap.objs.size (.tup xs), I1.laid (t' := s1.toks) (fun b u e => Heap.get?_push_of_some _ e) (Nat.le_refl _) ?_, rfl, q _ hf⟩
  exact ⟨z, us, r, ⟨_, Heap.get?_push_size _ rfl, rfl, _, rfl⟩⟩
theorem pe_lst (h : PA X es t) : PE X (.List es pos) (tLst t) := by
  intro pins s σ H Q I hq
  refine wpAny_List_spliced (thn (h pos pins s σ H _ I hq) fun us s1 ⟨xs, H1, I1, r, z, q⟩ => ⟨by rw [← r.length]; exact z, ?_⟩)
  have hf : H1 s1.heap.objs.size = none := I1.hok.fresh (Nat.le_refl _)
  refine ⟨.ref s1.heap.objs.size, upd H1 s1.heap.objs.size (.lst xs), I1.laid (t' := s1.toks) (fun b u e => Heap.get?_push_of_some _ e) (Nat.le_refl _) ?_, rfl, q _ hf⟩
  exact ⟨z, us, 0, r, Heap.get?_push_size _ rfl⟩
end

abbrev Sp := List V → Hp → VK → XK → Prop
abbrev CXT := List Env → Hp → Shared → XK → Value → Shared → Prop

structure Env0 (P : Program) (w : World) (K : PySem.W.Frag) (mg : Str → Option Value) (base : Heap) (A : Around) (outer : List Env) (s : Shared) (H : Hp) : Prop where
  frames : A.frames = some outer
  mod : Mod K mg base
  bs : ∀ b o, base.get? b = some o → s.heap.get? b = some o ∧ H b = none
  bsz : base.objs.size ≤ s.heap.objs.size
  funs : s.heap.FunFrames base outer
  frf : ∀ b ∈ frs outer, H b = none
  hok : HOk P w H s.heap
  bare : AllBare s.gens
def CE (outer : List Env) (P : Program) (w : World) (H : Hp) (s : Shared) (Q : VK) (u : Value) (s' : Shared) : Prop :=
  ∃ v H', s'.os = s.os ∧ AllBare s'.gens ∧ Un (frs outer) [] H H' s.heap s'.heap ∧ HOk P w H' s'.heap ∧ RelV v u ∧ Q v H'
def CR (CX : CXT) (outer : List Env) (P : Program) (w : World) (H : Hp) (s : Shared) (Q : VK) (E : XK) (r : Result) (s' : Shared) : Prop :=
  match r with
  | .ok (.ret u) => CE outer P w H s Q u s'
  | .ok _ => False
  | .error e => CX outer H s E e s'
structure FnOk (P : Program) (w : World) (K : PySem.W.Frag) (mg : Str → Option Value) (base : Heap) (CX : CXT) (k : Nat) (f : Addr) (fd : FuncData) (ps : List Str) (sp : Sp) : Prop where
  len : ∀ vs H Q E, sp vs H Q E → vs.length = ps.length
  run : ∀ (A : Around) (outer : List Env) (s : Shared) (H : Hp) (args : Args) (us : List Value) (vs : List V) (Q : VK) (E : XK), Room k A → Env0 P w K mg base A outer s H → BindsTo s fd args (ps.zip us) → Vals vs us → sp vs H Q E →
    codeAny (model P w) A (.call (.ref f) args) (CR CX outer P w H s Q E) s
theorem Env0.make {P : Program} {w : World} {K : PySem.W.Frag} {mg : Str → Option Value} {base : Heap} {A : Around} {outer : List Env} {s : Shared} {H : Hp} (e : Env0 P w K mg base A outer s H) (C : Addr) (us : List Value) (kw : List (Str × Value)) :
    Env0 P w K mg base (A.under (.builtin "type.__call__" ⟨.ref C :: us, kw⟩)) outer s H := ⟨by first | exact e.frames | (simpa [Around.under, Code.envs, Code.isFrame, pushEnvs] using e.frames), e.mod, e.bs, e.bsz, e.funs, e.frf, e.hok, e.bare⟩
section
variable {X : Cx} {pins : List (Addr × Obj)} {σ : St} {H : Hp} {s s' : Shared}
theorem Inv.env0 (I : Inv X pins σ H s) : Env0 X.prog X.w X.K X.mg X.base X.A X.stack s H :=
  ⟨I.ok.frames, I.ok.mod, I.bs, Nat.le_trans I.ok.bsz I.sz, I.stack, I.stkFree, I.hok, I.bare⟩
theorem Inv.after {Q : VK} {u : Value} (I : Inv X pins σ H s) (h : CE X.stack X.prog X.w H s Q u s') : EP X pins σ Q u s' := by
  obtain ⟨v, H', os, bare, un, hok, r, q⟩ := h
  obtain ⟨hh, g, d, t, os'⟩ := s'
  obtain rfl : os' = s.os := os
  exact ⟨v, H', I.call (h' := hh) (g' := g) (d' := d) (t' := t) (ch := []) un hok bare (fun b z => absurd z (by simp)), r, q⟩
end

def tCall (sp : Sp) (dvs : List V) (E : XK) (t : TA) : TE := fun σ H Q => t σ H fun vs H1 => sp (vs ++ dvs) H1 Q E
def tMeth (C : Addr) (m : Str) (sp : Sp) (dvs : List V) (E : XK) (ta : TE) (t : TA) : TE := fun σ H Q => ta σ H fun x H1 => ∃ a dx fs, x = .ref a ∧ H1 a = some (.ins C dx fs) ∧ fs.lookup m = none ∧
  t σ H1 fun vs H2 => sp (x :: (vs ++ dvs)) H2 Q E
def tMake (C : Addr) (sp : Sp) (dvs : List V) (E : XK) (t : TA) : TE := fun σ H Q => t σ H fun vs H1 => ∀ x dx, H1 x = none → H1 dx = none → dx ≠ x →
  sp (.ref x :: (vs ++ dvs)) (upd (upd H1 dx (.own x)) x (.ins C dx [])) (fun v H2 => v = .non ∧ Q (.ref x) H2) E

def Binds (K : PySem.W.Frag) (fd : FuncData) (ps : List Str) (ds : List Value) : Prop :=
  ∀ (s : Shared) (us : List Value), K.In s.heap → (us ++ ds).length = ps.length → BindsTo s fd ⟨us, []⟩ (ps.zip (us ++ ds))
theorem Binds.all {K : PySem.W.Frag} {fd : FuncData} {ps : List Str} (h : ∀ us : List Value, us.length = ps.length → bindArgs fd ⟨us, []⟩ = pure (ps.zip us)) : Binds K fd ps [] := fun s us _ hl => by
  rw [List.append_nil] at hl ⊢
  exact .of_eq (h us hl)

def Passes (CX : CXT) (X : Cx) (E : XK) : Prop := ∀ (pins : List (Addr × Obj)) (σ : St) (H : Hp) (s : Shared) (e : Value) (s' : Shared), Inv X pins σ H s → CX X.stack H s E e s' → X.xe e s'

section
variable {X : Cx} {CX : CXT} {k : Nat} {f C : Addr} {fd : FuncData} {ps : List Str} {sp : Sp} {dvs : List V} {ds : List Value} {E : XK} {x m : Str} {p pos apos : Pos} {e o : Expr} {es : List Expr} {ta : TE} {t : TA}

theorem run_fn {pins : List (Addr × Obj)} {σ : St} {H : Hp} {s : Shared} {Q : VK} {us : List Value} {vs : List V} (F : FnOk X.prog X.w X.K X.mg X.base CX k f fd ps sp) (hr : Room k X.A) (hb : Binds X.K fd ps ds) (hd : Vals dvs ds) (hx : Passes CX X E)
    (I : Inv X pins σ H s) (r : Vals vs us) (h : sp (vs ++ dvs) H Q E) : wpAny (model X.prog X.w) X.A (call (.ref f) us) (EP X pins σ Q) X.xe s := by
  have r2 : Vals (vs ++ dvs) (us ++ ds) := r.append hd
  have hl : (us ++ ds).length = ps.length := by rw [← r2.length]; exact F.len _ _ _ _ h
  refine wpAny_call (codeAny_mono (F.run X.A X.stack s H ⟨us, []⟩ (us ++ ds) (vs ++ dvs) Q E hr I.env0 (hb s us I.kIn hl) r2 h) fun r s' hq => ?_)
  cases r with
  | error e => exact hx pins σ H s e s' I hq
  | ok fl =>
    cases fl with
    | ret u => exact I.after hq
    | next => exact False.elim hq
    | brk => exact False.elim hq
    | cont => exact False.elim hq

theorem pe_call (F : FnOk X.prog X.w X.K X.mg X.base CX k f fd ps sp) (hr : Room k X.A) (hg : Gl X x) (hm : X.mg x = some (.ref f)) (hk : PySem.W.keepIn X.K (.ref f) = true) (hb : Binds X.K fd ps ds) (hd : Vals dvs ds) (hx : Passes CX X E)
    (ha : PA X (e :: es) t) (hdb : (x == ("__debug__" : Str)) = false := by decide) (he : starEach (e :: es) X.env = (false, eval e X.env) :: starEach es X.env := by rfl) (hpl : (backTo pos (starEach es X.env)).any (·.1) = false := by rfl) :
    PE X (.Call (.Name x p) (e :: es) [] pos) (tCall sp dvs E t) := by
  intro pins s σ H Q I h
  refine wpAny_Call_Name_kw (ld_glob I hg hm ?_ hdb)
  refine PySem.W.callWith_K (h₀ := X.base) I.ok.mod.kin hk (thn (ha pos pins s σ H _ I h) fun us s1 ⟨vs, H1, I1, r, q⟩ => ⟨I1.kIn, ?_⟩) he hpl
  exact run_fn F hr hb hd hx I1 r q
theorem pe_meth {pl : Sem Bool} (he : PE X o ta) (c : Cls X.K C) (hm : Meth X.K C m f) (F : FnOk X.prog X.w X.K X.mg X.base CX k f fd ps sp) (hr : Room k X.A) (hb : Binds X.K fd ps ds) (hd : Vals dvs ds) (hx : Passes CX X E) (ha : PA X (e :: es) t)
    (hst : starEach (e :: es) X.env = (false, eval e X.env) :: starEach es X.env := by rfl) (hpl : (backTo pos (starEach es X.env)).any (·.1) = false := by rfl)
    (ht : eval (.Call (.Attribute o m apos) (e :: es) [] pos) X.env = (do
      let ov ← eval o X.env
      standAt apos.atName
      let (f, first) ← holding [ov] (getMethod ov m pl)
      callWith pos f first (backTo pos (starEach (e :: es) X.env)) (backToKw pos (keywordEach [] X.env))) := by rfl) :
    PE X (.Call (.Attribute o m apos) (e :: es) [] pos) (tMeth C m sp dvs E ta t) := by
  intro pins s σ H Q I h
  refine PySem.W.methodCall_KW (pl := pl) (thn (he pins s σ H _ I h) fun u s1 ⟨x, H1, I1, rx, a, dx, fs, ex, ea, l, q⟩ => ?_) ht
  subst ex
  obtain rfl : u = Value.ref a := rx
  refine getmeth_ok I1 ea c hm l ?_
  refine PySem.W.callWith_K (first := [.ref a]) (h₀ := X.base) I.ok.mod.kin hm.kp (thn (ha pos pins s1 σ H1 _ I1 q) fun us s2 ⟨vs, H2, I2, r, q2⟩ => ⟨I2.kIn, ?_⟩) hst hpl
  exact run_fn (us := .ref a :: us) (vs := .ref a :: vs) F hr hb hd hx I2 (.cons rfl r) q2
theorem pe_meth0 {pl : Sem Bool} (he : PE X o ta) (c : Cls X.K C) (hm : Meth X.K C m f) (F : FnOk X.prog X.w X.K X.mg X.base CX k f fd ps sp) (hr : Room k X.A) (hb : Binds X.K fd ps ds) (hd : Vals dvs ds) (hx : Passes CX X E)
    (ht : eval (.Call (.Attribute o m apos) [] [] pos) X.env = (do
      let ov ← eval o X.env
      standAt apos.atName
      let (f, first) ← holding [ov] (getMethod ov m pl)
      callWith pos f first (backTo pos (starEach [] X.env)) (backToKw pos (keywordEach [] X.env))) := by rfl) :
    PE X (.Call (.Attribute o m apos) [] [] pos) (tMeth C m sp dvs E ta tNil) := by
  intro pins s σ H Q I h
  refine PySem.W.methodCall_KW (pl := pl) (thn (he pins s σ H _ I h) fun u s1 ⟨x, H1, I1, rx, a, dx, fs, ex, ea, l, q⟩ => ?_) ht
  subst ex
  obtain rfl : u = Value.ref a := rx
  refine getmeth_ok I1 ea c hm l ?_
  exact PySem.W.callWith_K0 (first := [.ref a]) I1.kIn hm.kp (run_fn (us := [.ref a]) (vs := [.ref a]) F hr hb hd hx I1 (.cons rfl .nil) q)

structure Mk (K : PySem.W.Frag) (C f : Addr) : Prop where
  makes : PySem.W.makesIn K C = true
  init : PySem.W.findIn K (.ref C) "__init__" = some (some (.ref f))
  fn : PySem.W.isFn K (.ref f) = true
  kp : PySem.W.keepIn K (.ref C) = true

theorem run_make {pins : List (Addr × Obj)} {σ : St} {H : Hp} {s : Shared} {Q : VK} {us : List Value} {vs : List V} (M : Mk X.K C f) (F : FnOk X.prog X.w X.K X.mg X.base CX k f fd ps sp) (hr : Room (k + 1) X.A) (hb : Binds X.K fd ps ds) (hd : Vals dvs ds)
    (hx : Passes CX X E) (I : Inv X pins σ H s) (r : Vals vs us)
    (h : ∀ x dx, H x = none → H dx = none → dx ≠ x → sp (.ref x :: (vs ++ dvs)) (upd (upd H dx (.own x)) x (.ins C dx [])) (fun v H2 => v = .non ∧ Q (.ref x) H2) E) :
    wpAny (model X.prog X.w) X.A (call (.ref C) us) (EP X pins σ Q) X.xe s := by
  have hq := h (s.heap.objs.size + 1) s.heap.objs.size (I.hok.fresh (Nat.le_succ _)) (I.hok.fresh (Nat.le_refl _)) (Nat.ne_of_lt (Nat.lt_succ_self _))
  have I2 := Inv.made (C := C) I
  have r2 : Vals (V.ref (s.heap.objs.size + 1) :: (vs ++ dvs)) (Value.ref (s.heap.objs.size + 1) :: (us ++ ds)) := .cons rfl (r.append hd)
  have hl : (Value.ref (s.heap.objs.size + 1) :: us ++ ds).length = ps.length := by
    have e := r2.length
    rw [F.len _ _ _ _ hq] at e
    exact e.symm
  refine wpAny_call (make_map (f := f) I.kIn M.makes M.init (beq_iff_eq.mp M.fn) (codeAny_mono (F.run _ X.stack _ _ ⟨Value.ref (s.heap.objs.size + 1) :: us, []⟩ (Value.ref (s.heap.objs.size + 1) :: (us ++ ds)) _ _ E (hr.make C us [])
    (I2.env0.make C us []) (hb _ (Value.ref (s.heap.objs.size + 1) :: us) I2.kIn hl) r2 hq) fun r s' hq' => ?_))
  cases r with
  | error e => exact hx pins σ _ _ e s' I2 hq'
  | ok fl =>
    cases fl with
    | ret u =>
      obtain ⟨v, H', I3, rv, ev, q3⟩ := I2.after hq'
      subst ev
      exact ⟨rv, ⟨V.ref (s.heap.objs.size + 1), H', I3, rfl, q3⟩⟩
    | next => exact False.elim hq'
    | brk => exact False.elim hq'
    | cont => exact False.elim hq'
theorem pe_make0 (M : Mk X.K C f) (F : FnOk X.prog X.w X.K X.mg X.base CX k f fd ps sp) (hr : Room (k + 1) X.A) (hg : Gl X x) (hm : X.mg x = some (.ref C)) (hb : Binds X.K fd ps ds) (hd : Vals dvs ds) (hx : Passes CX X E)
    (hdb : (x == ("__debug__" : Str)) = false := by decide) : PE X (.Call (.Name x p) [] [] pos) (tMake C sp dvs E tNil) := by
  intro pins s σ H Q I h
  refine wpAny_Call_Name_kw (ld_glob I hg hm ?_ hdb)
  exact PySem.W.callWith_K0 I.kIn M.kp (run_make (us := []) M F hr hb hd hx I .nil h)
end

section
variable {X : Cx} {CX : CXT} {k : Nat} {f C : Addr} {fd : FuncData} {ps ks : List Str} {sp : Sp} {E : XK} {x m : Str} {p pos apos kpos : Pos} {e o : Expr} {es : List Expr} {kws : List Keyword} {te ta : TE} {t tk : TA} {nm : Option Str}
variable {g : List Value → List Value → List Value} {gV : List V → List V → List V}
end

structure FnScope (N P : List Str) (sc : Scope) : Prop where
  kind : sc.kind = .function
  co : sc.isCoroutine = false
  gen : sc.isGenerator = false
  nd : N.Nodup
  pre : N.take P.length = P
  par : ∀ x ∈ P, sc.names.lookup x = some .local ∨ sc.names.lookup x = some .cell
  nofree : ∀ y ∈ sc.names, y.2 ≠ .free

theorem bindL_out {kindOf : Str → Option NameKind} {x : Str} : ∀ {binds : List (Str × Value)} {m : Str → Option Value}, (∀ v, (x, v) ∉ binds) → bindL kindOf binds m x = m x
  | [], _, _ => rfl
  | (n, v) :: r, m, h => by
    unfold bindL
    rw [bindL_out fun w hw => h w (List.mem_cons_of_mem _ hw)]
    split
    · have : x ≠ n := by rintro rfl; exact h v List.mem_cons_self
      simp [this]
    · rfl
theorem bindC_out {kindOf : Str → Option NameKind} {x : Str} : ∀ {binds : List (Str × Value)} {m : Str → Option Value}, (∀ v, (x, v) ∉ binds) → bindC kindOf binds m x = m x
  | [], _, _ => rfl
  | (n, v) :: r, m, h => by
    unfold bindC
    rw [bindC_out fun w hw => h w (List.mem_cons_of_mem _ hw)]
    split
    · rfl
    · have : x ≠ n := by rintro rfl; exact h v List.mem_cons_self
      simp [this]
theorem bindL_get {kindOf : Str → Option NameKind} {x : Str} {v : Value} : ∀ {P : List Str} {vs : List Value} {i : Nat} {m : Str → Option Value}, P.Nodup → P[i]? = some x → vs[i]? = some v → kindOf x = some .local →
    bindL kindOf (P.zip vs) m x = some v
  | [], _, _, _, _, h, _, _ => by simp at h
  | _ :: _, [], _, _, _, _, h, _ => by simp at h
  | p :: P, w :: vs, 0, m, nd, h1, h2, hk => by
    simp at h1 h2; subst h1; subst h2
    show bindL kindOf ((p, w) :: P.zip vs) m p = _
    unfold bindL
    rw [bindL_out fun v hv => (List.nodup_cons.mp nd).1 (List.of_mem_zip hv).1, if_pos hk]
    simp
  | p :: P, w :: vs, i + 1, m, nd, h1, h2, hk => by
    show bindL kindOf ((p, w) :: P.zip vs) m x = _
    unfold bindL
    exact bindL_get (i := i) (List.nodup_cons.mp nd).2 (by simpa using h1) (by simpa using h2) hk
theorem bindC_get {kindOf : Str → Option NameKind} {x : Str} {v : Value} : ∀ {P : List Str} {vs : List Value} {i : Nat} {m : Str → Option Value}, P.Nodup → P[i]? = some x → vs[i]? = some v → kindOf x ≠ some .local →
    bindC kindOf (P.zip vs) m x = some v
  | [], _, _, _, _, h, _, _ => by simp at h
  | _ :: _, [], _, _, _, _, h, _ => by simp at h
  | p :: P, w :: vs, 0, m, nd, h1, h2, hk => by
    simp at h1 h2; subst h1; subst h2
    show bindC kindOf ((p, w) :: P.zip vs) m p = _
    unfold bindC
    rw [bindC_out fun v hv => (List.nodup_cons.mp nd).1 (List.of_mem_zip hv).1, if_neg hk]
    simp
  | p :: P, w :: vs, i + 1, m, nd, h1, h2, hk => by
    show bindC kindOf ((p, w) :: P.zip vs) m x = _
    unfold bindC
    exact bindC_get (i := i) (List.nodup_cons.mp nd).2 (by simpa using h1) (by simpa using h2) hk

def start (N : List Str) (vs : List V) : St := vs.map some ++ List.replicate (N.length - vs.length) none

def cxOf (CX : CXT) (P : Program) (w : World) (K : PySem.W.Frag) (mg : Str → Option Value) (base : Heap) (N : List Str) (qual : Str) (scope : Scope) (f : Addr) (cd : Value) (A : Around) (outer : List Env) (s : Shared) (H : Hp) (E : XK) : Cx where
  prog := P
  w := w
  K := K
  mg := mg
  base := base
  A := A.deeper (envOfC qual scope s.heap.objs.size f cd)
  N := N
  s_0 := s
  H_0 := H
  env := envOfC qual scope s.heap.objs.size f cd
  outer := outer
  stack := envOfC qual scope s.heap.objs.size f cd :: outer
  ex := []
  calm := true
  fn := fun _ => true
  pn := []
  xe := fun e s' => wpAny (model P w) (A.deeper (envOfC qual scope s.heap.objs.size f cd)) (leaving (envOfC qual scope s.heap.objs.size f cd) e) (fun _ s'' => CX outer H s E e s'') (fun e' s'' => CX outer H s E e' s'') s'

theorem cell_has {sc : Scope} {n : Nat} {x : Str} (h : sc.names.lookup x = some .cell) : ∃ c, (cellsFrom n sc.names []).lookup x = some c := by
  have q := PySem.W.cellsFrom_some sc.names n [] (.inl h)
  exact Option.isSome_iff_exists.mp q

theorem inv_start {CX : CXT} {P : Program} {w : World} {K : PySem.W.Frag} {mg : Str → Option Value} {base : Heap} {N ps : List Str} {qual : Str} {scope : Scope} {f : Addr} {cd : Value} {A : Around} {outer : List Env} {s s1 : Shared} {H : Hp} {E : XK} {us : List Value} {vs : List V}
    (S : FnScope N ps scope) (hd : A.handled = none) (e0 : Env0 P w K mg base A outer s H) (hl : vs.length = ps.length) (r : Vals vs us)
    (x : InCallC s s.heap.objs.size (bindL (envOfC qual scope s.heap.objs.size f cd).kindOf (ps.zip us) fun _ => none) (cellsFrom (s.heap.objs.size + 1) scope.names []) (bindC (envOfC qual scope s.heap.objs.size f cd).kindOf (ps.zip us) fun _ => none) s1) :
    Inv (cxOf CX P w K mg base N qual scope f cd A outer s H E) [] (start N vs) H s1 := by
  have hpl : ps.length ≤ N.length := by have := congrArg List.length S.pre; rw [List.length_take] at this; omega
  obtain ⟨h1, tk, rfl, hk⟩ := x.done
  have noA : ∀ b : Addr, b ∉ (cxOf CX P w K mg base N qual scope f cd A outer s H E).ex := fun b z => absurd (show b ∈ ([] : List Addr) from z) (by simp)
  refine ⟨⟨e0.mod, S.kind, rfl, rfl, Nat.le_refl _, fun y z c h1 h2 => ?_, fun y hy => ?_, fun y c _ h => ?_, fun _ => hd, Around.frames_deeper e0.frames, .inr ⟨rfl, rfl⟩, fun b z => absurd z (noA b), e0.bs, e0.bsz, fun b _ _ => noA b, fun b z => absurd z (noA b), e0.funs, e0.frf⟩,
    rfl, e0.bare, Un.kept hk, ⟨_, x.toInCall.ns, fun i y v h1 h2 h3 => ?_⟩, fun y c h => ⟨_, x.cell y c h⟩, e0.hok.fresh (Nat.le_refl _), fun y c h => ?_, fun p hp => absurd (show p ∈ ([] : List (Addr × Obj)) from hp) (by simp), e0.hok.kept hk, ?_⟩
  · exact name_of_addr x.apart (PySem.mem_of_lookup h1) (PySem.mem_of_lookup h2)
  · have hy : scope.names.lookup y = some .cell ∨ scope.names.lookup y = some .free := hy
    rcases hy with hy | hy
    · exact cell_has hy
    · exact absurd rfl (S.nofree _ (PySem.mem_of_lookup hy))
  · exact Nat.le_of_lt (x.above y c (PySem.mem_of_lookup h))
  · have hi : i < vs.length := by
      unfold start at h2
      by_cases hi : i < vs.length
      · exact hi
      · rw [List.getElem?_append_right (by simpa using hi)] at h2
        rw [List.getElem?_replicate] at h2
        split at h2 <;> cases h2
    have ha : vs[i]? = some v := by
      unfold start at h2
      rw [List.getElem?_append_left (by simpa using hi), List.getElem?_map] at h2
      cases e : vs[i]? with
      | none => rw [e] at h2; cases h2
      | some a => rw [e] at h2; cases h2; rfl
    obtain ⟨u, hu, rv⟩ := r.get ha
    have hp : ps[i]? = some y := by
      rw [← S.pre, List.getElem?_take_of_lt (by omega)]; exact h1
    have ndP : ps.Nodup := by rw [← S.pre]; exact S.nd.sublist (List.take_sublist _ _)
    refine ⟨u, rv, ?_⟩
    rcases S.par y (List.mem_of_getElem? hp) with k | k
    · exact .inl ⟨k, bindL_get ndP hp hu k⟩
    · obtain ⟨c, e⟩ := cell_has (n := s.heap.objs.size + 1) k
      refine .inr ⟨.inl k, c, e, ?_⟩
      have q := x.cell y c e
      rw [bindC_get ndP hp hu (by show scope.names.lookup y ≠ _; rw [k]; decide)] at q
      exact q
  · exact e0.hok.fresh (Nat.le_of_lt (x.above y c (PySem.mem_of_lookup h)))
  · unfold start
    show _ = N.length
    rw [List.length_append, List.length_map, List.length_replicate]
    omega

theorem fn_of {CX : CXT} {P : Program} {w : World} {K : PySem.W.Frag} {mg : Str → Option Value} {base : Heap} {k : Nat} {f : Addr} {name qual : Str} {params : Arguments} {body : List Stmt} {scope : Scope} {dV kV doc pm cdv ct oc : Value} {an od : Option Addr}
    {osl : Array (Option Value)} {N ps : List Str} {sp : Sp} (lk : K.lookup f = some ⟨oc, od, .func (PySem.W.fnOf name qual params body scope dV kV doc pm an cdv ct), osl⟩) (hcd : PySem.W.codeIn K cdv qual = true) (S : FnScope N ps scope)
    (len : ∀ vs H Q E, sp vs H Q E → vs.length = ps.length)
    (hbody : ∀ (A : Around) (outer : List Env) (s : Shared) (H : Hp) (vs : List V) (Q : VK) (E : XK), Room k (A.deeper (envOfC qual scope s.heap.objs.size f cdv)) → sp vs H Q E →
      ∃ t, PSs (cxOf CX P w K mg base N qual scope f cdv A outer s H E) body t ∧ t { nx := fun _ H' => Q .non H', rt := Q } (start N vs) H) :
    FnOk P w K mg base CX (k + 1) f (PySem.W.fnOf name qual params body scope dV kV doc pm an cdv ct) ps sp := by
  refine ⟨len, fun A outer s H args us vs Q E hr e0 hb r hsp => ?_⟩
  have hl := len _ _ _ _ hsp
  have KX : K.In s.heap := e0.mod.kin.keeps fun b o e => (e0.bs b o e).1
  have lim : s.heap.NoLimit := e0.mod.nolimit.keeps fun b o e => (e0.bs b o e).1
  have hkind : ∀ y ∈ ps.zip us, scope.names.lookup y.1 = some .local ∨ (scope.names.lookup y.1 = some .cell ∧ ((cellsFrom (s.heap.objs.size + 1) scope.names []).lookup y.1).isSome = true) := fun ⟨n, v⟩ hy => by
    rcases S.par n (List.of_mem_zip hy).1 with q | q
    · exact .inl q
    · exact .inr ⟨q, PySem.W.cellsFrom_some _ _ _ (.inl q)⟩
  refine codeAny_call_function hr.depth (KX _ _ lk) rfl S.co S.gen rfl (PySem.W.codeRec_of KX hcd) (hb _ _ _ _ ?_)
  refine wpAny_newFunctionEnv_cells S.kind hkind fun env he s1 x => ?_
  subst he
  refine ⟨lim.keeps x.toInCall.keep, codeAny_func ?_⟩
  obtain ⟨t, ht, hq⟩ := hbody A outer s H vs Q E (hr.deeper _) hsp
  have I : Inv (cxOf CX P w K mg base N qual scope f cdv A outer s H E) [] (start N vs) H s1 := inv_start S hr.hd e0 hl r x
  refine wpAny_mono (ht [] s1 (start N vs) H _ I hq) (fun fl s' hs => ?_) fun e s' hs => hs
  have fin : ∀ {σ' : St} {H' : Hp} {v : V} {u : Value}, Inv (cxOf CX P w K mg base N qual scope f cdv A outer s H E) [] σ' H' s' → RelV v u → Q v H' → CE outer P w H s Q u s' :=
    fun {σ' H' v u} J rv q => ⟨v, H', J.os, J.bare, J.base, J.hok, rv, q⟩
  cases fl with
  | ret u =>
    obtain ⟨v, σ', H', J, rv, q⟩ := hs
    exact fin J rv q
  | next =>
    obtain ⟨σ', H', J, q⟩ := hs
    exact fin (v := V.non) (u := Value.none) J rfl q
  | brk =>
    obtain ⟨_, _, _, q⟩ := hs
    exact False.elim q
  | cont =>
    obtain ⟨_, _, _, q⟩ := hs
    exact False.elim q
end L2

namespace L2
open PySem PySem.Spec PyProof.Rows
section
variable {X : Cx} {x : Str} {p pos : Pos} {e : Expr} {es : List Expr} {t : TA} {id T : String} {r : List V → Hp → VK → Prop}

def tCB (r : List V → Hp → VK → Prop) (t : TA) : TE := fun σ H Q => t σ H fun vs H1 => r vs H1 Q
theorem pe_callB (hc : CallR X (.builtin id) r) (hg : Gl X x) (hm : X.mg x = none) (hv : bootBuiltins x = some (.builtin id)) (ha : PA X (e :: es) t) (hn : x ≠ "__name__" := by decide) (hdb : (x == ("__debug__" : Str)) = false := by decide)
    (he : starEach (e :: es) X.env = (false, eval e X.env) :: starEach es X.env := by rfl) (hpl : (backTo pos (starEach es X.env)).any (·.1) = false := by rfl) : PE X (.Call (.Name x p) (e :: es) [] pos) (tCB r t) := by
  intro pins s σ H Q I h
  refine wpAny_Call_Name_kw (ld_blt I hg hm hv ?_ hn hdb)
  exact PyProof.Rows.callWith_builtin1 (thn (ha pos pins s σ H _ I h) fun us s1 ⟨vs, H1, I1, r1, q1⟩ => hc pins s1 σ H1 vs us Q I1 r1 q1) he hpl
theorem pe_callTy (hc : CallR X (.type T) r) (hg : Gl X x) (hm : X.mg x = none) (hv : bootBuiltins x = some (.type T)) (ha : PA X (e :: es) t) (hn : x ≠ "__name__" := by decide) (hdb : (x == ("__debug__" : Str)) = false := by decide)
    (he : starEach (e :: es) X.env = (false, eval e X.env) :: starEach es X.env := by rfl) (hpl : (backTo pos (starEach es X.env)).any (·.1) = false := by rfl) : PE X (.Call (.Name x p) (e :: es) [] pos) (tCB r t) := by
  intro pins s σ H Q I h
  refine wpAny_Call_Name_kw (ld_blt I hg hm hv ?_ hn hdb)
  exact PyProof.Rows.callWith_type1 (thn (ha pos pins s σ H _ I h) fun us s1 ⟨vs, H1, I1, r1, q1⟩ => hc pins s1 σ H1 vs us Q I1 r1 q1) he hpl
end
end L2

namespace HT
open PySem PyProof.Rows

section
open PySem.SeqAt
open PySem.AutoSeq1 (wpAny_loadPart')
open PySem.MeetsSeq PySem.MeetsSeq2 PySem.MeetsSeq3

end

section
variable {prog : Program} {w : World} {A : Around} {E : Value → Shared → Prop} {s : Shared}

def sIx (n d : Nat) : Option Int → Nat
  | none => d
  | some v => if v < 0 then (v + (n : Int)).toNat else min v.toNat n
end
end HT

namespace L2
open PySem PySem.Spec PyProof.Rows

abbrev TO := St → Hp → (Option Int → Hp → Prop) → Prop
def PO (X : Cx) (e : Option Expr) (t : TO) : Prop :=
  ∀ (pins : List (Addr × Obj)) (s : Shared) (σ : St) (H : Hp) (Q : Option Int → Hp → Prop), Inv X pins σ H s → t σ H Q →
    wpAny (model X.prog X.w) X.A (evalPart e X.env) (fun u s' => ∃ o H', Inv X pins σ H' s' ∧ IsPart u o ∧ Q o H') X.xe s
def tPart (t : TE) : TO := fun σ H Q => t σ H fun x H1 => ∃ i, x = .int i ∧ Q (some i) H1

section
variable {X : Cx} {e : Expr} {te : TE} {lo hi : Option Expr} {tl th : TO} {pos p2 : Pos}

theorem po_some (h : PE X e te) : PO X (some e) (tPart te) := by
  intro pins s σ H Q I hw
  rw [evalPart_some]
  refine thn (h pins s σ H _ I hw) fun u s1 ⟨x, H1, I1, r1, q1⟩ => ?_
  obtain ⟨i, rfl, q⟩ := q1
  obtain ⟨t, rfl⟩ := r1
  exact ⟨some i, H1, I1, .int i t, q⟩

def SlR (X : Cx) (r : V → Option Int → Option Int → Hp → VK → Prop) : Prop :=
  ∀ (pins : List (Addr × Obj)) (s : Shared) (σ : St) (H : Hp) (x : V) (v vl vu : Value) (lo hi : Option Int) (sl : Addr) (Q : VK), Inv X pins σ H s → RelV x v → s.heap.IsSliceOf sl vl vu .none → IsPart vl lo → IsPart vu hi → r x lo hi H Q →
    ∃ T id, typeLookup (.type T) "__getitem__" = pure (some (.builtin id)) ∧ s.TypeIs v T ∧ wpAny (model X.prog X.w) X.A (getItem v (.ref sl)) (EP X pins σ Q) X.xe s
def tSl (r : V → Option Int → Option Int → Hp → VK → Prop) (te : TE) (tl th : TO) : TE := fun σ H Q => te σ H fun x H1 => tl σ H1 fun l H2 => th σ H2 fun u H3 => r x l u H3 Q
theorem pe_slice {r : V → Option Int → Option Int → Hp → VK → Prop} (hr : SlR X r) (he : PE X e te) (hl : PO X lo tl) (hu : PO X hi th) : PE X (.Subscript e (.Slice lo hi none p2) pos) (tSl r te tl th) := by
  intro pins s σ H Q I h
  refine Subscript_ (thn (he pins s σ H _ I h) fun v s1 ⟨x, H1, I1, r1, q1⟩ => ?_)
  refine wpAny_Slice (thn (hl pins s1 σ H1 _ I1 q1) fun vl s2 ⟨l, H2, I2, pl, q2⟩ => thn (hu pins s2 σ H2 _ I2 q2) fun vu s3 ⟨u, H3, I3, pu, q3⟩ => ?_)
  rw [evalPart_none]
  refine wpAny_pure ?_
  have I4 : Inv X pins σ H3 { s3 with heap := s3.heap.push { cls := .type "slice", data := .fields #[vl, vu, .none] } } := I3.kept (t' := s3.toks) fun b ob q => Heap.get?_push_of_some _ q
  obtain ⟨T, id, hT, ht, hg⟩ := hr pins { s3 with heap := s3.heap.push { cls := .type "slice", data := .fields #[vl, vu, .none] } } σ H3 x v vl vu l u s3.heap.objs.size Q I4 r1 (Heap.IsSliceOf.new ..) pl pu q3
  show wpAny (model X.prog X.w) X.A (subscriptTail e (.Slice lo hi none p2) v (.ref s3.heap.objs.size)) (EP X pins σ Q) X.xe { s3 with heap := s3.heap.push { cls := .type "slice", data := .fields #[vl, vu, .none] } }
  exact tail_any (ops := [.ref s3.heap.objs.size, v]) ht hT hg (by with_unfolding_all rfl)

def cutV (xs : List V) (lo hi : Option Int) : List V := (xs.drop (HT.sIx xs.length 0 lo)).take (HT.sIx xs.length xs.length hi - HT.sIx xs.length 0 lo)
theorem cutV_length (xs : List V) (lo hi : Option Int) : (cutV xs lo hi).length ≤ xs.length := by
  unfold cutV
  rw [List.length_take, List.length_drop]
  omega
end
end L2

namespace L2
open PySem PySem.Spec PyProof.Rows

def ixN (n : Nat) (i : Int) : Option Nat := if 0 ≤ i then (if i < n then some i.toNat else none) else if -(n : Int) ≤ i then some (i + n).toNat else none
def atI {α : Type} (xs : List α) (i : Int) : Option α := (ixN xs.length i).bind fun j => xs[j]?
theorem ixN_seq {n : Nat} {i : Int} {j : Nat} (h : ixN n i = some j) : seqIndex? i n = some j ∧ j < n ∧ -(n : Int) ≤ i ∧ i < n := by
  unfold ixN at h
  by_cases h0 : 0 ≤ i
  · rw [if_pos h0] at h
    by_cases h1 : i < n
    · rw [if_pos h1] at h
      have e : i.toNat = j := Option.some.inj h
      exact ⟨by rw [seqIndex_of h0 h1, e], by omega, by omega, h1⟩
    · rw [if_neg h1] at h; cases h
  · rw [if_neg h0] at h
    by_cases h1 : -(n : Int) ≤ i
    · rw [if_pos h1] at h
      have e : (i + n).toNat = j := Option.some.inj h
      exact ⟨by rw [seqIndex_neg (by omega) h1, e], by omega, h1, by omega⟩
    · rw [if_neg h1] at h; cases h
theorem atI_get {α : Type} {xs : List α} {i : Int} {v : α} (h : atI xs i = some v) : ∃ j, seqIndex? i xs.length = some j ∧ xs[j]? = some v ∧ j < xs.length ∧ -(xs.length : Int) ≤ i ∧ i < xs.length := by
  unfold atI at h
  cases e : ixN xs.length i with
  | none => rw [e] at h; cases h
  | some j =>
    rw [e] at h
    obtain ⟨h1, h2, h3, h4⟩ := ixN_seq e
    exact ⟨j, h1, h, h2, h3, h4⟩
theorem atI_nat {α : Type} {xs : List α} {j : Nat} {v : α} (h : xs[j]? = some v) : atI xs (j : Int) = some v := by
  have hj : j < xs.length := (List.getElem?_eq_some_iff.mp h).1
  have e : ixN xs.length (j : Int) = some j := by
    unfold ixN
    rw [if_pos (by omega), if_pos (by omega)]; simp
  unfold atI; rw [e]; exact h
def PlainIx (b : Expr) : Prop := ∀ o i, subscripted b false o i = operate [o, i] (getItem o i)
def IxR (X : Cx) (r : R2) : Prop :=
  ∀ (value slice : Expr) (pins : List (Addr × Obj)) (s : Shared) (σ : St) (H : Hp) (x y : V) (v u : Value) (Q : VK), Inv X pins σ H s → RelV x v → RelV y u → r x y H Q →
    subscripted slice false v u = operate [v, u] (getItem v u) → wpAny (model X.prog X.w) X.A (subscriptTail value slice v u) (EP X pins σ Q) X.xe s
def MtR (X : Cx) (id : String) (r : V → List V → Hp → VK → Prop) : Prop :=
  ∀ (pins : List (Addr × Obj)) (s : Shared) (σ : St) (H : Hp) (x : V) (xs : List V) (v : Value) (us : List Value) (Q : VK), Inv X pins σ H s → RelV x v → Vals xs us → r x xs H Q →
    wpAny (model X.prog X.w) X.A (call (.builtin id) (v :: us)) (EP X pins σ Q) X.xe s
section
variable {X : Cx} {a b : Expr} {ta tb : TE} {pos : Pos}
theorem pe_ix {r : R2} (hr : IxR X r) (ha : PE X a ta) (hb : PE X b tb) (hs : PlainIx b) : PE X (.Subscript a b pos) (tOp r ta tb) := by
  intro pins s σ H Q I h
  exact Subscript_ (binT ha hb I h fun v u s2 x y H2 I2 rx ry q => hr a b pins s2 σ H2 x y v u Q I2 rx ry q (hs _ _))

def rIxL (K : PySem.W.Frag) : R2 := fun x y H Q => ∃ p xs i v, x = .ref p ∧ y = .int i ∧ SqL K H p xs ∧ atI xs i = some v ∧ Q v H
def rIxT (K : PySem.W.Frag) : R2 := fun x y H Q => ∃ p xs i v, x = .ref p ∧ y = .int i ∧ SqT K H p xs ∧ atI xs i = some v ∧ Q v H
theorem ix_list : IxR X (rIxL X.K) := by
  intro value slice pins s σ H x y v u Q I rx ry h hs
  obtain ⟨p, xs, i, z, rfl, rfl, hq, he, q⟩ := h
  cases rx
  obtain ⟨t, rfl⟩ := ry
  obtain ⟨its, r, pl, hz⟩ := I.list hq
  obtain ⟨j, h1, h2, h3, h4, h5⟩ := atI_get he
  obtain ⟨w, ew, rw'⟩ := r.get h2
  have hl := r.length
  have hn := line63
  have fin : EP X pins σ Q w s := ⟨z, H, I, rw', q⟩
  by_cases h0 : 0 ≤ i
  · have hj : i.toNat = j := by
      rw [seqIndex_of h0 h5] at h1
      exact Option.some.inj h1
    exact item_listR pl.isList h0 (by omega) (by rw [hj]; simpa using ew) fin hs
  · have hj : (i + (its.toArray.size : Int)).toNat = j := by
      rw [seqIndex_neg (by omega) h4] at h1
      rw [List.size_toArray, ← hl]
      exact Option.some.inj h1
    exact subscriptTail_builtinR (x := w) pl.isList.typeIs slot_list_getitem.lookup
      (wpAny_getItem_list_neg (Q := fun r s' => r = w ∧ EP X pins σ Q r s') pl.isList (by omega) (by rw [List.size_toArray] <;> omega) (by omega) (by rw [hj]; simpa using ew) ⟨rfl, fin⟩) hs
theorem ix_tup : IxR X (rIxT X.K) := by
  intro value slice pins s σ H x y v u Q I rx ry h hs
  obtain ⟨p, xs, i, z, rfl, rfl, hq, he, q⟩ := h
  cases rx
  obtain ⟨t, rfl⟩ := ry
  obtain ⟨its, r, pl, hz⟩ := I.tuple hq
  obtain ⟨j, h1, h2, h3, h4, h5⟩ := atI_get he
  obtain ⟨w, ew, rw'⟩ := r.get h2
  have hl := r.length
  have hn := line63
  have fin : EP X pins σ Q w s := ⟨z, H, I, rw', q⟩
  exact subscriptTail_builtinR (x := w) pl.typeIs slot_tuple_getitem.lookup
    (getItem_tuple (j := j) (Q := fun r s' => r = w ∧ EP X pins σ Q r s') pl (by omega) (by omega) (by rw [List.size_toArray, ← hl]; exact h1) (by simpa using ew) ⟨rfl, fin⟩) hs
theorem mapSeq_set (its : List Value) (n j : Nat) (u : Value) : Obj.mapSeq (·.setIfInBounds j u) { cls := .type "list", data := .seq its.toArray n } = { cls := .type "list", data := .seq (its.set j u).toArray n } := by
  simp [Obj.mapSeq]
theorem Inv.lst {pins : List (Addr × Obj)} {σ : St} {H : Hp} {s : Shared} {p : Addr} {xs : List V} (I : Inv X pins σ H s) (h : H p = some (.lst xs)) :
    ∃ (its : List Value) (n : Nat), Vals xs its ∧ s.heap.get? p = some { cls := .type "list", data := .seq its.toArray n } ∧ xs.length ≤ sizeLine := by
  obtain ⟨z, its, n, r, e⟩ := I.hok p _ h
  exact ⟨its, n, r, e, z⟩
theorem Inv.lstUpd {pins : List (Addr × Obj)} {σ : St} {H : Hp} {s : Shared} {p : Addr} {xs ys : List V} {its its' : List Value} {n n' : Nat} {f : Obj → Obj} (I : Inv X pins σ H s) (h : H p = some (.lst xs))
    (ho : s.heap.get? p = some { cls := .type "list", data := .seq its.toArray n }) (hf : f { cls := .type "list", data := .seq its.toArray n } = { cls := .type "list", data := .seq its'.toArray n' }) (r : Vals ys its') (hz : ys.length ≤ sizeLine) (t : Nat) :
    Inv X pins σ (upd H p (.lst ys)) { s with heap := s.heap.update p f, toks := t } := by
  have e : (s.heap.update p f).get? p = some { cls := .type "list", data := .seq its'.toArray n' } := by
    rw [Heap.get?_update_self f ho (by rw [hf] <;> rfl), hf]
  refine I.write (x := p) (e := p) (by rw [h]; trivial) (.inl rfl) (fun b u hb q => (Heap.get?_update_other _ _ (Ne.symm hb)).trans q) ⟨_, e⟩ ?_
  exact ⟨hz, its', n', r, e⟩
def rSetL : V → V → V → Hp → (Hp → Prop) → Prop := fun o i v H Q => ∃ p xs k j, o = .ref p ∧ i = .int k ∧ H p = some (.lst xs) ∧ ixN xs.length k = some j ∧ Q (upd H p (.lst (xs.set j v)))
theorem set_list : PSet X rSetL := by
  intro pins s σ H o i v ov iv u Q I ro ri rv h
  obtain ⟨p, xs, k, j, rfl, rfl, hp, hj, q⟩ := h
  cases ro
  obtain ⟨t, rfl⟩ := ri
  obtain ⟨its, n, r, ho, hz⟩ := I.lst hp
  obtain ⟨h1, h2, h3, h4⟩ := ixN_seq hj
  have hl := r.length
  have hn := line63
  have I' : Inv X pins σ (upd H p (.lst (xs.set j v))) { s with heap := s.heap.update p (Obj.mapSeq (·.setIfInBounds j u)) } :=
    I.lstUpd hp ho (mapSeq_set its n j u) (r.set rv j) (by rw [List.length_set]; exact hz) s.toks
  by_cases h0 : 0 ≤ k
  · have hk : k.toNat = j := by
      rw [seqIndex_of h0 h4] at h1
      exact Option.some.inj h1
    exact PySem.W.ki_setAt ho h0 (by omega) (by rw [List.size_toArray, ← hl]; exact h4) (by rw [hk]; exact ⟨_, I', q⟩)
  · have hk : (k + (its.toArray.size : Int)).toNat = j := by
      rw [seqIndex_neg (by omega) h3] at h1
      rw [List.size_toArray, ← hl]
      exact Option.some.inj h1
    exact PySem.W.ki_setBack ho (by omega) (by rw [List.size_toArray, ← hl]; exact h3) (by omega) (by rw [hk]; exact ⟨_, I', q⟩)

theorem slice_bounds (lo hi : Option Int) (n : Nat) : (sliceBounds lo hi none n).1 = ((HT.sIx n 0 lo : Nat) : Int) ∧ (sliceBounds lo hi none n).2.1 = ((HT.sIx n n hi : Nat) : Int) ∧ (sliceBounds lo hi none n).2.2 = 1 := by
  refine ⟨?_, ?_, rfl⟩
  · cases lo with
    | none => simp [sliceBounds, HT.sIx]
    | some i =>
      simp only [sliceBounds, HT.sIx, Option.getD_none, show (1 : Int) > 0 by decide, if_true]
      by_cases h : i < 0
      · simp only [h, if_true] <;> omega
      · simp only [h, if_false] <;> omega
  · cases hi with
    | none => simp [sliceBounds, HT.sIx]
    | some i =>
      simp only [sliceBounds, HT.sIx, Option.getD_none, show (1 : Int) > 0 by decide, if_true]
      by_cases h : i < 0
      · simp only [h, if_true] <;> omega
      · simp only [h, if_false] <;> omega
theorem slicePick_cut (its : List Value) (lo hi : Option Int) : slicePick its.toArray lo hi none = ((its.drop (HT.sIx its.length 0 lo)).take (HT.sIx its.length its.length hi - HT.sIx its.length 0 lo)).toArray := by
  obtain ⟨h1, h2, h3⟩ := slice_bounds lo hi its.toArray.size
  unfold slicePick
  rw [h1, h2, h3]
  simp only [sliceRange_one, pick_run, List.size_toArray] <;> rfl
def rSlL (K : PySem.W.Frag) : V → Option Int → Option Int → Hp → VK → Prop := fun x lo hi H Q => ∃ a xs, x = .ref a ∧ SqL K H a xs ∧ ∀ p, H p = none → Q (.ref p) (upd H p (.lst (cutV xs lo hi)))
theorem sl_list : SlR X (rSlL X.K) := by
  intro pins s σ H x v vl vu lo hi sl Q I rx hs pl pu h
  obtain ⟨a, xs, rfl, hx, q⟩ := h
  cases rx
  obtain ⟨its, r, ht, hz⟩ := I.list hx
  have hlen := r.length
  refine ⟨"list", _, slot_list_getitem.lookup, ht.isList.typeIs, ?_⟩
  refine wpAny_getItem_list_slice ht.isList hs pl pu .none (by simp) ?_ (by rw [List.size_toArray] <;> omega)
  rw [slicePick_cut, ← hlen]
  refine ⟨.ref s.heap.objs.size, _, I.laid (t' := s.toks) (o := .lst (cutV xs lo hi)) (fun b ob q => Heap.get?_push_of_some _ q) (Nat.le_refl _) ?_, rfl, q _ (I.hok.fresh (Nat.le_refl _))⟩
  exact ⟨Nat.le_trans (cutV_length xs lo hi) hz, _, 0, (r.drop (HT.sIx xs.length 0 lo)).take (HT.sIx xs.length xs.length hi - HT.sIx xs.length 0 lo), Heap.get?_push_size _ rfl⟩

theorem call_len_seq : CallR X (.builtin "len") (fun xs H Q => ∃ p ys, xs = [.ref p] ∧ (SqL X.K H p ys ∨ SqT X.K H p ys) ∧ Q (.int ys.length) H) := by
  intro pins s σ H xs us Q I r h
  obtain ⟨p, ys, rfl, hq, q⟩ := h
  obtain ⟨u, rfl, rx⟩ := vals1 r
  cases rx
  have hn := line63
  rcases hq with hq | hq
  · obtain ⟨its, r', pl, hz⟩ := I.list hq
    have hlen := r'.length
    exact Calls.call_len_list pl.isList (by simp only [List.size_toArray] <;> omega) ⟨.int ys.length, H, I.tok _, ⟨s.toks + 1, by rw [List.size_toArray, hlen]⟩, q⟩
  · obtain ⟨its, r', pl, hz⟩ := I.tuple hq
    have hlen := r'.length
    exact len_tuple pl (by simp only [List.size_toArray] <;> omega) ⟨.int ys.length, H, I.tok _, ⟨s.toks + 1, by rw [List.size_toArray, hlen]⟩, q⟩
theorem call_list_of : CallR X (.type "list") (fun xs H Q => ∃ p ys, xs = [.ref p] ∧ (SqL X.K H p ys ∨ SqT X.K H p ys) ∧ ∀ l, H l = none → Q (.ref l) (upd H l (.lst ys))) := by
  intro pins s σ H xs us Q I r h
  obtain ⟨p, ys, rfl, hq, q⟩ := h
  obtain ⟨u, rfl, rx⟩ := vals1 r
  cases rx
  have fin : ∀ (its : List Value), Vals ys its → ys.length ≤ sizeLine → ∀ (h' : Heap) (c' : Nat), (∀ b o', s.heap.get? b = some o' → h'.get? b = some o') →
      h'.get? s.heap.objs.size = some { cls := .type "list", dict := none, data := .seq its.toArray c', slots := #[] } → EP X pins σ Q (.ref s.heap.objs.size) { s with heap := h' } := fun its r' hz h' c' kp e =>
    ⟨.ref s.heap.objs.size, _, I.laid (t' := s.toks) kp (Nat.le_refl _) (show ObjOk X.prog X.w _ h' _ (.lst ys) from ⟨hz, its, c', r', e⟩), rfl, q _ (I.hok.fresh (Nat.le_refl _))⟩
  rcases hq with hq | hq
  · obtain ⟨its, r', pl, hz⟩ := I.list hq
    have hlen := r'.length
    obtain ⟨o, ho, hc, n, hd⟩ := pl.isList
    exact call_list_seq p (.inl rfl) ho hc hd (fun h' c' kp e => fin its r' hz h' c' kp e) (by simp only [List.size_toArray] <;> omega)
  · obtain ⟨its, r', pl, hz⟩ := I.tuple hq
    have hlen := r'.length
    obtain ⟨o, ho, hc, n, hd⟩ := pl
    exact call_list_seq p (.inr rfl) ho hc hd (fun h' c' kp e => fin its r' hz h' c' kp e) (by simp only [List.size_toArray] <;> omega)
def tyV (K : PySem.W.Frag) (T : String) (x : V) (H : Hp) : Prop := match x with
  | .str _ => T = "str"
  | .int _ => T = "int"
  | .ref p => (T = "list" ∧ ∃ xs, SqL K H p xs) ∨ (T = "tuple" ∧ ∃ o, K.lookup p = some o ∧ o.cls = .type "tuple" ∧ o.dict = none) ∨
      (T = "dict" ∧ ((∃ kvs, H p = some (.dK kvs)) ∨ ∃ kvs, H p = some (.dT kvs))) ∨ (T = "set" ∧ ∃ S n, H p = some (.set S n))
  | _ => False
theorem tyV_is {pins : List (Addr × Obj)} {σ : St} {H : Hp} {s : Shared} {T : String} {x : V} {v : Value} (I : Inv X pins σ H s) (r : RelV x v) (ty : tyV X.K T x H) :
    s.TypeIs v T ∧ ∀ a, v = .ref a → ∃ ob, s.heap.get? a = some ob ∧ ob.dict = none := by
  cases x with
  | str z =>
    obtain ⟨t, rfl⟩ := r
    cases (show T = "str" from ty)
    exact ⟨typeIs_str s z t, fun _ e => nomatch e⟩
  | int i =>
    obtain ⟨t, rfl⟩ := r
    cases (show T = "int" from ty)
    exact ⟨typeIs_int s i t, fun _ e => nomatch e⟩
  | ref p =>
    cases r
    rcases ty with ⟨rfl, xs, hq⟩ | ⟨rfl, o, hk, hc, hd⟩ | ⟨rfl, hk⟩ | ⟨rfl, S, n, hk⟩
    · obtain ⟨its, _, pl, _⟩ := I.list hq
      refine ⟨pl.isList.typeIs, fun a e => ?_⟩
      cases e
      obtain ⟨o, n, e, c, hd, _⟩ := pl
      exact ⟨o, e, hd⟩
    · refine ⟨⟨o, I.kIn p o hk, hc⟩, fun a e => ?_⟩
      cases e
      exact ⟨o, I.kIn _ o hk, hd⟩
    · have z : ∃ o, s.heap.get? p = some o ∧ o.ExactDict := by
        rcases hk with ⟨kvs, hk⟩ | ⟨kvs, hk⟩
        · obtain ⟨_, _, _, _, o, _, _, e, ex, _⟩ := I.hok p _ hk
          exact ⟨o, e, ex⟩
        · obtain ⟨_, _, _, _, o, _, _, e, ex, _⟩ := I.hok p _ hk
          exact ⟨o, e, ex⟩
      obtain ⟨o, e, ex⟩ := z
      refine ⟨⟨o, e, ex.1⟩, fun a e2 => ?_⟩
      cases e2
      exact ⟨o, e, ex.2.1⟩
    · obtain ⟨o, _, _, _, e, ex, _⟩ := I.hok p _ hk
      refine ⟨⟨o, e, ex.1⟩, fun a e2 => ?_⟩
      cases e2
      exact ⟨o, e, ex.2.1⟩
  | _ => exact False.elim ty
def tBM0 (K : PySem.W.Frag) (T : String) (r : V → List V → Hp → VK → Prop) (to : TE) : TE := fun σ H Q => to σ H fun x H1 => tyV K T x H1 ∧ r x [] H1 Q
def tBM (K : PySem.W.Frag) (T : String) (r : V → List V → Hp → VK → Prop) (to : TE) (t : TA) : TE := fun σ H Q => to σ H fun x H1 => tyV K T x H1 ∧ t σ H1 fun xs H2 => r x xs H2 Q
variable {o e : Expr} {es : List Expr} {to : TE} {t : TA} {name : Str} {apos cpos : Pos} {T id : String} {r : V → List V → Hp → VK → Prop}
theorem pe_bm0 (pa : PlainAttrs T) (slot : Slot T name id) (hty : typeOf (.builtin id) = pure (.type "method_descriptor")) (hm : MtR X id r) (ho : PE X o to)
    (hbase : attributeBase o name X.env (eval o X.env) = eval o X.env := by rfl) (hline : (apos.endLine == cpos.line) = true := by rfl) : PE X (.Call (.Attribute o name apos) [] [] cpos) (tBM0 X.K T r to) := by
  intro pins s σ H Q I h
  refine wpAny_Call_method0_late hbase hline (thn (ho pins s σ H _ I h) fun v s1 ⟨x, H1, I1, r1, ty, q1⟩ => ?_)
  obtain ⟨h1, h2⟩ := tyV_is I1 r1 ty
  exact ⟨T, id, pa, slot, hty, h1, h2, Calls.callWith_builtin rfl (PySem.evalArgs_none (hm pins s1 σ H1 x [] v [] Q I1 r1 .nil q1))⟩
theorem pe_bm (pa : PlainAttrs T) (slot : Slot T name id) (hty : typeOf (.builtin id) = pure (.type "method_descriptor")) (hm : MtR X id r) (ho : PE X o to) (ha : PA X (e :: es) t)
    (hbase : attributeBase o name X.env (eval o X.env) = eval o X.env := by rfl)
    (hfew : ((backTo cpos (starEach (e :: es) X.env)).all (fun x => !x.1) && (backToKw cpos (keywordEach [] X.env)).all (fun x => x.1.isSome)
      && decide ((e :: es).length + ([] : List Keyword).length + (if ([] : List Keyword).isEmpty then 0 else 1) < 30)) = true := by rfl)
    (hline : (apos.endLine == cpos.line) = true := by rfl) (hs : starEach (e :: es) X.env = (false, eval e X.env) :: starEach es X.env := by rfl) (hplain : (backTo cpos (starEach es X.env)).any (·.1) = false := by rfl) :
    PE X (.Call (.Attribute o name apos) (e :: es) [] cpos) (tBM X.K T r to t) := by
  intro pins s σ H Q I h
  refine wpAny_Call_method_late hbase hfew hline rfl (thn (ho pins s σ H _ I h) fun v s1 ⟨x, H1, I1, r1, ty, q1⟩ => ?_)
  obtain ⟨h1, h2⟩ := tyV_is I1 r1 ty
  refine ⟨T, id, pa, slot, hty, h1, h2, ?_⟩
  have hA := ha cpos pins s1 σ H1 _ I1 q1
  rw [hs] at hA ⊢
  refine Calls.callWith_builtin (by show (false || (backTo cpos (starEach es X.env)).any (·.1)) = false; rw [hplain] <;> rfl) (Calls.evalArgs_plain ?_)
  exact thn hA fun us s2 ⟨vs, H2, I2, r2, q2⟩ => hm pins s2 σ H2 x vs v us Q I2 r1 r2 q2
end
end L2

namespace L2
open PySem PySem.Spec PyProof.Rows

def MtM (X : Cx) (id : String) (r : V → List V → Hp → VK → Prop) : Prop :=
  ∀ (pins : List (Addr × Obj)) (s : Shared) (σ : St) (H : Hp) (x : V) (xs : List V) (v : Value) (us : List Value) (Q : VK), Inv X pins σ H s → RelV x v → Vals xs us → r x xs H Q →
    wpAny (model X.prog X.w) X.A (call (.builtin id) (v :: us)) (EP X pins σ Q) X.xe s

theorem Vals.one : ∀ {x : V} {us : List Value}, Vals [x] us → ∃ u, us = [u] ∧ RelV x u
  | _, _, .cons r .nil => ⟨_, rfl, r⟩
theorem Vals.zero : ∀ {us : List Value}, Vals [] us → us = []
  | _, .nil => rfl
theorem Vals.dropLast {xs : List V} {us : List Value} (h : Vals xs us) : Vals xs.dropLast us.dropLast := by
  induction h with
  | nil => exact .nil
  | cons r t ih =>
    cases t with
    | nil => exact .nil
    | cons q t' => exact .cons r ih
theorem erase_last {α : Type} (l : List α) : l.eraseIdx (l.length - 1) = l.dropLast := by
  induction l with
  | nil => rfl
  | cons a r ih =>
    cases r with
    | nil => rfl
    | cons b r =>
      have e : (a :: b :: r).length - 1 = ((b :: r).length - 1) + 1 := by
        have h1 : (a :: b :: r).length = r.length + 2 := rfl
        have h2 : (b :: r).length = r.length + 1 := rfl
        omega
      rw [e, List.eraseIdx_cons_succ, ih]
      all_goals rfl
section
variable {X : Cx} {pins : List (Addr × Obj)} {σ : St} {H : Hp} {s : Shared} {l b : Addr} {xs ys zs : List V}

theorem Inv.lset {its its' : List Value} {n : Nat} {f : Array Value → Array Value} {t' : Nat} (I : Inv X pins σ H s) (hH : H l = some (.lst xs))
    (e : s.heap.get? l = some { cls := .type "list", data := .seq its.toArray n }) (hf : f its.toArray = its'.toArray) (hv : Vals ys its') (hz : ys.length ≤ sizeLine) :
    Inv X pins σ (upd H l (.lst ys)) { s with heap := s.heap.update l (Obj.mapSeq f), toks := t' } := by
  have q := PySem.IsL.update e f
  rw [hf] at q
  refine I.write (x := l) (e := l) (by rw [hH]; exact trivial) (.inl rfl) (fun b' u hb hu => (Heap.get?_update_other s.heap (Obj.mapSeq f) (Ne.symm hb)).trans hu) ⟨_, q⟩ ?_
  exact ⟨hz, its', _, hv, q⟩
theorem Inv.lnew {its : List Value} {t' : Nat} (I : Inv X pins σ H s) (hv : Vals ys its) (hz : ys.length ≤ sizeLine) :
    Inv X pins σ (upd H s.heap.objs.size (.lst ys)) { s with heap := s.heap.push { cls := .type "list", data := .seq its.toArray }, toks := t' } :=
  I.laid (fun _ _ q => Heap.get?_push_of_some _ q) (Nat.le_refl _) ⟨hz, its, 0, hv, Heap.get?_push_size _ rfl⟩
theorem Inv.fresh (I : Inv X pins σ H s) : H s.heap.objs.size = none := I.hok.fresh (Nat.le_refl _)
theorem Inv.lstM (I : Inv X pins σ H s) (hH : H l = some (.lst xs)) : xs.length ≤ sizeLine ∧ ∃ (its : List Value) (n : Nat), Vals xs its ∧ xs.length = its.length ∧ s.heap.get? l = some { cls := .type "list", data := .seq its.toArray n } := by
  obtain ⟨z, its, n, r, e⟩ := I.hok l _ hH
  exact ⟨z, its, n, r, r.length, e⟩

theorem notLongL {n : Nat} (h : n ≤ sizeLine) : Builtin.List.listTooLong n = false := by
  unfold Builtin.List.listTooLong
  exact decide_eq_false (by omega)
end

section
variable {X : Cx}

def rAppend : V → List V → Hp → VK → Prop := fun x vs H Q => ∃ l xs y, x = .ref l ∧ vs = [y] ∧ H l = some (.lst xs) ∧ xs.length < sizeLine ∧ Q .non (upd H l (.lst (xs ++ [y])))
theorem mt_append : MtM X "list.append" rAppend := by
  intro pins s σ H x vs v us Q I rx rv h
  obtain ⟨l, xs, y, rfl, rfl, hH, hz, q⟩ := h
  cases rx
  obtain ⟨u, rfl, ru⟩ := rv.one
  obtain ⟨z, its, n, r, hl, e⟩ := I.lstM hH
  refine call_meets F.slot_list_append ⟨_, e, rfl⟩ F.entry_list_append (F.args_list_append_2 _ _) (PySem.list_append l its.toArray n u (by rw [List.size_toArray]; omega)) ⟨e, ?_⟩
  refine ⟨.non, _, I.lset (its' := its ++ [u]) hH e (by simp) (r.append (.cons ru .nil)) ?_, rfl, q⟩
  rw [List.length_append, List.length_singleton]
  omega

def rExtend : V → List V → Hp → VK → Prop := fun x vs H Q => ∃ l b xs zs, x = .ref l ∧ vs = [.ref b] ∧ H l = some (.lst xs) ∧ H b = some (.lst zs) ∧ xs.length + zs.length ≤ sizeLine ∧ Q .non (upd H l (.lst (xs ++ zs)))
theorem mt_extend : MtM X "list.extend" rExtend := by
  intro pins s σ H x vs v us Q I rx rv h
  obtain ⟨l, b, xs, zs, rfl, rfl, hH, hB, hz, q⟩ := h
  cases rx
  obtain ⟨u, rfl, ru⟩ := rv.one
  cases ru
  obtain ⟨z, its, n, r, hl, e⟩ := I.lstM hH
  obtain ⟨z2, its2, n2, r2, hl2, e2⟩ := I.lstM hB
  have hsz : its.toArray.size + its2.toArray.size ≤ sizeLine := by rw [List.size_toArray, List.size_toArray]; omega
  have hlong : ¬ (!its.toArray.isEmpty && Builtin.List.listTooLong (its.toArray.size + its2.toArray.size)) = true := by
    rw [notLongL hsz, Bool.and_false]
    exact Bool.false_ne_true
  refine call_meets F.slot_list_extend ⟨_, e, rfl⟩ F.entry_list_extend (F.args_list_extend_2 _ _)
    (AutoSeq1.list_extend_list_list_0 l its.toArray n b its2.toArray n2 hlong (by rw [List.size_toArray]; omega) (by omega)) ⟨e, e2, ?_⟩
  refine ⟨.non, _, I.lset (its' := its ++ its2) hH e (by simp) (r.append r2) ?_, rfl, q⟩
  rw [List.length_append]
  omega

def rPop : V → List V → Hp → VK → Prop := fun x vs H Q => ∃ l xs y, x = .ref l ∧ vs = [] ∧ H l = some (.lst xs) ∧ xs[xs.length - 1]? = some y ∧ Q y (upd H l (.lst xs.dropLast))
theorem mt_pop : MtM X "list.pop" rPop := by
  intro pins s σ H x vs v us Q I rx rv h
  obtain ⟨l, xs, y, rfl, rfl, hH, hy, q⟩ := h
  cases rx
  have hus := rv.zero
  subst hus
  obtain ⟨z, its, n, r, hl, e⟩ := I.lstM hH
  obtain ⟨u, hu, ru⟩ := r.get hy
  have hy' : its.toArray[its.toArray.size - 1]? = some u := by
    show its.toArray[its.length - 1]? = some u
    rw [← Array.getElem?_toList, ← hl]
    exact hu
  refine call_meets F.slot_list_pop ⟨_, e, rfl⟩ F.entry_list_pop (F.args_list_pop_1 _) (MeetsSeq.list_pop_last l its.toArray n u hy' (by rw [List.size_toArray]; omega)) ⟨e, ?_⟩
  refine ⟨y, _, I.lset (its' := its.dropLast) hH e ?_ r.dropLast ?_, ru, q⟩
  · show its.toArray.eraseIdxIfInBounds (its.toArray.size - 1) = its.dropLast.toArray
    rw [List.size_toArray, List.eraseIdxIfInBounds_toArray, erase_last]
  · rw [List.length_dropLast]
    omega

def rCat : R2 := fun x y H Q => ∃ l b xs zs, x = .ref l ∧ y = .ref b ∧ H l = some (.lst xs) ∧ H b = some (.lst zs) ∧ xs.length + zs.length ≤ sizeLine ∧ ∀ p, H p = none → Q (.ref p) (upd H p (.lst (xs ++ zs)))
theorem op_cat : OpR X (binaryOp .Add) rCat := by
  intro pins s σ H x y v u Q I rx ry h
  obtain ⟨l, b, xs, zs, rfl, rfl, hH, hB, hz, q⟩ := h
  cases rx
  cases ry
  obtain ⟨z, its, n, r, hl, e⟩ := I.lstM hH
  obtain ⟨z2, its2, n2, r2, hl2, e2⟩ := I.lstM hB
  refine PySem.P.add_list e e2 ?_ (by rw [List.size_toArray, List.size_toArray]; omega)
  have ea : its.toArray ++ its2.toArray = (its ++ its2).toArray := by simp
  rw [ea]
  exact ⟨.ref _, _, I.lnew (t' := s.toks) (r.append r2) (by rw [List.length_append]; omega), rfl, q _ I.fresh⟩
end

section
variable {prog : Program} {w : World} {A : Around} {E : Value → Shared → Prop} {s : Shared}
set_option maxRecDepth 100000 in
end

section
variable {X : Cx}
end
end L2

namespace L2
open PySem PySem.Spec PyProof.Rows

section
variable {prog : Program} {w : World} {A : Around} {E : Value → Shared → Prop} {s : Shared} {l : Addr} {its : List Value} {ns : List Int} {Q : Value → Shared → Prop}
end

section
variable {X : Cx}
end

section
variable {X : Cx}
end

section
variable {X : Cx}
end

section
variable {X : Cx}
end

mutual
inductive Dp (K : PySem.W.Frag) (H : Hp) : V → PyData → Prop
  | non : Dp K H .non .none
  | bl (b : Bool) : Dp K H (.bl b) (.bool b)
  | int (i : Int) : Dp K H (.int i) (.int i)
  | str (x : Str) : Dp K H (.str x) (.str x)
  | lst {a : Addr} {xs : List V} {ds : List PyData} : SqL K H a xs → DpAll K H xs ds → Dp K H (.ref a) (.list ds)
  | tup {a : Addr} {xs : List V} {ds : List PyData} : SqT K H a xs → DpAll K H xs ds → Dp K H (.ref a) (.tuple ds)
inductive DpAll (K : PySem.W.Frag) (H : Hp) : List V → List PyData → Prop
  | nil : DpAll K H [] []
  | cons {v : V} {vs : List V} {d : PyData} {ds : List PyData} : Dp K H v d → DpAll K H vs ds → DpAll K H (v :: vs) (d :: ds)
end
section
variable {X : Cx} {pins : List (Addr × Obj)} {σ : St} {H : Hp} {s : Shared}
mutual
theorem Dp.reads (I : Inv X pins σ H s) : ∀ (d : PyData) (v : V) (u : Value), Dp X.K H v d → RelV v u → ∃ as, Reads s.heap u d as
  | .none, _, _, h, r => by
    cases h
    cases r
    exact ⟨_, Reads.none⟩
  | .bool b, _, _, h, r => by
    cases h
    cases r
    exact ⟨_, Reads.bool b⟩
  | .int i, _, _, h, r => by
    cases h
    obtain ⟨t, rfl⟩ := r
    exact ⟨_, Reads.int i t⟩
  | .str x, _, _, h, r => by
    cases h
    obtain ⟨t, rfl⟩ := r
    exact ⟨_, Reads.str x t⟩
  | .list ds, _, _, h, r => by
    cases h with
    | lst hs ha =>
      cases r
      obtain ⟨its, rv, ⟨o, n, ho, hc, _, hd⟩, _⟩ := I.list hs
      obtain ⟨as, hr⟩ := Dp.readsAll I ds _ its ha rv
      exact ⟨_, Reads.list ho hc hd hr⟩
  | .tuple ds, _, _, h, r => by
    cases h with
    | tup hs ha =>
      cases r
      obtain ⟨its, rv, ⟨o, ho, hc, n, hd⟩, _⟩ := I.tuple hs
      obtain ⟨as, hr⟩ := Dp.readsAll I ds _ its ha rv
      exact ⟨_, Reads.tuple ho hc hd hr⟩
  | .dict _, _, _, h, _ => by cases h
theorem Dp.readsAll (I : Inv X pins σ H s) : ∀ (ds : List PyData) (vs : List V) (us : List Value), DpAll X.K H vs ds → Vals vs us → ∃ as, ReadsAll s.heap us ds as
  | [], _, _, h, r => by
    cases h
    cases r
    exact ⟨_, ReadsAll.nil⟩
  | d :: ds, _, _, h, r => by
    cases h with
    | cons h1 h2 =>
      cases r with
      | cons r1 r2 =>
        obtain ⟨as, q1⟩ := Dp.reads I d _ _ h1 r1
        obtain ⟨bs, q2⟩ := Dp.readsAll I ds _ _ h2 r2
        exact ⟨_, ReadsAll.cons q1 q2⟩
end
end
section
variable {X : Cx}
def rEqD (K : PySem.W.Frag) : R2 := fun x y H Q => ∃ d e, Dp K H x d ∧ Dp K H y e ∧ SeqAt.shaped d = true ∧ SeqAt.shaped e = true ∧ Q (.bl (PyData.eqv d e)) H
def rNeD (K : PySem.W.Frag) : R2 := fun x y H Q => ∃ d e, Dp K H x d ∧ Dp K H y e ∧ SeqAt.shaped d = true ∧ SeqAt.shaped e = true ∧ Q (.bl (!PyData.eqv d e)) H
theorem op_eqD (hu : X.A.units + 64 < cLine) : OpR X (compareOp .Eq) (rEqD X.K) := by
  intro pins s σ H x y v u Q I rx ry h
  obtain ⟨d, e, hd, he, sd, se, q⟩ := h
  obtain ⟨as, r1⟩ := Dp.reads I d x v hd rx
  obtain ⟨bs, r2⟩ := Dp.reads I e y u he ry
  exact SeqAt.compareEq_shaped r1 r2 sd se hu ⟨.bl _, H, I, rfl, q⟩
theorem op_neD (hu : X.A.units + 64 < cLine) : OpR X (compareOp .NotEq) (rNeD X.K) := by
  intro pins s σ H x y v u Q I rx ry h
  obtain ⟨d, e, hd, he, sd, se, q⟩ := h
  obtain ⟨as, r1⟩ := Dp.reads I d x v hd rx
  obtain ⟨bs, r2⟩ := Dp.reads I e y u he ry
  exact SeqAt.compareNe_shaped r1 r2 sd se hu ⟨.bl _, H, I, rfl, q⟩
end
end L2

namespace L2
open PySem PySem.Spec PyProof.Rows
abbrev CellAt (h : Heap) (c : Addr) (v : Option Value) : Prop := h.IsCell c v
def relS (scope sc : Scope) : Scope :=
  { scope with names := scope.names.map fun (n, k) => if (k == .free && sc.kind == .function && sc.names.lookup n == some .cell) then (n, .cell) else (n, k) }

def cloFrom (cells : List (Str × Addr)) : List (Str × NameKind) → List (Str × Addr) → List (Str × Addr)
  | [], acc => acc
  | (n, k) :: r, acc => if k == .free then cloFrom cells r ((n, (cells.lookup n).getD 0) :: acc) else cloFrom cells r acc

theorem closure_loop (env : Env) (f : Str × NameKind → List (Str × Addr) → Sem (ForInStep (List (Str × Addr))))
    (hf : ∀ n k c, f (n, k) c = if k == .free then (do let a ← cellOf env n; pure (.yield ((n, a) :: c))) else pure (.yield c)) :
    ∀ (names : List (Str × NameKind)) (acc : List (Str × Addr)), (∀ y ∈ names, y.2 = .free → ∃ c, env.cells.lookup y.1 = some c) → forIn names acc f = pure (cloFrom env.cells names acc)
  | [], acc, _ => by rw [List.forIn_nil]; rfl
  | (n, k) :: r, acc, h => by
    rw [List.forIn_cons, hf]
    have ih := fun acc => closure_loop env f hf r acc fun y hy => h y (List.mem_cons_of_mem _ hy)
    unfold cloFrom
    by_cases hk : (k == NameKind.free) = true
    · rw [if_pos hk, if_pos hk]
      obtain ⟨c, hc⟩ := h (n, k) List.mem_cons_self (by simpa using hk)
      have e : cellOf env n = pure c := by unfold cellOf; rw [hc]
      rw [e]
      have e2 : (env.cells.lookup n).getD 0 = c := by rw [hc]; rfl
      rw [e2]
      exact ih _
    · rw [if_neg hk, if_neg hk]
      exact ih _
theorem closure_ok {scope : Scope} {env : Env} (h : ∀ y ∈ scope.names, y.2 = .free → ∃ c, env.cells.lookup y.1 = some c) : closureFor scope env = pure (cloFrom env.cells scope.names []) := by
  simp only [closureFor]
  rw [closure_loop env _ (fun n k c => rfl) scope.names [] h]
  rfl

theorem mem_lookup {α : Type} : ∀ {l : List (Str × α)} {n : Str} {c : α}, (n, c) ∈ l → ∃ c', l.lookup n = some c'
  | (k, v) :: r, n, c, h => by
    rw [List.lookup_cons]
    cases hb : n == k with
    | true => exact ⟨_, rfl⟩
    | false =>
      rcases List.mem_cons.mp h with e | h
      · cases e; simp at hb
      · exact mem_lookup h

theorem cloFrom_mem {cells : List (Str × Addr)} : ∀ {names : List (Str × NameKind)} {acc : List (Str × Addr)} {n : Str} {c : Addr}, (n, c) ∈ cloFrom cells names acc → (n, c) ∈ acc ∨ ((n, .free) ∈ names ∧ c = (cells.lookup n).getD 0)
  | [], _, _, _, h => .inl h
  | (m, k) :: r, acc, n, c, h => by
    unfold cloFrom at h
    split at h
    · rename_i hk
      have hk : k = .free := by simpa using hk
      rcases cloFrom_mem h with h | ⟨h1, h2⟩
      · rcases List.mem_cons.mp h with e | h
        · cases e; exact .inr ⟨hk ▸ List.mem_cons_self, rfl⟩
        · exact .inl h
      · exact .inr ⟨List.mem_cons_of_mem _ h1, h2⟩
    · rcases cloFrom_mem h with h | ⟨h1, h2⟩
      · exact .inl h
      · exact .inr ⟨List.mem_cons_of_mem _ h1, h2⟩
theorem cloFrom_acc {cells : List (Str × Addr)} : ∀ {names : List (Str × NameKind)} {acc : List (Str × Addr)} {p : Str × Addr}, p ∈ acc → p ∈ cloFrom cells names acc
  | [], _, _, h => h
  | (m, k) :: r, acc, p, h => by
    unfold cloFrom
    split
    · exact cloFrom_acc (List.mem_cons_of_mem _ h)
    · exact cloFrom_acc h
theorem cloFrom_has {cells : List (Str × Addr)} : ∀ {names : List (Str × NameKind)} {acc : List (Str × Addr)} {n : Str}, (n, .free) ∈ names → (n, (cells.lookup n).getD 0) ∈ cloFrom cells names acc
  | (m, k) :: r, acc, n, h => by
    unfold cloFrom
    rcases List.mem_cons.mp h with e | h
    · cases e
      exact cloFrom_acc List.mem_cons_self
    · split
      · exact cloFrom_has h
      · exact cloFrom_has h

theorem cells_mem : ∀ {names : List (Str × NameKind)} {h : Heap} {acc : List (Str × Addr)} {x : Str} {c : Addr}, (x, c) ∈ cellsFrom h.objs.size names acc →
    (x, c) ∈ acc ∨ ((x, .cell) ∈ names ∧ h.objs.size ≤ c ∧ CellAt (pushCells h names) c none)
  | [], _, _, _, _, h => .inl h
  | (n, k) :: r, h, acc, x, c, hm => by
    unfold cellsFrom at hm
    unfold pushCells
    split at hm
    · rename_i hk
      rw [if_pos hk]
      have hk : k = .cell := by simpa using hk
      rw [← Heap.size_push h { cls := .type "cell", data := .cell none }] at hm
      rcases cells_mem hm with hm | ⟨h1, h2, h3⟩
      · rcases List.mem_cons.mp hm with e | hm
        · cases e
          exact .inr ⟨hk ▸ List.mem_cons_self, Nat.le_refl _, _, pushCells_keeps r _ _ _ (Heap.get?_push_size _ rfl), rfl⟩
        · exact .inl hm
      · rw [Heap.size_push] at h2
        exact .inr ⟨List.mem_cons_of_mem _ h1, Nat.le_of_succ_le h2, h3⟩
    · rename_i hk
      rw [if_neg hk]
      rcases cells_mem hm with hm | ⟨h1, h2, h3⟩
      · exact .inl hm
      · exact .inr ⟨List.mem_cons_of_mem _ h1, h2, h3⟩
theorem cells_acc : ∀ {names : List (Str × NameKind)} {n : Nat} {acc : List (Str × Addr)} {p : Str × Addr}, p ∈ acc → p ∈ cellsFrom n names acc
  | [], _, _, _, h => h
  | (m, k) :: r, n, acc, p, h => by
    unfold cellsFrom
    split
    · exact cells_acc (List.mem_cons_of_mem _ h)
    · exact cells_acc h
theorem cells_has : ∀ {names : List (Str × NameKind)} {n : Nat} {acc : List (Str × Addr)} {x : Str}, (x, .cell) ∈ names → ∃ c, (x, c) ∈ cellsFrom n names acc
  | (m, k) :: r, n, acc, x, h => by
    unfold cellsFrom
    rcases List.mem_cons.mp h with e | h
    · cases e
      exact ⟨n, cells_acc List.mem_cons_self⟩
    · split
      · exact cells_has h
      · exact cells_has h
theorem cells_inj : ∀ {names : List (Str × NameKind)} {h : Heap} {acc : List (Str × Addr)} {x y : Str} {c : Addr}, (∀ p ∈ acc, p.2 < h.objs.size) → (∀ x y c, (x, c) ∈ acc → (y, c) ∈ acc → x = y) →
    (x, c) ∈ cellsFrom h.objs.size names acc → (y, c) ∈ cellsFrom h.objs.size names acc → x = y
  | [], _, _, _, _, _, _, hi, h1, h2 => hi _ _ _ h1 h2
  | (n, k) :: r, h, acc, x, y, c, hl, hi, h1, h2 => by
    unfold cellsFrom at h1 h2
    split at h1
    · rename_i hk
      rw [if_pos hk] at h2
      rw [← Heap.size_push h { cls := .type "cell", data := .cell none }] at h1 h2
      refine cells_inj (h := h.push _) (fun p hp => ?_) (fun x y c a b => ?_) h1 h2
      · rw [Heap.size_push]
        rcases List.mem_cons.mp hp with rfl | hp
        · exact Nat.lt_succ_self _
        · exact Nat.lt_succ_of_lt (hl p hp)
      · rcases List.mem_cons.mp a with e | a <;> rcases List.mem_cons.mp b with e' | b
        · cases e; cases e'; rfl
        · cases e; exact absurd (hl _ b) (Nat.lt_irrefl _)
        · cases e'; exact absurd (hl _ a) (Nat.lt_irrefl _)
        · exact hi _ _ _ a b
    · rename_i hk
      rw [if_neg hk] at h2
      exact cells_inj hl hi h1 h2

theorem newEnv_comp {M : Model} {A : Around} {E : Value → Shared → Prop} {s : Shared} {scope : Scope} {globals : Addr} {closure : List (Str × Addr)} {qual : Str} {func : Option Addr} {code : Value} {around : Env} {builtins : Addr} {Q : Env → Shared → Prop}
    (h : Q (newEnv scope s.heap.objs.size globals (cellsFrom (s.heap.objs.size + 1) scope.names closure) qual func code (some around) builtins)
      { s with heap := pushCells (s.heap.push { cls := .type "dict", data := .dict #[] }) scope.names }) :
    wpAny M A (newFunctionEnv scope globals closure [] qual func code (some around) builtins) Q E s := by
  simp only [newFunctionEnv, Option.isSome_some, if_true]
  refine wpAny_bind (wpAny_alloc ?_)
  refine wpAny_bind (wpAny_layCells _ (fun n k c => rfl) scope.names closure _ _ ?_)
  rw [show ({ s with heap := s.heap.push { cls := .type "dict", data := .dict #[] } } : Shared).heap.objs.size = s.heap.objs.size + 1 from Heap.size_push ..]
  rw [List.forIn_nil]
  exact wpAny_bind (wpAny_pure (wpAny_pure h))

theorem lookup_relS {sc : Scope} : ∀ {names : List (Str × NameKind)} {x : Str} {k : NameKind},
    (names.map fun (n, k) => if (k == NameKind.free && sc.kind == .function && sc.names.lookup n == some .cell) then (n, NameKind.cell) else (n, k)).lookup x = some k →
    ∃ k', names.lookup x = some k' ∧ (k = k' ∨ (k' = .free ∧ k = .cell))
  | [], _, _, h => by simp at h
  | (n, k₀) :: r, x, k, h => by
    have ih := @lookup_relS sc r x k
    have h' : List.lookup x ((if (k₀ == NameKind.free && sc.kind == .function && sc.names.lookup n == some .cell) = true then (n, NameKind.cell) else (n, k₀)) :: (r.map _)) = some k := h
    cases hx : x == n with
    | true =>
      simp only [List.lookup_cons, hx]
      by_cases hc : (k₀ == NameKind.free && sc.kind == .function && sc.names.lookup n == some .cell) = true
      · rw [if_pos hc] at h'
        simp only [List.lookup_cons, hx] at h'
        cases h'
        simp only [Bool.and_eq_true, beq_iff_eq] at hc
        exact ⟨k₀, rfl, .inr ⟨hc.1.1, rfl⟩⟩
      · rw [if_neg hc] at h'
        simp only [List.lookup_cons, hx] at h'
        cases h'
        exact ⟨_, rfl, .inl rfl⟩
    | false =>
      simp only [List.lookup_cons, hx]
      by_cases hc : (k₀ == NameKind.free && sc.kind == .function && sc.names.lookup n == some .cell) = true
      · rw [if_pos hc] at h'
        simp only [List.lookup_cons, hx] at h'
        exact ih h'
      · rw [if_neg hc] at h'
        simp only [List.lookup_cons, hx] at h'
        exact ih h'
structure BlkOk (N : List Str) (sc scope : Scope) (own : List (Str × Nat)) : Prop where
  kind : scope.kind = .function
  uniq : ∀ y ∈ scope.names, scope.names.lookup y.1 = some y.2
  ix : ∀ p ∈ own, N[p.2]? = some p.1
  free : ∀ y ∈ scope.names, y.2 = .free → sc.names.lookup y.1 = some .cell ∨ sc.names.lookup y.1 = some .free
  own : ∀ y ∈ scope.names, y.2 = .local ∨ y.2 = .cell → y.1 ∈ own.map (·.1) ∨ y.1 ∉ N
def wipe (σ : St) : List Nat → St
  | [] => σ
  | v :: vs => (wipe σ vs).set v none
theorem wipe_length (σ : St) : ∀ vs : List Nat, (wipe σ vs).length = σ.length
  | [] => rfl
  | v :: vs => by unfold wipe; rw [List.length_set, wipe_length σ vs]
theorem wipe_some {σ : St} {i : Nat} {x : V} : ∀ {vs : List Nat}, (wipe σ vs)[i]? = some (some x) → σ[i]? = some (some x) ∧ i ∉ vs
  | [], h => ⟨h, by simp⟩
  | v :: vs, h => by
    unfold wipe at h
    by_cases hi : v = i
    · subst hi
      by_cases hv : v < (wipe σ vs).length
      · rw [List.getElem?_set_self hv] at h; cases h
      · rw [List.getElem?_eq_none (by simpa using hv)] at h; cases h
    · rw [List.getElem?_set_ne hi] at h
      obtain ⟨h1, h2⟩ := wipe_some h
      exact ⟨h1, by simp only [List.mem_cons, not_or]; exact ⟨fun e => hi e.symm, h2⟩⟩

abbrev Cx.blk (X : Cx) (s : Shared) (H : Hp) (scope : Scope) (cenv : Env) (fp : List Addr) : Cx := { X with s_0 := s, H_0 := H, env := cenv, outer := X.stack, ex := fp, fn := fun x => scope.names.lookup x == some .cell, pn := [], xe := fun _ _ => False }
section
variable {X : Cx} {pins : List (Addr × Obj)} {σ : St} {H : Hp} {s : Shared}
theorem block_start {scope : Scope} {own : List (Str × Nat)} {fp : List Addr} (I : Inv X pins σ H s) (ok : BlkOk X.N X.env.scope scope own) (hN : X.N.Nodup) (hfp : ∀ b ∈ fp, FpOk X pins H b ∧ b < s.heap.objs.size) :
    Inv (X.blk s H scope (compEnvC scope (cellsFrom (s.heap.objs.size + 1) scope.names (cloFrom X.env.cells scope.names [])) s.heap.objs.size X.env) fp) [] (wipe σ (own.map (·.2))) H { s with heap := pushCells (s.heap.push { cls := .type "dict", data := .dict #[] }) scope.names } := by
  have hfree : ∀ y ∈ scope.names, y.2 = .free → ∃ c, X.env.cells.lookup y.1 = some c := fun y hy e => by
    rcases ok.free y hy e with k | k
    · exact I.ok.has _ (.inl k)
    · exact I.ok.has _ (.inr k)
  generalize hcenv : compEnvC scope (cellsFrom (s.heap.objs.size + 1) scope.names (cloFrom X.env.cells scope.names [])) s.heap.objs.size X.env = cenv
  have kp : ∀ b o, s.heap.get? b = some o → (pushCells (s.heap.push { cls := .type "dict", data := .dict #[] }) scope.names).get? b = some o := fun b o e => pushCells_keeps _ _ _ _ (Heap.get?_push_of_some _ e)
  have hL : cenv.locals = s.heap.objs.size := by rw [← hcenv]; rfl
  have hcl : cenv.cells = cellsFrom (s.heap.objs.size + 1) scope.names (cloFrom X.env.cells scope.names []) := by rw [← hcenv]; rfl
  have hsc : cenv.scope = relS scope X.env.scope := by rw [← hcenv]; rfl
  rw [← Heap.size_push s.heap { cls := .type "dict", data := .dict #[] }] at hcl
  have cm : ∀ {y c}, (y, c) ∈ cloFrom X.env.cells scope.names [] → X.env.cells.lookup y = some c ∧ c < s.heap.objs.size := fun {y c} hm => by
    rcases cloFrom_mem hm with hm | ⟨h1, rfl⟩
    · cases hm
    · obtain ⟨c, hc⟩ := hfree _ h1 rfl
      rw [hc]
      obtain ⟨w, z⟩ := I.cell _ _ hc
      exact ⟨rfl, z.lt⟩
  have mem : ∀ {y c}, cenv.cells.lookup y = some c → (X.env.cells.lookup y = some c ∧ c < s.heap.objs.size) ∨ (s.heap.objs.size + 1 ≤ c ∧ CellAt (pushCells (s.heap.push { cls := .type "dict", data := .dict #[] }) scope.names) c none) := fun {y c} e => by
    rw [hcl] at e
    rcases cells_mem (PySem.mem_of_lookup e) with hm | ⟨_, h2, h3⟩
    · exact .inl (cm hm)
    · rw [Heap.size_push] at h2; exact .inr ⟨h2, h3⟩
  have look : ∀ {y}, scope.names.lookup y = some .free → ∃ c, cenv.cells.lookup y = some c ∧ X.env.cells.lookup y = some c := fun {y} hl => by
    have hy : (y, NameKind.free) ∈ scope.names := PySem.mem_of_lookup hl
    obtain ⟨c', e'⟩ := mem_lookup (cells_acc (names := scope.names) (n := (s.heap.push { cls := .type "dict", data := .dict #[] }).objs.size) (cloFrom_has (cells := X.env.cells) (acc := []) hy))
    rw [← hcl] at e'
    refine ⟨c', e', ?_⟩
    rw [hcl] at e'
    rcases cells_mem (PySem.mem_of_lookup e') with hm | ⟨h1, _, _⟩
    · exact (cm hm).1
    · have := ok.uniq _ h1
      rw [hl] at this; cases this
  have okB : (X.blk s H scope cenv fp).Ok := by
    refine ⟨I.ok.mod, by show cenv.scope.kind = _; rw [hsc]; exact ok.kind, by show cenv.globals = _; rw [← hcenv]; exact I.ok.glob, by show cenv.builtins = _; rw [← hcenv]; exact I.ok.blt, by show s.heap.objs.size ≤ cenv.locals; rw [hL]; exact Nat.le_refl _,
      fun y z c e1 e2 => ?_, fun y hy => ?_, fun y c z e => ?_, I.ok.hd, I.ok.frames, .inl rfl, fun b hb => ⟨?_, fun y c e z => ?_⟩, I.bs, Nat.le_trans I.ok.bsz I.sz, fun b o e hb => ?_, fun b hb z => ?_, I.stack, I.stkFree⟩
    · have e1 : cenv.cells.lookup y = some c := e1
      have e2 : cenv.cells.lookup z = some c := e2
      rw [hcl] at e1 e2
      refine cells_inj (fun p hp => ?_) (fun y z c a b => I.ok.inj y z c (cm a).1 (cm b).1) (PySem.mem_of_lookup e1) (PySem.mem_of_lookup e2)
      rw [Heap.size_push]
      exact Nat.lt_succ_of_lt (cm (y := p.1) (c := p.2) hp).2
    · show ∃ c, cenv.cells.lookup y = some c
      have key : ∀ k, cenv.kindOf y = some k → (k = .cell ∨ k = .free) → ∃ c, cenv.cells.lookup y = some c := fun k hk hk' => by
        unfold Env.kindOf at hk
        rw [hsc] at hk
        obtain ⟨k', e, r⟩ := lookup_relS hk
        have : k' = .cell ∨ k' = .free := by
          rcases r with rfl | ⟨rfl, _⟩
          · exact hk'
          · exact .inr rfl
        rcases this with rfl | rfl
        · obtain ⟨c, hm⟩ := cells_has (n := (s.heap.push { cls := .type "dict", data := .dict #[] }).objs.size) (acc := cloFrom X.env.cells scope.names []) (PySem.mem_of_lookup e)
          obtain ⟨c', e'⟩ := mem_lookup hm
          exact ⟨c', by rw [hcl]; exact e'⟩
        · obtain ⟨c, h1, _⟩ := look e
          exact ⟨c, h1⟩
      rcases hy with hy | hy
      · exact key _ hy (.inl rfl)
      · exact key _ hy (.inr rfl)
    · have z : (scope.names.lookup y == some NameKind.cell) = true := z
      have z : scope.names.lookup y = some .cell := by simpa using z
      have e : cenv.cells.lookup y = some c := e
      rw [hcl] at e
      rcases cells_mem (PySem.mem_of_lookup e) with hm | ⟨_, h2, _⟩
      · rcases cloFrom_mem hm with hm | ⟨h1, _⟩
        · cases hm
        · have q := ok.uniq _ h1
          rw [z] at q; cases q
      · rw [Heap.size_push] at h2
        exact Nat.le_of_succ_le h2
    · show b ≠ cenv.locals
      rw [hL]; exact Nat.ne_of_lt (hfp b hb).2
    · have e : cenv.cells.lookup y = some c := e
      rcases mem e with ⟨h1, _⟩ | ⟨h1, _⟩
      · exact (hfp b hb).1.2.2.2.2.1 y c h1 z
      · have h2 : s.heap.objs.size + 1 ≤ b := by rw [← z]; exact h1
        exact absurd (Nat.lt_of_lt_of_le (hfp b hb).2 (Nat.le_of_succ_le h2)) (Nat.lt_irrefl _)
    · rcases (hfp b hb).1.2.2.2.1 with z | z
      · exact I.ok.noex b o e z
      · exact absurd (Nat.lt_of_lt_of_le (Heap.lt_size e) (Nat.le_trans I.ok.bsz z)) (Nat.lt_irrefl _)
    · rcases List.mem_cons.mp (I.stkSub b z) with z | z
      · exact (hfp b hb).1.2.1 z
      · exact (hfp b hb).1.2.2.1 z
  refine ⟨okB, rfl, I.bare, Un.kept kp, ⟨fun _ => none, ?_, fun i y av e1 e2 e3 => ?_⟩, fun y c e => ?_, ?_, fun y c e => ?_, fun p hp => ?_, I.hok.kept kp, by rw [wipe_length]; exact I.len⟩
  · show Heap.Ns _ cenv.locals _
    rw [hL]
    exact Heap.Ns.keeps (Heap.Ns.new ..) fun b o e => pushCells_keeps _ _ _ _ e
  · obtain ⟨e2, hne⟩ := wipe_some e2
    have hfr : scope.names.lookup y = some .free ∧ (cenv.kindOf y = some .cell ∨ cenv.kindOf y = some .free) := by
      have key : ∀ k, cenv.scope.names.lookup y = some k → k = .local ∨ k = .cell ∨ k = .free → scope.names.lookup y = some .free ∧ (cenv.kindOf y = some .cell ∨ cenv.kindOf y = some .free) := fun k hk hk' => by
        have hk0 := hk
        rw [hsc] at hk
        obtain ⟨k', e, r⟩ := lookup_relS hk
        have no : ¬ (k' = .local ∨ k' = .cell) := fun hh => by
          rcases ok.own _ (PySem.mem_of_lookup e) hh with e' | e'
          · obtain ⟨p, hp, hpy⟩ := List.mem_map.mp e'
            have e3 := ok.ix p hp
            have : p.1 = y := hpy
            rw [this] at e3
            exact hne (List.mem_map.mpr ⟨p, hp, nodup_ix hN e3 e1⟩)
          · exact e' (List.mem_of_getElem? e1)
        rcases r with rfl | ⟨rfl, rfl⟩
        · rcases hk' with rfl | rfl | rfl
          · exact absurd (.inl rfl) no
          · exact absurd (.inr rfl) no
          · exact ⟨e, .inr hk0⟩
        · exact ⟨e, .inl hk0⟩
      have e3 : Vis cenv.scope y := e3
      rcases e3 with e3 | e3 | e3
      · exact key _ e3 (.inl rfl)
      · exact key _ e3 (.inr (.inl rfl))
      · exact key _ e3 (.inr (.inr rfl))
    obtain ⟨m, hn, hl⟩ := I.loc
    have hvis : Vis X.env.scope y := (ok.free _ (PySem.mem_of_lookup hfr.1) rfl).elim (fun k => .inr (.inl k)) (fun k => .inr (.inr k))
    obtain ⟨w, r, q⟩ := hl i y av e1 e2 hvis
    refine ⟨w, r, .inr ⟨hfr.2, ?_⟩⟩
    obtain ⟨c, h1, h2⟩ := look hfr.1
    rcases q with ⟨k, _⟩ | ⟨_, c', e', z⟩
    · have k : X.env.scope.names.lookup y = some .local := k
      rcases ok.free _ (PySem.mem_of_lookup hfr.1) rfl with k' | k' <;> rw [show X.env.scope.names.lookup y = _ from k'] at k <;> cases k
    · rw [h2] at e'; cases e'
      exact ⟨c, h1, z.keeps kp⟩
  · have e : cenv.cells.lookup y = some c := e
    rcases mem e with ⟨h1, _⟩ | ⟨_, z⟩
    · obtain ⟨w, z⟩ := I.cell y c h1
      exact ⟨w, z.keeps kp⟩
    · exact ⟨_, z⟩
  · show H cenv.locals = none
    rw [hL]; exact I.hok.fresh (Nat.le_refl _)
  · have e : cenv.cells.lookup y = some c := e
    rcases mem e with ⟨h1, _⟩ | ⟨h1, _⟩
    · exact I.freeC y c h1
    · exact I.hok.fresh (Nat.le_of_succ_le h1)
  · exact absurd (show p ∈ ([] : List (Addr × Obj)) ++ [] from hp) (by simp)

theorem app_ok {E : Value → Shared → Prop} {D : Addr} {xs : List V} {y : V} {v : Value} {Q : Value → Shared → Prop} (I : Inv X pins σ H s) (hD : H D = some (.lst xs)) (hz : xs.length < sizeLine) (r : RelV y v)
    (h : ∀ s', Inv X pins σ (upd H D (.lst (xs ++ [y]))) s' → Q .none s') : wpAny (model X.prog X.w) X.A (call (.builtin "list.append") [.ref D, v]) Q E s := by
  obtain ⟨hz', its, n, ri, e⟩ := I.hok D _ hD
  have hl := ri.length
  refine append_at (hsz := by rw [List.size_toArray]; omega) e fun h' sb ho' => ?_
  refine h { s with heap := h' } (I.write (t' := s.toks) (by rw [hD]; trivial) (.inl rfl) (fun b u hb q => (sb.2 b hb).trans q) ⟨_, ho'⟩ ⟨by rw [List.length_append]; exact hz, its ++ [v], n + 1, ri.append (.cons r .nil), ?_⟩)
  rw [ho']
  simp

def PTs (X : Cx) (ifs : List Expr) (t : TT) : Prop :=
  ∀ (pins : List (Addr × Obj)) (s : Shared) (σ : St) (H : Hp) (Q : Bool → Hp → Prop), Inv X pins σ H s → t σ H Q →
    wpAny (model X.prog X.w) X.A (forIn ifs true fun c r => if r = true then do let ok ← isTrue c X.env (eval c X.env); pure (ForInStep.yield ok) else pure (ForInStep.yield r)) (TP X pins σ Q) X.xe s
def tYes : TT := fun _ H Q => Q true H
theorem pts_nil : PTs X [] tYes := fun _ _ _ H _ I h => wpAny_tests_nil ⟨H, I, h⟩
theorem pts_one {c : Expr} {t : TT} (h : PT X c t) : PTs X [c] t := fun pins s σ H Q I hw => wpAny_tests_one (h pins s σ H Q I hw)
end

theorem thnF {α : Type} {t : Sem α} {Q Q' : α → Shared → Prop} {M : Model} {A : Around} {E : Value → Shared → Prop} {s : Shared} (h : wpAny M A t Q (fun _ _ => False) s) (hQ : ∀ a s, Q a s → Q' a s) : wpAny M A t Q' E s := wpAny_mono h hQ fun _ _ z => False.elim z

theorem compLoop_any {prog : Program} {w : World} {A : Around} {R : Result → Shared → Prop} {s : Shared} {elt target iter : Expr} {ifs : List Expr} {scope : Scope} {pos : Pos} {it acc : Value} {env : Env} (I : Nat → Shared → Prop)
    (turn : ∀ n s, I n s → wpAny (model prog w) A (pyNext it) (fun r s₁ => match r with
      | none => R (.ok .next) s₁
      | some v => wpAny (model prog w) A (letOwnedTupleGo target it v) (fun _ s₁' => wpAny (model prog w) A (assign target env v) (fun _ s₂ =>
          wpAny (model prog w) A (forIn ifs true fun c r => if r = true then do let ok ← isTrue c env (eval c env); pure (ForInStep.yield ok) else pure (ForInStep.yield r)) (fun ok s₃ =>
            if ok = true then wpAny (model prog w) A (eval elt env) (fun x s₄ =>
              wpAny (model prog w) A (call (.builtin "list.append") [acc, x]) (fun _ s₅ => ∃ m, m < n ∧ I m s₅) (notedBy (model prog w) A env fun e s' => R (.error e) s') s₄) (notedBy (model prog w) A env fun e s' => R (.error e) s') s₃
            else ∃ m, m < n ∧ I m s₃) (notedBy (model prog w) A env fun e s' => R (.error e) s') s₂) (notedBy (model prog w) A env fun e s' => R (.error e) s') s₁') (notedBy (model prog w) A env fun e s' => R (.error e) s') s₁) (notedBy (model prog w) A env fun e s' => R (.error e) s') s)
    (n : Nat) (h : I n s) :
    codeAny (model prog w) A (.compLoop (.ListComp elt [⟨target, iter, ifs, 0⟩] scope pos) 0 it acc env) R s := by
  refine codeAny_loop rfl I (fun n s hI => ?_) n h
  show wpAny _ A ((compTurn (.ListComp elt [⟨target, iter, ifs, 0⟩] scope pos) 0 it acc env).onRaise (fun x => do noteFrame x env; theTreesLotGoes x)) _ _ s
  refine wpAny_noted ?_
  rw [compTurn_list]
  refine wpAny_bind (wpAny_standAt (wpAny_bind (wpAny_mono (turn n s hI) (fun r s₁ h₁ => ?_) fun _ _ h' => h')))
  cases r with
  | none => exact wpAny_pure h₁
  | some v =>
    refine wpAny_bind (wpAny_mono h₁ (fun _ s₁' h₁' => ?_) fun _ _ h' => h')
    refine wpAny_bind (wpAny_mono h₁' (fun _ s₂ h₂ => wpAny_bind (wpAny_mono h₂ (fun ok s₃ h₃ => ?_) fun _ _ h' => h')) fun _ _ h' => h')
    cases ok with
    | false => exact wpAny_pure ⟨rfl, h₃⟩
    | true =>
      exact wpAny_bind (wpAny_bind (wpAny_mono h₃ (fun x s₄ h₄ => wpAny_bind (wpAny_mono h₄ (fun _ s₅ h₅ => wpAny_pure (wpAny_pure ⟨rfl, h₅⟩)) fun _ _ h' => h')) fun _ _ h' => h'))

section
variable {X : Cx}
def tLc (wi : TI) (g : TG) (tt : TT) (te : TE) (vs : List Nat) : TE := fun σ H Q => wi σ H fun J H1 => ∀ D, H1 D = none → ∃ W : Nat → Nat → Hp → Prop, (∃ m, W 0 m (upd H1 D (.lst []))) ∧ ∀ i m H, W i m H →
  (J.stop i H ∧ Q (.ref D) H) ∨ (J.go i H ∧ ∃ Nx : Hp → Prop, (∀ H', Nx H' → ∃ m', m' < m ∧ W (i + 1) m' H') ∧ ∀ x H', J.yld i H x H' → g x (wipe σ vs) H' fun σ2 H2 => wipe σ2 vs = wipe σ vs ∧ tt σ2 H2 fun b H3 =>
    if b = true then te σ2 H3 fun y H4 => ∃ acc, H4 D = some (.lst acc) ∧ acc.length < sizeLine ∧ Nx (upd H4 D (.lst (acc ++ [y]))) else Nx H3)
theorem lc_core {pins : List (Addr × Obj)} {s : Shared} {σ : St} {H : Hp} {Q : VK} {elt tg iter : Expr} {ifs : List Expr} {scope : Scope} {own : List (Str × Nat)} {pos pos' : Pos} {wi : TI} {g : TG} {tt : TT} {te : TE} {use : Option (Value → Sem Unit)} {Qf : Value → Shared → Prop}
    (hc : X.calm = true) (hN : X.N.Nodup) (I : Inv X pins σ H s) (hi : PI X tg iter wi) (ok : BlkOk X.N X.env.scope scope own)
    (hg : ∀ (s : Shared) (H : Hp) (C : Addr) (cl : List (Str × Addr)) (fp : List Addr), PG (X.blk s H scope (compEnvC scope cl C X.env) fp) tg g) (ht : ∀ (s : Shared) (H : Hp) (C : Addr) (cl : List (Str × Addr)) (fp : List Addr), PTs (X.blk s H scope (compEnvC scope cl C X.env) fp) ifs tt)
    (he : ∀ (s : Shared) (H : Hp) (C : Addr) (cl : List (Str × Addr)) (fp : List Addr), PE (X.blk s H scope (compEnvC scope cl C X.env) fp) elt te) (hs : ∀ x, foldedSetIterable iter X.env x = pure x)
    (h : tLc wi g tt te (own.map (·.2)) σ H Q)
    (hRR : ∀ D C s' m H', Inv X pins σ H' s' → Q (.ref D) H' → s'.heap.Ns C m → FpOk X pins H' C → compPost (model X.prog X.w) X.A X.xe use Qf (.ref D) C (.ok .next) s') :
    wpAny (model X.prog X.w) X.A (comprehension (.ListComp elt [⟨tg, iter, ifs, 0⟩] scope pos) scope X.env pos' (newList []) false (eval iter X.env) use) Qf X.xe s := by
  have hfree : ∀ y ∈ scope.names, y.2 = .free → ∃ c, X.env.cells.lookup y.1 = some c := fun y hy e => by
    rcases ok.free y hy e with k | k
    · exact I.ok.has _ (.inl k)
    · exact I.ok.has _ (.inr k)
  refine wpAny_comprehension_free (use := use) rfl hs (closure_ok hfree) ok.kind (fun y hy e => by rw [ok.uniq y hy, e])
    (thn (hi pins s σ H _ I h) fun xv s1 hx => thn hx fun itv s2 h2 => ?_)
  obtain ⟨it, fp, tn, J, H2, e, I2, T, st2, f2, q⟩ := h2
  subst e
  refine wpAny_newObj_type (newEnv_comp ?_) (by show 0 ≤ sizeLine; decide)
  generalize hD : s2.heap.objs.size = D
  have hDn : H2 D = none := I2.hok.fresh (Nat.le_of_eq hD)
  obtain ⟨W, ⟨m0, w0⟩, turn⟩ := q D hDn
  -- the new list
  generalize hs3 : ({ s2 with heap := s2.heap.push { cls := .type "list", data := .seq ([] : List Value).toArray } } : Shared) = s3
  have I3 : Inv X pins σ (upd H2 D (.lst [])) s3 := by
    rw [← hs3]
    refine I2.laid (t' := s2.toks) (fun b o e => Heap.get?_push_of_some _ e) (Nat.le_of_eq hD) ⟨Nat.zero_le _, [], 0, .nil, ?_⟩
    rw [← hD]
    exact Heap.get?_push_size _ rfl
  have h3 : s3.heap = s2.heap.push { cls := .type "list", data := .seq ([] : List Value).toArray } := by rw [← hs3]
  have sz : ∀ b ∈ fp, b < s2.heap.objs.size := fun b hb => by
    obtain ⟨o, e, _⟩ := T.obj _ _ st2 b hb
    exact Heap.lt_size e
  have f3 : ∀ b ∈ fp, FpOk X pins (upd H2 D (.lst [])) b ∧ b < s3.heap.objs.size := fun b hb => by
    have hlt := sz b hb
    refine ⟨⟨?_, (f2 b hb).2⟩, by rw [h3, Heap.size_push]; exact Nat.lt_succ_of_lt hlt⟩
    rw [upd_ne (by rw [← hD]; exact Nat.ne_of_lt hlt)]
    exact (f2 b hb).1
  have st3 : tn 0 s3.heap := T.keep _ _ _ st2 fun b _ o e => by rw [h3]; exact Heap.get?_push_of_some _ e
  have I4 := block_start I3 ok hN f3
  have pg := hg s3 (upd H2 D (.lst [])) s3.heap.objs.size (cellsFrom (s3.heap.objs.size + 1) scope.names (cloFrom X.env.cells scope.names [])) fp
  have pt := ht s3 (upd H2 D (.lst [])) s3.heap.objs.size (cellsFrom (s3.heap.objs.size + 1) scope.names (cloFrom X.env.cells scope.names [])) fp
  have pe := he s3 (upd H2 D (.lst [])) s3.heap.objs.size (cellsFrom (s3.heap.objs.size + 1) scope.names (cloFrom X.env.cells scope.names [])) fp
  show codeAny _ _ (.compStart (.ListComp elt [⟨tg, iter, ifs, 0⟩] scope pos) 0 (.ref it) (.ref D) (compEnvC scope (cellsFrom (s3.heap.objs.size + 1) scope.names (cloFrom X.env.cells scope.names [])) s3.heap.objs.size X.env)) (compPost (model X.prog X.w) X.A X.xe use Qf (.ref D) s3.heap.objs.size) { s3 with heap := pushCells (s3.heap.push { cls := .type "dict", data := .dict #[] }) scope.names }
  have nfp : ∀ b ∈ fp, (upd H2 D (.lst [])) b = none := fun b hb => (f3 b hb).1.1
  generalize hce : compEnvC scope (cellsFrom (s3.heap.objs.size + 1) scope.names (cloFrom X.env.cells scope.names [])) s3.heap.objs.size X.env = ce at I4 pg pt pe ⊢
  have cL : ce.locals = s3.heap.objs.size := by subst hce; rfl
  generalize hH3 : upd H2 D (.lst []) = H3 at I3 I4 pg pt pe w0 nfp f3
  generalize hs4 : ({ s3 with heap := pushCells (s3.heap.push { cls := .type "dict", data := .dict #[] }) scope.names } : Shared) = s4 at I4 ⊢
  have st4 : tn 0 s4.heap := T.keep _ _ _ st3 fun b _ o e => by rw [← hs4]; exact pushCells_keeps _ _ _ _ (Heap.get?_push_of_some _ e)
  have stat : ∀ {σ' : St} {H' : Hp} {s' : Shared}, Inv (X.blk s3 H3 scope ce fp) [] σ' H' s' → (∀ b ∈ fp, H' b = none) → ∀ b ∈ fp, FpOk (X.blk s3 H3 scope ce fp) [] H' b := fun {σ' H' s'} I' hn b hb =>
    ⟨hn b hb, (I'.ok.exf b hb).1, I'.ok.exfs b hb, .inl hb, fun x c e => (I'.ok.exf b hb).2 x c e, fun p hp => absurd (show p ∈ ([] : List (Addr × Obj)) ++ [] from hp) (by simp)⟩
  have loop : codeAny (model X.prog X.w) X.A (.compLoop (.ListComp elt [⟨tg, iter, ifs, 0⟩] scope pos) 0 (.ref it) (.ref D) ce) (compPost (model X.prog X.w) X.A X.xe use Qf (.ref D) s3.heap.objs.size) s4 := by
    refine compLoop_any (fun n s' => ∃ i H', Inv (X.blk s3 H3 scope ce fp) [] (wipe σ (own.map (·.2))) H' s' ∧ tn i s'.heap ∧ (∀ b ∈ fp, H' b = none) ∧ W i n H') ?_ m0 ⟨0, H3, I4, st4, nfp, w0⟩
    rintro n s5 ⟨i, H5, I5, st5, n5, w5⟩
    rcases turn i n H5 w5 with ⟨stop, qq⟩ | ⟨go, Nx, hNx, step⟩
    · have td := T.done (X.blk s3 H3 scope ce fp) rfl rfl rfl hc i [] s5 _ H5 (fun _ _ => False) I5 (stat I5 n5) st5 stop
      refine thnF td fun r s6 ⟨hr, I6⟩ => ?_
      subst hr
      -- back in the def's context
      have I7 : Inv X pins σ H5 s6 := I3.call' (ch := fp) I6.os I6.base I6.hok I6.bare fun b hb => ⟨(f3 b hb).1.2.2.2.1, (f3 b hb).1.2.1, (f3 b hb).1.2.2.2.2.1, (f3 b hb).1.2.2.2.2.2⟩
      have nC : H5 s3.heap.objs.size = none := by
        have z : H5 ce.locals = none := I6.free
        rw [cL] at z
        exact z
      obtain ⟨m, hn, _⟩ := I6.loc
      have hn : s6.heap.Ns ce.locals m := hn
      rw [cL] at hn
      exact hRR D s3.heap.objs.size s6 m H5 I7 qq hn (I3.fpOk (Nat.le_refl _) nC)
    · have ti := T.item (X.blk s3 H3 scope ce fp) rfl rfl rfl hc i [] s5 _ H5 (fun _ _ => False) I5 (stat I5 n5) st5 go
      refine thnF ti fun r s6 ⟨u, hr, h6⟩ => ?_
      subst hr
      refine thnF h6 fun _ s7 ⟨x, H7, I7, r7, y7, st7, n7⟩ => ?_
      have I7' := I7.pinned (stat I7 n7) (T.obj _ _ st7)
      refine thnF (pg _ s7 _ H7 x u _ I7' r7 (step x H7 y7)) fun _ s8 ⟨σ8, H8, I8, hw8, q8⟩ => ?_
      refine thnF (pt _ s8 σ8 H8 _ I8 q8) fun b s9 ⟨H9, I9, q9⟩ => ?_
      -- the turn's end
      have fin : ∀ {s' : Shared} {H' : Hp}, Inv (X.blk s3 H3 scope ce fp) ([] ++ pinsAt fp s7.heap) σ8 H' s' → Nx H' → ∃ m, m < n ∧ ∃ i H', Inv (X.blk s3 H3 scope ce fp) [] (wipe σ (own.map (·.2))) H' s' ∧ tn i s'.heap ∧ (∀ b ∈ fp, H' b = none) ∧ W i m H' := fun {s' H'} I' nx => by
        obtain ⟨m', hm, w'⟩ := hNx H' nx
        have pin' : ∀ b ∈ fp, ∀ o, s7.heap.get? b = some o → s'.heap.get? b = some o ∧ H' b = none := fun b hb o e =>
          let z := I'.pin (b, o) (List.mem_append_right _ (List.mem_append_right _ (mem_pinsAt hb e)))
          ⟨z.1, z.2.1⟩
        have hl : (wipe σ (own.map (·.2))).length = σ8.length := by rw [← hw8, wipe_length]
        refine ⟨m', hm, i + 1, H', (I'.unpinned (pins := [])).weak hl (fun j v e => ?_), T.keep _ _ _ st7 fun b hb o e => (pin' b hb o e).1, fun b hb => ?_, w'⟩
        · rw [← hw8] at e
          exact (wipe_some e).1
        · obtain ⟨o, e, _⟩ := T.obj _ _ st7 b hb
          exact (pin' b hb o e).2
      cases b with
      | false =>
        simp only [Bool.false_eq_true, if_false] at q9 ⊢
        exact fin I9 q9
      | true =>
        simp only [if_true] at q9 ⊢
        refine thnF (pe _ s9 σ8 H9 _ I9 q9) fun z s10 ⟨yv, H10, I10, r10, acc, hD10, hz10, nx⟩ => ?_
        exact app_ok (X := X.blk s3 H3 scope ce fp) I10 hD10 hz10 r10 fun s11 I11 => fin I11 nx
  exact codeAny_compStart_list loop (T.self X.A 0 _ _ _ st4 loop)
theorem pe_lc {elt tg iter : Expr} {ifs : List Expr} {scope : Scope} {own : List (Str × Nat)} {pos : Pos} {wi : TI} {g : TG} {tt : TT} {te : TE} (hc : X.calm = true) (hN : X.N.Nodup) (hi : PI X tg iter wi) (ok : BlkOk X.N X.env.scope scope own)
    (hg : ∀ (s : Shared) (H : Hp) (C : Addr) (cl : List (Str × Addr)) (fp : List Addr), PG (X.blk s H scope (compEnvC scope cl C X.env) fp) tg g) (ht : ∀ (s : Shared) (H : Hp) (C : Addr) (cl : List (Str × Addr)) (fp : List Addr), PTs (X.blk s H scope (compEnvC scope cl C X.env) fp) ifs tt)
    (he : ∀ (s : Shared) (H : Hp) (C : Addr) (cl : List (Str × Addr)) (fp : List Addr), PE (X.blk s H scope (compEnvC scope cl C X.env) fp) elt te) (hs : ∀ x, foldedSetIterable iter X.env x = pure x := by intro _; rfl) :
    PE X (.ListComp elt [⟨tg, iter, ifs, 0⟩] scope pos) (tLc wi g tt te (own.map (·.2))) := by
  intro pins s σ H Q I h
  rw [eval_ListComp]
  refine lc_core hc hN I hi ok hg ht he hs h fun D C s' m H' I' q hn f => ⟨m, hn, fun h'' sb => ?_⟩
  obtain ⟨f0, f1, f2, f3, f4, f5⟩ := f
  exact ⟨.ref D, H', I'.turned (t' := s'.toks) (fun b o hb e => (sb.2 b hb).trans e) f0 f1 f3 f4 f5, rfl, q⟩
theorem ps_setLc {i : Nat} {y : Str} {py : Pos} {elt tg iter : Expr} {ifs : List Expr} {scope : Scope} {own : List (Str × Nat)} {pos spos : Pos} {wi : TI} {g : TG} {tt : TT} {te : TE} (hc : X.calm = true) (hN : X.N.Nodup) (hy : X.N[i]? = some y) (hyl : X.env.scope.names.lookup y = some .local)
    (hsw : swapsWith (.ListComp elt [⟨tg, iter, ifs, 0⟩] scope pos) (some (.Name y py)) spos.line X.env = pure true) (hi : PI X tg iter wi) (ok : BlkOk X.N X.env.scope scope own)
    (hg : ∀ (s : Shared) (H : Hp) (C : Addr) (cl : List (Str × Addr)) (fp : List Addr), PG (X.blk s H scope (compEnvC scope cl C X.env) fp) tg g) (ht : ∀ (s : Shared) (H : Hp) (C : Addr) (cl : List (Str × Addr)) (fp : List Addr), PTs (X.blk s H scope (compEnvC scope cl C X.env) fp) ifs tt)
    (he : ∀ (s : Shared) (H : Hp) (C : Addr) (cl : List (Str × Addr)) (fp : List Addr), PE (X.blk s H scope (compEnvC scope cl C X.env) fp) elt te) (hs : ∀ x, foldedSetIterable iter X.env x = pure x := by intro _; rfl) :
    PS X (.Assign [.Name y py] (.ListComp elt [⟨tg, iter, ifs, 0⟩] scope pos) spos) (tAsg (tLc wi g tt te (own.map (·.2))) (gName i)) := by
  intro pins s σ H D I h
  rw [exec_Assign_Name_used _ _ _ _ hsw]
  refine wpAny_bind (wpAny_standAt (wpAny_bind ?_))
  show wpAny _ X.A (do let _ ← comprehension (.ListComp elt [⟨tg, iter, ifs, 0⟩] scope pos) scope X.env (firstIterPos [⟨tg, iter, ifs, 0⟩] pos) (newList []) false (eval iter X.env) (some (assign (.Name y py) X.env))) _ _ s
  have h : tLc wi g tt te (own.map (·.2)) σ H (fun x H1 => gName i x σ H1 D.nx) := h
  refine wpAny_bind (thn (lc_core (Qf := fun _ s' => SP X pins D .next s') hc hN I hi ok hg ht he hs h fun L C s' m H' I' q hn f => ?_) fun _ s' hq => wpAny_pure (wpAny_pure hq))
  show wpAny _ _ (assign (.Name y py) X.env (.ref L)) _ _ _
  refine wpAny_assign_Name (store_ok2 (v := V.ref L) I' hN hy (.inl hyl) rfl (fun s2 I2 ⟨a, sb, ha⟩ => ?_) (.inr hyl))
  obtain ⟨f0, f1, f2, f3, f4, f5⟩ := f
  have haC : C ≠ a := by
    rcases ha with z | z
    · rw [z]; exact f1
    · exact fun e => f4 y a z e.symm
  refine ⟨m, hn.sameBut sb haC, fun h3 sb3 => ?_⟩
  exact ⟨_, H', I2.turned (t' := s2.toks) (fun b o hb e => (sb3.2 b hb).trans e) f0 f1 f3 f4 f5, q⟩
theorem sw_true {elt : Expr} {gs : List Comprehension} {scope : Scope} {pos py : Pos} {y : Str} {l : Nat} {env : Env} (hk : env.scope.kind = .function) (hy : env.scope.names.lookup y = some .local) (hl : (py.line == pos.line) = true)
    (ha : (scope.names.any fun (n, k) => n == y && (k == .local || k == .cell)) = false) : swapsWith (.ListComp elt gs scope pos) (some (.Name y py)) l env = pure true := by
  have ky : env.kindOf y = some .local := hy
  have hb : env.blockKind = .function := by unfold Env.blockKind; rw [hk]; rfl
  unfold swapsWith
  simp only [hb, ky, ha, Expr.pos, hl]
  rfl
end

theorem lc_range {lo : Int} {n : Nat} {g : TG} {tt : TT} {te : TE} {vs : List Nat} {σ : St} {H1 : Hp} {D : Addr} {Qd : Hp → Prop} (Pv : Nat → Hp → Prop) (h0 : Pv 0 (upd H1 D (.lst [])))
    (hs : ∀ i H, i < n → Pv i H → g (.int (lo + i)) (wipe σ vs) H fun σ2 H2 => wipe σ2 vs = wipe σ vs ∧ tt σ2 H2 fun b H3 =>
      if b = true then te σ2 H3 fun y H4 => ∃ acc, H4 D = some (.lst acc) ∧ acc.length < sizeLine ∧ Pv (i + 1) (upd H4 D (.lst (acc ++ [y]))) else Pv (i + 1) H3) (hd : ∀ H, Pv n H → Qd H) :
    ∃ W : Nat → Nat → Hp → Prop, (∃ m, W 0 m (upd H1 D (.lst []))) ∧ ∀ i m H, W i m H →
      ((Itr lo n).stop i H ∧ Qd H) ∨ ((Itr lo n).go i H ∧ ∃ Nx : Hp → Prop, (∀ H', Nx H' → ∃ m', m' < m ∧ W (i + 1) m' H') ∧ ∀ x H', (Itr lo n).yld i H x H' → g x (wipe σ vs) H' fun σ2 H2 => wipe σ2 vs = wipe σ vs ∧ tt σ2 H2 fun b H3 =>
        if b = true then te σ2 H3 fun y H4 => ∃ acc, H4 D = some (.lst acc) ∧ acc.length < sizeLine ∧ Nx (upd H4 D (.lst (acc ++ [y]))) else Nx H3) := by
  refine ⟨fun i m H => m = n - i ∧ i ≤ n ∧ Pv i H, ⟨n, by simp, Nat.zero_le _, h0⟩, ?_⟩
  rintro i m H ⟨rfl, hi, p⟩
  by_cases hlt : i < n
  · refine .inr ⟨hlt, Pv (i + 1), fun H' p' => ⟨n - (i + 1), by omega, rfl, hlt, p'⟩, fun x H' y => ?_⟩
    obtain ⟨e, y⟩ := y
    subst e y
    exact hs i _ hlt p
  · have e : i = n := by omega
    subst e
    exact .inl ⟨Nat.le_refl _, hd H p⟩
theorem lc_list {K : PySem.W.Frag} {a : Addr} {xs : List V} {g : TG} {tt : TT} {te : TE} {vs : List Nat} {σ : St} {H1 : Hp} {D : Addr} {Qd : Hp → Prop} (Pv : Nat → Hp → Prop) (h0 : Pv 0 (upd H1 D (.lst []))) (hl : ∀ i H, i ≤ xs.length → Pv i H → SqL K H a xs)
    (hs : ∀ i x H, xs[i]? = some x → Pv i H → g x (wipe σ vs) H fun σ2 H2 => wipe σ2 vs = wipe σ vs ∧ tt σ2 H2 fun b H3 =>
      if b = true then te σ2 H3 fun y H4 => ∃ acc, H4 D = some (.lst acc) ∧ acc.length < sizeLine ∧ Pv (i + 1) (upd H4 D (.lst (acc ++ [y]))) else Pv (i + 1) H3) (hd : ∀ H, Pv xs.length H → Qd H) :
    ∃ W : Nat → Nat → Hp → Prop, (∃ m, W 0 m (upd H1 D (.lst []))) ∧ ∀ i m H, W i m H →
      ((Itl K a).stop i H ∧ Qd H) ∨ ((Itl K a).go i H ∧ ∃ Nx : Hp → Prop, (∀ H', Nx H' → ∃ m', m' < m ∧ W (i + 1) m' H') ∧ ∀ x H', (Itl K a).yld i H x H' → g x (wipe σ vs) H' fun σ2 H2 => wipe σ2 vs = wipe σ vs ∧ tt σ2 H2 fun b H3 =>
        if b = true then te σ2 H3 fun y H4 => ∃ acc, H4 D = some (.lst acc) ∧ acc.length < sizeLine ∧ Nx (upd H4 D (.lst (acc ++ [y]))) else Nx H3) := by
  refine ⟨fun i m H => m = xs.length - i ∧ i ≤ xs.length ∧ Pv i H, ⟨xs.length, by simp, Nat.zero_le _, h0⟩, ?_⟩
  rintro i m H ⟨rfl, hi, p⟩
  have q := hl i H hi p
  by_cases hlt : i < xs.length
  · refine .inr ⟨⟨xs, xs[i], q, by simp [hlt]⟩, Pv (i + 1), fun H' p' => ⟨xs.length - (i + 1), by omega, rfl, hlt, p'⟩, fun x H' y => ?_⟩
    obtain ⟨e, y⟩ := y
    subst e
    exact hs i x _ (y xs q) p
  · have e : i = xs.length := by omega
    subst e
    exact .inl ⟨⟨xs, q, Nat.le_refl _⟩, hd H p⟩
def blkC (N : List Str) (sc scope : Scope) (own : List (Str × Nat)) : Bool :=
  (match scope.kind with | .function => true | _ => false) && (scope.names.all fun y => decide (scope.names.lookup y.1 = some y.2)) && (own.all fun p => decide (N[p.2]? = some p.1)) &&
    (scope.names.all fun y => match y.2 with
      | .free => (match sc.names.lookup y.1 with | some .cell => true | some .free => true | _ => false)
      | .local => decide (y.1 ∈ own.map (·.1)) || decide (y.1 ∉ N)
      | .cell => decide (y.1 ∈ own.map (·.1)) || decide (y.1 ∉ N)
      | _ => true)
theorem blkOk_by {N : List Str} {sc scope : Scope} {own : List (Str × Nat)} (h : blkC N sc scope own = true) : BlkOk N sc scope own := by
  unfold blkC at h
  simp only [Bool.and_eq_true, List.all_eq_true, decide_eq_true_eq] at h
  obtain ⟨⟨⟨h1, h2⟩, h3⟩, h4⟩ := h
  refine ⟨?_, h2, h3, fun y hy e => ?_, fun y hy e => ?_⟩
  · split at h1
    · assumption
    · cases h1
  · have q := h4 y hy
    simp only [e] at q
    split at q <;> first | exact .inl (by assumption) | exact .inr (by assumption) | cases q
  · have q := h4 y hy
    rcases e with e | e <;> (simp only [e, Bool.or_eq_true, decide_eq_true_eq] at q; exact q)
end L2

namespace L2
open PySem PySem.Spec PyProof.Rows

section
variable {prog : Program} {w : World} {A : Around} {R : Result → Shared → Prop} {s : Shared} {elt t0 i0 t1 i1 : Expr} {ifs0 ifs1 : List Expr} {scope : Scope} {pos : Pos} {it acc : Value} {env : Env}
end

section
variable {X : Cx}
end
end L2

namespace L2
open PySem PySem.Spec PyProof.Rows

section
variable {κ : Type} [DecidableEq κ]
def valV (kvs : List (κ × V)) (k : κ) : Option V := (kvs.find? fun kv => decide (kv.1 = k)).map (·.2)
def putK (kvs : List (κ × V)) (k : κ) (v : V) : List (κ × V) :=
  if (kvs.any fun kv => decide (kv.1 = k)) = true then kvs.map (fun kv => if kv.1 = k then (kv.1, v) else kv) else kvs ++ [(k, v)]
theorem valV_pos {p : κ × V} {r : List (κ × V)} {k : κ} (e : p.1 = k) : valV (p :: r) k = some p.2 := by simp [valV, List.find?_cons, e]
theorem valV_neg {p : κ × V} {r : List (κ × V)} {k : κ} (e : ¬ p.1 = k) : valV (p :: r) k = valV r k := by simp [valV, List.find?_cons, e]
theorem valV_any (k : κ) : ∀ kvs : List (κ × V), (kvs.any fun kv => decide (kv.1 = k)) = (valV kvs k).isSome
  | [] => rfl
  | p :: r => by
    rw [List.any_cons]
    by_cases e : p.1 = k
    · simp only [valV_pos e, decide_eq_true e, Bool.true_or, Option.isSome_some]
    · rw [valV_neg e, decide_eq_false e, Bool.false_or]; exact valV_any k r
theorem valV_map (k j : κ) (y : V) : ∀ kvs : List (κ × V), valV (kvs.map fun kv => if kv.1 = k then (kv.1, y) else kv) j = (valV kvs j).map fun x => if j = k then y else x
  | [] => rfl
  | p :: r => by
    have ih := valV_map k j y r
    rw [List.map_cons]
    by_cases h : p.1 = k
    · rw [if_pos h]
      by_cases e : p.1 = j
      · rw [valV_pos (p := (p.1, y)) e, valV_pos e, Option.map_some, if_pos (e.symm.trans h)]
      · rw [valV_neg (p := (p.1, y)) e, valV_neg e, ih]
    · rw [if_neg h]
      by_cases e : p.1 = j
      · rw [valV_pos (p := p) e, valV_pos e, Option.map_some, if_neg (fun z => h (e.trans z))]
      · rw [valV_neg (p := p) e, valV_neg e, ih]
theorem valV_snoc (k j : κ) (y : V) : ∀ kvs : List (κ × V), valV kvs k = none → valV (kvs ++ [(k, y)]) j = if j = k then some y else valV kvs j
  | [], _ => by
    by_cases e : k = j
    · rw [if_pos e.symm]; exact valV_pos (p := (k, y)) e
    · rw [if_neg (fun z => e z.symm)]; exact valV_neg (p := (k, y)) e
  | p :: r, hn => by
    rw [List.cons_append]
    have hk : ¬ p.1 = k := fun z => by rw [valV_pos z] at hn; cases hn
    rw [valV_neg hk] at hn
    have ih := valV_snoc k j y r hn
    by_cases e : p.1 = j
    · rw [valV_pos e, valV_pos e, if_neg (fun z => hk (e.trans z))]
    · rw [valV_neg e, valV_neg e, ih]
theorem valV_put (kvs : List (κ × V)) (k j : κ) (y : V) : valV (putK kvs k y) j = if j = k then some y else valV kvs j := by
  unfold putK
  by_cases a : (kvs.any fun kv => decide (kv.1 = k)) = true
  · rw [if_pos a, valV_map]
    rw [valV_any] at a
    by_cases e : j = k
    · obtain ⟨x, hx⟩ := Option.isSome_iff_exists.mp a
      rw [if_pos e, e, hx, Option.map_some, if_pos rfl]
    · rw [if_neg e]
      cases valV kvs j with
      | none => rfl
      | some x => rw [Option.map_some, if_neg e]
  · rw [if_neg a]
    refine valV_snoc k j y kvs ?_
    rw [valV_any] at a
    cases q : valV kvs k with
    | none => rfl
    | some x => rw [q] at a; exact (a rfl).elim
theorem length_putK (kvs : List (κ × V)) (k : κ) (v : V) : (putK kvs k v).length ≤ kvs.length + 1 := by
  unfold putK
  split
  · rw [List.length_map]; omega
  · rw [List.length_append, List.length_cons, List.length_nil]; omega
theorem RelO.isSome_eq {o : Option V} {u : Option Value} (r : RelO o u) : o.isSome = u.isSome := by
  cases o with
  | none => cases u with
    | none => rfl
    | some _ => exact (show False from r).elim
  | some _ => cases u with
    | none => exact (show False from r).elim
    | some _ => rfl
end


theorem kV_is {P : Program} {w : World} {k : Key} {u : Value} (r : RelV (kV k) u) : (mixKind P w).is k u = true := by
  cases k with
  | inl i => obtain ⟨t, e⟩ := (show ∃ t, u = Value.int i t from r); subst e; exact mixKind_int P w i t
  | inr x => obtain ⟨t, e⟩ := (show ∃ t, u = Value.str x t from r); subst e; exact mixKind_str P w x t
theorem items_are {P : Program} {w : World} : ∀ {ks : List Key} {us : List Value}, Vals (ks.map kV) us → ItemsAre (mixKind P w) ks us
  | [], _, r => by rw [List.map_nil] at r; cases r; exact .nil
  | k :: ks, _, r => by
    rw [List.map_cons] at r
    cases r with
    | cons h t => exact .cons (kV_is h) (items_are t)

abbrev KT (H : Hp) : List (List Key × V) → List (List Key × Addr × Value) → Prop := Paired fun p q => p.1 = q.1 ∧ H q.2.1 = some (.tup (p.1.map kV)) ∧ RelV p.2 q.2.2
theorem KT.val {H : Hp} {kvs : List (List Key × V)} {xs : List (List Key × Addr × Value)} (r : KT H kvs xs) (k : List Key) : RelO (valV kvs k) ((atKey xs k).map (·.2)) := by
  induction r with
  | nil => exact True.intro
  | @cons p q ps qs h t ih =>
    obtain ⟨h1, _, h2⟩ := h
    by_cases e : p.1 = k
    · have e' : q.1 = k := h1.symm.trans e
      have b : atKey (q :: qs) k = some q.2 := by simp [atKey, List.find?_cons, e']
      rw [valV_pos e, b]; exact h2
    · have e' : ¬ q.1 = k := fun z => e (h1.trans z)
      have b : atKey (q :: qs) k = atKey qs k := by simp [atKey, List.find?_cons, e']
      rw [valV_neg e, b]; exact ih
theorem KT.repl {H : Hp} {kvs : List (List Key × V)} {xs : List (List Key × Addr × Value)} (r : KT H kvs xs) (k : List Key) {y : V} {u : Value} (ry : RelV y u) :
    KT H (kvs.map fun kv => if kv.1 = k then (kv.1, y) else kv) (xs.map (putAt k u)) := by
  induction r with
  | nil => exact .nil
  | @cons p q ps qs h t ih =>
    rw [List.map_cons, List.map_cons]
    refine .cons ?_ ih
    obtain ⟨h1, h2, h3⟩ := h
    unfold putAt
    by_cases e : p.1 = k
    · rw [if_pos e, if_pos (h1.symm.trans e)]; exact ⟨h1, h2, ry⟩
    · rw [if_neg e, if_neg (fun z => e (h1.trans z))]; exact ⟨h1, h2, h3⟩
theorem KT.put {H : Hp} {kvs : List (List Key × V)} {xs : List (List Key × Addr × Value)} (r : KT H kvs xs) (k : List Key) {b : Addr} {y : V} {u : Value} (hb : H b = some (.tup (k.map kV))) (ry : RelV y u) :
    KT H (putK kvs k y) (storedH xs k b u) := by
  have e : (kvs.any fun kv => decide (kv.1 = k)) = (atKey xs k).isSome := by
    rw [valV_any, (r.val k).isSome_eq, Option.isSome_map]
  unfold putK storedH
  rw [e]
  by_cases q : (atKey xs k).isSome = true
  · rw [if_pos q, if_pos q]; exact r.repl k ry
  · rw [if_neg q, if_neg q]; exact Paired.snoc r ⟨rfl, hb, ry⟩
theorem KT.keeps {H H' : Hp} {kvs : List (List Key × V)} {xs : List (List Key × Addr × Value)} (r : KT H kvs xs) (ht : ∀ b ys, H b = some (.tup ys) → H' b = some (.tup ys)) : KT H' kvs xs :=
  Paired.mapP r fun _ _ z => ⟨z.1, ht _ _ z.2.1, z.2.2⟩

section
variable {P : Program} {w : World} {H : Hp} {h : Heap} {a : Addr}
theorem rd_of {u : HO} (ok : HOk P w H h) (e : Rd H a u) : ObjOk P w H h a u := e.ok ok
theorem dk_rd {kvs : List (Key × V)} (ok : HOk P w H h) (e : Rd H a (.dK kvs)) : kvs.length ≤ sizeLine ∧ (a == sysModules) = false ∧ ∃ vs, KV kvs vs ∧ h.DictOf (mixKind P w) a vs :=
  show ObjOk P w H h a (.dK kvs) from rd_of ok e
theorem key_of {ks : List Key} (ok : HOk P w H h) (e : H a = some (.tup (ks.map kV))) : (tupleKind (mixKind P w)).is h ks a := by
  obtain ⟨_, its, r, o, h1, h2, n, h3⟩ := (show ObjOk P w H h a (.tup (ks.map kV)) from ok a _ e)
  exact ⟨o, its.toArray, n, h1, h2, h3, by simpa using items_are r⟩
theorem dt_rd {kvs : List (List Key × V)} (ok : HOk P w H h) (e : Rd H a (.dT kvs)) : kvs.length ≤ sizeLine ∧ (a == sysModules) = false ∧
    ∃ xs, KT H kvs xs ∧ h.DictOfH (tupleKind (mixKind P w)) a xs := by
  obtain ⟨z, y, xs, r, o, es, ep, h1, h2, h3, h4, h5⟩ := (show ObjOk P w H h a (.dT kvs) from rd_of ok e)
  refine ⟨z, y, xs, r, o, es, ep, h1, h2, h3, h4, fun x hx => ?_, h5⟩
  have all : ∀ {l : List (List Key × V)} {m : List (List Key × Addr × Value)}, KT H l m → ∀ x ∈ m, (tupleKind (mixKind P w)).is h x.1 x.2.1 := by
    intro l m q
    induction q with
    | nil => intro x hx; exact nomatch hx
    | @cons p q ps qs hq t ih =>
      intro x hx
      rcases List.mem_cons.mp hx with e | hx
      · subst e
        exact key_of ok (by rw [← hq.1]; exact hq.2.1)
      · exact ih x hx
  exact all r x hx
theorem dt_of {kvs : List (List Key × V)} (ok : HOk P w H h) (e : H a = some (.dT kvs)) : kvs.length ≤ sizeLine ∧ (a == sysModules) = false ∧
    ∃ xs, KT H kvs xs ∧ h.DictOfH (tupleKind (mixKind P w)) a xs := dt_rd ok (.inl e)
end

section
variable {X : Cx} {pins : List (Addr × Obj)} {σ : St} {H : Hp} {s : Shared} {a : Addr} {y v : V} {u r : Value} {o : Option V} {A : Around} {E : Value → Shared → Prop}

theorem Inv.big (I : Inv X pins σ H s) : sysModules < s.heap.objs.size := by
  have h : mainGlobals < s.heap.objs.size := (I.mod.glob.keeps I.bk).lt
  exact Nat.lt_trans (by decide) h

theorem d_write {h' : Heap} {t' : Nat} {ob : HO} (I : Inv X pins σ H s) (mu : Mut (H a)) (hs : Heap.SameBut a s.heap h') (he : ∃ q, h'.get? a = some q) (new : ObjOk X.prog X.w (upd H a ob) h' a ob) :
    Inv X pins σ (upd H a ob) { s with heap := h', toks := t' } :=
  I.write (x := a) (e := a) mu (.inl rfl) (fun b q hb z => (hs.2 b hb).trans z) he new
end

section
variable {X : Cx} {pins : List (Addr × Obj)} {σ : St} {H : Hp} {s : Shared} {a : Addr} {kvs : List (Key × V)} {k : Key} {u : Value} {A : Around} {E : Value → Shared → Prop}
end


def NoSl (i : Expr) : Prop := ∀ ov iv, subscripted i false ov iv = operate [ov, iv] (getItem ov iv)
theorem subD_of {prog : Program} {w : World} {A : Around} {E : Value → Shared → Prop} {s : Shared} {env : Env} {value slice : Expr} {pos : Pos} {T id : String} {Q : Value → Shared → Prop}
    (hl : typeLookup (.type T) "__getitem__" = pure (some (.builtin id))) (hs : NoSl slice)
    (h : wpAny (model prog w) A (eval value env) (fun o s₁ => wpAny (model prog w) A (eval slice env) (fun i s₂ => s₂.TypeIs o T ∧ wpAny (model prog w) A (getItem o i) Q E s₂) E s₁) E s) :
    wpAny (model prog w) A (eval (.Subscript value slice pos) env) Q E s := by
  refine Subscript_ (wpAny_mono h (fun o s₁ h₁ => wpAny_mono h₁ (fun i s₂ h₂ => ?_) fun _ _ x => x) fun _ _ x => x)
  obtain ⟨hT, h₂⟩ := h₂
  unfold subscriptTail
  refine wpAny_bind ?_
  rw [getitemInPython_of_ne hT.not_modules]
  refine wpAny_bind (wpAny_specialOf hT hl ?_)
  have fin : wpAny (model prog w) A (subscripted slice false o i) (fun r s₃ => wpAny (model prog w) A (letTemporaryGo value o r >>= fun _ => pure r) Q E s₃) E s₂ := by
    rw [hs o i]
    exact wpAny_operating (wpAny_mono h₂ (fun r s₃ h₃ => wpAny_bind (wpAny_letTemporaryGo (wpAny_pure h₃))) fun _ _ x => x)
  first
    | exact wpAny_pure (wpAny_bind fin)
    | exact wpAny_bind (wpAny_pure (wpAny_bind fin))
    | exact wpAny_bind fin

section
variable {X : Cx} {o i e value : Expr} {pos pos' tpos : Pos} {td ty tv : TE}
end


theorem dt_empty {P : Program} {w : World} {H : Hp} (h : Heap) (hb : sysModules < h.objs.size) : ObjOk P w H (h.push { cls := .type "dict", data := .dict #[] }) h.objs.size (.dT []) :=
  ⟨Nat.zero_le _, beq_eq_false_iff_ne.mpr (Ne.symm (Nat.ne_of_lt hb)), [], .nil, _, #[], 0, Heap.get?_push_size _ rfl, ⟨rfl, rfl, rfl⟩, rfl, rfl, List.nodup_nil⟩
def tDNewT : TE := fun _ H Q => ∀ p, H p = none → Q (.ref p) (upd H p (.dT []))
section
variable {X : Cx} {pos : Pos}
theorem pe_dnewT : PE X (.Dict [] [] pos) tDNewT := fun pins s σ H Q I h =>
  wpAny_Dict_empty ⟨.ref s.heap.objs.size, _, I.laid (a := s.heap.objs.size) (o := .dT []) (t' := s.toks) (fun _ _ q => Heap.get?_push_of_some _ q) (Nat.le_refl _) (dt_empty s.heap I.big), rfl, h _ (I.hok.fresh (Nat.le_refl _))⟩
end

structure M2 (X : Cx) (o : Expr) (m : Str) (apos : Pos) (e f : Expr) (cpos : Pos) : Prop where
  base : attributeBase o m X.env (eval o X.env) = eval o X.env
  few : ((backTo cpos (starEach [e, f] X.env)).all (fun x => !x.1) && (backToKw cpos (keywordEach [] X.env)).all (fun x => x.1.isSome)
    && decide (([e, f] : List Expr).length + ([] : List Keyword).length + (if ([] : List Keyword).isEmpty then 0 else 1) < 30)) = true
  line : (apos.endLine == cpos.line) = true
  trees : backTo cpos (starEach [e, f] X.env) = [(false, eval e X.env), (false, eval f X.env)]

def IsD (H : Hp) (a : Addr) : Prop := (∃ kvs, Rd H a (.dK kvs)) ∨ ∃ kvs, Rd H a (.dT kvs)
theorem isD_at {X : Cx} {pins : List (Addr × Obj)} {σ : St} {H : Hp} {s : Shared} {a : Addr} (I : Inv X pins σ H s) (d : IsD H a) :
    s.TypeIs (.ref a) "dict" ∧ (∀ b, Value.ref a = .ref b → ∃ ob, s.heap.get? b = some ob ∧ ob.dict = none) ∧ (a == sysModules) = false := by
  rcases d with ⟨kvs, e⟩ | ⟨kvs, e⟩
  · obtain ⟨_, hd, vs, _, dd⟩ := dk_rd I.hok e
    refine ⟨dd.typeIs, fun b q => ?_, hd⟩
    cases q
    obtain ⟨ob, _, _, h1, h2, _⟩ := dd
    exact ⟨ob, h1, h2.2.1⟩
  · obtain ⟨_, hd, xs, _, dd⟩ := dt_rd I.hok e
    refine ⟨dd.typeIs, fun b q => ?_, hd⟩
    cases q
    obtain ⟨ob, _, _, h1, h2, _⟩ := dd
    exact ⟨ob, h1, h2.2.1⟩

section
variable {X : Cx} {pins : List (Addr × Obj)} {σ : St} {H : Hp} {s : Shared} {a : Addr} {y d : V} {u r : Value} {o : Option V} {A : Around} {E : Value → Shared → Prop}
end

section
variable {X : Cx} {o e f : Expr} {apos cpos : Pos} {td ty tx : TE}
end

section
variable {X : Cx} {pins : List (Addr × Obj)} {σ : St} {H : Hp} {s : Shared} {a : Addr} {kvs : List (Key × V)} {A : Around} {E : Value → Shared → Prop}
end


section
variable {X : Cx} {pins : List (Addr × Obj)} {σ : St} {H : Hp} {s : Shared} {a : Addr} {y : V} {u : Value} {A : Around} {E : Value → Shared → Prop}
end
end L2

namespace L2
open PySem PySem.Spec PyProof.Rows

section
variable {prog : Program} {w : World} {A : Around} {E : Value → Shared → Prop}
end

section
variable {X : Cx}
end
end L2

namespace L2
open PySem PySem.Spec PyProof.Rows

section
variable {X : Cx} {pins : List (Addr × Obj)} {σ : St} {H : Hp} {s : Shared} {h' : Heap}
end
section
variable {X : Cx}
end

section
variable {X : Cx} {tg : Expr}
end
section
variable {X : Cx} {tg : Expr}
end

section
variable {prog : Program} {w : World} {A : Around} {E : Value → Shared → Prop} {s : Shared}
end

section
variable {X : Cx} {pins : List (Addr × Obj)} {σ : St} {H : Hp} {s : Shared} {d : Addr} {o : Obj}
end

section
variable {P : Program} {w : World} {K : PySem.W.Frag} {tg : Expr} {d : Addr} {o : Obj} {es : Array DictEntry} {ep : Nat}
end

section
variable {X : Cx} {tg e : Expr} {td : TE} {apos cpos : Pos}
end

end L2

section 
namespace Bits
open PySem PyProof.Rows

end Bits
end 

section 
namespace TL
open PySem PySem.Builtin PySem.Builtin.Str PySem.StrLaws

end TL
end 

namespace L2
open PySem PySem.Spec PyProof.Rows

section
variable {X : Cx} {pins : List (Addr × Obj)} {σ : St} {H : Hp} {s : Shared} {Q : VK}
end

section
variable {X : Cx}

end

section
variable {X : Cx} {o e : Expr} {to te : TE}
end
end L2

namespace L2
open PySem PySem.Spec PyProof.Rows

section
variable {X : Cx}
end

end L2

namespace Att
open PySem PySem.W PySem.Calls PyProof.Rows

theorem ints_of_wellAll {P : Params} {h : Heap} : ∀ (ns : List Int) (vs : List Value), WellAll P h vs (ns.map WData.int) → IntsAre vs ns := by
  intro ns
  induction ns with
  | nil =>
    intro vs w
    rw [List.map_nil] at w
    cases w
    exact .nil
  | cons n ns ih =>
    intro vs w
    rw [List.map_cons] at w
    cases w with
    | cons a b =>
      cases a
      exact .cons _ _ (ih _ b)

section
variable {prog : Program} {w : World} {A : Around} {E : Value → Shared → Prop} {s : Shared} {K : Frag}

end
end Att

namespace L2
open PySem PySem.Spec PyProof.Rows

theorem vals_ints : ∀ {vs : List Value} {ns : List Int}, IntsAre vs ns → Vals (ns.map V.int) vs
  | _, _, .nil => .nil
  | _, _, .cons n t h => .cons ⟨t, rfl⟩ (vals_ints h)

def Only (H : Hp) : Prop := ∀ b, H b = none ∨ ∃ o xs, H b = some (.frz o (.lst xs))

end L2

namespace L2
open PySem PySem.Spec PyProof.Rows

end L2

namespace L2
open PySem PySem.Spec PyProof.Rows

def inClass (s : Stmt) (j : Nat) : Stmt := match s with
  | .ClassDef _ _ _ body _ _ _ _ _ _ _ => body.getD j (.Pass ⟨0, 0, 0, 0⟩)
  | _ => .Pass ⟨0, 0, 0, 0⟩
def defArgs (s : Stmt) : Arguments := match s with
  | .FunctionDef _ a _ _ _ _ _ _ _ _ => a
  | _ => { posonlyargs := [], args := [], vararg := none, kwonlyargs := [], kw_defaults := [], kwarg := none, defaults := [] }
def defBody (s : Stmt) : List Stmt := match s with
  | .FunctionDef _ _ b _ _ _ _ _ _ _ => b
  | _ => []
def defScope (s : Stmt) : Scope := match s with
  | .FunctionDef _ _ _ _ _ _ sc _ _ _ => sc
  | _ => { kind := .function, names := [], isGenerator := false, isCoroutine := false }

abbrev CX0 : CXT := fun _ _ _ _ _ _ => False
abbrev E0 : XK := fun _ _ _ => False
theorem pass0 {X : Cx} : Passes CX0 X E0 := fun _ _ _ _ _ _ _ h => h.elim

structure Fun (K : PySem.W.Frag) (x qual : Str) (st : Stmt) (f : Addr) (fd : FuncData) : Prop where
  ex : ∃ (oc : Value) (od : Option Addr) (kV doc pm : Value) (an : Option Addr) (cdv ct : Value) (osl : Array (Option Value)),
    fd = PySem.W.fnOf x qual (defArgs st) (defBody st) (defScope st) .none kV doc pm an cdv ct ∧ K.lookup f = some ⟨oc, od, .func fd, osl⟩ ∧ PySem.W.codeIn K cdv qual = true
  kp : PySem.W.keepIn K (.ref f) = true
section
variable {P : Program} {w : World} {K : PySem.W.Frag} {mg : Str → Option Value} {base : Heap}
theorem Fun.ok {x qual : Str} {st : Stmt} {f : Addr} {fd : FuncData} {N ps : List Str} {k : Nat} {sp : Sp} (F : Fun K x qual st f fd) (S : FnScope N ps (defScope st)) (len : ∀ vs H Q E, sp vs H Q E → vs.length = ps.length)
    (hbody : ∀ (cdv : Value) (A : Around) (outer : List Env) (s : Shared) (H : Hp) (vs : List V) (Q : VK) (E : XK), Room k (A.deeper (envOfC qual (defScope st) s.heap.objs.size f cdv)) → sp vs H Q E →
      ∃ t, PSs (cxOf CX0 P w K mg base N qual (defScope st) f cdv A outer s H E).nox (defBody st) t ∧ t { nx := fun _ H' => Q .non H', rt := Q } (start N vs) H) : FnOk P w K mg base CX0 (k + 1) f fd ps sp := by
  obtain ⟨oc, od, kV, doc, pm, an, cdv, ct, osl, rfl, lk, hcd⟩ := F.ex
  refine fn_of lk hcd S len fun A outer s H vs Q E hr hsp => ?_
  obtain ⟨t, h, q⟩ := hbody cdv A outer s H vs Q E hr hsp
  exact ⟨t, h.nox, q⟩
theorem Fun.binds {x qual : Str} {st : Stmt} {f : Addr} {fd : FuncData} {ps : List Str} (F : Fun K x qual st f fd)
    (h : ∀ (kV doc pm : Value) (an : Option Addr) (cdv ct : Value) (us : List Value), us.length = ps.length → bindArgs (PySem.W.fnOf x qual (defArgs st) (defBody st) (defScope st) .none kV doc pm an cdv ct) ⟨us, []⟩ = pure (ps.zip us)) : Binds K fd ps [] := by
  obtain ⟨oc, od, kV, doc, pm, an, cdv, ct, osl, rfl, lk, hcd⟩ := F.ex
  exact .all (h kV doc pm an cdv ct)
theorem fun_mk {x qual : Str} {st : Stmt} {f : Addr} {oc : Value} {od an : Option Addr} {osl : Array (Option Value)} {kV doc pm cdv ct : Value} (l : K.lookup f = some ⟨oc, od, .func (PySem.W.fnOf x qual (defArgs st) (defBody st) (defScope st) .none kV doc pm an cdv ct), osl⟩)
    (c : PySem.W.codeIn K cdv qual = true) (k : PySem.W.keepIn K (.ref f) = true) : Fun K x qual st f (PySem.W.fnOf x qual (defArgs st) (defBody st) (defScope st) .none kV doc pm an cdv ct) := ⟨⟨oc, od, kV, doc, pm, an, cdv, ct, osl, rfl, l, c⟩, k⟩
end
section
variable {X : Cx}
theorem pv (i : Nat) {x : Str} {pos : Pos} (hN : X.N[i]? = some x := by rfl) (hv : Vis X.env.scope x := by first | exact Or.inl rfl | exact Or.inr (Or.inl rfl) | exact Or.inr (Or.inr rfl)) (hd : (x == ("__debug__" : Str)) = false := by decide)
    (hcd : (x == ("__classdict__" : Str)) = false := by decide) : PE X (.Name x pos) (tVar i) := pe_var hN hv hd hcd
end

theorem iteF {A B : Prop} (h : B) : if false = true then A else B := by
  rw [if_neg Bool.false_ne_true]
  exact h
theorem iteT {A B : Prop} (h : A) : if true = true then A else B := by
  rw [if_pos rfl]
  exact h
theorem ite2 {c A B : Prop} [Decidable c] (h1 : c → A) (h2 : ¬ c → B) : if c then A else B := by
  by_cases h : c
  · rw [if_pos h]
    exact h1 h
  · rw [if_neg h]
    exact h2 h
theorem iteNS {c A B : Prop} [Decidable c] (hc : c) (h : B) : if (!decide c) = true then A else B := by
  rw [decide_eq_true hc]
  exact iteF h

def Same (H H' : Hp) : Prop := ∀ b o, H b = some o → H' b = some o
theorem Same.refl (H : Hp) : Same H H := fun _ _ h => h
theorem Same.trans {H H1 H2 : Hp} (a : Same H H1) (b : Same H1 H2) : Same H H2 := fun c o h => b c o (a c o h)
theorem Same.free {H H' : Hp} (e : Same H H') {l : Addr} (h : H' l = Option.none) : H l = Option.none := by
  cases q : H l with
  | none => rfl
  | some o =>
    rw [e l o q] at h
    cases h
theorem Same.seq {K : PySem.W.Frag} {H H' : Hp} {a : Addr} {xs : List V} (e : Same H H') (h : SqL K H a xs) : SqL K H' a xs := by
  rcases h with (h | ⟨o, h⟩) | h
  · exact .inl (.inl (e _ _ h))
  · exact .inl (.inr ⟨o, e _ _ h⟩)
  · exact .inr h

section
variable {κ : Type} [DecidableEq κ]
end
theorem at_of {xs : List V} {z : Int} {j : Nat} {v : V} (e : z = (j : Int)) (h : xs[j]? = some v) : atI xs z = some v := by
  rw [e]
  exact atI_nat h
end L2

/-! ### d.setdefault(k, v), the keys tuples -/
namespace PySem
section
variable {prog : Program} {w : World} {K : Type} [DecidableEq K] {knd : HeapKind prog w K} {A : Around} {E : Value → Shared → Prop} {s : Shared}
theorem xt_dictSetDefault_heap {d a : Addr} {xs : List (K × Addr × Value)} {k : K} {dflt : Value} {Q : Value → Shared → Prop} (hu : knd.room A) (hkey : knd.is s.heap k a) (hm : s.heap.DictOfH knd d xs)
    (h1 : ∀ p, atKey xs k = some p → Q p.2 { s with toks := s.toks + knd.draws k })
    (h2 : atKey xs k = none → ∀ h', h'.DictOfH knd d (storedH xs k a dflt) → Heap.SameBut d s.heap h' → Q dflt { s with heap := h', toks := s.toks + knd.draws k })
    (hsz : xs.length ≤ sizeLine) : wpAny (model prog w) A (dictSetDefault d (.ref a) dflt) Q E s := by
  obtain ⟨o, es, ep, ho, hc, hd, he, his, hn⟩ := hm
  unfold dictSetDefault
  try with_reducible refine wpAny_holding ?_
  refine wpAny_bind (knd.pyHash hu hkey (wpAny_bind (wpAny_dictFind_heap (s := { s with toks := s.toks + knd.draws k }) hu hkey ho hd he his hn ?_ ?_)))
  · intro hno
    have hnot : k ∉ xs.map (·.1) := not_mem_keys_of_get hno
    refine wpAny_bind (wpAny_rule (wpAny_bind (wpAny_updateDictKeys (hz := by have e := size_of_entries he; omega) (s := { s with toks := s.toks + knd.draws k }) ho hd (wpAny_pure (h2 (atKey_none_of_get hno) _ ⟨_, _, ep + 1, Heap.get?_update_self _ ho (Obj.isFreed_of_dict (Obj.data_mapDictKeys hd _)),
      hc.mapDictKeys _, Obj.data_mapDictKeys hd _, ?_, ?_, ?_⟩ (Heap.SameBut.update ..))))))
    · rw [storedH_new (atKey_none_of_get hno)]
      simp [he, entryOfKey]
    · rw [storedH_new (atKey_none_of_get hno)]
      intro x hx
      rcases List.mem_append.mp hx with hx | hx
      · exact knd.keeps (his x hx) ho hd (Heap.SameBut.update ..)
      · simp only [List.mem_singleton] at hx
        subst hx
        exact knd.keeps hkey ho hd (Heap.SameBut.update ..)
    · rw [storedH_new (atKey_none_of_get hno)]
      rw [List.map_append, List.nodup_append]
      refine ⟨hn, by simp, ?_⟩
      intro x hx y hy
      simp only [List.map_cons, List.map_nil, List.mem_singleton] at hy
      subst hy
      exact fun e => hnot (e ▸ hx)
  · intro j p hj
    refine wpAny_bind (wpAny_dictEntries (s := { s with toks := s.toks + knd.draws k }) ho hd ?_)
    rw [entry_at he j, hj]
    exact wpAny_bind (wpAny_rule (wpAny_pure (h1 p (atKey_of_get hn hj))))
theorem xt_meetsH_setdefault (knd : HeapKind prog w K) (d a : Addr) (hd : (d == sysModules) = false) (dflt : Value) :
    MeetsIn prog w (Builtin.«dict.setdefault» ⟨[.ref d, .ref a, dflt], []⟩) (fun A R s => knd.room A.in1 ∧ ∃ k xs, knd.is s.heap k a ∧ s.heap.DictOfH knd d xs ∧ xs.length ≤ sizeLine ∧
      (∀ p, atKey xs k = some p → R (.ok (.ret p.2)) { s with toks := s.toks + knd.draws k }) ∧
      (atKey xs k = none → ∀ h', h'.DictOfH knd d (storedH xs k a dflt) → Heap.SameBut d s.heap h' → R (.ok (.ret dflt)) { s with heap := h', toks := s.toks + knd.draws k })) :=
  .of_wp fun A R s ⟨hu, k, xs, hkey, hm, hz, h1, h2⟩ => by
    unfold Builtin.«dict.setdefault»
    refine wpAny_bind ?_
    unfold Builtin.Dict.keyAndDefault
    refine wpAny_bind (wpAny_notOrdered_dict hm.typeIs ?_)
    show wpAny _ _ (pure (d, Value.ref a, some dflt)) _ _ s
    refine wpAny_pure ?_
    show wpAny _ _ (if (d == sysModules) = true then _ else (dictSetDefault d (.ref a) dflt >>= _)) _ _ s
    rw [if_neg (by rw [hd]; exact Bool.false_ne_true)]
    exact wpAny_bind (xt_dictSetDefault_heap (hsz := hz) hu hkey hm (fun p hp => wpAny_pure ⟨p.2, rfl, h1 p hp⟩) fun hn h' hm' hs' => wpAny_pure ⟨dflt, rfl, h2 hn h' hm' hs'⟩)
end
end PySem
namespace L2
open PySem PySem.Spec PyProof.Rows
section
variable {X : Cx} {pins : List (Addr × Obj)} {σ : St} {H : Hp} {s : Shared} {a b : Addr} {v : V} {r : Value} {A : Around} {E : Value → Shared → Prop}
theorem d_setdefT {kvs : List (List Key × V)} {k : List Key} {Q : Value → Shared → Prop} (hu : A.units + 1 < cLine) (I : Inv X pins σ H s) (e : H a = some (.dT kvs)) (eb : H b = some (.tup (k.map kV))) (hl : kvs.length < sizeLine) (rv : RelV v r)
    (h1 : ∀ x w' s', valV kvs k = some x → Inv X pins σ H s' → RelV x w' → Q w' s')
    (h2 : valV kvs k = none → ∀ s', Inv X pins σ (upd H a (.dT (putK kvs k v))) s' → Q r s') :
    wpAny (model X.prog X.w) A (call (.builtin "dict.setdefault") [.ref a, .ref b, r]) Q E s := by
  obtain ⟨z, hd, xs, rel, dd⟩ := dt_of I.hok e
  have hz : xs.length ≤ sizeLine := by rw [← Paired.length rel]; exact z
  have hl' : (putK kvs k v).length ≤ sizeLine := by have := length_putK kvs k v; omega
  refine call_meetsIn PySem.F.slot_dict_setdefault dd.typeIs PySem.F.entry_dict_setdefault (PySem.F.args_dict_setdefault_3 _ _ _) (xt_meetsH_setdefault (tupleKind (mixKind X.prog X.w)) a b hd r)
    ⟨tupleKind_room_in1 hu, k, xs, key_of I.hok eb, dd, hz, fun p hp => ?_, fun hn h' dd' hs => ?_⟩
  · have q := rel.val k
    rw [hp] at q
    cases hv : valV kvs k with
    | none => rw [hv] at q; exact False.elim q
    | some x => rw [hv] at q; exact h1 x _ _ hv (I.tok _) q
  · have hn' : valV kvs k = none := by
      have q := rel.val k
      rw [hn] at q
      cases hv : valV kvs k with
      | none => rfl
      | some x => rw [hv] at q; exact False.elim q
    obtain ⟨q, es, ep, hq, g2, g3, g4, _, g5⟩ := dd'
    refine h2 hn' _ (d_write I (by rw [e]; exact True.intro) hs ⟨q, hq⟩ ⟨hl', hd, _, (rel.put k eb rv).keeps fun c ys ec => ?_, q, es, ep, hq, g2, g3, g4, g5⟩)
    rw [upd_ne (ne_of ec e (fun z => nomatch z))]
    exact ec
end
def tDSetd (td ty tx : TE) : TE := fun σ H Q => td σ H fun x H1 => ∃ a, x = .ref a ∧ IsD H1 a ∧ ty σ H1 fun y H2 => tx σ H2 fun z H3 => ∃ kvs k b, H3 a = some (.dT kvs) ∧ y = .ref b ∧ H3 b = some (.tup (k.map kV)) ∧ kvs.length < sizeLine ∧
  (∀ v, valV kvs k = some v → Q v H3) ∧ (valV kvs k = none → Q z (upd H3 a (.dT (putK kvs k z))))
theorem pe_dsetd {X : Cx} {o e f : Expr} {apos cpos : Pos} {td ty tx : TE} (hu : X.A.units + 1 < cLine) (ho : PE X o td) (he : PE X e ty) (hf : PE X f tx) (m : M2 X o "setdefault" apos e f cpos) : PE X (.Call (.Attribute o "setdefault" apos) [e, f] [] cpos) (tDSetd td ty tx) := by
  intro pins s σ H Q I h
  refine wpAny_Call_method m.base m.few m.line PySem.F.plainAttrs_dict PySem.F.slot_dict_setdefault PySem.F.type_dict_setdefault (thn (ho pins s σ H _ I h) fun u s1 ⟨x, H1, I1, rx, a, ex, d, q1⟩ => ?_)
  subst ex
  obtain rfl : u = Value.ref a := rx
  obtain ⟨t1, t2, _⟩ := isD_at I1 d
  refine ⟨t1, t2, ?_⟩
  rw [m.trees]
  refine Calls.callWith_builtin rfl (Calls.evalArgs_plain (Calls.spliced_cons (thn (he pins s1 σ H1 _ I1 q1) fun iv s2 ⟨y, H2, I2, ry, q2⟩ =>
    Calls.spliced_cons (thn (hf pins s2 σ H2 _ I2 q2) fun fv s3 ⟨z, H3, I3, rz, kvs, k, b, ea, ey, eb, hl, g1, g2⟩ => Calls.spliced_nil ?_))))
  subst ey
  obtain rfl : iv = Value.ref b := ry
  exact d_setdefT hu I3 ea eb hl rz (fun v w' s4 hv I4 rw' => ⟨v, H3, I4, rw', g1 v hv⟩) fun hn s4 I4 => ⟨z, _, I4, rz, g2 hn⟩

/-! ### tuples of ints: ==, in, index -/
/-- a tuple of ints stands at a -/
def TpI (H : Hp) (a : Addr) (ks : List Int) : Prop := H a = some (.tup (ks.map V.int))
abbrev TpIs (H : Hp) : List Addr → List (List Int) → Prop := Paired (TpI H)
theorem dpAll_ints {K : PySem.W.Frag} {H : Hp} : ∀ ks : List Int, DpAll K H (ks.map V.int) (ks.map PyData.int)
  | [] => .nil
  | k :: ks => .cons (.int k) (dpAll_ints ks)
theorem TpI.dp {K : PySem.W.Frag} {H : Hp} {a : Addr} {ks : List Int} (h : TpI H a ks) : Dp K H (.ref a) (.tuple (ks.map PyData.int)) := .tup (SqT.of h) (dpAll_ints ks)
theorem canLay_ints : ∀ ks : List Int, PyData.canLayAll0 (ks.map PyData.int) = true
  | [] => by simp [PyData.canLayAll0]
  | k :: ks => by rw [List.map_cons]; simp only [PyData.canLayAll0, PyData.canLay0, canLay_ints ks]; rfl
theorem canLay_tup (ks : List Int) : PyData.canLay0 (.tuple (ks.map PyData.int)) = true := by
  simp only [PyData.canLay0, canLay_ints]
theorem depth_ints : ∀ ks : List Int, PyData.depthAll (ks.map PyData.int) ≤ 1
  | [] => by simp [PyData.depthAll]
  | k :: ks => by
    have h := depth_ints ks
    rw [List.map_cons]
    simp only [PyData.depthAll, PyData.depth]
    omega
theorem depth_tup (ks : List Int) : PyData.depth (.tuple (ks.map PyData.int)) ≤ 2 := by
  have h := depth_ints ks
  simp only [PyData.depth]
  omega
theorem eqv_ints : ∀ ks js : List Int, PyData.eqvAll (ks.map PyData.int) (js.map PyData.int) = decide (ks = js)
  | [], [] => by simp [PyData.eqvAll]
  | [], j :: js => by simp [PyData.eqvAll]
  | k :: ks, [] => by simp [PyData.eqvAll]
  | k :: ks, j :: js => by
    rw [List.map_cons, List.map_cons]
    simp only [PyData.eqvAll, PyData.eqv, eqv_ints ks js]
    by_cases h1 : k = j
    · by_cases h2 : ks = js
      · simp [h1, h2]
      · simp [h1, h2]
    · simp [h1]
theorem eqv_tup (ks js : List Int) : PyData.eqv (.tuple (ks.map PyData.int)) (.tuple (js.map PyData.int)) = decide (ks = js) := by
  simp only [PyData.eqv, eqv_ints]
section
variable {X : Cx} {pins : List (Addr × Obj)} {σ : St} {H : Hp} {s : Shared} {a b : Addr} {ks js : List Int}
theorem eqAt_TI {A : Around} (hu : A.units + 2 < cLine) (I : Inv X pins σ H s) (ha : TpI H a ks) (hb : TpI H b js) : SeqAt.EqAt A s (.ref a) (.ref b) (decide (ks = js)) := by
  obtain ⟨as, r1⟩ := Dp.reads I _ (.ref a) (.ref a) (ha.dp (K := X.K)) rfl
  obtain ⟨bs, r2⟩ := Dp.reads I _ (.ref b) (.ref b) (hb.dp (K := X.K)) rfl
  rw [← eqv_tup]
  have d1 := depth_tup ks
  exact SeqAt.eqAt_reads _ _ A s _ _ _ _ r1 r2 (canLay_tup ks) (canLay_tup js) (by omega)
end
/-- a == b, two tuples of ints -/
def rEqTI : R2 := fun x y H Q => ∃ a b ks js, x = .ref a ∧ y = .ref b ∧ TpI H a ks ∧ TpI H b js ∧ Q (.bl (decide (ks = js))) H
theorem map_int_inj {ks js : List Int} : ks.map V.int = js.map V.int ↔ ks = js := by
  constructor
  · intro h
    induction ks generalizing js with
    | nil => cases js with
      | nil => rfl
      | cons j js => cases h
    | cons k ks ih => cases js with
      | nil => cases h
      | cons j js =>
        rw [List.map_cons, List.map_cons] at h
        injection h with h1 h2
        injection h1 with h1
        rw [h1, ih h2]
  · intro h; rw [h]
theorem shaped_tup (ks : List Int) : SeqAt.shaped (.tuple (ks.map PyData.int)) = true := by
  unfold SeqAt.shaped
  have d1 := depth_tup ks
  rw [canLay_tup, decide_eq_true (by omega)]
  rfl
theorem op_eqTI {X : Cx} (hu : X.A.units + 64 < cLine) : OpR X (compareOp .Eq) rEqTI := by
  intro pins s σ H x y v u Q I rx ry h
  obtain ⟨a, b, ks, js, rfl, rfl, ha, hb, q⟩ := h
  exact op_eqD hu pins s σ H _ _ v u Q I rx ry ⟨_, _, ha.dp, hb.dp, shaped_tup ks, shaped_tup js, by rw [eqv_tup]; exact q⟩
/-- what the items answer -/
noncomputable def eqTI (H : Hp) (js : List Int) (u : Value) : Bool := match u with
  | .ref a => (match H a with
    | some (.tup xs) => decide (xs = js.map V.int)
    | _ => false)
  | _ => false
theorem eqTI_of {H : Hp} {a : Addr} {ks js : List Int} (h : TpI H a ks) : eqTI H js (.ref a) = decide (ks = js) := by
  have h' : H a = some (.tup (ks.map V.int)) := h
  unfold eqTI
  simp only [h']
  exact decide_eq_decide.mpr map_int_inj
theorem refs_of : ∀ {as : List Addr} {us : List Value}, Vals (as.map V.ref) us → us = as.map Value.ref
  | [], _, h => by cases h; rfl
  | a :: as, _, h => by
    rw [List.map_cons] at h
    cases h with
    | cons r t => cases r; rw [refs_of t]; rfl
theorem any_TI {H : Hp} {js : List Int} : ∀ {as : List Addr} {kss : List (List Int)}, TpIs H as kss → (as.map Value.ref).any (eqTI H js) = kss.any fun ks => decide (ks = js)
  | _, _, .nil => rfl
  | _, _, .cons r t => by rw [List.map_cons, List.any_cons, List.any_cons, eqTI_of r, any_TI t]
theorem mem_TI {X : Cx} {pins : List (Addr × Obj)} {σ : St} {H : Hp} {s : Shared} {b : Addr} {js : List Int} {A : Around} (hu : A.units + 2 < cLine) (I : Inv X pins σ H s) (hb : TpI H b js) : ∀ {as : List Addr} {kss : List (List Int)}, TpIs H as kss →
    ∀ u ∈ as.map Value.ref, SeqAt.EqAt A s u (.ref b) (eqTI H js u)
  | _, _, .nil => fun u hu' => by cases hu'
  | _, _, .cons r t => fun u hu' => by
    rw [List.map_cons] at hu'
    rcases List.mem_cons.mp hu' with e | e
    · subst e; rw [eqTI_of r]; exact eqAt_TI hu I r hb
    · exact mem_TI hu I hb t u e
/-- x in a list (tuple) of tuples of ints -/
def rInTI (K : PySem.W.Frag) : R2 := fun x y H Q => ∃ b js p as kss, x = .ref b ∧ y = .ref p ∧ TpI H b js ∧ (SqL K H p (as.map V.ref) ∨ SqT K H p (as.map V.ref)) ∧ TpIs H as kss ∧ Q (.bl (kss.any fun ks => decide (ks = js))) H
theorem op_inTI {X : Cx} (hu : X.A.units + 64 < cLine) : OpR X (compareOp .In) (rInTI X.K) := by
  intro pins s σ H x y v u Q I rx ry h
  obtain ⟨b, js, p, as, kss, rfl, rfl, hb, hq, ht, q⟩ := h
  cases rx
  cases ry
  have hu1 : X.A.in1.units + 2 < cLine := by show X.A.units + 1 + 2 < cLine; omega
  rcases hq with hq | hq
  · obtain ⟨its, r, pl, hz⟩ := I.list hq
    obtain rfl := refs_of r
    refine SeqAt.in_listAt (eqTI H js) pl.isList (fun w hw => mem_TI hu1 I hb ht w (by simpa using hw)) ⟨.bl _, H, I, rfl, ?_⟩
    rw [show (as.map Value.ref).toArray.any (eqTI H js) = (as.map Value.ref).any (eqTI H js) by simp, any_TI ht]
    exact q
  · obtain ⟨its, r, pl, hz⟩ := I.tuple hq
    obtain rfl := refs_of r
    refine SeqAt.in_tupleAt (eqTI H js) pl (fun w hw => mem_TI hu1 I hb ht w (by simpa using hw)) ⟨.bl _, H, I, rfl, ?_⟩
    rw [show (as.map Value.ref).toArray.any (eqTI H js) = (as.map Value.ref).any (eqTI H js) by simp, any_TI ht]
    exact q
theorem TpIs.get {H : Hp} {as : List Addr} {kss : List (List Int)} (h : TpIs H as kss) {j : Nat} {ks : List Int} (e : kss[j]? = some ks) : ∃ a, as[j]? = some a ∧ TpI H a ks := by
  induction h generalizing j with
  | nil => simp at e
  | @cons a k as kss r t ih =>
    cases j with
    | zero => simp at e; subst e; exact ⟨a, rfl, r⟩
    | succ j => exact ih (by simpa using e)
theorem TpIs.length {H : Hp} {as : List Addr} {kss : List (List Int)} (h : TpIs H as kss) : as.length = kss.length := Paired.length h
/-- xs.index(x), a list of tuples of ints -/
def rIndexTI (K : PySem.W.Frag) : V → List V → Hp → VK → Prop := fun x xs H Q => ∃ (p : Addr) (as : List Addr) (kss : List (List Int)) (b : Addr) (js : List Int) (j : Nat), x = V.ref p ∧ xs = [V.ref b] ∧ SqL K H p (as.map V.ref) ∧ TpIs H as kss ∧ TpI H b js ∧
  kss[j]? = some js ∧ (∀ (m : Nat), m < j → kss[m]? ≠ some js) ∧ Q (.int (j : Nat)) H
theorem mt_indexTI {X : Cx} (hu : X.A.units + 64 < cLine) : MtR X "list.index" (rIndexTI X.K) := by
  intro pins s σ H x xs v us Q I rx rxs h
  obtain ⟨p, as, kss, b, js, j, rfl, rfl, hs, ht, hb, hj, hno, q⟩ := h
  cases rx
  cases rxs with
  | cons ry rt =>
    rename_i uy ut
    cases rt
    obtain rfl : uy = Value.ref b := ry
    have hu1 : X.A.in1.units + 2 < cLine := by show X.A.units + 1 + 2 < cLine; omega
    obtain ⟨its, rv, ⟨⟨cls, dd, data, sl⟩, n, ho, hc, hdn, hd⟩, hlen⟩ := I.list hs
    obtain rfl := refs_of rv
    simp only at hc hd
    subst hc hd
    obtain ⟨a, haj, hta⟩ := ht.get hj
    have hjl : j < as.length := (List.getElem?_eq_some_iff.mp haj).1
    have hlen' : as.length ≤ sizeLine := by rw [List.length_map] at hlen; exact hlen
    have hsl := sizeLine_eq
    have hj' : j < (as.map Value.ref).toArray.size := by simpa using hjl
    refine call_meets PySem.F.slot_list_index ⟨_, ho, rfl⟩ PySem.F.entry_list_index (PySem.F.args_list_index_2 _ _)
      (SeqAt.list_indexAt p (as.map Value.ref).toArray n dd sl (.ref b) (eqTI H js) j hj' (by omega) ?_ ?_) ⟨ho, fun u' hu' => mem_TI hu1 I hb ht u' (by simpa using hu'), ?_⟩
    · have e1 : (as.map Value.ref).toArray[j] = Value.ref a := by
        have := (List.getElem?_eq_some_iff.mp haj).2
        simp [this]
      rw [e1, eqTI_of hta]
      exact decide_eq_true rfl
    · intro m hm hmj
      have hml : m < as.length := by simpa using hm
      have hmk : m < kss.length := by rw [← ht.length]; exact hml
      obtain ⟨a', ha', hta'⟩ := ht.get (List.getElem?_eq_getElem hmk)
      have e1 : (as.map Value.ref).toArray[m] = Value.ref a' := by
        have := (List.getElem?_eq_some_iff.mp ha').2
        simp [this]
      rw [e1, eqTI_of hta']
      refine decide_eq_false fun e => hno m hmj ?_
      rw [List.getElem?_eq_getElem hmk, e]
    · exact ⟨.int _, H, I.tok _, ⟨_, rfl⟩, q⟩
end L2

/-! ### a dict of the module's, ints to ints, read -/
namespace L2
open PySem PySem.Spec PyProof.Rows
def keysI (es : Array DictEntry) : Bool := es.toList.all fun e => match e.key with
  | .int i _ => e.hash == hashInt i
  | _ => false
def hasI (es : Array DictEntry) (p : Int × Int) : Bool := match findBy Value.isInt es p.1 with
  | some (.int v _) => v == p.2
  | _ => false
structure DK (K : PySem.W.Frag) (a : Addr) (kvs : List (Int × Int)) : Prop where
  ex : ∃ (o : Obj) (es : Array DictEntry) (ep : Nat), K.lookup a = some o ∧ o.ExactDict ∧ o.data = .dict es ep ∧ keysI es = true ∧ kvs.all (hasI es) = true
theorem dk_mk {K : PySem.W.Frag} {a : Addr} {es : Array DictEntry} {ep : Nat} {kvs : List (Int × Int)} (l : K.lookup a = some { cls := .type "dict", dict := none, data := .dict es ep, slots := #[] }) (c : (keysI es && kvs.all (hasI es)) = true) : DK K a kvs := by
  rw [Bool.and_eq_true] at c
  exact ⟨_, es, ep, l, ⟨rfl, rfl, rfl⟩, rfl, c.1, c.2⟩
def tDKGet (K : PySem.W.Frag) (td ty : TE) : TE := fun σ H Q => td σ H fun x H1 => ty σ H1 fun y H2 => ∃ a kvs k v, x = .ref a ∧ y = .int k ∧ DK K a kvs ∧ (k, v) ∈ kvs ∧ Q (.int v) H2
theorem pe_dkget {X : Cx} {o i : Expr} {td ty : TE} {pos : Pos} (ho : PE X o td) (hi : PE X i ty) (hs : NoSl i) : PE X (.Subscript o i pos) (tDKGet X.K td ty) := by
  intro pins s σ H Q I h
  refine subD_of PySem.F.slot_dict_getitem.lookup hs (thn (ho pins s σ H _ I h) fun u s1 ⟨x, H1, I1, rx, q1⟩ => thn (hi pins s1 σ H1 _ I1 q1) fun iv s2 ⟨y, H2, I2, ry, a, kvs, k, v, ex, ey, dk, hm, q2⟩ => ?_)
  subst ex ey
  obtain rfl : u = Value.ref a := rx
  obtain ⟨t, rfl⟩ := ry
  obtain ⟨ob, es, ep, h1, h2, h3, h4, h5⟩ := dk.ex
  have hk : PySem.KeysOf (intKind X.prog X.w) es := by
    intro e he
    have := List.all_eq_true.mp h4 e (Array.mem_toList_iff.mpr he)
    split at this
    · rename_i j t' ek
      exact ⟨j, by rw [ek]; show Value.isInt j (.int j t') = true; simp [Value.isInt], beq_iff_eq.mp this⟩
    · cases this
  have hmap : s2.heap.MapOf (intKind X.prog X.w) a (findBy Value.isInt es) := ⟨ob, es, ep, I2.kIn _ _ h1, h2, h3, hk, fun _ => rfl⟩
  have hv := List.all_eq_true.mp h5 (k, v) hm
  unfold hasI at hv
  split at hv
  · rename_i v' t' ev
    have e : v' = v := beq_iff_eq.mp hv
    subst e
    exact ⟨hmap.typeIs, wpAny_getItem_of (k := k) (by show Value.isInt k (.int k t) = true; simp [Value.isInt]) hmap ev ⟨.int v', H2, I2.tok _, ⟨_, rfl⟩, q2⟩⟩
  · cases hv
end L2

namespace L2
open PySem PySem.Spec PyProof.Rows
theorem spec_call {P : Program} {w : World} {K : PySem.W.Frag} {mg mb : Str → Option Value} {CX : CXT} {k : Nat} {fa a : Addr} {fd : FuncData} {x : Str} {sp : Sp} {s₁ : Shared} {vs : List Value} {ns out : List Int}
    (KX : K.In s₁.heap) (hns : s₁.heap.Ns mainGlobals mg) (hb : s₁.heap.Ns builtinsNs mb) (hbb : ∀ x : Str, x ≠ "__name__" → mb x = bootBuiltins x) (hlim : s₁.heap.NoLimit) (hg : s₁.gens = #[])
    (ha : s₁.heap.get? a = some { cls := .type "list", data := .seq vs.toArray }) (hi : IntsAre vs ns) (hl : ns.length ≤ sizeLine) (hr : Room k callerA)
    (F : ∀ base : Heap, K.In base → base.Ns mainGlobals mg → FnOk P w K mg base CX k fa fd [x] sp) (hbind : ∀ (s : Shared) (u : Value), BindsTo s fd ⟨[u], []⟩ [(x, u)])
    (hsp : ∀ H : Hp, Only H → SqL K H a (ns.map V.int) → sp [.ref a] H (fun v H' => ∃ l, v = .ref l ∧ H' l = some (.lst (out.map V.int))) fun _ _ _ => False)
    (hCX : ∀ H e s', CX [] H s₁ (fun _ _ _ => False) e s' → False) :
    codeAny (model P w) callerA (.call (.ref fa) ⟨[.ref a], []⟩) (fun r s' => (∃ (l : Addr) (its : List Value) (n : Nat), r = .ok (.ret (.ref l)) ∧ s'.heap.get? l = some { cls := .type "list", data := .seq its.toArray n } ∧ Vals (out.map V.int) its) ∧ OldK s₁.heap s'.heap ∧ s'.os = s₁.os ∧ AllBare s'.gens) s₁ := by
  have rv := vals_ints hi
  have lenV := hi.length
  -- from an abstract heap in which nothing but the script may be tracked
  have core : ∀ H : Hp, Only H → SqL K H a (ns.map V.int) → HOk P w H s₁.heap → (∀ b, H b ≠ none → b = a) → (H a ≠ none → K.lookup a = none) →
      codeAny (model P w) callerA (.call (.ref fa) ⟨[.ref a], []⟩) (fun r s' => (∃ (l : Addr) (its : List Value) (n : Nat), r = .ok (.ret (.ref l)) ∧ s'.heap.get? l = some { cls := .type "list", data := .seq its.toArray n } ∧ Vals (out.map V.int) its) ∧ OldK s₁.heap s'.heap ∧ s'.os = s₁.os ∧ AllBare s'.gens) s₁ := by
    intro H hO hS hok hA hK
    have base_of : ∀ {b : Addr} {o : Obj}, s₁.heap.get? b = some o → H b = none → (hidT s₁.heap H).get? b = some o := fun e n => hidT_get e n
    have noA : ∀ {b : Addr} {o : Obj} {es : Array DictEntry} {ep : Nat}, s₁.heap.get? b = some o → o.data = .dict es ep → H b = none := fun {b o es ep} e d => by
      cases q : H b with
      | none => rfl
      | some u =>
        have e' : b = a := hA b (by rw [q]; simp)
        subst e'
        rw [ha] at e; cases e
        have d' : Data.seq vs.toArray _ = Data.dict es ep := d
        cases d'
    have nsK : ∀ {b : Addr} {m : Str → Option Value}, s₁.heap.Ns b m → (hidT s₁.heap H).Ns b m := fun {b m} ⟨o, es, ep, e, d, r⟩ => ⟨o, es, ep, base_of e (noA e d), d, r⟩
    have hKb : K.In (hidT s₁.heap H) := fun b o e => base_of (KX b o e) (by
      cases q : H b with
      | none => rfl
      | some u =>
        have e' : b = a := hA b (by rw [q]; simp)
        subst e'
        rw [hK (by rw [q]; simp)] at e; cases e)
    have hM : Mod K mg (hidT s₁.heap H) := ⟨hKb, nsK hns, ⟨mb, nsK hb, hbb⟩, let ⟨mc, h1, h2⟩ := hlim; ⟨mc, nsK h1, h2⟩⟩
    have e0 : Env0 P w K mg (hidT s₁.heap H) callerA [] s₁ H := ⟨rfl, hM, fun b o e => of_hidT e, Nat.le_of_eq (hidT_size _ _), trivial, fun b hb => absurd (show b ∈ ([] : List Addr) from hb) (by simp), hok, .of_eq hg⟩
    refine codeAny_mono ((F _ hKb (nsK hns)).run callerA [] s₁ H ⟨[.ref a], []⟩ [.ref a] [.ref a] _ _ hr e0 (hbind s₁ (.ref a)) (.cons rfl .nil) (hsp H hO hS)) fun r s' h => ?_
    cases r with
    | error e => exact (hCX H e s' h).elim
    | ok fl =>
      cases fl with
      | next => exact False.elim h
      | brk => exact False.elim h
      | cont => exact False.elim h
      | ret u =>
        obtain ⟨v, H', os, bare, un, hok', r', q⟩ := h
        obtain ⟨l, hv, hl'⟩ : ∃ l, v = .ref l ∧ H' l = some (.lst (out.map V.int)) := q
        subst hv
        obtain rfl : u = Value.ref l := r'
        obtain ⟨_, its, n', rr, ee⟩ := (show ObjOk P w H' s'.heap l (.lst (out.map V.int)) from hok' l _ hl')
        refine ⟨⟨l, its, n', rfl, ee, rr⟩, OldK.of_keep fun b o e => ?_, os, bare⟩
        cases q : H b with
        | none => exact un.keep b o e q (by intro z; exact absurd (show b ∈ ([] : List Addr) from z) (by simp)) (by simp)
        | some u =>
          rcases hO b with z | ⟨ob, xs, z⟩
          · rw [q] at z; cases z
          · have z2 := un.frzs b ob _ z
            obtain ⟨e1, _⟩ := hok b _ z
            obtain ⟨e2, _⟩ := hok' b _ z2
            rw [e] at e1; cases e1
            exact e2
  cases hk : K.lookup a with
  | some o =>
    -- the script is one of the module's own objects
    have e := KX a o hk
    rw [ha] at e
    cases e
    refine core (fun _ => none) (fun _ => .inl rfl) (.inr ⟨_, vs.toArray, _, hk, rfl, rfl, rfl, by rw [List.size_toArray, lenV]; exact hl, by simpa using rv⟩) (fun b u z => by have z' : (none : Option HO) = some u := z; cases z') (fun b z => absurd rfl z) fun z => absurd rfl z
  | none =>
    refine core (fun b => if b = a then some (.frz { cls := .type "list", data := .seq vs.toArray } (.lst (ns.map V.int))) else none) (fun b => ?_) (.inl (.inr ⟨{ cls := .type "list", data := .seq vs.toArray }, if_pos rfl⟩)) (fun b u z => ?_) (fun b z => ?_) fun _ => hk
    · by_cases hb : b = a
      · exact .inr ⟨_, _, if_pos hb⟩
      · exact .inl (if_neg hb)
    · by_cases hb : b = a
      · have z' := (if_pos hb).symm.trans z
        cases z'
        subst hb
        exact ⟨ha, by rw [List.length_map]; exact hl, vs, _, rv, ha⟩
      · have z' := (if_neg hb).symm.trans z
        cases z'
    · by_cases hb : b = a
      · exact hb
      · exact absurd (if_neg hb) z
theorem readsW_ints {R : PySem.W.WRecords} {cl : Str → Option Addr} {h : Heap} : ∀ {ns : List Int} {us : List Value}, Vals (ns.map V.int) us → PySem.W.ReadsAllW R cl h us (ns.map PySem.W.WData.int) []
  | [], _, r => by
    rw [List.map_nil] at r
    cases r
    exact .nil
  | n :: ns, _, r => by
    rw [List.map_cons] at r
    cases r with
    | cons a b =>
      obtain ⟨t, rfl⟩ := a
      exact PySem.W.ReadsAllW.cons (as := []) (bs := []) (.int n t) (readsW_ints b)
theorem walk_os {r : PySem.W.OpenSpec} {n k : Nat} {q : Program} {loose : List Str} {XP : (Str → Option Value) → Heap → Prop} {YP : World → Heap → Prop} {d : DefRec} {K : Params → PySem.W.Frag} {CX : CXT} {sp : PySem.W.Frag → Sp} {x : Str} (f : List Int → List Int) (ask : List Int → Prop)
    (hn2 : n ≤ sizeLine) (hdf : d.params.defaults = []) (hr : Room k callerA)
    (hpre : ∀ args, r.pre args = true → ∃ ns : List Int, args = [.list (ns.map .int)] ∧ ns.length ≤ n ∧ ask ns)
    (hpost : ∀ ns : List Int, ns.length ≤ n → ask ns → r.pre [.list (ns.map .int)] = true → r.post [.list (ns.map .int)] (.list ((f ns).map .int)) = true)
    (hY : ∀ (w : World) (h : Heap), YP w h → (K w.params).In h)
    (F : ∀ (w : World) (mg : Str → Option Value) (fa : Addr) (h : Heap), (K w.params).In h → h.Ns mainGlobals mg → mg d.name = some (.ref fa) →
      ∃ fd : FuncData, (∀ (s : Shared) (u : Value), BindsTo s fd ⟨[u], []⟩ [(x, u)]) ∧
        ∀ base : Heap, (K w.params).In base → base.Ns mainGlobals mg → FnOk r.prog w (K w.params) mg base CX k fa fd [x] (sp (K w.params)))
    (hsp : ∀ (K : PySem.W.Frag) (H : Hp) (a : Addr) (ns : List Int), ns.length ≤ n → ask ns → Only H → SqL K H a (ns.map V.int) → sp K [.ref a] H (fun v H' => ∃ l, v = .ref l ∧ H' l = some (.lst ((f ns).map V.int))) fun _ _ _ => False)
    (hCX : ∀ (H : Hp) (s : Shared) (e : Value) (s' : Shared), CX [] H s (fun _ _ _ => False) e s' → False) :
    PySem.W.WalkOS q loose XP YP r d [] (fun f vs => PySem.call f vs) := by
  intro w s₀ s₁ mg mb G Y fa o pm cd doc dV kV ho hd hcd hD hmg hg args vals as hp hlay hrd hwl hlo
  obtain rfl : dV = .none := PySem.W.Dflts.none hD hdf
  obtain rfl : kV = .none := PySem.W.Dflts.noKw hD
  obtain ⟨ns, rfl, hlen, hask⟩ := hpre args hp
  have KX := hY w _ Y
  obtain ⟨fd, hb, hF⟩ := F w mg fa _ KX G.T.g hmg
  cases hwl with
  | cons w1 w2 =>
    cases w2
    cases w1 with
    | list hobj hall =>
      have hints := Att.ints_of_wellAll ns _ hall
      refine PySem.W.enter_call (codeAny_mono (spec_call (out := f ns) KX G.T.g G.T.b G.T.builtins G.T.nolimit hg hobj hints (Nat.le_trans hlen hn2) hr hF hb (fun H hO hS => hsp (K w.params) H _ ns hlen hask hO hS) fun H e s' => hCX H s₁ e s') fun res s' hq => ?_)
      obtain ⟨⟨l, its, n', rfl, he, hv⟩, h2, h3, h4⟩ := hq
      exact ⟨.inl ⟨.ref l, _, _, rfl, fun _ => rfl, PySem.W.ReadsW.list he rfl rfl (readsW_ints hv), hpost ns hlen hask hp, fun h => absurd h Bool.false_ne_true⟩, h2, h3, h4⟩
end L2

/-! ### equality.py -/
namespace Eqp
open PySem L2 Sc13 Eqm
def top (i : Nat) : Stmt := PySem.Challenge.pw_equalterms_s01_answers.main.body.getD i (.Pass ⟨0, 0, 0, 0⟩)
abbrev sHop : Stmt := top 2
abbrev sShape : Stmt := top 3
abbrev sHbp : Stmt := top 4
abbrev sNwh : Stmt := top 5
abbrev sMerged : Stmt := top 6
abbrev sUneq : Stmt := top 7
abbrev sHaj : Stmt := top 8
/-! the data -/
def MadeAt (H : Hp) (l : Addr) (ts : List Term) : Prop := ∃ as, H l = some (.lst (as.map V.ref)) ∧ TpIs H as (ts.map tvI)
def hv (hs : List Nat) : List V := hs.map fun (n : Nat) => V.int (n : Int)
def HeadsAt (H : Hp) (l : Addr) (hs : List Nat) : Prop := H l = some (.lst (hv hs))
def hp (hs : List Nat) : Option Nat → Int
  | none => -1
  | some x => ((hs.getD x 0 : Nat) : Int)
def shI (hs : List Nat) (t : Term) : List Int := [(t.sign : Int), hp hs t.x, hp hs t.y]
theorem hv_get {hs : List Nat} {x : Nat} (h : x < hs.length) : (hv hs)[x]? = some (V.int ((hs.getD x 0 : Nat) : Int)) := by
  unfold hv
  rw [List.getElem?_map, List.getElem?_eq_getElem h, List.getD_eq_getElem?_getD, List.getElem?_eq_getElem h]
  rfl
theorem hv_len (hs : List Nat) : (hv hs).length = hs.length := by unfold hv; rw [List.length_map]
theorem hp_parts {hs : List Nat} {p q : Option Nat} : hp hs p = hp hs q ↔ Sc13Neutral.parts hs p q = true := by
  cases p <;> cases q
  · exact ⟨fun _ => rfl, fun _ => rfl⟩
  · refine ⟨fun h => ?_, fun h => by cases h⟩
    exfalso; simp only [hp] at h; omega
  · refine ⟨fun h => ?_, fun h => by cases h⟩
    exfalso; simp only [hp] at h; omega
  · rename_i x y
    show ((hs.getD x 0 : Nat) : Int) = ((hs.getD y 0 : Nat) : Int) ↔ Sc13Neutral.equal hs x y = true
    rw [equal_iff]
    omega
theorem shI_like {hs : List Nat} {t u : Term} : decide (shI hs u = shI hs t) = likeT hs t u := by
  rw [Bool.eq_iff_iff, decide_eq_true_eq, likeT_iff]
  unfold shI
  constructor
  · intro h
    injection h with h1 h2
    injection h2 with h2 h3
    injection h3 with h3 h4
    exact ⟨by omega, hp_parts.mp h2, hp_parts.mp h3⟩
  · rintro ⟨h1, h2, h3⟩
    rw [h1, hp_parts.mpr h2, hp_parts.mpr h3]
theorem Same.tis {H H' : Hp} (e : Same H H') {as : List Addr} {kss : List (List Int)} (h : TpIs H as kss) : TpIs H' as kss := Paired.mapP h fun _ _ q => e _ _ q
theorem Same.made_at {H H' : Hp} (e : Same H H') {l : Addr} {ts : List Term} (h : MadeAt H l ts) : MadeAt H' l ts := by
  obtain ⟨as, h1, h2⟩ := h
  exact ⟨as, e _ _ h1, Same.tis e h2⟩
theorem Same.upd {H : Hp} {p : Addr} {o : HO} (h : H p = none) : Same H (upd H p o) := fun b u e => by rw [upd_ne (ne_of_none e h)]; exact e
theorem MadeAt.get {H : Hp} {as : List Addr} {ts : List Term} (h : TpIs H as (ts.map tvI)) {i : Nat} {t : Term} (e : ts[i]? = some t) : ∃ a, as[i]? = some a ∧ TpI H a (tvI t) :=
  h.get (by rw [List.getElem?_map, e]; rfl)
theorem tis_len {H : Hp} {as : List Addr} {ts : List Term} (h : TpIs H as (ts.map tvI)) : as.length = ts.length := by rw [h.length, List.length_map]

/-! the promises -/
structure Cal (P : Program) (w : World) (K : PySem.W.Frag) (mg : Str → Option Value) (base : Heap) (x : Str) (ps : List Str) (k : Nat) (sp : Sp) (f : Addr) (fd : FuncData) : Prop where
  ok : FnOk P w K mg base CX0 k f fd ps sp
  at_ : mg x = some (.ref f)
  kp : PySem.W.keepIn K (.ref f) = true
  b : Binds K fd ps []
def spHop : Sp := fun vs H Q _ => ∃ (l : Addr) (hs : List Nat) (p : Option Nat), vs = [.ref l, .int (pI p)] ∧ HeadsAt H l hs ∧ (∀ x, p = some x → x < hs.length) ∧ Q (.int (hp hs p)) H
def spShape : Sp := fun vs H Q _ => ∃ (l a : Addr) (hs : List Nat) (t : Term), vs = [.ref l, .ref a] ∧ HeadsAt H l hs ∧ TpI H a (tvI t) ∧ TermOk hs.length t ∧ ∀ p, H p = none → Q (.ref p) (upd H p (.tup ((shI hs t).map V.int)))
def spHbp : Sp := fun vs H Q _ => ∃ (m l a : Addr) (ts : List Term) (hs : List Nat) (t : Term), vs = [.ref m, .ref l, .ref a] ∧ MadeAt H m ts ∧ HeadsAt H l hs ∧ TpI H a (tvI t) ∧ hs.length = ts.length ∧ (∀ u, u ∈ ts → TermOk hs.length u) ∧ TermOk hs.length t ∧ ts.length ≤ 1000 ∧
  ∀ H', Same H H' → Q (.int (pI (hbp ts hs t))) H'
structure Txt (mg : Str → Option Value) : Prop where
  non : ∃ t, mg "NONE" = some (.int (-1) t)
  len : mg "len" = none
  range : mg "range" = none
  min : mg "min" = none
  max : mg "max" = none
  list : mg "list" = none
section
variable {P : Program} {w : World} {K : PySem.W.Frag} {mg : Str → Option Value} {base : Heap}
theorem scHop : FnScope ["heads", "part"] ["heads", "part"] (defScope sHop) := ⟨rfl, rfl, rfl, by decide +kernel, rfl, by decide +kernel, by decide +kernel⟩
theorem ok_hop {f : Addr} {fd : FuncData} (F : Fun K "head_of_part" "head_of_part" sHop f fd) (T : Txt mg) : FnOk P w K mg base CX0 1 f fd ["heads", "part"] spHop := by
  refine F.ok scHop (fun vs H Q E h => ?_) (fun cdv A outer s H vs Q E hr h => ?_)
  · obtain ⟨l, hs, p, rfl, _⟩ := h
    rfl
  · obtain ⟨l, hs, p, rfl, hl, hx, k⟩ := h
    obtain ⟨t, hn⟩ := T.non
    refine ⟨_, pss_cons (ps_if (pt_cmpR op_eq (pv 1) (pe_glob (v := .int (-1)) rfl hn ⟨_, rfl⟩) (nomark _)) (pss_one (ps_ret (pe_glob (v := .int (-1)) rfl hn ⟨_, rfl⟩))) pss_nil)
      (pss_one (ps_ret (pe_ix ix_list (pv 0) (pv 1) (fun _ _ => rfl)))), ?_⟩
    refine ⟨_, rfl, rfl, _, rfl, ?_⟩
    cases p with
    | none => exact ite2 (fun _ => k) (fun hc => absurd (decide_eq_true rfl) hc)
    | some x =>
      refine ite2 (fun hc => ?_) (fun _ => ?_)
      · exfalso
        have e := of_decide_eq_true hc
        injection e with e
        simp only [pI] at e
        omega
      · refine ⟨_, rfl, _, rfl, l, _, _, _, rfl, rfl, SqL.of hl, at_of (j := x) rfl (hv_get (hx x rfl)), k⟩
theorem scShape : FnScope ["heads", "term"] ["heads", "term"] (defScope sShape) := ⟨rfl, rfl, rfl, by decide +kernel, rfl, by decide +kernel, by decide +kernel⟩
theorem ok_shape {f f1 : Addr} {fd fd1 : FuncData} (F : Fun K "shape" "shape" sShape f fd) (T : Txt mg) (C1 : Cal P w K mg base "head_of_part" ["heads", "part"] 1 spHop f1 fd1) : FnOk P w K mg base CX0 2 f fd ["heads", "term"] spShape := by
  refine F.ok scShape (fun vs H Q E h => ?_) (fun cdv A outer s H vs Q E hr h => ?_)
  · obtain ⟨l, a, hs, t, rfl, _⟩ := h
    rfl
  · obtain ⟨l, a, hs, t, rfl, hl, ha, ht, k⟩ := h
    have ha' : H a = some (.tup ((tvI t).map V.int)) := ha
    refine ⟨_, pss_one (ps_ret (pe_tup (pa_cons (pe_ix ix_tup (pv 1) pe_int (fun _ _ => rfl)) (pa_cons (pe_call C1.ok hr rfl C1.at_ C1.kp C1.b .nil pass0 (pa_cons (pv 0) (pa_cons (pe_ix ix_tup (pv 1) pe_int (fun _ _ => rfl)) pa_nil)))
      (pa_cons (pe_call C1.ok hr rfl C1.at_ C1.kp C1.b .nil pass0 (pa_cons (pv 0) (pa_cons (pe_ix ix_tup (pv 1) pe_int (fun _ _ => rfl)) pa_nil))) pa_nil))))), ?_⟩
    refine ⟨_, rfl, a, _, _, _, rfl, rfl, SqT.of ha', rfl, _, rfl, _, rfl, a, _, _, _, rfl, rfl, SqT.of ha', rfl, l, hs, t.x, rfl, hl, ht.x, _, rfl, _, rfl, a, _, _, _, rfl, rfl, SqT.of ha', rfl, l, hs, t.y, rfl, hl, ht.y, (by show 3 ≤ sizeLine; decide), ?_⟩
    exact fun p hp => k p hp
end
end Eqp

namespace Eqp
open PySem L2 Sc13 Eqm
theorem hbp_found {ts : List Term} {hs : List Nat} {t u : Term} {i : Nat} (hi : ts[i]? = some u) (h : likeT hs t u = true) (no : ∀ (k : Nat) (v : Term), k < i → ts[k]? = some v → likeT hs t v = false) : hbp ts hs t = some (hs.getD i 0) := by
  obtain ⟨h1, h2⟩ := List.getElem?_eq_some_iff.mp hi
  unfold hbp
  rw [List.findIdx?_eq_some_iff_getElem.mpr ⟨h1, by rw [h2]; exact h, fun j hj => by
    have hjl : j < ts.length := by omega
    rw [no j ts[j] hj (List.getElem?_eq_getElem hjl)]
    exact Bool.false_ne_true⟩]
  rfl
theorem hbp_not {ts : List Term} {hs : List Nat} {t : Term} (no : ∀ (k : Nat) (v : Term), k < ts.length → ts[k]? = some v → likeT hs t v = false) : hbp ts hs t = none := by
  unfold hbp
  rw [Option.map_eq_none_iff, List.findIdx?_eq_none_iff]
  intro x hx
  obtain ⟨k, hk, e⟩ := List.getElem_of_mem hx
  exact no k x hk (by rw [List.getElem?_eq_getElem hk, e])
section
variable {P : Program} {w : World} {K : PySem.W.Frag} {mg : Str → Option Value} {base : Heap}
theorem scHbp : FnScope ["made", "heads", "term", "wanted", "number"] ["made", "heads", "term"] (defScope sHbp) := ⟨rfl, rfl, rfl, by decide +kernel, rfl, by decide +kernel, by decide +kernel⟩
theorem ok_hbp {f f1 : Addr} {fd fd1 : FuncData} (F : Fun K "head_by_parts" "head_by_parts" sHbp f fd) (T : Txt mg) (C1 : Cal P w K mg base "shape" ["heads", "term"] 2 spShape f1 fd1) : FnOk P w K mg base CX0 3 f fd ["made", "heads", "term"] spHbp := by
  refine F.ok scHbp (fun vs H Q E h => ?_) (fun cdv A outer s H vs Q E hr h => ?_)
  · obtain ⟨m, l, a, ts, hs, t, rfl, _⟩ := h
    rfl
  · obtain ⟨m, l, a, ts, hs, t, rfl, hm, hl, ha, hlen, hall, ht, hsm, k⟩ := h
    obtain ⟨tk, hn⟩ := T.non
    obtain ⟨as, hml, htis⟩ := hm
    have hal := tis_len htis
    refine ⟨_, pss_cons (ps_set (i := 3) scHbp.nd rfl (Or.inl rfl) (pe_call C1.ok hr rfl C1.at_ C1.kp C1.b .nil pass0 (pa_cons (pv 1) (pa_cons (pv 2) pa_nil))))
      (pss_cons (ps_for PassesOwn.never rfl (pi_range1 rfl T.range (pa_cons (pe_callB call_len_seq (by rfl) T.len PySem.boot_len (pa_cons (pv 0) pa_nil)) pa_nil)) (pg_name (i := 4) scHbp.nd rfl (Or.inl rfl))
        (pss_one (ps_if (pt_cmpR (op_eqTI hr.units) (pe_call C1.ok hr rfl C1.at_ C1.kp C1.b .nil pass0 (pa_cons (pv 1) (pa_cons (pe_ix ix_list (pv 0) (pv 4) (fun _ _ => rfl)) pa_nil))) (pv 3) (nomark _))
          (pss_one (ps_ret (pe_ix ix_list (pv 1) (pv 4) (fun _ _ => rfl)))) pss_nil)))
      (pss_one (ps_ret (pe_glob (v := .int (-1)) rfl hn ⟨_, rfl⟩)))), ?_⟩
    -- wanted = shape(heads, term)
    refine ⟨_, rfl, _, rfl, l, a, hs, t, rfl, hl, ha, ht, fun p hp => ?_⟩
    have s1 : Same H (upd H p (.tup ((shI hs t).map V.int))) := Same.upd hp
    have hw : TpI (upd H p (.tup ((shI hs t).map V.int))) p (shI hs t) := upd_same
    generalize upd H p (.tup ((shI hs t).map V.int)) = H1 at s1 hw ⊢
    have en : ((((as.map V.ref).length : Nat) : Int)).toNat = ts.length := by rw [Int.toNat_natCast, List.length_map, hal]
    refine ⟨_, rfl, m, _, rfl, .inl (SqL.of (s1 _ _ hml)), _, rfl, (by omega), (by rw [List.length_map, hal]; omega), for_range (fun i σ H2 => ∃ v : Option V, σ = [some (.ref m), some (.ref l), some (.ref a), some (.ref p), v] ∧ Same H1 H2 ∧
      ∀ (k : Nat) (u : Term), k < i → ts[k]? = some u → likeT hs t u = false) ⟨none, rfl, Same.refl _, fun k u hk => absurd hk (Nat.not_lt_zero _)⟩ ?_ ?_⟩
    · rintro i σ H2 hi ⟨v, rfl, s2, no⟩
      rw [en] at hi
      have s12 : Same H H2 := s1.trans s2
      have hu : ts[i]? = some ts[i] := List.getElem?_eq_getElem hi
      obtain ⟨b, hb, htb⟩ := MadeAt.get (Same.tis s12 htis) hu
      generalize ts[i] = u at hu htb
      refine ⟨_, rfl, _, rfl, _, rfl, m, _, _, _, rfl, rfl, SqL.of (s12 _ _ hml), at_of (j := i) (v := V.ref b) (Int.zero_add _) (by rw [List.getElem?_map, hb]; rfl), l, b, hs, u, rfl, s12 _ _ hl, htb, hall u (List.mem_of_getElem? hu), fun p2 hp2 => ?_⟩
      have s3 : Same H2 (upd H2 p2 (.tup ((shI hs u).map V.int))) := Same.upd hp2
      have hw2 : TpI (upd H2 p2 (.tup ((shI hs u).map V.int))) p2 (shI hs u) := upd_same
      generalize upd H2 p2 (.tup ((shI hs u).map V.int)) = H3 at s3 hw2 ⊢
      refine ⟨_, rfl, p2, p, _, _, rfl, rfl, hw2, s3 _ _ (s2 _ _ hw), _, rfl, ?_⟩
      rw [shI_like]
      cases e : likeT hs t u with
      | true =>
        refine iteT ⟨_, rfl, _, rfl, l, _, _, _, rfl, rfl, SqL.of (s3 _ _ (s12 _ _ hl)), at_of (j := i) (Int.zero_add _) (hv_get (by omega)), ?_⟩
        have := k H3 (s12.trans s3)
        rw [hbp_found hu e no] at this
        exact this
      | false =>
        refine iteF ⟨_, rfl, s2.trans s3, fun k' u' hk' hu' => ?_⟩
        rcases Nat.lt_or_eq_of_le (Nat.le_of_lt_succ hk') with h | h
        · exact no k' u' h hu'
        · subst h; rw [hu] at hu'; cases hu'; exact e
    · rintro σ H2 ⟨v, rfl, s2, no⟩
      rw [en] at no
      have := k H2 (s1.trans s2)
      rw [hbp_not (fun k' v' hk' hv' => no k' v' hk' hv')] at this
      exact this
end

/-! merged -/
def spMerged : Sp := fun vs H Q _ => ∃ (l : Addr) (hs : List Nat) (a b : Nat), vs = [.ref l, .int (a : Int), .int (b : Int)] ∧ HeadsAt H l hs ∧ a < hs.length ∧ b < hs.length ∧ hs.length ≤ 1000 ∧
  ∀ (H' : Hp) (d : Addr), Same H H' → H d = none → HeadsAt H' d (Sc13Neutral.relabel hs a b) → Q (.ref d) H'
theorem relabel_get {hs : List Nat} {a b i : Nat} (h : i < hs.length) : (hv (Sc13Neutral.relabel hs a b))[i]? = some (V.int ((if hs.getD i 0 = max (hs.getD a 0) (hs.getD b 0) then min (hs.getD a 0) (hs.getD b 0) else hs.getD i 0 : Nat) : Int)) := by
  have hl : (Sc13Neutral.relabel hs a b).length = hs.length := by unfold Sc13Neutral.relabel; rw [List.length_map]
  rw [hv_get (by rw [hl]; exact h), rl_get h]
  congr 3
  generalize hs.getD i 0 = x
  generalize hs.getD a 0 = y
  generalize hs.getD b 0 = z
  split <;> split <;> omega
theorem take_snoc {α : Type} {l : List α} {i : Nat} {x : α} (h : l[i]? = some x) : l.take (i + 1) = l.take i ++ [x] := by
  rw [List.take_add_one, h]; rfl
section
variable {P : Program} {w : World} {K : PySem.W.Frag} {mg : Str → Option Value} {base : Heap}
theorem scMerged : FnScope ["heads", "a", "b", "low", "high", "head"] ["heads", "a", "b"] (defScope sMerged) := ⟨rfl, rfl, rfl, by decide +kernel, rfl, by decide +kernel, by decide +kernel⟩
theorem ok_merged {f : Addr} {fd : FuncData} (F : Fun K "merged" "merged" sMerged f fd) (T : Txt mg) : FnOk P w K mg base CX0 1 f fd ["heads", "a", "b"] spMerged := by
  refine F.ok scMerged (fun vs H Q E h => ?_) (fun cdv A outer s H vs Q E hr h => ?_)
  · obtain ⟨l, hs, a, b, rfl, _⟩ := h
    rfl
  · obtain ⟨l, hs, a, b, rfl, hl, ha, hb, hsm, k⟩ := h
    refine ⟨_, pss_cons (ps_set (i := 3) scMerged.nd rfl (Or.inr rfl) (pe_callB (call_min2 rfl) (by rfl) T.min PyProof.Rows.boot_min (pa_cons (pe_ix ix_list (pv 0) (pv 1) (fun _ _ => rfl)) (pa_cons (pe_ix ix_list (pv 0) (pv 2) (fun _ _ => rfl)) pa_nil))))
      (pss_cons (ps_set (i := 4) scMerged.nd rfl (Or.inr rfl) (pe_callB (call_max2 rfl) (by rfl) T.max PyProof.Rows.boot_max (pa_cons (pe_ix ix_list (pv 0) (pv 1) (fun _ _ => rfl)) (pa_cons (pe_ix ix_list (pv 0) (pv 2) (fun _ _ => rfl)) pa_nil))))
      (pss_one (ps_ret (pe_lc (own := [("head", 5)]) rfl scMerged.nd (pi_list (pv 0)) (blkOk_by (by show blkC ["heads", "a", "b", "low", "high", "head"] (defScope sMerged) _ _ = true; decide +kernel)) (fun _ _ _ _ _ => pg_name (i := 5) scMerged.nd rfl (Or.inl rfl)) (fun _ _ _ _ _ => pts_nil)
        (fun _ _ _ _ _ => pe_ifExp (pt_cmpR op_eq (pv 5) (pv 4) (nomark _)) (pv 3) (pv 5)))))), ?_⟩
    have ga := hv_get ha
    have gb := hv_get hb
    refine ⟨_, rfl, _, rfl, l, _, _, _, rfl, rfl, SqL.of hl, at_of (j := a) rfl ga, _, rfl, _, rfl, l, _, _, _, rfl, rfl, SqL.of hl, at_of (j := b) rfl gb, _, _, rfl, ?_⟩
    refine ⟨_, rfl, _, rfl, l, _, _, _, rfl, rfl, SqL.of hl, at_of (j := a) rfl ga, _, rfl, _, rfl, l, _, _, _, rfl, rfl, SqL.of hl, at_of (j := b) rfl gb, _, _, rfl, ?_⟩
    refine ⟨_, rfl, l, rfl, ⟨_, SqL.of hl⟩, fun D hD => lc_list (K := K) (a := l) (xs := hv hs) (fun i H2 => Same H H2 ∧ H2 D = some (.lst ((hv (Sc13Neutral.relabel hs a b)).take i))) ⟨Same.upd hD, by rw [upd_same]; rfl⟩ (fun i H2 _ hh => SqL.of (hh.1 _ _ hl)) ?_ ?_⟩
    · rintro i x H2 hx ⟨s2, hD2⟩
      have hi : i < hs.length := by
        have := (List.getElem?_eq_some_iff.mp hx).1
        rw [hv_len] at this; exact this
      rw [hv_get hi] at hx
      cases hx
      refine ⟨rfl, ?_⟩
      simp only [tYes, if_true]
      refine ⟨_, rfl, _, rfl, rfl, _, rfl, ?_⟩
      have hr' := relabel_get (a := a) (b := b) hi
      have hlen : ((hv (Sc13Neutral.relabel hs a b)).take i).length < sizeLine := by
        rw [List.length_take]
        have : (1000 : Nat) < sizeLine := by decide
        omega
      have step : ∀ z : V, (hv (Sc13Neutral.relabel hs a b))[i]? = some z → ∃ acc, H2 D = some (.lst acc) ∧ acc.length < sizeLine ∧ (Same H (upd H2 D (.lst (acc ++ [z]))) ∧ upd H2 D (.lst (acc ++ [z])) D = some (.lst ((hv (Sc13Neutral.relabel hs a b)).take (i + 1)))) := by
        intro z hz
        refine ⟨_, hD2, hlen, fun b' o e => ?_, ?_⟩
        · rw [upd_ne (ne_of_none e hD)]; exact s2 b' o e
        · rw [upd_same, take_snoc hz]
      refine ite2 (fun hc => ?_) (fun hc => ?_)
      · refine ⟨_, rfl, step _ ?_⟩
        rw [hr']
        have e := of_decide_eq_true hc
        injection e with e
        congr 2
        split at e <;> rw [if_pos (by omega)] <;> split <;> omega
      · refine ⟨_, rfl, step _ ?_⟩
        rw [hr']
        have e : ¬ _ := fun z => hc (decide_eq_true z)
        congr 2
        rw [if_neg]
        intro z
        refine e ?_
        congr 1
        split <;> omega
    · rintro H2 ⟨s2, hD2⟩
      refine k H2 D s2 hD ?_
      rw [hv_len] at hD2
      have hl2 : (hv (Sc13Neutral.relabel hs a b)).length = hs.length := by rw [hv_len]; unfold Sc13Neutral.relabel; rw [List.length_map]
      rw [List.take_of_length_le (by omega)] at hD2
      exact hD2
end

/-! unequal_pair_of_one_shape -/
def spUneq : Sp := fun vs H Q _ => ∃ (m l : Addr) (ts : List Term) (hs : List Nat), vs = [.ref m, .ref l] ∧ MadeAt H m ts ∧ HeadsAt H l hs ∧ hs.length = ts.length ∧ (∀ u, u ∈ ts → TermOk hs.length u) ∧ ts.length ≤ 1000 ∧
  (∀ H', Same H H' → (∀ (i j : Nat) (t u : Term), ts[i]? = some t → ts[j]? = some u → likeT hs u t = true → hs.getD i 0 = hs.getD j 0) → Q .non H') ∧
  (∀ (H' : Hp) (p : Addr) (i j : Nat) (t u : Term), Same H H' → TpI H' p [(i : Int), (j : Int)] → ts[i]? = some t → ts[j]? = some u → likeT hs u t = true → hs.getD i 0 ≠ hs.getD j 0 → Q (.ref p) H')
def kyI (hs : List Nat) (t : Term) : List Key := (shI hs t).map Sum.inl
theorem kyI_inj {hs : List Nat} {t u : Term} : kyI hs t = kyI hs u ↔ likeT hs u t = true := by
  rw [← shI_like, decide_eq_true_eq]
  unfold kyI
  constructor
  · intro h
    unfold shI at h ⊢
    simp only [List.map_cons, List.map_nil, List.cons.injEq, Sum.inl.injEq, and_true] at h
    simp only [List.cons.injEq, and_true]
    exact h
  · intro h; rw [h]
theorem setd_by {kvs : List (List Key × V)} {k : List Key} {H3 : Hp} {a : Addr} {z : V} {Qc : VK} (C : V → Hp → Prop) (h : ∀ v H, C v H → Qc v H) (h1 : ∀ v, valV kvs k = some v → C v H3) (h2 : valV kvs k = none → C z (upd H3 a (.dT (putK kvs k z)))) :
    (∀ v, valV kvs k = some v → Qc v H3) ∧ (valV kvs k = none → Qc z (upd H3 a (.dT (putK kvs k z)))) := ⟨fun v hv => h _ _ (h1 v hv), fun hn => h _ _ (h2 hn)⟩
structure Seen (ts : List Term) (hs : List Nat) (kvs : List (List Key × V)) (i : Nat) : Prop where
  len : kvs.length ≤ i
  fwd : ∀ (k : Nat) (u : Term), k < i → ts[k]? = some u → ∃ j : Nat, valV kvs (kyI hs u) = some (.int (j : Int)) ∧ hs.getD j 0 = hs.getD k 0
  back : ∀ (ky : List Key) (v : V), valV kvs ky = some v → ∃ (j : Nat) (t : Term), v = .int (j : Int) ∧ j < i ∧ ts[j]? = some t ∧ ky = kyI hs t
section
variable {P : Program} {w : World} {K : PySem.W.Frag} {mg : Str → Option Value} {base : Heap}
theorem scUneq : FnScope ["made", "heads", "first", "number", "other"] ["made", "heads"] (defScope sUneq) := ⟨rfl, rfl, rfl, by decide +kernel, rfl, by decide +kernel, by decide +kernel⟩
theorem ok_uneq {f f1 : Addr} {fd fd1 : FuncData} (F : Fun K "unequal_pair_of_one_shape" "unequal_pair_of_one_shape" sUneq f fd) (T : Txt mg) (C1 : Cal P w K mg base "shape" ["heads", "term"] 2 spShape f1 fd1) : FnOk P w K mg base CX0 3 f fd ["made", "heads"] spUneq := by
  refine F.ok scUneq (fun vs H Q E h => ?_) (fun cdv A outer s H vs Q E hr h => ?_)
  · obtain ⟨m, l, ts, hs, rfl, _⟩ := h
    rfl
  · obtain ⟨m, l, ts, hs, rfl, hm, hl, hlen, hall, hsm, kN, kP⟩ := h
    obtain ⟨as, hml, htis⟩ := hm
    have hal := tis_len htis
    have hu1 : A.units + 3 + 1 < cLine := by have := hr.units; show A.units + 3 + 1 < cLine; exact Nat.lt_of_le_of_lt (by show A.units + 3 + 1 ≤ A.units + 3 + 64; omega) this
    refine ⟨_, pss_cons (ps_set (i := 2) scUneq.nd rfl (Or.inl rfl) pe_dnewT)
      (pss_cons (ps_for PassesOwn.never rfl (pi_range1 rfl T.range (pa_cons (pe_callB call_len_seq (by rfl) T.len PySem.boot_len (pa_cons (pv 0) pa_nil)) pa_nil)) (pg_name (i := 3) scUneq.nd rfl (Or.inl rfl))
        (pss_cons (ps_set (i := 4) scUneq.nd rfl (Or.inl rfl) (pe_dsetd hu1 (pv 2) (pe_call C1.ok hr rfl C1.at_ C1.kp C1.b .nil pass0 (pa_cons (pv 1) (pa_cons (pe_ix ix_list (pv 0) (pv 3) (fun _ _ => rfl)) pa_nil))) (pv 3) ⟨rfl, rfl, rfl, rfl⟩))
        (pss_one (ps_if (pt_cmpR op_ne (pe_ix ix_list (pv 1) (pv 4) (fun _ _ => rfl)) (pe_ix ix_list (pv 1) (pv 3) (fun _ _ => rfl)) (nomark _))
          (pss_one (ps_ret (pe_tup (pa_cons (pv 4) (pa_cons (pv 3) pa_nil))))) pss_nil))))
      (pss_one (ps_ret pe_non))), ?_⟩
    intro d hd
    have s1 : Same H (upd H d (.dT [])) := Same.upd hd
    have hd1 : upd H d (.dT []) d = some (.dT []) := upd_same
    generalize upd H d (.dT []) = H1 at s1 hd1 ⊢
    have en : ((((as.map V.ref).length : Nat) : Int)).toNat = ts.length := by rw [Int.toNat_natCast, List.length_map, hal]
    refine ⟨_, rfl, m, _, rfl, .inl (SqL.of (s1 _ _ hml)), _, rfl, (by omega), (by rw [List.length_map, hal]; omega), for_range (fun i σ H2 => ∃ (v v' : Option V) (kvs : List (List Key × V)), σ = [some (.ref m), some (.ref l), some (.ref d), v, v'] ∧ Same H H2 ∧ H2 d = some (.dT kvs) ∧ Seen ts hs kvs i)
      ⟨none, none, [], rfl, s1, hd1, ⟨Nat.le_refl _, fun k u hk => absurd hk (Nat.not_lt_zero _), fun ky v h => by cases h⟩⟩ ?_ ?_⟩
    · rintro i σ H2 hi ⟨v, v', kvs, rfl, s2, hd2, S⟩
      rw [en] at hi
      have hu : ts[i]? = some ts[i] := List.getElem?_eq_getElem hi
      obtain ⟨b, hb, htb⟩ := MadeAt.get (Same.tis s2 htis) hu
      generalize ts[i] = u at hu htb
      refine ⟨_, rfl, d, rfl, .inr ⟨kvs, .inl hd2⟩, _, rfl, _, rfl, _, rfl, m, _, _, _, rfl, rfl, SqL.of (s2 _ _ hml), at_of (j := i) (v := V.ref b) (Int.zero_add _) (by rw [List.getElem?_map, hb]; rfl), l, b, hs, u, rfl, s2 _ _ hl, htb, hall u (List.mem_of_getElem? hu), fun p2 hp2 => ?_⟩
      have s3 : Same H2 (upd H2 p2 (.tup ((shI hs u).map V.int))) := Same.upd hp2
      have hw2 : upd H2 p2 (.tup ((shI hs u).map V.int)) p2 = some (.tup ((kyI hs u).map kV)) := upd_same
      generalize upd H2 p2 (.tup ((shI hs u).map V.int)) = H3 at s3 hw2 ⊢
      have s13 : Same H H3 := s2.trans s3
      have big : (1000 : Nat) < sizeLine := by decide
      have hkl := S.len
      refine ⟨_, rfl, kvs, kyI hs u, p2, s3 _ _ hd2, rfl, hw2, by omega, setd_by (fun v0 H4 => ∃ (j : Nat) (t : Term), v0 = .int (j : Int) ∧ Same H H4 ∧ ts[j]? = some t ∧ likeT hs u t = true ∧ (hs.getD j 0 = hs.getD i 0 → ∃ kvs', H4 d = some (.dT kvs') ∧ Seen ts hs kvs' (i + 1))) ?_ (fun v1 hv1 => ?_) (fun hn => ?_)⟩
      · -- heads[other] != heads[number]
        rintro v0 H4 ⟨j, t, rfl, s4, hj, hlk, hS⟩
        have hjl : j < hs.length := by have := (List.getElem?_eq_some_iff.mp hj).1; omega
        refine ⟨_, rfl, _, rfl, l, _, _, _, rfl, rfl, SqL.of (s4 _ _ hl), at_of (j := j) rfl (hv_get hjl), _, rfl, _, rfl, l, _, _, _, rfl, rfl, SqL.of (s4 _ _ hl), at_of (j := i) (Int.zero_add _) (hv_get (by omega)), rfl, _, rfl, ?_⟩
        by_cases e : hs.getD j 0 = hs.getD i 0
        · obtain ⟨kvs', hd4, S'⟩ := hS e
          exact iteNS (by rw [e]) ⟨_, _, kvs', rfl, s4, hd4, S'⟩
        · refine ite2 (fun _ => ?_) (fun hc => ?_)
          · refine ⟨_, rfl, _, rfl, (by show 2 ≤ sizeLine; decide), fun p3 hp3 => ?_⟩
            have hT : TpI (upd H4 p3 (.tup [.int (j : Int), .int (0 + (i : Int))])) p3 [(j : Int), (i : Int)] := by
              show upd H4 p3 (.tup [.int (j : Int), .int (0 + (i : Int))]) p3 = some (.tup [.int (j : Int), .int (i : Int)])
              rw [upd_same, Int.zero_add]
            exact kP _ p3 j i t u (s4.trans (Same.upd hp3)) hT hj hu hlk e
          · exfalso
            refine hc ?_
            rw [Bool.not_eq_true', decide_eq_false_iff_not]
            intro z
            injection z with z
            exact e (by omega)
      · obtain ⟨j, t, rfl, hji, hj, hk⟩ := S.back _ _ hv1
        refine ⟨j, t, rfl, s13, hj, kyI_inj.mp hk.symm, fun e => ⟨kvs, s3 _ _ hd2, ⟨by omega, fun k' u' hk' hu' => ?_, fun ky v0 h0 => ?_⟩⟩⟩
        · rcases Nat.lt_or_eq_of_le (Nat.le_of_lt_succ hk') with h | h
          · exact S.fwd k' u' h hu'
          · subst h; rw [hu] at hu'; cases hu'; exact ⟨j, hv1, e⟩
        · obtain ⟨j', t', h1, h2, h3⟩ := S.back ky v0 h0
          exact ⟨j', t', h1, by omega, h3⟩
      · have z0 : (0 : Int) + (i : Int) = (i : Int) := Int.zero_add _
        have lk : likeT hs u u = true := likeT_iff.mpr ⟨rfl, hp_parts.mp rfl, hp_parts.mp rfl⟩
        have hvp : ∀ ky, valV (putK kvs (kyI hs u) (V.int (0 + (i : Int)))) ky = if ky = kyI hs u then some (V.int (0 + (i : Int))) else valV kvs ky := fun ky => valV_put kvs (kyI hs u) ky _
        refine ⟨i, u, by rw [z0], fun b' o e => by rw [upd_ne (ne_of_none e hd)]; exact s13 b' o e, hu, lk, fun _ => ⟨_, upd_same, ⟨by have := length_putK kvs (kyI hs u) (V.int (0 + (i : Int))); omega, fun k' u' hk' hu' => ?_, fun ky v0 h0 => ?_⟩⟩⟩
        · rw [hvp]
          by_cases hky : kyI hs u' = kyI hs u
          · rw [if_pos hky]
            refine ⟨i, by rw [z0], ?_⟩
            rcases Nat.lt_or_eq_of_le (Nat.le_of_lt_succ hk') with h | h
            · obtain ⟨j, hj, _⟩ := S.fwd k' u' h hu'
              rw [hky, hn] at hj
              cases hj
            · rw [h]
          · rw [if_neg hky]
            rcases Nat.lt_or_eq_of_le (Nat.le_of_lt_succ hk') with h | h
            · exact S.fwd k' u' h hu'
            · subst h; rw [hu] at hu'; cases hu'; exact absurd rfl hky
        · rw [hvp] at h0
          by_cases hky : ky = kyI hs u
          · rw [if_pos hky] at h0
            cases h0
            exact ⟨i, u, by rw [z0], by omega, hu, hky⟩
          · rw [if_neg hky] at h0
            obtain ⟨j', t', h1, h2, h3⟩ := S.back ky v0 h0
            exact ⟨j', t', h1, by omega, h3⟩
    · rintro σ H2 ⟨v, v', kvs, rfl, s2, hd2, S⟩
      rw [en] at S
      refine kN H2 s2 fun i j t u hi hj hlk => ?_
      obtain ⟨a1, h1, e1⟩ := S.fwd i t (List.getElem?_eq_some_iff.mp hi).1 hi
      obtain ⟨a2, h2, e2⟩ := S.fwd j u (List.getElem?_eq_some_iff.mp hj).1 hj
      rw [kyI_inj.mpr hlk, h2] at h1
      injection h1 with h1
      injection h1 with h1
      have : a2 = a1 := by omega
      rw [← e1, ← e2, this]
end
end Eqp

namespace Eqp
open PySem L2 Sc13 Eqm
/-! heads_after_join -/
def spHaj : Sp := fun vs H Q _ => ∃ (m l : Addr) (s : Now) (hs : List Nat) (a b : Nat), vs = [.ref m, .ref l, .int (a : Int), .int (b : Int)] ∧ MadeAt H m s.terms ∧ HeadsAt H l hs ∧ WF s ∧ InR s ∧ Canon s hs ∧ a < s.terms.length ∧ b < s.terms.length ∧ s.terms.length ≤ 1000 ∧
  ∀ (H' : Hp) (d : Addr) (hs' : List Nat), Same H H' → H d = none → HeadsAt H' d hs' → Canon (s.join a b) hs' → Q (.ref d) H'
theorem termOk_of {s : Now} (w : WF s) : ∀ u, u ∈ s.terms → TermOk s.terms.length u := by
  intro u hu
  obtain ⟨k, hk, e⟩ := List.getElem_of_mem hu
  have h : s.terms[k]? = some u := by rw [List.getElem?_eq_getElem hk, e]
  exact ⟨w.px h, w.py h, (w k u h).2.2⟩
/-- on the way: a pair is to be joined, or none is left -/
inductive Way (s : Now) (hs : List Nat) (a b : Nat) (H H2 : Hp) (lh : Addr) (hs' : List Nat) (vp : V) (k : Nat) : Prop
  | first (p : Addr) : vp = .ref p → TpI H2 p [(a : Int), (b : Int)] → hs' = hs → k = s.terms.length + 2 → Way s hs a b H H2 lh hs' vp k
  | next (p : Addr) (i j : Nat) (t u : Term) : vp = .ref p → TpI H2 p [(i : Int), (j : Int)] → s.terms[i]? = some t → s.terms[j]? = some u → likeT hs' u t = true → hs'.getD i 0 ≠ hs'.getD j 0 → Jn (s.join a b) hs' → k = roots s.terms.length hs' + 1 → Way s hs a b H H2 lh hs' vp k
  | last : vp = .non → H lh = none → Canon (s.join a b) hs' → k = 0 → Way s hs a b H H2 lh hs' vp k
theorem Way.pair {s : Now} {hs : List Nat} {a b : Nat} {H H2 : Hp} {lh : Addr} {hs' : List Nat} {vp : V} {k : Nat} (h : Way s hs a b H H2 lh hs' vp k) (wf : WF s) (ir : InR s) (cn : Canon s hs) (ha : a < s.terms.length) (hb : b < s.terms.length) :
    (vp = .non ∧ H lh = none ∧ Canon (s.join a b) hs' ∧ k = 0) ∨ ∃ (p : Addr) (i j : Nat), vp = .ref p ∧ TpI H2 p [(i : Int), (j : Int)] ∧ i < s.terms.length ∧ j < s.terms.length ∧ hs'.length = s.terms.length ∧ Jn (s.join a b) (Sc13Neutral.relabel hs' i j) ∧
      roots s.terms.length (Sc13Neutral.relabel hs' i j) + 1 < k := by
  cases h with
  | first p h1 h2 h3 h4 =>
    subst h3
    have := roots_le (n := s.terms.length) (l := Sc13Neutral.relabel hs' a b)
    exact .inr ⟨p, a, b, h1, h2, ha, hb, cn.ok.len, Jn.start ir cn ha hb, by omega⟩
  | next p i j t u h1 h2 h3 h4 h5 h6 h7 h8 =>
    have hi := lt_of_get h3
    have hj := lt_of_get h4
    have := roots_relabel (n := s.terms.length) (l := hs') h7.ok hi hj h6
    exact .inr ⟨p, i, j, h1, h2, hi, hj, h7.ok.len, Jn.step (s := s.join a b) wf.join (ir.join ha hb) h7 h3 h4 h5, by omega⟩
  | last h1 h2 h3 h4 => exact .inl ⟨h1, h2, h3, h4⟩
section
variable {P : Program} {w : World} {K : PySem.W.Frag} {mg : Str → Option Value} {base : Heap}
theorem scHaj : FnScope ["made", "heads", "a", "b", "pair"] ["made", "heads", "a", "b"] (defScope sHaj) := ⟨rfl, rfl, rfl, by decide +kernel, rfl, by decide +kernel, by decide +kernel⟩
theorem ok_haj {f f1 f2 : Addr} {fd fd1 fd2 : FuncData} (F : Fun K "heads_after_join" "heads_after_join" sHaj f fd) (C1 : Cal P w K mg base "merged" ["heads", "a", "b"] 1 spMerged f1 fd1) (C2 : Cal P w K mg base "unequal_pair_of_one_shape" ["made", "heads"] 3 spUneq f2 fd2) :
    FnOk P w K mg base CX0 4 f fd ["made", "heads", "a", "b"] spHaj := by
  refine F.ok scHaj (fun vs H Q E h => ?_) (fun cdv A outer s0 H vs Q E hr h => ?_)
  · obtain ⟨m, l, s, hs, a, b, rfl, _⟩ := h
    rfl
  · obtain ⟨m, l, s, hs, a, b, rfl, hm, hl, wf, ir, cn, ha, hb, hsm, k⟩ := h
    have hr1 : Room 1 _ := hr.mono (by decide)
    refine ⟨_, pss_cons (ps_set (i := 4) scHaj.nd rfl (Or.inl rfl) (pe_tup (pa_cons (pv 2) (pa_cons (pv 3) pa_nil))))
      (pss_cons (ps_while PassesOwn.never (pt_cmpR op_notN (pv 4) pe_non (nomark _))
        (pss_cons (ps_set (i := 1) scHaj.nd rfl (Or.inl rfl) (pe_call C1.ok hr1 rfl C1.at_ C1.kp C1.b .nil pass0 (pa_cons (pv 1) (pa_cons (pe_ix ix_tup (pv 4) pe_int (fun _ _ => rfl)) (pa_cons (pe_ix ix_tup (pv 4) pe_int (fun _ _ => rfl)) pa_nil)))))
        (pss_one (ps_set (i := 4) scHaj.nd rfl (Or.inl rfl) (pe_call C2.ok hr rfl C2.at_ C2.kp C2.b .nil pass0 (pa_cons (pv 0) (pa_cons (pv 1) pa_nil)))))))
      (pss_one (ps_ret (pv 1)))), ?_⟩
    refine ⟨_, rfl, _, rfl, (by show 2 ≤ sizeLine; decide), fun p hp => ?_⟩
    have s1 : Same H (upd H p (.tup [.int (a : Int), .int (b : Int)])) := Same.upd hp
    have hp1 : TpI (upd H p (.tup [.int (a : Int), .int (b : Int)])) p [(a : Int), (b : Int)] := upd_same
    generalize upd H p (.tup [.int (a : Int), .int (b : Int)]) = H1 at s1 hp1 ⊢
    have wf' : WF (s.join a b) := wf.join
    have ir' : InR (s.join a b) := ir.join ha hb
    refine ⟨fun k σ H2 => ∃ (lh : Addr) (hs' : List Nat) (vp : V), σ = [some (.ref m), some (.ref lh), some (.int (a : Int)), some (.int (b : Int)), some vp] ∧ Same H H2 ∧ HeadsAt H2 lh hs' ∧ Way s hs a b H H2 lh hs' vp k,
      ⟨s.terms.length + 2, l, hs, .ref p, rfl, s1, s1 _ _ hl, .first p rfl hp1 rfl rfl⟩, ?_⟩
    rintro k0 σ H2 ⟨lh, hs', vp, rfl, s2, hlh, hw⟩
    refine ⟨_, rfl, rfl, _, rfl, ?_⟩
    rcases hw.pair wf ir cn ha hb with ⟨rfl, fr, cn', rfl⟩ | ⟨p', i, j, rfl, hp', hi, hj, hl', jn, lt⟩
    · exact iteNS rfl ⟨_, rfl, k H2 lh hs' s2 fr hlh cn'⟩
    · refine ite2 (fun _ => ?_) (fun hc => absurd (by rfl) hc)
      have hp'' : H2 p' = some (.tup [.int (i : Int), .int (j : Int)]) := hp'
      refine ⟨fun σ' H' => ∃ m', m' < k0 ∧ ∃ (lh : Addr) (hs' : List Nat) (vp : V), σ' = [some (.ref m), some (.ref lh), some (.int (a : Int)), some (.int (b : Int)), some vp] ∧ Same H H' ∧ HeadsAt H' lh hs' ∧ Way s hs a b H H' lh hs' vp m', fun σ' H' h => h, ?_⟩
      refine ⟨_, rfl, _, rfl, p', _, _, _, rfl, rfl, SqT.of hp'', rfl, _, rfl, p', _, _, _, rfl, rfl, SqT.of hp'', rfl, lh, hs', i, j, rfl, hlh, by omega, by omega, by omega, fun H3 d s3 fd hd => ?_⟩
      have s23 : Same H H3 := s2.trans s3
      have rl : (Sc13Neutral.relabel hs' i j).length = s.terms.length := jn.ok.len
      refine ⟨_, rfl, _, rfl, m, d, s.terms, Sc13Neutral.relabel hs' i j, rfl, Same.made_at s23 hm, hd, rl, by rw [rl]; exact termOk_of wf, hsm, fun H4 s4 cl => ?_, fun H4 p4 i4 j4 t4 u4 s4 hp4 hi4 hj4 lk4 ne4 => ?_⟩
      · refine ⟨0, by omega, d, _, .non, rfl, s23.trans s4, s4 _ _ hd, .last rfl (s2.free fd) (jn.canon wf' ir' fun i j t u hi hj hs hx hy => cl i j t u hi hj (likeT_iff.mpr ⟨hs, hx, hy⟩)) rfl⟩
      · exact ⟨_, lt, d, _, .ref p4, rfl, s23.trans s4, s4 _ _ hd, .next p4 i4 j4 t4 u4 rfl hp4 hi4 hj4 lk4 ne4 jn rfl⟩
end
end Eqp

namespace Eqp
open PySem L2 Sc13 Eqm
/-! numbers_with_head -/
def members (hs : List Nat) (h n : Nat) : List Nat := (List.range n).filter fun i => hs.getD i 0 == h
theorem members_yes {hs : List Nat} {h n : Nat} (e : hs.getD n 0 = h) : members hs h (n + 1) = members hs h n ++ [n] := by
  unfold members
  rw [List.range_succ, List.filter_append]
  rw [List.getD_eq_getElem?_getD] at e
  simp [e]
theorem members_no {hs : List Nat} {h n : Nat} (e : hs.getD n 0 ≠ h) : members hs h (n + 1) = members hs h n := by
  unfold members
  rw [List.range_succ, List.filter_append]
  rw [List.getD_eq_getElem?_getD] at e
  simp [e]
theorem members_le (hs : List Nat) (h n : Nat) : (members hs h n).length ≤ n := by
  unfold members
  have := List.length_filter_le (fun i => hs.getD i 0 == h) (List.range n)
  rw [List.length_range] at this
  exact this
theorem hv_snoc (xs : List Nat) (n : Nat) : hv (xs ++ [n]) = hv xs ++ [V.int (n : Int)] := by
  unfold hv; rw [List.map_append]; rfl
def spNwh : Sp := fun vs H Q _ => ∃ (l : Addr) (hs : List Nat) (h : Nat), vs = [.ref l, .int (h : Int)] ∧ HeadsAt H l hs ∧ hs.length ≤ 1000 ∧
  ∀ (H' : Hp) (d : Addr), Same H H' → H d = none → HeadsAt H' d (members hs h hs.length) → Q (.ref d) H'
section
variable {P : Program} {w : World} {K : PySem.W.Frag} {mg : Str → Option Value} {base : Heap}
theorem scNwh : FnScope ["heads", "head", "number"] ["heads", "head"] (defScope sNwh) := ⟨rfl, rfl, rfl, by decide +kernel, rfl, by decide +kernel, by decide +kernel⟩
theorem ok_nwh {f : Addr} {fd : FuncData} (F : Fun K "numbers_with_head" "numbers_with_head" sNwh f fd) (T : Txt mg) : FnOk P w K mg base CX0 1 f fd ["heads", "head"] spNwh := by
  refine F.ok scNwh (fun vs H Q E h => ?_) (fun cdv A outer s H vs Q E hr h => ?_)
  · obtain ⟨l, hs, h, rfl, _⟩ := h
    rfl
  · obtain ⟨l, hs, h, rfl, hl, hsm, k⟩ := h
    refine ⟨_, pss_one (ps_ret (pe_lc (own := [("number", 2)]) rfl scNwh.nd (pi_range1 rfl T.range (pa_cons (pe_callB call_len_seq (by rfl) T.len PySem.boot_len (pa_cons (pv 0) pa_nil)) pa_nil))
      (blkOk_by (by show blkC ["heads", "head", "number"] (defScope sNwh) _ _ = true; decide +kernel)) (fun _ _ _ _ _ => pg_name (i := 2) scNwh.nd rfl (Or.inl rfl))
      (fun _ _ _ _ _ => pts_one (pt_cmpR op_eq (pe_ix (r := rIxL K) ix_list (pv 0) (pv 2) (fun _ _ => rfl)) (pv 1) (nomark _))) (fun _ _ _ _ _ => pv 2))), ?_⟩
    refine ⟨_, rfl, l, _, rfl, .inl (SqL.of hl), _, rfl, (by omega), (by rw [hv_len]; omega), fun D hD => lc_range (fun i H2 => Same H H2 ∧ H2 D = some (.lst (hv (members hs h i)))) ⟨Same.upd hD, upd_same⟩ ?_ ?_⟩
    · rintro i H2 hi ⟨s2, hD2⟩
      rw [Int.toNat_natCast, hv_len] at hi
      refine ⟨rfl, _, rfl, _, rfl, l, _, _, _, rfl, rfl, SqL.of (s2 _ _ hl), at_of (j := i) (Int.zero_add _) (hv_get hi), _, rfl, rfl, _, rfl, ?_⟩
      by_cases e : hs.getD i 0 = h
      · refine ite2 (fun _ => ?_) (fun hc => absurd (decide_eq_true (by rw [e])) hc)
        have hml := members_le hs h i
        have big : (1000 : Nat) < sizeLine := by decide
        refine ⟨_, rfl, _, hD2, by rw [hv_len]; omega, fun b' o e' => ?_, ?_⟩
        · rw [upd_ne (ne_of_none e' hD)]; exact s2 b' o e'
        · rw [upd_same, members_yes e, hv_snoc]
          show some (HO.lst (_ ++ [V.int (0 + (i : Int))])) = _
          rw [Int.zero_add]
      · refine ite2 (fun hc => ?_) (fun _ => ⟨s2, by rw [hD2, members_no e]⟩)
        exfalso
        have z := of_decide_eq_true hc
        injection z with z
        exact e (by omega)
    · rintro H2 ⟨s2, hD2⟩
      rw [Int.toNat_natCast, hv_len] at hD2
      exact k H2 D s2 hD hD2
end
end Eqp
/-! ### depth.py -/
namespace Eqp
open PySem L2 Sc13 Eqm
abbrev sDop : Stmt := top 10
abbrev sDbp : Stmt := top 11
abbrev sLow : Stmt := top 12
abbrev sLd : Stmt := top 13
def dpt (hs v : List Nat) : Option Nat → Nat
  | none => 0
  | some x => v.getD (hs.getD x 0) 0
theorem own_dpt {hs v : List Nat} {t : Term} {n : Nat} (h : TermOk n t) : own hs (fun c => v.getD c 0) t = 1 + max (dpt hs v t.x) (dpt hs v t.y) := by
  obtain ⟨f, x, y⟩ := t
  unfold own
  cases x with
  | none =>
    have : y = none := h.no rfl
    subst this
    rfl
  | some x =>
    cases y with
    | none => show v.getD _ 0 + 1 = 1 + max (v.getD _ 0) 0; omega
    | some y => show max (v.getD _ 0) (v.getD _ 0) + 1 = 1 + max (v.getD _ 0) (v.getD _ 0); omega
def spDop : Sp := fun vs H Q _ => ∃ (l d : Addr) (hs v : List Nat) (p : Option Nat), vs = [.ref l, .ref d, .int (pI p)] ∧ HeadsAt H l hs ∧ HeadsAt H d v ∧ (∀ x, p = some x → x < hs.length) ∧ (∀ i, i < hs.length → hs.getD i 0 < v.length) ∧ Q (.int ((dpt hs v p : Nat) : Int)) H
def spDbp : Sp := fun vs H Q _ => ∃ (l d a : Addr) (hs v : List Nat) (t : Term), vs = [.ref l, .ref d, .ref a] ∧ HeadsAt H l hs ∧ HeadsAt H d v ∧ TpI H a (tvI t) ∧ TermOk hs.length t ∧ (∀ i, i < hs.length → hs.getD i 0 < v.length) ∧ Q (.int ((own hs (fun c => v.getD c 0) t : Nat) : Int)) H
def spLow : Sp := fun vs H Q _ => ∃ (m l d : Addr) (ts : List Term) (hs v : List Nat), vs = [.ref m, .ref l, .ref d] ∧ MadeAt H m ts ∧ HeadsAt H l hs ∧ HeadsAt H d v ∧ hs.length = ts.length ∧ v.length = ts.length ∧ (∀ u, u ∈ ts → TermOk hs.length u) ∧ (∀ i, i < hs.length → hs.getD i 0 < v.length) ∧ ts.length ≤ 1000 ∧
  ∀ (H' : Hp) (d' : Addr), Same H H' → H d' = none → HeadsAt H' d' (lowN ts hs v ts.length) → Q (.ref d') H'
def spLd : Sp := fun vs H Q _ => ∃ (m l : Addr) (s : Now) (hs : List Nat), vs = [.ref m, .ref l] ∧ MadeAt H m s.terms ∧ HeadsAt H l hs ∧ Ok s.terms.length hs ∧ WF s ∧ s.terms.length ≤ 1000 ∧
  ∀ (H' : Hp) (d : Addr) (v : List Nat), Same H H' → HeadsAt H' d v → v.length = s.terms.length → Abv s hs v → lowN s.terms hs v s.terms.length = v → Q (.ref d) H'
theorem ixN_nat {n j : Nat} (h : j < n) : ixN n (j : Int) = some j := by
  unfold ixN
  rw [if_pos (by omega), if_pos (by omega), Int.toNat_natCast]
theorem hv_set (v : List Nat) (j x : Nat) : (hv v).set j (V.int (x : Int)) = hv (v.set j x) := by
  unfold hv; rw [List.map_set]
section
variable {P : Program} {w : World} {K : PySem.W.Frag} {mg : Str → Option Value} {base : Heap}
theorem scDop : FnScope ["heads", "depths", "part"] ["heads", "depths", "part"] (defScope sDop) := ⟨rfl, rfl, rfl, by decide +kernel, rfl, by decide +kernel, by decide +kernel⟩
theorem ok_dop {f : Addr} {fd : FuncData} (F : Fun K "depth_of_part" "depth_of_part" sDop f fd) (T : Txt mg) : FnOk P w K mg base CX0 1 f fd ["heads", "depths", "part"] spDop := by
  refine F.ok scDop (fun vs H Q E h => ?_) (fun cdv A outer s H vs Q E hr h => ?_)
  · obtain ⟨l, d, hs, v, p, rfl, _⟩ := h
    rfl
  · obtain ⟨l, d, hs, v, p, rfl, hl, hd, hx, hb, k⟩ := h
    obtain ⟨t, hn⟩ := T.non
    refine ⟨_, pss_cons (ps_if (pt_cmpR op_eq (pv 2) (pe_glob (v := .int (-1)) rfl hn ⟨_, rfl⟩) (nomark _)) (pss_one (ps_ret pe_int)) pss_nil)
      (pss_one (ps_ret (pe_ix ix_list (pv 1) (pe_ix ix_list (pv 0) (pv 2) (fun _ _ => rfl)) (fun _ _ => rfl)))), ?_⟩
    refine ⟨_, rfl, rfl, _, rfl, ?_⟩
    cases p with
    | none => exact ite2 (fun _ => k) (fun hc => absurd (decide_eq_true rfl) hc)
    | some x =>
      refine ite2 (fun hc => ?_) (fun _ => ?_)
      · exfalso
        have e := of_decide_eq_true hc
        injection e with e
        simp only [pI] at e
        omega
      · exact ⟨_, rfl, _, rfl, _, rfl, l, _, _, _, rfl, rfl, SqL.of hl, at_of (j := x) rfl (hv_get (hx x rfl)), d, _, _, _, rfl, rfl, SqL.of hd, at_of (j := hs.getD x 0) rfl (hv_get (hb x (hx x rfl))), k⟩
theorem scDbp : FnScope ["heads", "depths", "term"] ["heads", "depths", "term"] (defScope sDbp) := ⟨rfl, rfl, rfl, by decide +kernel, rfl, by decide +kernel, by decide +kernel⟩
theorem ok_dbp {f f1 : Addr} {fd fd1 : FuncData} (F : Fun K "depth_by_parts" "depth_by_parts" sDbp f fd) (T : Txt mg) (C1 : Cal P w K mg base "depth_of_part" ["heads", "depths", "part"] 1 spDop f1 fd1) : FnOk P w K mg base CX0 2 f fd ["heads", "depths", "term"] spDbp := by
  refine F.ok scDbp (fun vs H Q E h => ?_) (fun cdv A outer s H vs Q E hr h => ?_)
  · obtain ⟨l, d, a, hs, v, t, rfl, _⟩ := h
    rfl
  · obtain ⟨l, d, a, hs, v, t, rfl, hl, hd, ha, ht, hb, k⟩ := h
    have ha' : H a = some (.tup ((tvI t).map V.int)) := ha
    refine ⟨_, pss_one (ps_ret (pe_op op_add pe_int (pe_callB (call_max2 rfl) (by rfl) T.max PyProof.Rows.boot_max
      (pa_cons (pe_call C1.ok hr rfl C1.at_ C1.kp C1.b .nil pass0 (pa_cons (pv 0) (pa_cons (pv 1) (pa_cons (pe_ix ix_tup (pv 2) pe_int (fun _ _ => rfl)) pa_nil))))
      (pa_cons (pe_call C1.ok hr rfl C1.at_ C1.kp C1.b .nil pass0 (pa_cons (pv 0) (pa_cons (pv 1) (pa_cons (pe_ix ix_tup (pv 2) pe_int (fun _ _ => rfl)) pa_nil)))) pa_nil))))), ?_⟩
    refine ⟨_, rfl, _, rfl, _, rfl, a, _, _, _, rfl, rfl, SqT.of ha', rfl, l, d, hs, v, t.x, rfl, hl, hd, ht.x, hb, _, rfl, _, rfl, _, rfl, a, _, _, _, rfl, rfl, SqT.of ha', rfl, l, d, hs, v, t.y, rfl, hl, hd, ht.y, hb, _, _, rfl, _, _, rfl, rfl, ?_⟩
    have e : (1 : Int) + (if ((dpt hs v t.y : Nat) : Int) > ((dpt hs v t.x : Nat) : Int) then ((dpt hs v t.y : Nat) : Int) else ((dpt hs v t.x : Nat) : Int)) = ((own hs (fun c => v.getD c 0) t : Nat) : Int) := by
      rw [own_dpt ht]
      split <;> omega
    rw [← e] at k
    exact k
theorem scLow : FnScope ["made", "heads", "depths", "lower", "number", "head"] ["made", "heads", "depths"] (defScope sLow) := ⟨rfl, rfl, rfl, by decide +kernel, rfl, by decide +kernel, by decide +kernel⟩
theorem ok_low {f f1 : Addr} {fd fd1 : FuncData} (F : Fun K "lowered" "lowered" sLow f fd) (T : Txt mg) (C1 : Cal P w K mg base "depth_by_parts" ["heads", "depths", "term"] 2 spDbp f1 fd1) : FnOk P w K mg base CX0 3 f fd ["made", "heads", "depths"] spLow := by
  refine F.ok scLow (fun vs H Q E h => ?_) (fun cdv A outer s H vs Q E hr h => ?_)
  · obtain ⟨m, l, d, ts, hs, v, rfl, _⟩ := h
    rfl
  · obtain ⟨m, l, d, ts, hs, v, rfl, hm, hl, hd, hlen, hvl, hall, hb, hsm, k⟩ := h
    obtain ⟨as, hml, htis⟩ := hm
    have hal := tis_len htis
    refine ⟨_, pss_cons (ps_set (i := 3) scLow.nd rfl (Or.inl rfl) (pe_callTy call_list_of (by rfl) T.list PyProof.Rows.boot_list (pa_cons (pv 2) pa_nil)))
      (pss_cons (ps_for PassesOwn.never rfl (pi_range1 rfl T.range (pa_cons (pe_callB call_len_seq (by rfl) T.len PySem.boot_len (pa_cons (pv 0) pa_nil)) pa_nil)) (pg_name (i := 4) scLow.nd rfl (Or.inl rfl))
        (pss_cons (ps_set (i := 5) scLow.nd rfl (Or.inl rfl) (pe_ix ix_list (pv 1) (pv 4) (fun _ _ => rfl)))
        (pss_one (ps_asg (pe_callB (call_min2 rfl) (by rfl) T.min PyProof.Rows.boot_min (pa_cons (pe_ix ix_list (pv 3) (pv 5) (fun _ _ => rfl)) (pa_cons (pe_call C1.ok hr rfl C1.at_ C1.kp C1.b .nil pass0 (pa_cons (pv 1) (pa_cons (pv 3) (pa_cons (pe_ix ix_list (pv 0) (pv 4) (fun _ _ => rfl)) pa_nil)))) pa_nil)))
          (pg_sub (pv 3) (pv 5) set_list)))))
      (pss_one (ps_ret (pv 3)))), ?_⟩
    refine ⟨_, rfl, d, _, rfl, .inl (SqL.of hd), fun dl hdl => ?_⟩
    have s1 : Same H (upd H dl (.lst (hv v))) := Same.upd hdl
    have hd1 : HeadsAt (upd H dl (.lst (hv v))) dl v := upd_same
    generalize upd H dl (.lst (hv v)) = H1 at s1 hd1 ⊢
    have en : ((((as.map V.ref).length : Nat) : Int)).toNat = ts.length := by rw [Int.toNat_natCast, List.length_map, hal]
    refine ⟨_, rfl, m, _, rfl, .inl (SqL.of (s1 _ _ hml)), _, rfl, (by omega), (by rw [List.length_map, hal]; omega), for_range (fun i σ H2 => ∃ v4 v5 : Option V, σ = [some (.ref m), some (.ref l), some (.ref d), some (.ref dl), v4, v5] ∧ Same H H2 ∧ HeadsAt H2 dl (lowN ts hs v i))
      ⟨none, none, rfl, s1, hd1⟩ ?_ ?_⟩
    · rintro i σ H2 hi ⟨v4, v5, rfl, s2, hdl2⟩
      rw [en] at hi
      have hu : ts[i]? = some ts[i] := List.getElem?_eq_getElem hi
      obtain ⟨b, hbb, htb⟩ := MadeAt.get (Same.tis s2 htis) hu
      generalize ts[i] = u at hu htb
      have hhi : i < hs.length := by omega
      have lnl : (lowN ts hs v i).length = v.length := lowN_len ts hs v i
      have hj : hs.getD i 0 < (lowN ts hs v i).length := by rw [lnl]; exact hb i hhi
      have hdl3 : H2 dl = some (.lst (hv (lowN ts hs v i))) := hdl2
      refine ⟨_, rfl, _, rfl, l, _, _, _, rfl, rfl, SqL.of (s2 _ _ hl), at_of (j := i) (Int.zero_add _) (hv_get hhi), ?_⟩
      refine ⟨_, rfl, _, rfl, dl, _, _, _, rfl, rfl, SqL.of hdl3, at_of (j := hs.getD i 0) rfl (hv_get hj), ?_⟩
      refine ⟨_, rfl, _, rfl, _, rfl, _, rfl, m, _, _, _, rfl, rfl, SqL.of (s2 _ _ hml), at_of (j := i) (v := V.ref b) (Int.zero_add _) (by rw [List.getElem?_map, hbb]; rfl), l, dl, b, hs, lowN ts hs v i, u, rfl, s2 _ _ hl, hdl2, htb, hall u (List.mem_of_getElem? hu), fun i' hi' => by rw [lnl]; exact hb i' hi', _, _, rfl, ?_⟩
      refine ⟨_, rfl, _, rfl, dl, _, _, hs.getD i 0, rfl, rfl, hdl3, by rw [hv_len]; exact ixN_nat hj, _, _, rfl, fun b' o e => ?_, ?_⟩
      · rw [upd_ne (ne_of_none e hdl)]; exact s2 b' o e
      · show upd H2 dl _ dl = some (.lst (hv (lowN ts hs v (i + 1))))
        have el : lowN ts hs v (i + 1) = (lowN ts hs v i).set (hs.getD i 0) (min ((lowN ts hs v i).getD (hs.getD i 0) 0) (own hs (fun c => (lowN ts hs v i).getD c 0) u)) := by
          show low1 ts hs _ i = _
          unfold low1; rw [hu]
        rw [upd_same, el, ← hv_set]
        congr 4
        generalize own hs (fun c => (lowN ts hs v i).getD c 0) u = x
        generalize (lowN ts hs v i).getD (hs.getD i 0) 0 = y
        split <;> omega
    · rintro σ H2 ⟨v4, v5, rfl, s2, hdl2⟩
      rw [en] at hdl2
      exact ⟨_, rfl, k H2 dl s2 hdl hdl2⟩
end
end Eqp

namespace Eqp
open PySem L2 Sc13 Eqm
/-! lists of ints, != -/
theorem depth_lst (ks : List Int) : PyData.depth (.list (ks.map PyData.int)) ≤ 2 := by
  have h := depth_ints ks
  simp only [PyData.depth]
  omega
theorem canLay_lst (ks : List Int) : PyData.canLay0 (.list (ks.map PyData.int)) = true := by
  simp only [PyData.canLay0, canLay_ints]
theorem shaped_lst (ks : List Int) : SeqAt.shaped (.list (ks.map PyData.int)) = true := by
  unfold SeqAt.shaped
  have d1 := depth_lst ks
  rw [canLay_lst, decide_eq_true (by omega)]
  rfl
theorem eqv_lst (ks js : List Int) : PyData.eqv (.list (ks.map PyData.int)) (.list (js.map PyData.int)) = decide (ks = js) := by
  simp only [PyData.eqv, eqv_ints]
def nI (v : List Nat) : List Int := v.map fun (n : Nat) => (n : Int)
theorem hv_nI (v : List Nat) : hv v = (nI v).map V.int := by unfold hv nI; rw [List.map_map]; rfl
theorem nI_inj : ∀ {v w : List Nat}, nI v = nI w ↔ v = w
  | [], [] => ⟨fun _ => rfl, fun _ => rfl⟩
  | [], _ :: _ => ⟨fun h => (by cases h), fun h => (by cases h)⟩
  | _ :: _, [] => ⟨fun h => (by cases h), fun h => (by cases h)⟩
  | a :: v, b :: w => by
    have ih := nI_inj (v := v) (w := w)
    unfold nI at ih ⊢
    rw [List.map_cons, List.map_cons, List.cons.injEq, List.cons.injEq, ih]
    constructor
    · rintro ⟨h, k⟩; exact ⟨by omega, k⟩
    · rintro ⟨h, k⟩; exact ⟨by omega, k⟩
def rNeH : R2 := fun x y H Q => ∃ (a b : Addr) (v w : List Nat), x = .ref a ∧ y = .ref b ∧ HeadsAt H a v ∧ HeadsAt H b w ∧ Q (.bl (!decide (v = w))) H
theorem op_neH {X : Cx} (hu : X.A.units + 64 < cLine) : OpR X (compareOp .NotEq) rNeH := by
  intro pins s σ H x y v u Q I rx ry h
  obtain ⟨a, b, v1, v2, rfl, rfl, ha, hb, q⟩ := h
  have ha' : H a = some (.lst ((nI v1).map V.int)) := by rw [← hv_nI]; exact ha
  have hb' : H b = some (.lst ((nI v2).map V.int)) := by rw [← hv_nI]; exact hb
  refine op_neD hu pins s σ H _ _ v u Q I rx ry ⟨_, _, .lst (SqL.of ha') (dpAll_ints _), .lst (SqL.of hb') (dpAll_ints _), shaped_lst _, shaped_lst _, ?_⟩
  rw [eqv_lst, decide_eq_decide.mpr nI_inj]
  exact q
theorem hv_replicate (n x : Nat) : hv (List.replicate n x) = List.replicate n (V.int (x : Int)) := by
  unfold hv; rw [List.map_replicate]
section
variable {P : Program} {w : World} {K : PySem.W.Frag} {mg : Str → Option Value} {base : Heap}
theorem scLd : FnScope ["made", "heads", "depths", "lower", "head"] ["made", "heads"] (defScope sLd) := ⟨rfl, rfl, rfl, by decide +kernel, rfl, by decide +kernel, by decide +kernel⟩
theorem ok_ld {f f1 : Addr} {fd fd1 : FuncData} (F : Fun K "least_depths" "least_depths" sLd f fd) (T : Txt mg) (C1 : Cal P w K mg base "lowered" ["made", "heads", "depths"] 3 spLow f1 fd1) : FnOk P w K mg base CX0 4 f fd ["made", "heads"] spLd := by
  refine F.ok scLd (fun vs H Q E h => ?_) (fun cdv A outer s0 H vs Q E hr h => ?_)
  · obtain ⟨m, l, s, hs, rfl, _⟩ := h
    rfl
  · obtain ⟨m, l, s, hs, rfl, hm, hl, ok, wf, hsm, k⟩ := h
    obtain ⟨as, hml, htis⟩ := id hm
    have hal := tis_len htis
    have hlen := ok.len
    have big : (1000 : Nat) < sizeLine := by decide
    refine ⟨_, pss_cons (ps_setLc (i := 2) (own := [("head", 4)]) rfl scLd.nd rfl rfl (sw_true rfl rfl rfl (by decide +kernel)) (pi_list (pv 1)) (blkOk_by (by show blkC ["made", "heads", "depths", "lower", "head"] (defScope sLd) _ _ = true; decide +kernel)) (fun _ _ _ _ _ => pg_name (i := 4) scLd.nd rfl (Or.inl rfl)) (fun _ _ _ _ _ => pts_nil)
        (fun _ _ _ _ _ => pe_callB (r := fun xs H Q => ∃ p ys, xs = [.ref p] ∧ (SqL K H p ys ∨ SqT K H p ys) ∧ Q (.int ys.length) H) call_len_seq (by rfl) T.len PySem.boot_len (pa_cons (pv 0) pa_nil)))
      (pss_cons (ps_set (i := 3) scLd.nd rfl (Or.inl rfl) (pe_call C1.ok hr rfl C1.at_ C1.kp C1.b .nil pass0 (pa_cons (pv 0) (pa_cons (pv 1) (pa_cons (pv 2) pa_nil)))))
      (pss_cons (ps_while PassesOwn.never (pt_cmpR (op_neH hr.units) (pv 3) (pv 2) (nomark _))
        (pss_cons (ps_set (i := 2) scLd.nd rfl (Or.inl rfl) (pv 3))
        (pss_one (ps_set (i := 3) scLd.nd rfl (Or.inl rfl) (pe_call C1.ok hr rfl C1.at_ C1.kp C1.b .nil pass0 (pa_cons (pv 0) (pa_cons (pv 1) (pa_cons (pv 2) pa_nil))))))))
      (pss_one (ps_ret (pv 2))))), ?_⟩
    have hb : ∀ i, i < hs.length → hs.getD i 0 < s.terms.length := fun i hi => by have := ok.le i (by omega); omega
    have hall : ∀ u, u ∈ s.terms → TermOk hs.length u := by rw [hlen]; exact termOk_of wf
    refine ⟨_, rfl, l, rfl, ⟨_, SqL.of hl⟩, fun D hD => lc_list (K := K) (a := l) (xs := hv hs) (fun i H2 => Same H H2 ∧ H2 D = some (.lst (hv (List.replicate i s.terms.length)))) ⟨Same.upd hD, by rw [upd_same]; rfl⟩ (fun i H2 _ hh => SqL.of (hh.1 _ _ hl)) ?_ ?_⟩
    · rintro i x H2 hx ⟨s2, hD2⟩
      have hi : i < hs.length := by
        have := (List.getElem?_eq_some_iff.mp hx).1
        rw [hv_len] at this; exact this
      refine ⟨rfl, ?_⟩
      simp only [tYes, if_true]
      refine ⟨_, rfl, m, _, rfl, .inl (SqL.of (s2 _ _ hml)), _, hD2, by rw [hv_len, List.length_replicate]; omega, fun b' o e => ?_, ?_⟩
      · rw [upd_ne (ne_of_none e hD)]; exact s2 b' o e
      · rw [upd_same, List.replicate_succ', hv_snoc, List.length_map, hal]
    · rintro H2 ⟨s2, hD2⟩
      rw [hv_len, hlen] at hD2
      have hv0 : (List.replicate s.terms.length s.terms.length).length = s.terms.length := List.length_replicate
      refine ⟨_, rfl, _, rfl, _, rfl, m, l, D, s.terms, hs, List.replicate s.terms.length s.terms.length, rfl, Same.made_at s2 hm, s2 _ _ hl, hD2, hlen, hv0, hall, fun i hi => by rw [hv0]; exact hb i hi, hsm, fun H3 d' s3 fd' hd' => ?_⟩
      refine ⟨fun k σ H4 => ∃ (d1 d2 : Addr) (v : List Nat) (v4 : Option V), σ = [some (.ref m), some (.ref l), some (.ref d1), some (.ref d2), v4] ∧ Same H H4 ∧ HeadsAt H4 d1 v ∧ HeadsAt H4 d2 (lowN s.terms hs v s.terms.length) ∧ v.length = s.terms.length ∧ Abv s hs v ∧ k = v.sum,
        ⟨_, D, d', _, none, rfl, s2.trans s3, s3 _ _ hD2, hd', hv0, abv_start s hs ok, rfl⟩, ?_⟩
      rintro k0 σ H4 ⟨d1, d2, v, v4, rfl, s4, h1, h2, hvl, ab, rfl⟩
      refine ⟨_, rfl, _, rfl, d2, d1, _, _, rfl, rfl, h2, h1, _, rfl, ?_⟩
      have hwl : (lowN s.terms hs v s.terms.length).length = s.terms.length := (lowN_len _ _ _ _).trans hvl
      by_cases e : lowN s.terms hs v s.terms.length = v
      · exact iteNS e ⟨_, rfl, k H4 d1 v s4 h1 hvl ab e⟩
      · refine ite2 (fun _ => ?_) (fun hc => absurd (by rw [decide_eq_false e]; rfl) hc)
        refine ⟨fun σ' H' => ∃ m', m' < v.sum ∧ ∃ (d1 d2 : Addr) (v : List Nat) (v4 : Option V), σ' = [some (.ref m), some (.ref l), some (.ref d1), some (.ref d2), v4] ∧ Same H H' ∧ HeadsAt H' d1 v ∧ HeadsAt H' d2 (lowN s.terms hs v s.terms.length) ∧ v.length = s.terms.length ∧ Abv s hs v ∧ m' = v.sum, fun σ' H' h => h, ?_⟩
        refine ⟨_, rfl, _, rfl, _, rfl, _, rfl, m, l, d2, s.terms, hs, lowN s.terms hs v s.terms.length, rfl, Same.made_at s4 hm, s4 _ _ hl, h2, hlen, hwl, hall, fun i hi => by rw [hwl]; exact hb i hi, hsm, fun H5 d5 s5 fd5 hd5 => ?_⟩
        exact ⟨_, low_sum _ e, d2, d5, _, v4, rfl, s4.trans s5, s5 _ _ h2, hd5, hwl, ab.lowN ok hvl _, rfl⟩
end
end Eqp

/-! ### terms.py: the object -/
namespace Eqt
open PySem L2 Sc13 Eqm Eqp
abbrev cTerms : Stmt := top 36
abbrev sInit : Stmt := inClass cTerms 0
abbrev sForget : Stmt := inClass cTerms 1
abbrev sHas : Stmt := inClass cTerms 2
abbrev sHasBoth : Stmt := inClass cTerms 3
abbrev sAreParts : Stmt := inClass cTerms 4
abbrev sAInit : Stmt := inClass cTerms 5
abbrev sATerm : Stmt := inClass cTerms 6
abbrev sMake : Stmt := inClass cTerms 7
abbrev sAFind : Stmt := inClass cTerms 8
abbrev sAJoin : Stmt := inClass cTerms 9
abbrev sPwe : Stmt := inClass cTerms 10
abbrev sAPart : Stmt := inClass cTerms 11
abbrev sASame : Stmt := inClass cTerms 12
abbrev sDiff : Stmt := inClass cTerms 13
abbrev sAHead : Stmt := inClass cTerms 14
abbrev sASize : Stmt := inClass cTerms 15
abbrev sADepth : Stmt := inClass cTerms 16
abbrev sAList : Stmt := inClass cTerms 17
abbrev sEqTo : Stmt := inClass cTerms 18
abbrev sAMark : Stmt := inClass cTerms 19
abbrev sABack : Stmt := inClass cTerms 20
def fsT (lm lh lp lk : Addr) (jc : Nat) : List (Str × V) := [("made", .ref lm), ("heads", .ref lh), ("join_count", .int (jc : Int)), ("parted", .ref lp), ("marks", .ref lk)]
section
variable (lm lh lp lk : Addr) (jc : Nat)
theorem fs_made : (fsT lm lh lp lk jc).lookup ("made" : Str) = some (.ref lm) := by kernel_rfl
theorem fs_heads : (fsT lm lh lp lk jc).lookup ("heads" : Str) = some (.ref lh) := by kernel_rfl
theorem fs_jc : (fsT lm lh lp lk jc).lookup ("join_count" : Str) = some (.int (jc : Int)) := by kernel_rfl
theorem fs_parted : (fsT lm lh lp lk jc).lookup ("parted" : Str) = some (.ref lp) := by kernel_rfl
theorem fs_marks : (fsT lm lh lp lk jc).lookup ("marks" : Str) = some (.ref lk) := by kernel_rfl
theorem fs_no {m : Str} (h : (m == ("made" : Str) || m == ("heads" : Str) || m == ("join_count" : Str) || m == ("parted" : Str) || m == ("marks" : Str)) = false) : (fsT lm lh lp lk jc).lookup m = none := by
  simp only [Bool.or_eq_false_iff] at h
  obtain ⟨⟨⟨⟨h1, h2⟩, h3⟩, h4⟩, h5⟩ := h
  unfold fsT
  rw [List.lookup_cons, h1, List.lookup_cons, h2, List.lookup_cons, h3, List.lookup_cons, h4, List.lookup_cons, h5]
  rfl
theorem put_made (x : Addr) : putF "made" (.ref x) (fsT lm lh lp lk jc) = fsT x lh lp lk jc := by kernel_rfl
theorem put_heads (x : Addr) : putF "heads" (.ref x) (fsT lm lh lp lk jc) = fsT lm x lp lk jc := by kernel_rfl
theorem put_parted (x : Addr) : putF "parted" (.ref x) (fsT lm lh lp lk jc) = fsT lm lh x lk jc := by kernel_rfl
theorem put_jc (j : Nat) : putF "join_count" (.int (j : Int)) (fsT lm lh lp lk jc) = fsT lm lh lp lk j := by kernel_rfl
end
def prI (p : Nat × Nat) : List Int := [(p.1 : Int), (p.2 : Int)]
def PairsAt (H : Hp) (l : Addr) (ps : List (Nat × Nat)) : Prop := ∃ as, H l = some (.lst (as.map V.ref)) ∧ TpIs H as (ps.map prI)
structure NowAt (H : Hp) (n : Now) (lm lh lp : Addr) : Prop where
  made : MadeAt H lm n.terms
  heads : HeadsAt H lh (Sc13Neutral.classes n)
  parted : PairsAt H lp n.differ
abbrev Mk4 := Now × Addr × Addr × Addr
def mkL (m : Mk4) : List Addr := [m.2.1, m.2.2.1, m.2.2.2]
def MarkAt (H : Hp) (a : Addr) (m : Mk4) : Prop := H a = some (.tup [.ref m.2.1, .ref m.2.2.1, .int (m.1.equal.length : Int), .ref m.2.2.2]) ∧ NowAt H m.1 m.2.1 m.2.2.1 m.2.2.2
structure Own where
  lm : Addr
  lh : Addr
  lp : Addr
  lk : Addr
  as : List Addr
  ms : List Mk4
def Own.W (p : Addr) (o : Own) : List Addr := p :: o.lk :: o.lm :: o.lh :: o.lp :: o.ms.flatMap mkL
structure TermsAt (C : Addr) (H : Hp) (p : Addr) (s : Abs) (o : Own) : Prop where
  ob : ∃ dx, H p = some (.ins C dx (fsT o.lm o.lh o.lp o.lk s.now.equal.length))
  now : NowAt H s.now o.lm o.lh o.lp
  lst : H o.lk = some (.lst (o.as.map V.ref))
  mks : Paired (MarkAt H) o.as o.ms
  rev : s.marks = (o.ms.map (·.1)).reverse
  nd : (o.W p).Nodup
  good : GoodA s
/-! keeping -/
def Kp (L : List Addr) (H H' : Hp) : Prop := ∀ b u, H b = some u → b ∉ L → H' b = some u
def NT (L : List Addr) (H : Hp) : Prop := ∀ b, b ∈ L → ∀ xs, H b ≠ some (.tup xs)
theorem Kp.trans {L : List Addr} {H H1 H2 : Hp} (a : Kp L H H1) (b : Kp L H1 H2) : Kp L H H2 := fun c u e n => b c u (a c u e n) n
theorem Kp.mono {L M : List Addr} {H H' : Hp} (a : Kp L H H') (h : ∀ b, b ∈ L → b ∈ M) : Kp M H H' := fun c u e n => a c u e fun z => n (h c z)
theorem Kp.same {L : List Addr} {H H' : Hp} (a : Same H H') : Kp L H H' := fun c u e _ => a c u e
theorem Kp.upd {L : List Addr} {H : Hp} {a : Addr} {u : HO} (h : a ∈ L) : Kp L H (upd H a u) := fun c v e n => by rw [upd_ne (fun z => n (by rw [z]; exact h))]; exact e
theorem Kp.updF {L : List Addr} {H : Hp} {a : Addr} {u : HO} (h : H a = none) : Kp L H (L2.upd H a u) := Kp.same (Same.upd h)
section
variable {L : List Addr} {H H' : Hp}
theorem TpI.keep {a : Addr} {ks : List Int} (k : Kp L H H') (nt : NT L H) (h : TpI H a ks) : TpI H' a ks := k a _ h fun z => nt a z _ h
theorem TpIs.keep {as : List Addr} {kss : List (List Int)} (k : Kp L H H') (nt : NT L H) (h : TpIs H as kss) : TpIs H' as kss := Paired.mapP h fun _ _ q => TpI.keep k nt q
theorem NowAt.keep {n : Now} {lm lh lp : Addr} (h : NowAt H n lm lh lp) (k : Kp L H H') (nt : NT L H) (h1 : lm ∉ L) (h2 : lh ∉ L) (h3 : lp ∉ L) : NowAt H' n lm lh lp := by
  obtain ⟨⟨as, m1, m2⟩, hh, ⟨bs, p1, p2⟩⟩ := h
  exact ⟨⟨as, k _ _ m1 h1, TpIs.keep k nt m2⟩, k _ _ hh h2, ⟨bs, k _ _ p1 h3, TpIs.keep k nt p2⟩⟩
theorem MarkAt.keep {a : Addr} {m : Mk4} (h : MarkAt H a m) (k : Kp L H H') (nt : NT L H) (h1 : ∀ b, b ∈ mkL m → b ∉ L) : MarkAt H' a m :=
  ⟨k _ _ h.1 fun z => nt a z _ h.1, h.2.keep k nt (h1 _ (by simp [mkL])) (h1 _ (by simp [mkL])) (h1 _ (by simp [mkL]))⟩
theorem marks_keep {as : List Addr} {ms : List Mk4} (h : Paired (MarkAt H) as ms) (k : Kp L H H') (nt : NT L H) (h1 : ∀ b, b ∈ ms.flatMap mkL → b ∉ L) : Paired (MarkAt H') as ms := by
  induction h with
  | nil => exact .nil
  | cons r t ih =>
    rw [List.flatMap_cons] at h1
    exact .cons (r.keep k nt fun b hb => h1 b (List.mem_append.mpr (.inl hb))) (ih fun b hb => h1 b (List.mem_append.mpr (.inr hb)))
theorem marks_lst {as : List Addr} {ms : List Mk4} (h : Paired (MarkAt H) as ms) : ∀ b, b ∈ ms.flatMap mkL → ∃ xs, H b = some (.lst xs) := by
  induction h with
  | nil => intro b hb; simp at hb
  | cons r t ih =>
    intro b hb
    rw [List.flatMap_cons] at hb
    rcases List.mem_append.mp hb with hb | hb
    · obtain ⟨_, ⟨as1, m1, _⟩, hh, ⟨bs, p1, _⟩⟩ := r
      simp only [mkL, List.mem_cons, List.not_mem_nil, or_false] at hb
      rcases hb with rfl | rfl | rfl
      · exact ⟨_, m1⟩
      · exact ⟨_, hh⟩
      · exact ⟨_, p1⟩
    · exact ih b hb
end
section
variable {C p : Addr} {H H' : Hp} {s : Abs} {o : Own}
theorem TermsAt.kinds (T : TermsAt C H p s o) : ∀ b, b ∈ o.W p → (b = p ∧ ∃ dx fs, H b = some (.ins C dx fs)) ∨ ∃ xs, H b = some (.lst xs) := by
  intro b hb
  obtain ⟨dx, h0⟩ := T.ob
  obtain ⟨⟨as1, m1, _⟩, hh, ⟨bs, p1, _⟩⟩ := T.now
  unfold Own.W at hb
  simp only [List.mem_cons] at hb
  rcases hb with rfl | rfl | rfl | rfl | rfl | hb
  · exact .inl ⟨rfl, _, _, h0⟩
  · exact .inr ⟨_, T.lst⟩
  · exact .inr ⟨_, m1⟩
  · exact .inr ⟨_, hh⟩
  · exact .inr ⟨_, p1⟩
  · exact .inr (marks_lst T.mks b hb)
theorem TermsAt.nt (T : TermsAt C H p s o) {L : List Addr} (h : ∀ b, b ∈ L → b ∈ o.W p) : NT L H := fun b hb xs e => by
  rcases T.kinds b (h b hb) with ⟨_, dx, fs, z⟩ | ⟨ys, z⟩
  · rw [z] at e; cases e
  · rw [z] at e; cases e
theorem TermsAt.dom (T : TermsAt C H p s o) : ∀ b, b ∈ o.W p → H b ≠ none := fun b hb e => by
  rcases T.kinds b hb with ⟨_, dx, fs, z⟩ | ⟨ys, z⟩
  · rw [z] at e; cases e
  · rw [z] at e; cases e
theorem TermsAt.keep (T : TermsAt C H p s o) {L : List Addr} (k : Kp L H H') (nt : NT L H) (h : ∀ b, b ∈ o.W p → b ∉ L) : TermsAt C H' p s o := by
  have m : ∀ {b}, b ∈ o.W p → b ∉ L := fun hb => h _ hb
  obtain ⟨dx, h0⟩ := T.ob
  refine ⟨⟨dx, k _ _ h0 (m (by simp [Own.W]))⟩, T.now.keep k nt (m (by simp [Own.W])) (m (by simp [Own.W])) (m (by simp [Own.W])), k _ _ T.lst (m (by simp [Own.W])), marks_keep T.mks k nt fun b hb => m ?_, T.rev, T.nd, T.good⟩
  unfold Own.W
  simp only [List.mem_cons]
  exact .inr (.inr (.inr (.inr (.inr hb))))
theorem TermsAt.same (T : TermsAt C H p s o) (k : Same H H') : TermsAt C H' p s o := T.keep (L := []) (Kp.same k) (fun b hb => by simp at hb) fun b _ => by simp
theorem TermsAt.tl (T : TermsAt C H p s o) : s.now.terms.length ≤ 512 := T.good.now.tl
theorem TermsAt.hl (T : TermsAt C H p s o) : (Sc13Neutral.classes s.now).length = s.now.terms.length := classes_len T.good.now
/-- a call's outcome -/
def Stp (C : Addr) (H : Hp) (p : Addr) (o : Own) (s' : Abs) (H' : Hp) : Prop := ∃ o', TermsAt C H' p s' o' ∧ (∀ b, b ∈ o'.W p → b ∈ o.W p ∨ H b = none) ∧ Kp (o.W p) H H'
theorem TermsAt.stp (T : TermsAt C H p s o) (k : Same H H') : Stp C H p o s H' := ⟨o, T.same k, fun b hb => .inl hb, Kp.same k⟩
theorem TermsAt.stay (T : TermsAt C H p s o) : Stp C H p o s H := T.stp (Same.refl H)
end
structure CalM (P : Program) (w : World) (K : PySem.W.Frag) (mg : Str → Option Value) (base : Heap) (C : Addr) (m : Str) (ps : List Str) (k : Nat) (sp : Sp) (f : Addr) (fd : FuncData) : Prop where
  ok : FnOk P w K mg base CX0 k f fd ps sp
  mt : Meth K C m f
  b : Binds K fd ps []
structure TxtC (K : PySem.W.Frag) (mg : Str → Option Value) (C : Addr) : Prop where
  cl : Cls K C
  nMade : NoAttr K C "made"
  nHeads : NoAttr K C "heads"
  nJc : NoAttr K C "join_count"
  nParted : NoAttr K C "parted"
  nMarks : NoAttr K C "marks"
  refused : ∃ t, mg "REFUSED" = some (.int (-2) t)
  notDone : ∃ t, mg "NOT_DONE" = some (.int (-1) t)
  done : ∃ t, mg "DONE" = some (.int 0 t)
  unknown : ∃ t, mg "UNKNOWN" = some (.int 0 t)
  equal : ∃ t, mg "EQUAL" = some (.int 1 t)
  different : ∃ t, mg "DIFFERENT" = some (.int 2 t)
  mostT : ∃ t, mg "MOST_TERMS" = some (.int 512 t)
  mostS : ∃ t, mg "MOST_SAYINGS" = some (.int 1024 t)
  mostM : ∃ t, mg "MOST_MARKS" = some (.int 64 t)
def spHas (C : Addr) : Sp := fun vs H Q _ => ∃ (p : Addr) (a : Int) (s : Abs) (o : Own), vs = [.ref p, .int a] ∧ TermsAt C H p s o ∧ Q (.bl (s.now.has a)) H
section
variable {P : Program} {w : World} {K : PySem.W.Frag} {mg : Str → Option Value} {base : Heap}
theorem scHas : FnScope ["self", "number"] ["self", "number"] (defScope sHas) := ⟨rfl, rfl, rfl, by decide +kernel, rfl, by decide +kernel, by decide +kernel⟩
theorem ok_has {f C : Addr} {fd : FuncData} (F : Fun K "has" "Terms.has" sHas f fd) (T : Txt mg) (TC : TxtC K mg C) : FnOk P w K mg base CX0 1 f fd ["self", "number"] (spHas C) := by
  refine F.ok scHas (fun vs H Q E h => ?_) (fun cdv A outer s H vs Q E hr h => ?_)
  · obtain ⟨p, a, s, o, rfl, _⟩ := h
    rfl
  · obtain ⟨p, a, s, o, rfl, hT, k⟩ := h
    obtain ⟨dx, hob⟩ := hT.ob
    obtain ⟨as, hml, htis⟩ := hT.now.made
    have hal := tis_len htis
    refine ⟨_, pss_one (ps_ret (pe_chain op_le op_lt pe_int (pv 1) (pe_callB call_len_seq (by rfl) T.len PySem.boot_len (pa_cons (pe_fld (pv 0) rfl) pa_nil)))), ?_⟩
    refine ⟨_, rfl, _, _, rfl, rfl, _, rfl, ?_⟩
    refine ite2 (fun hc => ?_) (fun hc => ?_)
    · refine ⟨_, rfl, p, C, dx, _, _, rfl, hob, TC.cl, TC.nMade, fs_made _ _ _ _ _, o.lm, _, rfl, .inl (SqL.of hml), _, _, rfl, rfl, ?_⟩
      have e : s.now.has a = decide (a < (((as.map V.ref).length : Nat) : Int)) := by
        unfold Now.has
        rw [List.length_map, hal, hc, Bool.true_and]
      show Q (V.bl (decide (a < (((as.map V.ref).length : Nat) : Int)))) H
      rw [← e]
      exact k
    · have e : s.now.has a = false := by
        unfold Now.has
        rw [Bool.not_eq_true] at hc
        rw [hc, Bool.false_and]
      rw [e] at k
      exact k
theorem scHasBoth : FnScope ["self", "a", "b"] ["self", "a", "b"] (defScope sHasBoth) := ⟨rfl, rfl, rfl, by decide +kernel, rfl, by decide +kernel, by decide +kernel⟩
def spHasBoth (C : Addr) : Sp := fun vs H Q _ => ∃ (p : Addr) (a b : Int) (s : Abs) (o : Own), vs = [.ref p, .int a, .int b] ∧ TermsAt C H p s o ∧ Q (.bl (s.now.has a && s.now.has b)) H
theorem ok_hasBoth {f C f1 : Addr} {fd fd1 : FuncData} (F : Fun K "has_both" "Terms.has_both" sHasBoth f fd) (TC : TxtC K mg C) (C1 : CalM P w K mg base C "has" ["self", "number"] 1 (spHas C) f1 fd1) : FnOk P w K mg base CX0 2 f fd ["self", "a", "b"] (spHasBoth C) := by
  refine F.ok scHasBoth (fun vs H Q E h => ?_) (fun cdv A outer s H vs Q E hr h => ?_)
  · obtain ⟨p, a, b, s, o, rfl, _⟩ := h
    rfl
  · obtain ⟨p, a, b, s, o, rfl, hT, k⟩ := h
    obtain ⟨dx, hob⟩ := hT.ob
    refine ⟨_, pss_one (ps_ret (pe_and (pe_meth (pv 0) TC.cl C1.mt C1.ok hr C1.b .nil pass0 (pa_cons (pv 1) pa_nil)) (pe_one (pe_meth (pv 0) TC.cl C1.mt C1.ok hr C1.b .nil pass0 (pa_cons (pv 2) pa_nil))))), ?_⟩
    refine ⟨_, rfl, p, dx, _, rfl, hob, fs_no _ _ _ _ _ (by decide +kernel), _, rfl, p, a, s, o, rfl, hT, _, rfl, ?_⟩
    cases e : s.now.has a with
    | true =>
      refine iteT ⟨_, rfl, p, dx, _, rfl, hob, fs_no _ _ _ _ _ (by decide +kernel), _, rfl, p, b, s, o, rfl, hT, ?_⟩
      rw [e, Bool.true_and] at k
      exact k
    | false =>
      refine iteF ?_
      rw [e, Bool.false_and] at k
      exact k
theorem scAreParts : FnScope ["self", "x", "y"] ["self", "x", "y"] (defScope sAreParts) := ⟨rfl, rfl, rfl, by decide +kernel, rfl, by decide +kernel, by decide +kernel⟩
def spAreParts (C : Addr) : Sp := fun vs H Q _ => ∃ (p : Addr) (x y : Int) (s : Abs) (o : Own), vs = [.ref p, .int x, .int y] ∧ TermsAt C H p s o ∧ Q (.bl (s.now.fine x y)) H
theorem dec_int (a b : Int) : decide (V.int a = V.int b) = decide (a = b) := decide_eq_decide.mpr ⟨fun h => by injection h, fun h => by rw [h]⟩
theorem ok_areParts {f C f1 : Addr} {fd fd1 : FuncData} (F : Fun K "are_parts" "Terms.are_parts" sAreParts f fd) (T : Txt mg) (TC : TxtC K mg C) (C1 : CalM P w K mg base C "has" ["self", "number"] 1 (spHas C) f1 fd1) : FnOk P w K mg base CX0 2 f fd ["self", "x", "y"] (spAreParts C) := by
  refine F.ok scAreParts (fun vs H Q E h => ?_) (fun cdv A outer s H vs Q E hr h => ?_)
  · obtain ⟨p, x, y, s, o, rfl, _⟩ := h
    rfl
  · obtain ⟨p, x, y, s, o, rfl, hT, k⟩ := h
    obtain ⟨dx, hob⟩ := hT.ob
    obtain ⟨tn, hn⟩ := T.non
    rw [fine_eq] at k
    refine ⟨_, pss_cons (ps_if (pt_cmpR op_eq (pv 1) (pe_glob (v := .int (-1)) rfl hn ⟨_, rfl⟩) (nomark _)) (pss_one (ps_ret (pe_cmpR op_eq (pv 2) (pe_glob (v := .int (-1)) rfl hn ⟨_, rfl⟩) (nomark _)))) pss_nil)
      (pss_one (ps_ret (pe_and (pe_meth (pv 0) TC.cl C1.mt C1.ok hr C1.b .nil pass0 (pa_cons (pv 1) pa_nil))
        (pe_one (pe_or (pe_cmpR op_eq (pv 2) (pe_glob (v := .int (-1)) rfl hn ⟨_, rfl⟩) (nomark _)) (pe_one (pe_meth (pv 0) TC.cl C1.mt C1.ok hr C1.b .nil pass0 (pa_cons (pv 2) pa_nil)))))))), ?_⟩
    refine ⟨_, rfl, rfl, _, rfl, ?_⟩
    rw [dec_int]
    by_cases hx : x = -1
    · rw [if_pos hx] at k
      refine ite2 (fun _ => ?_) (fun hc => absurd (decide_eq_true hx) hc)
      refine ⟨_, rfl, rfl, ?_⟩
      rw [dec_int]
      exact k
    · rw [if_neg hx] at k
      refine ite2 (fun hc => absurd (of_decide_eq_true hc) hx) (fun _ => ?_)
      refine ⟨_, rfl, p, dx, _, rfl, hob, fs_no _ _ _ _ _ (by decide +kernel), _, rfl, p, x, s, o, rfl, hT, _, rfl, ?_⟩
      cases e : s.now.has x with
      | false =>
        refine iteF ?_
        rw [e, Bool.false_and] at k
        exact k
      | true =>
        rw [e, Bool.true_and] at k
        refine iteT ⟨_, rfl, rfl, _, rfl, ?_⟩
        rw [dec_int]
        by_cases hy : y = -1
        · rw [decide_eq_true hy, Bool.true_or] at k
          refine ite2 (fun _ => k) (fun hc => absurd (decide_eq_true hy) hc)
        · rw [decide_eq_false hy, Bool.false_or] at k
          refine ite2 (fun hc => absurd (of_decide_eq_true hc) hy) (fun _ => ?_)
          exact ⟨_, rfl, p, dx, _, rfl, hob, fs_no _ _ _ _ _ (by decide +kernel), _, rfl, p, y, s, o, rfl, hT, k⟩
end
end Eqt

namespace Eqt
open PySem L2 Sc13 Eqm Eqp
structure Dist (p : Addr) (o : Own) : Prop where
  pk : p ≠ o.lk
  pm : p ≠ o.lm
  ph : p ≠ o.lh
  pd : p ≠ o.lp
  km : o.lk ≠ o.lm
  kh : o.lk ≠ o.lh
  kd : o.lk ≠ o.lp
  mh : o.lm ≠ o.lh
  md : o.lm ≠ o.lp
  hd : o.lh ≠ o.lp
  r : ∀ b, b ∈ o.ms.flatMap mkL → b ≠ p ∧ b ≠ o.lk ∧ b ≠ o.lm ∧ b ≠ o.lh ∧ b ≠ o.lp
  rn : (o.ms.flatMap mkL).Nodup
theorem dist_of {p : Addr} {o : Own} (nd : (o.W p).Nodup) : Dist p o := by
  simp only [Own.W, List.nodup_cons, List.mem_cons, not_or] at nd
  obtain ⟨⟨a1, a2, a3, a4, a5⟩, ⟨b1, b2, b3, b4⟩, ⟨c1, c2, c3⟩, ⟨d1, d2⟩, e1, e2⟩ := nd
  exact ⟨a1, a2, a3, a4, b1, b2, b3, c1, c2, d1, fun b hb => ⟨fun z => a5 (z ▸ hb), fun z => b4 (z ▸ hb), fun z => c3 (z ▸ hb), fun z => d2 (z ▸ hb), fun z => e1 (z ▸ hb)⟩, e2⟩
theorem of_dist {p : Addr} {o : Own} (d : Dist p o) : (o.W p).Nodup := by
  simp only [Own.W, List.nodup_cons, List.mem_cons, not_or]
  exact ⟨⟨d.pk, d.pm, d.ph, d.pd, fun h => (d.r _ h).1 rfl⟩, ⟨d.km, d.kh, d.kd, fun h => (d.r _ h).2.1 rfl⟩, ⟨d.mh, d.md, fun h => (d.r _ h).2.2.1 rfl⟩, ⟨d.hd, fun h => (d.r _ h).2.2.2.1 rfl⟩, fun h => (d.r _ h).2.2.2.2 rfl, d.rn⟩
/-! forget_all, __init__ -/
theorem Kp.free {p : Addr} {H H1 : Hp} {l : Addr} {u : HO} (k : Kp [p] H H1) (hp : H1 p = some u) (h : H1 l = none) : H l = none := by
  cases e : H l with
  | none => rfl
  | some v =>
    have : l ≠ p := fun z => by rw [z, hp] at h; cases h
    rw [k l v e (by simpa using this)] at h
    cases h
theorem set_new {p l : Addr} {H : Hp} {u v : HO} (hp : H p = some u) (hl : H l = none) : Kp [p] H (upd (upd H l (.lst [])) p v) ∧ upd (upd H l (.lst [])) p v p = some v ∧ upd (upd H l (.lst [])) p v l = some (.lst []) ∧ l ≠ p ∧ (upd H l (.lst [])) p = some u := by
  have ne : l ≠ p := fun z => by rw [z, hp] at hl; cases hl
  refine ⟨fun b w e n => ?_, upd_same, ?_, ne, ?_⟩
  · rw [upd_ne (by simpa using n), upd_ne (ne_of_none e hl)]; exact e
  · rw [upd_ne ne, upd_same]
  · rw [upd_ne ne.symm]; exact hp
def spForget (C : Addr) : Sp := fun vs H Q _ => ∃ (p dx : Addr) (fs : List (Str × V)), vs = [.ref p] ∧ H p = some (.ins C dx fs) ∧ (fs = [] ∨ ∃ lm lh lp lk jc, fs = fsT lm lh lp lk jc) ∧
  ∀ (H' : Hp) (o : Own), TermsAt C H' p empty o → (∀ b, b ∈ o.W p → b = p ∨ H b = none) → Kp [p] H H' → Q .non H'
theorem fs_fresh {fs : List (Str × V)} (h : fs = [] ∨ ∃ lm lh lp lk jc, fs = fsT lm lh lp lk jc) (lm lh lp lk : Addr) :
    putF "marks" (.ref lk) (putF "parted" (.ref lp) (putF "join_count" (.int 0) (putF "heads" (.ref lh) (putF "made" (.ref lm) fs)))) = fsT lm lh lp lk 0 := by
  rcases h with rfl | ⟨a, b, c, d, e, rfl⟩
  · kernel_rfl
  · kernel_rfl
theorem fs_len {fs : List (Str × V)} (h : fs = [] ∨ ∃ lm lh lp lk jc, fs = fsT lm lh lp lk jc) : fs.length ≤ 5 := by
  rcases h with rfl | ⟨a, b, c, d, e, rfl⟩
  · exact Nat.zero_le _
  · exact Nat.le_refl _
section
variable {P : Program} {w : World} {K : PySem.W.Frag} {mg : Str → Option Value} {base : Heap}
theorem scForget : FnScope ["self"] ["self"] (defScope sForget) := ⟨rfl, rfl, rfl, by decide +kernel, rfl, by decide +kernel, by decide +kernel⟩
theorem ok_forget {f C : Addr} {fd : FuncData} (F : Fun K "forget_all" "Terms.forget_all" sForget f fd) (TC : TxtC K mg C) : FnOk P w K mg base CX0 1 f fd ["self"] (spForget C) := by
  refine F.ok scForget (fun vs H Q E h => ?_) (fun cdv A outer s H vs Q E hr h => ?_)
  · obtain ⟨p, dx, fs, rfl, _⟩ := h
    rfl
  · obtain ⟨p, dx, fs, rfl, hp, hfs, k⟩ := h
    have h5 := fs_len hfs
    refine ⟨_, pss_cons (ps_fld (pv 0) (pe_lst pa_nil) rfl) (pss_cons (ps_fld (pv 0) (pe_lst pa_nil) rfl) (pss_cons (ps_fld (pv 0) pe_int rfl) (pss_cons (ps_fld (pv 0) (pe_lst pa_nil) rfl) (pss_one (ps_fld (pv 0) (pe_lst pa_nil) rfl))))), ?_⟩
    have z0 : ([] : List V).length ≤ sizeLine := Nat.zero_le _
    refine ⟨z0, fun lm hlm => ?_⟩
    obtain ⟨k1, p1, l1, n1, q1⟩ := set_new (v := .ins C dx (putF "made" (.ref lm) fs)) hp hlm
    refine ⟨_, rfl, p, C, dx, _, rfl, q1, TC.cl, TC.nMade, (by omega), ?_⟩
    generalize upd (upd H lm (.lst [])) p (.ins C dx (putF "made" (.ref lm) fs)) = H1 at k1 p1 l1 ⊢
    have g1 := length_putF "made" (.ref lm) fs
    refine ⟨z0, fun lh hlh => ?_⟩
    obtain ⟨k2, p2, l2, n2, q2⟩ := set_new (v := .ins C dx (putF "heads" (.ref lh) (putF "made" (.ref lm) fs))) p1 hlh
    refine ⟨_, rfl, p, C, dx, _, rfl, q2, TC.cl, TC.nHeads, (by omega), ?_⟩
    generalize upd (upd H1 lh (.lst [])) p (.ins C dx (putF "heads" (.ref lh) (putF "made" (.ref lm) fs))) = H2 at k2 p2 l2 ⊢
    have g2 := length_putF "heads" (.ref lh) (putF "made" (.ref lm) fs)
    refine ⟨_, rfl, p, C, dx, _, rfl, p2, TC.cl, TC.nJc, (by omega), ?_⟩
    have k3 : Kp [p] H2 (upd H2 p (.ins C dx (putF "join_count" (.int 0) (putF "heads" (.ref lh) (putF "made" (.ref lm) fs))))) := Kp.upd (by simp)
    have p3 : upd H2 p (.ins C dx (putF "join_count" (.int 0) (putF "heads" (.ref lh) (putF "made" (.ref lm) fs)))) p = some (.ins C dx (putF "join_count" (.int 0) (putF "heads" (.ref lh) (putF "made" (.ref lm) fs)))) := upd_same
    generalize upd H2 p (.ins C dx (putF "join_count" (.int 0) (putF "heads" (.ref lh) (putF "made" (.ref lm) fs)))) = H3 at k3 p3 ⊢
    have g3 := length_putF "join_count" (.int 0) (putF "heads" (.ref lh) (putF "made" (.ref lm) fs))
    refine ⟨z0, fun lp hlp => ?_⟩
    obtain ⟨k4, p4, l4, n4, q4⟩ := set_new (v := .ins C dx (putF "parted" (.ref lp) (putF "join_count" (.int 0) (putF "heads" (.ref lh) (putF "made" (.ref lm) fs))))) p3 hlp
    refine ⟨_, rfl, p, C, dx, _, rfl, q4, TC.cl, TC.nParted, (by omega), ?_⟩
    generalize upd (upd H3 lp (.lst [])) p (.ins C dx (putF "parted" (.ref lp) (putF "join_count" (.int 0) (putF "heads" (.ref lh) (putF "made" (.ref lm) fs))))) = H4 at k4 p4 l4 ⊢
    have g4 := length_putF "parted" (.ref lp) (putF "join_count" (.int 0) (putF "heads" (.ref lh) (putF "made" (.ref lm) fs)))
    refine ⟨z0, fun lk hlk => ?_⟩
    obtain ⟨k5, p5, l5, n5, q5⟩ := set_new (v := .ins C dx (putF "marks" (.ref lk) (putF "parted" (.ref lp) (putF "join_count" (.int 0) (putF "heads" (.ref lh) (putF "made" (.ref lm) fs)))))) p4 hlk
    refine ⟨_, rfl, p, C, dx, _, rfl, q5, TC.cl, TC.nMarks, (by omega), ?_⟩
    generalize upd (upd H4 lk (.lst [])) p (.ins C dx (putF "marks" (.ref lk) (putF "parted" (.ref lp) (putF "join_count" (.int 0) (putF "heads" (.ref lh) (putF "made" (.ref lm) fs)))))) = H5 at k5 p5 l5 ⊢
    have np : ∀ {b : Addr}, b ≠ p → b ∉ [p] := fun h => by simpa using h
    have m2 := k2 _ _ l1 (np n1)
    have m3 := k3 _ _ m2 (np n1)
    have m4 := k4 _ _ m3 (np n1)
    have m5 := k5 _ _ m4 (np n1)
    have h3 := k3 _ _ l2 (np n2)
    have h4 := k4 _ _ h3 (np n2)
    have h5' := k5 _ _ h4 (np n2)
    have d5 := k5 _ _ l4 (np n4)
    have K2 := k1.trans k2
    have K3 := K2.trans k3
    have K4 := K3.trans k4
    have fh := Kp.free k1 p1 hlh
    have fp := Kp.free K3 p3 hlp
    have fk := Kp.free K4 p4 hlk
    rw [fs_fresh hfs] at p5
    refine k H5 ⟨lm, lh, lp, lk, [], []⟩ ⟨⟨dx, p5⟩, ⟨⟨[], m5, .nil⟩, h5', ⟨[], d5, .nil⟩⟩, l5, .nil, rfl, of_dist ⟨n5.symm, n1.symm, n2.symm, n4.symm, (ne_of_none m4 hlk).symm, (ne_of_none h4 hlk).symm, (ne_of_none l4 hlk).symm, ne_of_none l1 hlh, ne_of_none m3 hlp, ne_of_none h3 hlp, fun b hb => by simp at hb, by simp⟩, good_empty⟩ (fun b hb => ?_) (K4.trans k5)
    simp only [Own.W, List.mem_cons, List.flatMap_nil, List.not_mem_nil, or_false] at hb
    rcases hb with rfl | rfl | rfl | rfl | rfl
    · exact .inl rfl
    · exact .inr fk
    · exact .inr hlm
    · exact .inr fh
    · exact .inr fp
theorem scInit : FnScope ["self"] ["self"] (defScope sInit) := ⟨rfl, rfl, rfl, by decide +kernel, rfl, by decide +kernel, by decide +kernel⟩
def spInit (C : Addr) : Sp := fun vs H Q _ => ∃ (p dx : Addr), vs = [.ref p] ∧ H p = some (.ins C dx []) ∧ ∀ (H' : Hp) (o : Own), TermsAt C H' p empty o → (∀ b, b ∈ o.W p → b = p ∨ H b = none) → Kp [p] H H' → Q .non H'
theorem ok_init {f C f1 : Addr} {fd fd1 : FuncData} (F : Fun K "__init__" "Terms.__init__" sInit f fd) (TC : TxtC K mg C) (C1 : CalM P w K mg base C "forget_all" ["self"] 1 (spForget C) f1 fd1) : FnOk P w K mg base CX0 2 f fd ["self"] (spInit C) := by
  refine F.ok scInit (fun vs H Q E h => ?_) (fun cdv A outer s H vs Q E hr h => ?_)
  · obtain ⟨p, dx, rfl, _⟩ := h
    rfl
  · obtain ⟨p, dx, rfl, hp, k⟩ := h
    refine ⟨_, pss_one (ps_expr (pe_meth0 (pv 0) TC.cl C1.mt C1.ok hr C1.b .nil pass0)), ?_⟩
    exact ⟨_, rfl, p, dx, _, rfl, hp, rfl, p, dx, [], rfl, hp, .inl rfl, fun H' o T f kp => k H' o T f kp⟩
/-! the answers -/
def spAns (C : Addr) (num : Int) (n : Nat) : Sp := fun vs H Q _ => ∃ (p : Addr) (s : Abs) (o : Own) (gs : List Int), vs = .ref p :: gs.map V.int ∧ gs.length = n ∧ TermsAt C H p s o ∧ Sc13Neutral.asked1 [num :: gs] = true ∧
  ∀ (v : Int) (H' : Hp), (Sc13Neutral.step s [num :: gs]).2 = [v] → Stp C H p o (Sc13Neutral.step s [num :: gs]).1 H' → Q (.int v) H'
theorem fin {C p : Addr} {H H' : Hp} {o : Own} {s s' : Abs} {c : List Int} {Q : VK} {v : Int} (k : ∀ (v : Int) (H' : Hp), (Sc13Neutral.step s [c]).2 = [v] → Stp C H p o (Sc13Neutral.step s [c]).1 H' → Q (.int v) H')
    (e : Sc13Neutral.step s [c] = (s', [v])) (st : Stp C H p o s' H') : Q (.int v) H' := k v H' (by rw [e]) (by rw [e]; exact st)
theorem args0 {gs : List Int} (h : gs.length = 0) : gs = [] := List.length_eq_zero_iff.mp h
theorem args1 {gs : List Int} (h : gs.length = 1) : ∃ a, gs = [a] := List.length_eq_one_iff.mp h
theorem args2 {gs : List Int} (h : gs.length = 2) : ∃ a b, gs = [a, b] := match gs, h with | [a, b], _ => ⟨a, b, rfl⟩
theorem args3 {gs : List Int} (h : gs.length = 3) : ∃ a b c, gs = [a, b, c] := match gs, h with | [a, b, c], _ => ⟨a, b, c, rfl⟩
theorem scAInit : FnScope ["self"] ["self"] (defScope sAInit) := ⟨rfl, rfl, rfl, by decide +kernel, rfl, by decide +kernel, by decide +kernel⟩
theorem ok_aInit {f C f1 : Addr} {fd fd1 : FuncData} (F : Fun K "answer_init" "Terms.answer_init" sAInit f fd) (TC : TxtC K mg C) (C1 : CalM P w K mg base C "forget_all" ["self"] 1 (spForget C) f1 fd1) : FnOk P w K mg base CX0 2 f fd ["self"] (spAns C 0 0) := by
  refine F.ok scAInit (fun vs H Q E h => ?_) (fun cdv A outer s H vs Q E hr h => ?_)
  · obtain ⟨p, s, o, gs, rfl, hg, _⟩ := h
    rw [List.length_cons, List.length_map, hg]; rfl
  · obtain ⟨p, s, o, gs, rfl, hg, T, _, k⟩ := h
    obtain rfl := args0 hg
    obtain ⟨dx, hob⟩ := T.ob
    obtain ⟨td, hd⟩ := TC.done
    refine ⟨_, pss_cons (ps_expr (pe_meth0 (pv 0) TC.cl C1.mt C1.ok hr C1.b .nil pass0)) (pss_one (ps_ret (pe_glob (v := .int 0) rfl hd ⟨_, rfl⟩))), ?_⟩
    refine ⟨_, rfl, p, dx, _, rfl, hob, fs_no _ _ _ _ _ (by decide +kernel), p, dx, _, rfl, hob, .inr ⟨_, _, _, _, _, rfl⟩, fun H' o' T' f kp => ?_⟩
    refine fin k st_init ⟨o', T', fun b hb => ?_, kp.mono fun b hb => ?_⟩
    · rcases f b hb with rfl | h
      · exact .inl (by simp [Own.W])
      · exact .inr h
    · simp only [List.mem_singleton] at hb
      rw [hb]; simp [Own.W]
end
end Eqt

namespace Eqt
open PySem L2 Sc13 Eqm Eqp
theorem paired_snoc {α β : Type} {F : α → β → Prop} {a : α} {b : β} (h : F a b) : ∀ {l₁ : List α} {l₂ : List β}, Paired F l₁ l₂ → Paired F (l₁ ++ [a]) (l₂ ++ [b])
  | _, _, .nil => .cons h .nil
  | _, _, .cons r t => .cons r (paired_snoc h t)
/-! make -/
def spMake (C : Addr) : Sp := fun vs H Q _ => ∃ (p a : Addr) (s : Abs) (o : Own) (t : Term), vs = [.ref p, .ref a] ∧ TermsAt C H p s o ∧ TpI H a (tvI t) ∧ TermOk s.now.terms.length t ∧ s.now.terms.length < 512 ∧
  ∀ H' : Hp, Stp C H p o (s.put (addT s.now t)) H' → Q (.int (s.now.terms.length : Int)) H'
theorem made_state {C p a : Addr} {H H1 : Hp} {s : Abs} {o : Own} {t : Term} {as : List Addr} (T : TermsAt C H p s o) (s1 : Same H H1) (hml : H o.lm = some (.lst (as.map V.ref))) (htis : TpIs H as (s.now.terms.map tvI)) (ha : TpI H a (tvI t))
    (ht : TermOk s.now.terms.length t) (hlt : s.now.terms.length < 512) : Stp C H p o (s.put (addT s.now t)) (upd (upd H1 o.lm (.lst (as.map V.ref ++ [.ref a]))) o.lh (.lst (hv (Sc13Neutral.classes s.now) ++ [.int ((headT s.now (Sc13Neutral.classes s.now) t : Nat) : Int)]))) := by
  have d := dist_of T.nd
  have T1 := T.same s1
  have sub : ∀ b, b ∈ [o.lm, o.lh] → b ∈ o.W p := fun b hb => by
    simp only [List.mem_cons, List.not_mem_nil, or_false] at hb
    rcases hb with rfl | rfl <;> simp [Own.W]
  have nt := T1.nt sub
  have kp : Kp [o.lm, o.lh] H1 (upd (upd H1 o.lm (.lst (as.map V.ref ++ [.ref a]))) o.lh (.lst (hv (Sc13Neutral.classes s.now) ++ [.int ((headT s.now (Sc13Neutral.classes s.now) t : Nat) : Int)]))) := Kp.trans (Kp.upd (by simp)) (Kp.upd (by simp))
  generalize hH2 : upd (upd H1 o.lm (.lst (as.map V.ref ++ [.ref a]))) o.lh (.lst (hv (Sc13Neutral.classes s.now) ++ [.int ((headT s.now (Sc13Neutral.classes s.now) t : Nat) : Int)])) = H2 at kp
  have out : ∀ {b : Addr}, b ≠ o.lm → b ≠ o.lh → b ∉ [o.lm, o.lh] := fun h1 h2 => by simp [h1, h2]
  obtain ⟨dx, hob⟩ := T1.ob
  obtain ⟨bs, p1, p2⟩ := T1.now.parted
  refine ⟨o, ⟨⟨dx, kp _ _ hob (out d.pm d.ph)⟩, ⟨⟨as ++ [a], ?_, ?_⟩, ?_, ⟨bs, kp _ _ p1 (out d.md.symm d.hd.symm), TpIs.keep kp nt p2⟩⟩, kp _ _ T1.lst (out d.km d.kh), marks_keep T1.mks kp nt fun b hb => out (d.r b hb).2.2.1 (d.r b hb).2.2.2.1, T.rev, T.nd, T.good.put (T.good.now.addT ht hlt)⟩, fun b hb => .inl hb, (Kp.same s1).trans (kp.mono sub)⟩
  · rw [← hH2, upd_ne d.mh, upd_same, List.map_append]
    rfl
  · show TpIs H2 (as ++ [a]) ((s.now.terms ++ [t]).map tvI)
    rw [List.map_append]
    exact paired_snoc (TpI.keep kp nt (s1 _ _ ha)) (TpIs.keep kp nt (Same.tis s1 htis))
  · show H2 o.lh = some (.lst (hv (Sc13Neutral.classes (addT s.now t))))
    rw [classes_addT T.good.now ht, hv_snoc, ← hH2, upd_same]
section
variable {P : Program} {w : World} {K : PySem.W.Frag} {mg : Str → Option Value} {base : Heap}
theorem scMake : FnScope ["self", "term", "number", "head"] ["self", "term"] (defScope sMake) := ⟨rfl, rfl, rfl, by decide +kernel, rfl, by decide +kernel, by decide +kernel⟩
theorem ok_make {f C f1 : Addr} {fd fd1 : FuncData} (F : Fun K "make" "Terms.make" sMake f fd) (T : Txt mg) (TC : TxtC K mg C) (C1 : Cal P w K mg base "head_by_parts" ["made", "heads", "term"] 3 spHbp f1 fd1) : FnOk P w K mg base CX0 4 f fd ["self", "term"] (spMake C) := by
  refine F.ok scMake (fun vs H Q E h => ?_) (fun cdv A outer s H vs Q E hr h => ?_)
  · obtain ⟨p, a, s, o, t, rfl, _⟩ := h
    rfl
  · obtain ⟨p, a, s, o, t, rfl, hT, ha, ht, hlt, k⟩ := h
    obtain ⟨dx, hob⟩ := hT.ob
    obtain ⟨as, hml, htis⟩ := hT.now.made
    obtain ⟨tn, hn⟩ := T.non
    have hal := tis_len htis
    have hcl := hT.hl
    have big : (1000 : Nat) < sizeLine := by decide
    have d := dist_of hT.nd
    refine ⟨_, pss_cons (ps_set (i := 2) scMake.nd rfl (Or.inl rfl) (pe_callB call_len_seq (by rfl) T.len PySem.boot_len (pa_cons (pe_fld (pv 0) rfl) pa_nil)))
      (pss_cons (ps_set (i := 3) scMake.nd rfl (Or.inl rfl) (pe_call C1.ok hr rfl C1.at_ C1.kp C1.b .nil pass0 (pa_cons (pe_fld (pv 0) rfl) (pa_cons (pe_fld (pv 0) rfl) (pa_cons (pv 1) pa_nil)))))
      (pss_cons (ps_expr (pe_bm PySem.F.plainAttrs_list PySem.F.slot_list_append PySem.F.type_list_append mt_append (pe_fld (pv 0) rfl) (pa_cons (pv 1) pa_nil)))
      (pss_cons (ps_expr (pe_bm PySem.F.plainAttrs_list PySem.F.slot_list_append PySem.F.type_list_append mt_append (pe_fld (pv 0) rfl) (pa_cons (pe_ifExp (pt_cmpR op_eq (pv 3) (pe_glob (v := .int (-1)) rfl hn ⟨_, rfl⟩) (nomark _)) (pv 2) (pv 3)) pa_nil)))
      (pss_one (ps_ret (pv 2)))))), ?_⟩
    refine ⟨_, rfl, p, C, dx, _, _, rfl, hob, TC.cl, TC.nMade, fs_made _ _ _ _ _, o.lm, _, rfl, .inl (SqL.of hml), ?_⟩
    refine ⟨_, rfl, p, C, dx, _, _, rfl, hob, TC.cl, TC.nMade, fs_made _ _ _ _ _, _, rfl, p, C, dx, _, _, rfl, hob, TC.cl, TC.nHeads, fs_heads _ _ _ _ _, _, rfl, o.lm, o.lh, a, s.now.terms, Sc13Neutral.classes s.now, t, rfl, ⟨as, hml, htis⟩, hT.now.heads, ha, hcl, by rw [hcl]; exact termOk_of hT.good.now.wf, by rw [hcl]; exact ht, by omega, fun H1 s1 => ?_⟩
    have hob1 := s1 _ _ hob
    have hml1 := s1 _ _ hml
    have hh1 : H1 o.lh = some (.lst (hv (Sc13Neutral.classes s.now))) := s1 _ _ hT.now.heads
    refine ⟨_, rfl, p, C, dx, _, _, rfl, hob1, TC.cl, TC.nMade, fs_made _ _ _ _ _, .inl ⟨rfl, _, SqL.of hml1⟩, _, rfl, o.lm, _, _, rfl, rfl, hml1, by rw [List.length_map, hal]; omega, ?_⟩
    have hob2 : upd H1 o.lm (.lst (as.map V.ref ++ [.ref a])) p = _ := (upd_ne d.pm).trans hob1
    have hh2 : upd H1 o.lm (.lst (as.map V.ref ++ [.ref a])) o.lh = _ := (upd_ne d.mh.symm).trans hh1
    refine ⟨_, rfl, p, C, dx, _, _, rfl, hob2, TC.cl, TC.nHeads, fs_heads _ _ _ _ _, .inl ⟨rfl, _, SqL.of hh2⟩, _, rfl, rfl, _, rfl, ?_⟩
    have st := made_state hT s1 hml htis ha ht hlt
    have kk := k _ st
    have en : (((as.map V.ref).length : Nat) : Int) = (s.now.terms.length : Int) := by rw [List.length_map, hal]
    rw [dec_int]
    cases e : hbp s.now.terms (Sc13Neutral.classes s.now) t with
    | none =>
      have eh : headT s.now (Sc13Neutral.classes s.now) t = s.now.terms.length := by unfold headT; rw [e]; rfl
      rw [eh] at kk
      refine ite2 (fun _ => ?_) (fun hc => absurd (decide_eq_true rfl) hc)
      refine ⟨_, rfl, o.lh, _, _, rfl, rfl, hh2, by rw [hv_len, hcl]; omega, _, rfl, ?_⟩
      rw [en]
      exact kk
    | some c =>
      have eh : headT s.now (Sc13Neutral.classes s.now) t = c := by unfold headT; rw [e]; rfl
      rw [eh] at kk
      refine ite2 (fun hc => ?_) (fun _ => ?_)
      · exfalso
        have z := of_decide_eq_true hc
        simp only [pI] at z
        omega
      · refine ⟨_, rfl, o.lh, _, _, rfl, rfl, hh2, by rw [hv_len, hcl]; omega, _, rfl, ?_⟩
        rw [en]
        exact kk
/-! answer_find -/
theorem natural_of {f : Int} (h : Sc13Neutral.natural f 32 = true) : 0 ≤ f := by
  unfold Sc13Neutral.natural at h
  rw [Bool.and_eq_true] at h
  exact of_decide_eq_true h.1
theorem tup_len3 : ([V.int 0, V.int 0, V.int 0] : List V).length ≤ sizeLine := by show 3 ≤ sizeLine; decide
theorem scAFind : FnScope ["self", "sign", "x", "y"] ["self", "sign", "x", "y"] (defScope sAFind) := ⟨rfl, rfl, rfl, by decide +kernel, rfl, by decide +kernel, by decide +kernel⟩
theorem ok_aFind {f C f1 f2 : Addr} {fd fd1 fd2 : FuncData} (F : Fun K "answer_find" "Terms.answer_find" sAFind f fd) (T : Txt mg) (TC : TxtC K mg C) (C1 : CalM P w K mg base C "are_parts" ["self", "x", "y"] 2 (spAreParts C) f1 fd1) (C2 : Cal P w K mg base "head_by_parts" ["made", "heads", "term"] 3 spHbp f2 fd2) : FnOk P w K mg base CX0 4 f fd ["self", "sign", "x", "y"] (spAns C 2 3) := by
  refine F.ok scAFind (fun vs H Q E h => ?_) (fun cdv A outer s H vs Q E hr h => ?_)
  · obtain ⟨p, s, o, gs, rfl, hg, _⟩ := h
    rw [List.length_cons, List.length_map, hg]; rfl
  · obtain ⟨p, s, o, gs, rfl, hg, hT, hask, k⟩ := h
    obtain ⟨sg, x, y, rfl⟩ := args3 hg
    obtain ⟨dx, hob⟩ := hT.ob
    obtain ⟨tr, hrf⟩ := TC.refused
    have hr2 : Room 2 _ := hr.mono (by decide)
    have hcl := hT.hl
    have htl := hT.tl
    have hsg : 0 ≤ sg := by
      have h : (Sc13Neutral.natural sg 32 && (Sc13Neutral.whole x 32 && Sc13Neutral.whole y 32)) = true := hask
      rw [Bool.and_eq_true] at h
      exact natural_of h.1
    refine ⟨_, pss_cons (ps_if (pt_not (pt_val (pe_meth (pv 0) TC.cl C1.mt C1.ok hr2 C1.b .nil pass0 (pa_cons (pv 2) (pa_cons (pv 3) pa_nil))))) (pss_one (ps_ret (pe_glob (v := .int (-2)) rfl hrf ⟨_, rfl⟩))) pss_nil)
      (pss_one (ps_ret (pe_call C2.ok hr rfl C2.at_ C2.kp C2.b .nil pass0 (pa_cons (pe_fld (pv 0) rfl) (pa_cons (pe_fld (pv 0) rfl) (pa_cons (pe_tup (pa_cons (pv 1) (pa_cons (pv 2) (pa_cons (pv 3) pa_nil)))) pa_nil)))))), ?_⟩
    refine ⟨_, rfl, p, dx, _, rfl, hob, fs_no _ _ _ _ _ (by decide +kernel), _, rfl, _, rfl, p, x, y, s, o, rfl, hT, _, rfl, ?_⟩
    cases e : s.now.fine x y with
    | false => exact iteT (fin k (st_find_ref e) hT.stay)
    | true =>
      refine iteF ?_
      refine ⟨_, rfl, p, C, dx, _, _, rfl, hob, TC.cl, TC.nMade, fs_made _ _ _ _ _, _, rfl, p, C, dx, _, _, rfl, hob, TC.cl, TC.nHeads, fs_heads _ _ _ _ _, _, rfl, _, rfl, _, rfl, tup_len3, fun q hq => ?_⟩
      have s1 : Same H (upd H q (.tup [.int sg, .int x, .int y])) := Same.upd hq
      have hq1 : TpI (upd H q (.tup [.int sg, .int x, .int y])) q (tvI (termOf sg.toNat x y)) := by
        rw [tvI_termOf hsg e]
        exact upd_same
      have T1 := hT.same s1
      generalize upd H q (.tup [.int sg, .int x, .int y]) = H1 at s1 hq1 T1 ⊢
      refine ⟨o.lm, o.lh, q, s.now.terms, Sc13Neutral.classes s.now, termOf sg.toNat x y, rfl, T1.now.made, T1.now.heads, hq1, hcl, by rw [hcl]; exact termOk_of hT.good.now.wf, by rw [hcl]; exact fine_ok e, by omega, fun H2 s2 => ?_⟩
      exact fin k (step_find hT.good.now e) (hT.stp (s1.trans s2))
end
end Eqt

namespace Eqt
open PySem L2 Sc13 Eqm Eqp
section
variable {P : Program} {w : World} {K : PySem.W.Frag} {mg : Str → Option Value} {base : Heap}
/-! answer_term -/
theorem scATerm : FnScope ["self", "sign", "x", "y", "term"] ["self", "sign", "x", "y"] (defScope sATerm) := ⟨rfl, rfl, rfl, by decide +kernel, rfl, by decide +kernel, by decide +kernel⟩
theorem Stp.from {C p : Addr} {H H1 H2 : Hp} {o : Own} {s : Abs} (s1 : Same H H1) (h : Stp C H1 p o s H2) : Stp C H p o s H2 := by
  obtain ⟨o', T, f, k⟩ := h
  exact ⟨o', T, fun b hb => (f b hb).imp id s1.free, (Kp.same s1).trans k⟩
theorem ok_aTerm {f C f1 f2 : Addr} {fd fd1 fd2 : FuncData} (F : Fun K "answer_term" "Terms.answer_term" sATerm f fd) (T : Txt mg) (TC : TxtC K mg C) (C1 : CalM P w K mg base C "are_parts" ["self", "x", "y"] 2 (spAreParts C) f1 fd1) (C2 : CalM P w K mg base C "make" ["self", "term"] 4 (spMake C) f2 fd2) : FnOk P w K mg base CX0 5 f fd ["self", "sign", "x", "y"] (spAns C 1 3) := by
  refine F.ok scATerm (fun vs H Q E h => ?_) (fun cdv A outer s H vs Q E hr h => ?_)
  · obtain ⟨p, s, o, gs, rfl, hg, _⟩ := h
    rw [List.length_cons, List.length_map, hg]; rfl
  · obtain ⟨p, s, o, gs, rfl, hg, hT, hask, k⟩ := h
    obtain ⟨sg, x, y, rfl⟩ := args3 hg
    obtain ⟨dx, hob⟩ := hT.ob
    obtain ⟨tr, hrf⟩ := TC.refused
    obtain ⟨tm, hmt⟩ := TC.mostT
    have hr2 : Room 2 _ := hr.mono (by decide)
    have hcl := hT.hl
    have htl := hT.tl
    have hsg : 0 ≤ sg := by
      have h : (Sc13Neutral.natural sg 32 && (Sc13Neutral.whole x 32 && Sc13Neutral.whole y 32)) = true := hask
      rw [Bool.and_eq_true] at h
      exact natural_of h.1
    refine ⟨_, pss_cons (ps_if (pt_not (pt_val (pe_meth (pv 0) TC.cl C1.mt C1.ok hr2 C1.b .nil pass0 (pa_cons (pv 2) (pa_cons (pv 3) pa_nil))))) (pss_one (ps_ret (pe_glob (v := .int (-2)) rfl hrf ⟨_, rfl⟩))) pss_nil)
      (pss_cons (ps_set (i := 4) scATerm.nd rfl (Or.inl rfl) (pe_tup (pa_cons (pv 1) (pa_cons (pv 2) (pa_cons (pv 3) pa_nil)))))
      (pss_cons (ps_if (pt_cmpR (op_inTI hr.units) (pv 4) (pe_fld (pv 0) rfl) (by rfl)) (pss_one (ps_ret (pe_bm PySem.F.plainAttrs_list PySem.F.slot_list_index PySem.F.type_list_index (mt_indexTI hr.units) (pe_fld (pv 0) rfl) (pa_cons (pv 4) pa_nil)))) pss_nil)
      (pss_cons (ps_if (pt_cmpR op_ge (pe_callB call_len_seq (by rfl) T.len PySem.boot_len (pa_cons (pe_fld (pv 0) rfl) pa_nil)) (pe_glob (v := .int 512) rfl hmt ⟨_, rfl⟩) (nomark _)) (pss_one (ps_ret (pe_glob (v := .int (-2)) rfl hrf ⟨_, rfl⟩))) pss_nil)
      (pss_one (ps_ret (pe_meth (pv 0) TC.cl C2.mt C2.ok hr C2.b .nil pass0 (pa_cons (pv 4) pa_nil))))))), ?_⟩
    refine ⟨_, rfl, p, dx, _, rfl, hob, fs_no _ _ _ _ _ (by decide +kernel), _, rfl, _, rfl, p, x, y, s, o, rfl, hT, _, rfl, ?_⟩
    cases e : s.now.fine x y with
    | false => exact iteT (fin k (st_term_ref e) hT.stay)
    | true =>
      refine iteF ?_
      refine ⟨_, rfl, _, rfl, _, rfl, tup_len3, fun q hq => ?_⟩
      have s1 : Same H (upd H q (.tup [.int sg, .int x, .int y])) := Same.upd hq
      have hq1 : TpI (upd H q (.tup [.int sg, .int x, .int y])) q (tvI (termOf sg.toNat x y)) := by
        rw [tvI_termOf hsg e]
        exact upd_same
      have T1 := hT.same s1
      generalize upd H q (.tup [.int sg, .int x, .int y]) = H1 at s1 hq1 T1 ⊢
      obtain ⟨as, hml, htis⟩ := T1.now.made
      have hal := tis_len htis
      have hob1 := s1 _ _ hob
      refine ⟨_, rfl, _, rfl, p, C, dx, _, _, rfl, hob1, TC.cl, TC.nMade, fs_made _ _ _ _ _, q, _, o.lm, as, _, rfl, rfl, hq1, .inl (SqL.of hml), htis, _, rfl, ?_⟩
      rw [find_there]
      cases ei : s.now.terms.findIdx? (fun u => u == termOf sg.toNat x y) with
      | some i =>
        obtain ⟨e1, e2⟩ := find_at ei
        refine iteT ⟨_, rfl, p, C, dx, _, _, rfl, hob1, TC.cl, TC.nMade, fs_made _ _ _ _ _, .inl ⟨rfl, _, SqL.of hml⟩, _, rfl, o.lm, as, _, q, _, i, rfl, rfl, SqL.of hml, htis, hq1, e1, e2, ?_⟩
        exact fin k (st_term_there e ei) (hT.stp s1)
      | none =>
        refine iteF ⟨_, rfl, p, C, dx, _, _, rfl, hob1, TC.cl, TC.nMade, fs_made _ _ _ _ _, o.lm, _, rfl, .inl (SqL.of hml), _, _, rfl, rfl, _, rfl, ?_⟩
        rw [List.length_map, hal]
        by_cases hl : 512 ≤ s.now.terms.length
        · refine ite2 (fun _ => fin k (st_term_full e ei hl) (hT.stp s1)) (fun hc => absurd (decide_eq_true (by omega)) hc)
        · refine ite2 (fun hc => absurd (of_decide_eq_true hc) (by omega)) (fun _ => ?_)
          refine ⟨_, rfl, p, dx, _, rfl, hob1, fs_no _ _ _ _ _ (by decide +kernel), _, rfl, p, q, s, o, termOf sg.toNat x y, rfl, T1, hq1, fine_ok e, by omega, fun H2 st => ?_⟩
          exact fin k (st_term_made e ei hl) (st.from s1)
/-! answer_head, equal_to, answer_size, answer_list -/
theorem scAHead : FnScope ["self", "a"] ["self", "a"] (defScope sAHead) := ⟨rfl, rfl, rfl, by decide +kernel, rfl, by decide +kernel, by decide +kernel⟩
theorem ok_aHead {f C f1 : Addr} {fd fd1 : FuncData} (F : Fun K "answer_head" "Terms.answer_head" sAHead f fd) (TC : TxtC K mg C) (C1 : CalM P w K mg base C "has" ["self", "number"] 1 (spHas C) f1 fd1) : FnOk P w K mg base CX0 2 f fd ["self", "a"] (spAns C 6 1) := by
  refine F.ok scAHead (fun vs H Q E h => ?_) (fun cdv A outer s H vs Q E hr h => ?_)
  · obtain ⟨p, s, o, gs, rfl, hg, _⟩ := h
    rw [List.length_cons, List.length_map, hg]; rfl
  · obtain ⟨p, s, o, gs, rfl, hg, hT, hask, k⟩ := h
    obtain ⟨a, rfl⟩ := args1 hg
    obtain ⟨dx, hob⟩ := hT.ob
    obtain ⟨tr, hrf⟩ := TC.refused
    have hcl := hT.hl
    refine ⟨_, pss_cons (ps_if (pt_not (pt_val (pe_meth (pv 0) TC.cl C1.mt C1.ok hr C1.b .nil pass0 (pa_cons (pv 1) pa_nil)))) (pss_one (ps_ret (pe_glob (v := .int (-2)) rfl hrf ⟨_, rfl⟩))) pss_nil)
      (pss_one (ps_ret (pe_ix ix_list (pe_fld (pv 0) rfl) (pv 1) (fun _ _ => rfl)))), ?_⟩
    refine ⟨_, rfl, p, dx, _, rfl, hob, fs_no _ _ _ _ _ (by decide +kernel), _, rfl, p, a, s, o, rfl, hT, _, rfl, ?_⟩
    cases e : s.now.has a with
    | false => exact iteT (fin k (st_head_ref e) hT.stay)
    | true =>
      obtain ⟨j, rfl, hj⟩ := has_nat e
      refine iteF ⟨_, rfl, p, C, dx, _, _, rfl, hob, TC.cl, TC.nHeads, fs_heads _ _ _ _ _, _, rfl, o.lh, _, _, _, rfl, rfl, SqL.of hT.now.heads, at_of (j := j) rfl (hv_get (by omega)), ?_⟩
      exact fin k (st_head e) hT.stay
theorem scEqTo : FnScope ["self", "a"] ["self", "a"] (defScope sEqTo) := ⟨rfl, rfl, rfl, by decide +kernel, rfl, by decide +kernel, by decide +kernel⟩
def spEqTo (C : Addr) : Sp := fun vs H Q _ => ∃ (p : Addr) (a : Int) (s : Abs) (o : Own), vs = [.ref p, .int a] ∧ TermsAt C H p s o ∧ s.now.has a = true ∧
  ∀ (H' : Hp) (d : Addr), Same H H' → H d = none → HeadsAt H' d (mem_ s a) → Q (.ref d) H'
theorem members_mem {s : Abs} {a : Nat} (hl : (Sc13Neutral.classes s.now).length = s.now.terms.length) : members (Sc13Neutral.classes s.now) ((Sc13Neutral.classes s.now).getD a 0) (Sc13Neutral.classes s.now).length = mem_ s (a : Int) := by
  unfold members mem_
  rw [hl]
  rfl
theorem ok_eqTo {f C f1 : Addr} {fd fd1 : FuncData} (F : Fun K "equal_to" "Terms.equal_to" sEqTo f fd) (TC : TxtC K mg C) (C1 : Cal P w K mg base "numbers_with_head" ["heads", "head"] 1 spNwh f1 fd1) : FnOk P w K mg base CX0 2 f fd ["self", "a"] (spEqTo C) := by
  refine F.ok scEqTo (fun vs H Q E h => ?_) (fun cdv A outer s H vs Q E hr h => ?_)
  · obtain ⟨p, a, s, o, rfl, _⟩ := h
    rfl
  · obtain ⟨p, a, s, o, rfl, hT, e, k⟩ := h
    obtain ⟨dx, hob⟩ := hT.ob
    obtain ⟨j, rfl, hj⟩ := has_nat e
    have hcl := hT.hl
    have htl := hT.tl
    refine ⟨_, pss_one (ps_ret (pe_call C1.ok hr rfl C1.at_ C1.kp C1.b .nil pass0 (pa_cons (pe_fld (pv 0) rfl) (pa_cons (pe_ix ix_list (pe_fld (pv 0) rfl) (pv 1) (fun _ _ => rfl)) pa_nil)))), ?_⟩
    refine ⟨_, rfl, p, C, dx, _, _, rfl, hob, TC.cl, TC.nHeads, fs_heads _ _ _ _ _, _, rfl, p, C, dx, _, _, rfl, hob, TC.cl, TC.nHeads, fs_heads _ _ _ _ _, _, rfl, o.lh, _, _, _, rfl, rfl, SqL.of hT.now.heads, at_of (j := j) rfl (hv_get (by omega)),
      o.lh, Sc13Neutral.classes s.now, _, rfl, hT.now.heads, by omega, fun H' d s1 fr hd => k H' d s1 fr (by rw [← members_mem hcl]; exact hd)⟩
theorem scASize : FnScope ["self", "a"] ["self", "a"] (defScope sASize) := ⟨rfl, rfl, rfl, by decide +kernel, rfl, by decide +kernel, by decide +kernel⟩
theorem ok_aSize {f C f1 f2 : Addr} {fd fd1 fd2 : FuncData} (F : Fun K "answer_size" "Terms.answer_size" sASize f fd) (T : Txt mg) (TC : TxtC K mg C) (C1 : CalM P w K mg base C "has" ["self", "number"] 1 (spHas C) f1 fd1) (C2 : CalM P w K mg base C "equal_to" ["self", "a"] 2 (spEqTo C) f2 fd2) : FnOk P w K mg base CX0 3 f fd ["self", "a"] (spAns C 7 1) := by
  refine F.ok scASize (fun vs H Q E h => ?_) (fun cdv A outer s H vs Q E hr h => ?_)
  · obtain ⟨p, s, o, gs, rfl, hg, _⟩ := h
    rw [List.length_cons, List.length_map, hg]; rfl
  · obtain ⟨p, s, o, gs, rfl, hg, hT, hask, k⟩ := h
    obtain ⟨a, rfl⟩ := args1 hg
    obtain ⟨dx, hob⟩ := hT.ob
    obtain ⟨tr, hrf⟩ := TC.refused
    have hr1 : Room 1 _ := hr.mono (by decide)
    refine ⟨_, pss_cons (ps_if (pt_not (pt_val (pe_meth (pv 0) TC.cl C1.mt C1.ok hr1 C1.b .nil pass0 (pa_cons (pv 1) pa_nil)))) (pss_one (ps_ret (pe_glob (v := .int (-2)) rfl hrf ⟨_, rfl⟩))) pss_nil)
      (pss_one (ps_ret (pe_callB call_len_seq (by rfl) T.len PySem.boot_len (pa_cons (pe_meth (pv 0) TC.cl C2.mt C2.ok hr C2.b .nil pass0 (pa_cons (pv 1) pa_nil)) pa_nil)))), ?_⟩
    refine ⟨_, rfl, p, dx, _, rfl, hob, fs_no _ _ _ _ _ (by decide +kernel), _, rfl, p, a, s, o, rfl, hT, _, rfl, ?_⟩
    cases e : s.now.has a with
    | false => exact iteT (fin k (st_size_ref e) hT.stay)
    | true =>
      refine iteF ⟨_, rfl, p, dx, _, rfl, hob, fs_no _ _ _ _ _ (by decide +kernel), _, rfl, p, a, s, o, rfl, hT, e, fun H1 d s1 _ hd => ⟨d, _, rfl, .inl (SqL.of hd), ?_⟩⟩
      rw [hv_len]
      exact fin k (st_size e) (hT.stp s1)
/-- list answers a list -/
def spLst (C : Addr) : Sp := fun vs H Q _ => ∃ (p : Addr) (s : Abs) (o : Own) (a : Int), vs = [.ref p, .int a] ∧ TermsAt C H p s o ∧
  ∀ (d : Addr) (H' : Hp), H' d = some (.lst ((Sc13Neutral.step s [[9, a]]).2.map V.int)) → H d = none → Stp C H p o (Sc13Neutral.step s [[9, a]]).1 H' → Q (.ref d) H'
theorem finL {C p : Addr} {H H' : Hp} {o : Own} {s s' : Abs} {c : List Int} {Q : VK} {vs : List Int} {d : Addr} (k : ∀ (d : Addr) (H' : Hp), H' d = some (.lst ((Sc13Neutral.step s [c]).2.map V.int)) → H d = none → Stp C H p o (Sc13Neutral.step s [c]).1 H' → Q (.ref d) H')
    (e : Sc13Neutral.step s [c] = (s', vs)) (hd : H' d = some (.lst (vs.map V.int))) (fr : H d = none) (st : Stp C H p o s' H') : Q (.ref d) H' := k d H' (by rw [e]; exact hd) fr (by rw [e]; exact st)
theorem scAList : FnScope ["self", "a", "equal"] ["self", "a"] (defScope sAList) := ⟨rfl, rfl, rfl, by decide +kernel, rfl, by decide +kernel, by decide +kernel⟩
theorem ok_aList {f C f1 f2 : Addr} {fd fd1 fd2 : FuncData} (F : Fun K "answer_list" "Terms.answer_list" sAList f fd) (T : Txt mg) (TC : TxtC K mg C) (C1 : CalM P w K mg base C "has" ["self", "number"] 1 (spHas C) f1 fd1) (C2 : CalM P w K mg base C "equal_to" ["self", "a"] 2 (spEqTo C) f2 fd2) : FnOk P w K mg base CX0 3 f fd ["self", "a"] (spLst C) := by
  refine F.ok scAList (fun vs H Q E h => ?_) (fun cdv A outer s H vs Q E hr h => ?_)
  · obtain ⟨p, s, o, a, rfl, _⟩ := h
    rfl
  · obtain ⟨p, s, o, a, rfl, hT, k⟩ := h
    obtain ⟨dx, hob⟩ := hT.ob
    obtain ⟨tr, hrf⟩ := TC.refused
    have hr1 : Room 1 _ := hr.mono (by decide)
    have one : ([V.int 0] : List V).length ≤ sizeLine := by show 1 ≤ sizeLine; decide
    refine ⟨_, pss_cons (ps_if (pt_not (pt_val (pe_meth (pv 0) TC.cl C1.mt C1.ok hr1 C1.b .nil pass0 (pa_cons (pv 1) pa_nil)))) (pss_one (ps_ret (pe_lst (pa_cons (pe_glob (v := .int (-2)) rfl hrf ⟨_, rfl⟩) pa_nil)))) pss_nil)
      (pss_cons (ps_set (i := 2) scAList.nd rfl (Or.inl rfl) (pe_meth (pv 0) TC.cl C2.mt C2.ok hr C2.b .nil pass0 (pa_cons (pv 1) pa_nil)))
      (pss_one (ps_ret (pe_op op_cat (pe_lst (pa_cons (pe_callB call_len_seq (by rfl) T.len PySem.boot_len (pa_cons (pv 2) pa_nil)) pa_nil)) (pv 2))))), ?_⟩
    refine ⟨_, rfl, p, dx, _, rfl, hob, fs_no _ _ _ _ _ (by decide +kernel), _, rfl, p, a, s, o, rfl, hT, _, rfl, ?_⟩
    cases e : s.now.has a with
    | false => exact iteT ⟨one, fun d hd => finL k (st_list_ref e) upd_same hd (hT.stp (Same.upd hd))⟩
    | true =>
      refine iteF ⟨_, rfl, p, dx, _, rfl, hob, fs_no _ _ _ _ _ (by decide +kernel), _, rfl, p, a, s, o, rfl, hT, e, fun H1 d s1 fr hd => ?_⟩
      have hd' : H1 d = some (.lst (hv (mem_ s a))) := hd
      have hml := mem_le s a
      have htl := hT.tl
      have big : (1000 : Nat) < sizeLine := by decide
      refine ⟨_, rfl, d, _, rfl, .inl (SqL.of hd'), one, fun q hq => ?_⟩
      have s2 : Same H1 (upd H1 q (.lst [.int (((hv (mem_ s a)).length : Nat) : Int)])) := Same.upd hq
      refine ⟨_, rfl, q, d, _, _, rfl, rfl, upd_same, s2 _ _ hd', by rw [hv_len]; show 1 + _ ≤ _; omega, fun r hr' => ?_⟩
      refine finL k (st_list e) ?_ ((s1.trans s2).free hr') (hT.stp ((s1.trans s2).trans (Same.upd hr')))
      rw [upd_same, hv_len]
      show some (HO.lst (V.int _ :: hv (mem_ s a))) = some (HO.lst (V.int _ :: (Sc13Neutral.ints (mem_ s a)).map V.int))
      rw [hv_nI]
      rfl
theorem scADepth : FnScope ["self", "a"] ["self", "a"] (defScope sADepth) := ⟨rfl, rfl, rfl, by decide +kernel, rfl, by decide +kernel, by decide +kernel⟩
theorem ok_aDepth {f C f1 f2 : Addr} {fd fd1 fd2 : FuncData} (F : Fun K "answer_depth" "Terms.answer_depth" sADepth f fd) (TC : TxtC K mg C) (C1 : CalM P w K mg base C "has" ["self", "number"] 1 (spHas C) f1 fd1) (C2 : Cal P w K mg base "least_depths" ["made", "heads"] 4 spLd f2 fd2) : FnOk P w K mg base CX0 5 f fd ["self", "a"] (spAns C 8 1) := by
  refine F.ok scADepth (fun vs H Q E h => ?_) (fun cdv A outer s H vs Q E hr h => ?_)
  · obtain ⟨p, s, o, gs, rfl, hg, _⟩ := h
    rw [List.length_cons, List.length_map, hg]; rfl
  · obtain ⟨p, s, o, gs, rfl, hg, hT, hask, k⟩ := h
    obtain ⟨a, rfl⟩ := args1 hg
    obtain ⟨dx, hob⟩ := hT.ob
    obtain ⟨tr, hrf⟩ := TC.refused
    have hr1 : Room 1 _ := hr.mono (by decide)
    have hcl := hT.hl
    have htl := hT.tl
    refine ⟨_, pss_cons (ps_if (pt_not (pt_val (pe_meth (pv 0) TC.cl C1.mt C1.ok hr1 C1.b .nil pass0 (pa_cons (pv 1) pa_nil)))) (pss_one (ps_ret (pe_glob (v := .int (-2)) rfl hrf ⟨_, rfl⟩))) pss_nil)
      (pss_one (ps_ret (pe_ix ix_list (pe_call C2.ok hr rfl C2.at_ C2.kp C2.b .nil pass0 (pa_cons (pe_fld (pv 0) rfl) (pa_cons (pe_fld (pv 0) rfl) pa_nil))) (pe_ix ix_list (pe_fld (pv 0) rfl) (pv 1) (fun _ _ => rfl)) (fun _ _ => rfl)))), ?_⟩
    refine ⟨_, rfl, p, dx, _, rfl, hob, fs_no _ _ _ _ _ (by decide +kernel), _, rfl, p, a, s, o, rfl, hT, _, rfl, ?_⟩
    cases e : s.now.has a with
    | false => exact iteT (fin k (st_depth_ref e) hT.stay)
    | true =>
      obtain ⟨j, rfl, hj⟩ := has_nat e
      have ok := hT.good.now.canon.ok
      refine iteF ⟨_, rfl, p, C, dx, _, _, rfl, hob, TC.cl, TC.nMade, fs_made _ _ _ _ _, _, rfl, p, C, dx, _, _, rfl, hob, TC.cl, TC.nHeads, fs_heads _ _ _ _ _, o.lm, o.lh, s.now, _, rfl, hT.now.made, hT.now.heads, ok, hT.good.now.wf, by omega, fun H1 d v s1 hd hvl ab fx => ?_⟩
      have T1 := hT.same s1
      have hd' : H1 d = some (.lst (hv v)) := hd
      have hle := ok.le j hj
      refine ⟨_, rfl, p, C, dx, _, _, rfl, s1 _ _ hob, TC.cl, TC.nHeads, fs_heads _ _ _ _ _, _, rfl, o.lh, _, _, _, rfl, rfl, SqL.of T1.now.heads, at_of (j := j) rfl (hv_get (by omega)), d, _, _, _, rfl, rfl, SqL.of hd', at_of (j := (Sc13Neutral.classes s.now).getD j 0) rfl (hv_get (by omega)), ?_⟩
      exact fin k (step_depth hT.good.now hj hvl ab fx) (hT.stp s1)
end
end Eqt

namespace Eqt
open PySem L2 Sc13 Eqm Eqp
theorem pairs_get {H : Hp} {bs : List Addr} {ps : List (Nat × Nat)} (h : TpIs H bs (ps.map prI)) {i : Nat} {y : V} (e : (bs.map V.ref)[i]? = some y) : ∃ (b : Addr) (q : Nat × Nat), y = .ref b ∧ ps[i]? = some q ∧ TpI H b (prI q) := by
  have hl : bs.length = ps.length := by rw [h.length, List.length_map]
  have hi : i < bs.length := by have := (List.getElem?_eq_some_iff.mp e).1; rw [List.length_map] at this; exact this
  have hq : ps[i]? = some (ps[i]'(by omega)) := List.getElem?_eq_getElem (by omega)
  obtain ⟨b, hb, ht⟩ := h.get (j := i) (ks := prI (ps[i]'(by omega))) (by rw [List.getElem?_map, hq]; rfl)
  rw [List.getElem?_map, hb] at e
  exact ⟨b, _, (Option.some.inj e).symm, hq, ht⟩
theorem equal_int {hs : List Nat} {a b : Nat} : decide (V.int ((hs.getD a 0 : Nat) : Int) = V.int ((hs.getD b 0 : Nat) : Int)) = Sc13Neutral.equal hs a b := by
  rw [dec_int, Bool.eq_iff_iff, decide_eq_true_eq, equal_iff]
  omega
theorem any_hit {ps : List (Nat × Nat)} {f : Nat × Nat → Bool} {i : Nat} {q : Nat × Nat} (h : ps[i]? = some q) (e : f q = true) : ps.any f = true := List.any_eq_true.mpr ⟨q, List.mem_of_getElem? h, e⟩
theorem any_miss {ps : List (Nat × Nat)} {f : Nat × Nat → Bool} (h : ∀ (k : Nat) (q : Nat × Nat), k < ps.length → ps[k]? = some q → f q = false) : ps.any f = false := by
  rw [Bool.eq_false_iff]
  intro z
  obtain ⟨q, hq, e⟩ := List.any_eq_true.mp z
  obtain ⟨k, hk, e2⟩ := List.getElem_of_mem hq
  have := h k q hk (by rw [List.getElem?_eq_getElem hk, e2])
  rw [this] at e
  cases e
/-! parted_would_be_equal -/
def spPwe (C : Addr) : Sp := fun vs H Q _ => ∃ (p d : Addr) (s : Abs) (o : Own) (hs : List Nat), vs = [.ref p, .ref d] ∧ TermsAt C H p s o ∧ HeadsAt H d hs ∧ hs.length = s.now.terms.length ∧ Q (.bl (s.now.differ.any fun q => Sc13Neutral.equal hs q.1 q.2)) H
section
variable {P : Program} {w : World} {K : PySem.W.Frag} {mg : Str → Option Value} {base : Heap}
theorem scPwe : FnScope ["self", "heads", "pair"] ["self", "heads"] (defScope sPwe) := ⟨rfl, rfl, rfl, by decide +kernel, rfl, by decide +kernel, by decide +kernel⟩
theorem ok_pwe {f C : Addr} {fd : FuncData} (F : Fun K "parted_would_be_equal" "Terms.parted_would_be_equal" sPwe f fd) (TC : TxtC K mg C) : FnOk P w K mg base CX0 1 f fd ["self", "heads"] (spPwe C) := by
  refine F.ok scPwe (fun vs H Q E h => ?_) (fun cdv A outer s H vs Q E hr h => ?_)
  · obtain ⟨p, d, s, o, hs, rfl, _⟩ := h
    rfl
  · obtain ⟨p, d, s, o, hs, rfl, hT, hd, hlen, k⟩ := h
    obtain ⟨dx, hob⟩ := hT.ob
    obtain ⟨bs, hpl, hps⟩ := hT.now.parted
    have hd' : H d = some (.lst (hv hs)) := hd
    have hbl : bs.length = s.now.differ.length := by rw [hps.length, List.length_map]
    refine ⟨_, pss_cons (ps_for PassesOwn.never rfl (pi_list (pe_fld (pv 0) rfl)) (pg_name (i := 2) scPwe.nd rfl (Or.inl rfl))
        (pss_one (ps_if (pt_cmpR op_eq (pe_ix ix_list (pv 1) (pe_ix ix_tup (pv 2) pe_int (fun _ _ => rfl)) (fun _ _ => rfl)) (pe_ix ix_list (pv 1) (pe_ix ix_tup (pv 2) pe_int (fun _ _ => rfl)) (fun _ _ => rfl)) (nomark _)) (pss_one (ps_ret pe_bl)) pss_nil)))
      (pss_one (ps_ret pe_bl)), ?_⟩
    refine ⟨_, rfl, p, C, dx, _, _, rfl, hob, TC.cl, TC.nParted, fs_parted _ _ _ _ _, o.lp, rfl, ⟨_, SqL.of hpl⟩, for_list (K := K) (a := o.lp) (xs := bs.map V.ref) (fun i σ H2 => ∃ v : Option V, σ = [some (.ref p), some (.ref d), v] ∧ H2 = H ∧ ∀ (k : Nat) (q : Nat × Nat), k < i → s.now.differ[k]? = some q → Sc13Neutral.equal hs q.1 q.2 = false)
      ⟨none, rfl, rfl, fun k q hk => absurd hk (Nat.not_lt_zero _)⟩ (fun i σ H2 _ ⟨_, _, e, _⟩ => by rw [e]; exact SqL.of hpl) ?_ ?_⟩
    · rintro i y σ H2 hi ⟨v, rfl, rfl, no⟩
      obtain ⟨b, q, rfl, hq, hb⟩ := pairs_get hps hi
      have hb' : H2 b = some (.tup [.int (q.1 : Int), .int (q.2 : Int)]) := hb
      obtain ⟨q1, q2⟩ := hT.good.now.dr q (List.mem_of_getElem? hq)
      refine ⟨_, rfl, _, rfl, b, _, _, _, rfl, rfl, SqT.of hb', rfl, d, _, _, _, rfl, rfl, SqL.of hd', at_of (j := q.1) rfl (hv_get (by omega)), _, rfl, _, rfl, b, _, _, _, rfl, rfl, SqT.of hb', rfl, d, _, _, _, rfl, rfl, SqL.of hd', at_of (j := q.2) rfl (hv_get (by omega)), rfl, _, rfl, ?_⟩
      rw [equal_int]
      cases e : Sc13Neutral.equal hs q.1 q.2 with
      | true =>
        refine iteT ?_
        rw [any_hit (f := fun q => Sc13Neutral.equal hs q.1 q.2) hq e] at k
        exact k
      | false =>
        refine iteF ⟨_, rfl, rfl, fun k' q' hk' hq' => ?_⟩
        rcases Nat.lt_or_eq_of_le (Nat.le_of_lt_succ hk') with h | h
        · exact no k' q' h hq'
        · subst h; rw [hq] at hq'; cases hq'; exact e
    · rintro σ H2 ⟨v, rfl, rfl, no⟩
      rw [List.length_map, hbl] at no
      rw [any_miss no] at k
      exact k
/-! answer_join -/
theorem joined_state {C p d dx : Addr} {H H1 : Hp} {s : Abs} {o : Own} {a b : Nat} (T : TermsAt C H p s o) (s1 : Same H H1) (hob : H p = some (.ins C dx (fsT o.lm o.lh o.lp o.lk s.now.equal.length))) (fd : H d = none) (hd : HeadsAt H1 d (Sc13Neutral.classes (s.now.join a b)))
    (ha : a < s.now.terms.length) (hb : b < s.now.terms.length) (hl : s.now.equal.length < 1024) :
    Stp C H p o (s.put (s.now.join a b)) (upd (upd H1 p (.ins C dx (fsT o.lm d o.lp o.lk s.now.equal.length))) p (.ins C dx (fsT o.lm d o.lp o.lk (s.now.equal.length + 1)))) := by
  have D := dist_of T.nd
  have T1 := T.same s1
  have sub : ∀ c, c ∈ [p] → c ∈ o.W p := fun c hc => by rw [List.mem_singleton.mp hc]; simp [Own.W]
  have nt := T1.nt sub
  have nd : ∀ c, c ∈ o.W p → c ≠ d := fun c hc z => T.dom c hc (by rw [z]; exact fd)
  have kp : Kp [p] H1 (upd (upd H1 p (.ins C dx (fsT o.lm d o.lp o.lk s.now.equal.length))) p (.ins C dx (fsT o.lm d o.lp o.lk (s.now.equal.length + 1)))) := Kp.trans (Kp.upd (by simp)) (Kp.upd (by simp))
  have hp : upd (upd H1 p (.ins C dx (fsT o.lm d o.lp o.lk s.now.equal.length))) p (.ins C dx (fsT o.lm d o.lp o.lk (s.now.equal.length + 1))) p = some (.ins C dx (fsT o.lm d o.lp o.lk (s.now.equal.length + 1))) := upd_same
  generalize upd (upd H1 p (.ins C dx (fsT o.lm d o.lp o.lk s.now.equal.length))) p (.ins C dx (fsT o.lm d o.lp o.lk (s.now.equal.length + 1))) = H2 at kp hp
  have out : ∀ {c : Addr}, c ≠ p → c ∉ [p] := fun h => by simpa using h
  have mp : p ∈ o.W p := by simp [Own.W]
  have n1 : o.lm ∈ o.W p := by simp [Own.W]
  have n2 : o.lp ∈ o.W p := by simp [Own.W]
  have n3 : o.lk ∈ o.W p := by simp [Own.W]
  obtain ⟨as, m1, m2⟩ := T1.now.made
  obtain ⟨bs, p1, p2⟩ := T1.now.parted
  refine ⟨⟨o.lm, d, o.lp, o.lk, o.as, o.ms⟩, ⟨⟨dx, ?_⟩, ⟨⟨as, kp _ _ m1 (out D.pm.symm), TpIs.keep kp nt m2⟩, kp _ _ hd (out (nd p mp).symm), ⟨bs, kp _ _ p1 (out D.pd.symm), TpIs.keep kp nt p2⟩⟩, kp _ _ T1.lst (out D.pk.symm), marks_keep T1.mks kp nt fun c hc => out (D.r c hc).1, T.rev, ?_, T.good.put (T.good.now.join ha hb hl)⟩, fun c hc => ?_, (Kp.same s1).trans (kp.mono sub)⟩
  · show H2 p = some (.ins C dx (fsT o.lm d o.lp o.lk (s.now.equal ++ [(a, b)]).length))
    rw [hp, List.length_append]
    rfl
  · refine of_dist ⟨D.pk, D.pm, nd p mp, D.pd, D.km, nd _ n3, D.kd, nd _ n1, D.md, (nd _ n2).symm, fun c hc => ?_, D.rn⟩
    obtain ⟨r1, r2, r3, r4, r5⟩ := D.r c hc
    refine ⟨r1, r2, r3, nd c ?_, r5⟩
    unfold Own.W
    simp only [List.mem_cons]
    exact .inr (.inr (.inr (.inr (.inr hc))))
  · unfold Own.W at hc ⊢
    simp only [List.mem_cons] at hc ⊢
    rcases hc with h | h | h | h | h | h
    · exact .inl (.inl h)
    · exact .inl (.inr (.inl h))
    · exact .inl (.inr (.inr (.inl h)))
    · exact .inr (by rw [h]; exact fd)
    · exact .inl (.inr (.inr (.inr (.inr (.inl h)))))
    · exact .inl (.inr (.inr (.inr (.inr (.inr h)))))
theorem scAJoin : FnScope ["self", "a", "b", "heads"] ["self", "a", "b"] (defScope sAJoin) := ⟨rfl, rfl, rfl, by decide +kernel, rfl, by decide +kernel, by decide +kernel⟩
theorem ok_aJoin {f C f1 f2 f3 : Addr} {fd fd1 fd2 fd3 : FuncData} (F : Fun K "answer_join" "Terms.answer_join" sAJoin f fd) (TC : TxtC K mg C) (C1 : CalM P w K mg base C "has_both" ["self", "a", "b"] 2 (spHasBoth C) f1 fd1)
    (C2 : Cal P w K mg base "heads_after_join" ["made", "heads", "a", "b"] 4 spHaj f2 fd2) (C3 : CalM P w K mg base C "parted_would_be_equal" ["self", "heads"] 1 (spPwe C) f3 fd3) : FnOk P w K mg base CX0 5 f fd ["self", "a", "b"] (spAns C 3 2) := by
  refine F.ok scAJoin (fun vs H Q E h => ?_) (fun cdv A outer s H vs Q E hr h => ?_)
  · obtain ⟨p, s, o, gs, rfl, hg, _⟩ := h
    rw [List.length_cons, List.length_map, hg]; rfl
  · obtain ⟨p, s, o, gs, rfl, hg, hT, hask, k⟩ := h
    obtain ⟨a, b, rfl⟩ := args2 hg
    obtain ⟨dx, hob⟩ := hT.ob
    obtain ⟨tr, hrf⟩ := TC.refused
    obtain ⟨td, hdn⟩ := TC.done
    obtain ⟨tn, hnd⟩ := TC.notDone
    obtain ⟨tm, hms⟩ := TC.mostS
    have hr1 : Room 1 _ := hr.mono (by decide)
    have hr2 : Room 2 _ := hr.mono (by decide)
    have hcl := hT.hl
    have htl := hT.tl
    refine ⟨_, pss_cons (ps_if (pt_not (pt_val (pe_meth (pv 0) TC.cl C1.mt C1.ok hr2 C1.b .nil pass0 (pa_cons (pv 1) (pa_cons (pv 2) pa_nil))))) (pss_one (ps_ret (pe_glob (v := .int (-2)) rfl hrf ⟨_, rfl⟩))) pss_nil)
      (pss_cons (ps_if (pt_cmpR op_eq (pe_ix ix_list (pe_fld (pv 0) rfl) (pv 1) (fun _ _ => rfl)) (pe_ix ix_list (pe_fld (pv 0) rfl) (pv 2) (fun _ _ => rfl)) (nomark _)) (pss_one (ps_ret (pe_glob (v := .int 0) rfl hdn ⟨_, rfl⟩))) pss_nil)
      (pss_cons (ps_if (pt_cmpR op_ge (pe_fld (pv 0) rfl) (pe_glob (v := .int 1024) rfl hms ⟨_, rfl⟩) (nomark _)) (pss_one (ps_ret (pe_glob (v := .int (-1)) rfl hnd ⟨_, rfl⟩))) pss_nil)
      (pss_cons (ps_set (i := 3) scAJoin.nd rfl (Or.inl rfl) (pe_call C2.ok hr rfl C2.at_ C2.kp C2.b .nil pass0 (pa_cons (pe_fld (pv 0) rfl) (pa_cons (pe_fld (pv 0) rfl) (pa_cons (pv 1) (pa_cons (pv 2) pa_nil))))))
      (pss_cons (ps_if (pt_val (pe_meth (pv 0) TC.cl C3.mt C3.ok hr1 C3.b .nil pass0 (pa_cons (pv 3) pa_nil))) (pss_one (ps_ret (pe_glob (v := .int (-1)) rfl hnd ⟨_, rfl⟩))) pss_nil)
      (pss_cons (ps_fld (pv 0) (pv 3) rfl)
      (pss_cons (ps_fldaug (pv 0) pe_int in_add)
      (pss_one (ps_ret (pe_glob (v := .int 0) rfl hdn ⟨_, rfl⟩))))))))), ?_⟩
    refine ⟨_, rfl, p, dx, _, rfl, hob, fs_no _ _ _ _ _ (by decide +kernel), _, rfl, _, rfl, p, a, b, s, o, rfl, hT, _, rfl, ?_⟩
    cases e : s.now.has a && s.now.has b with
    | false => exact iteT (fin k (st_join_ref e) hT.stay)
    | true =>
      obtain ⟨ea, eb⟩ := Bool.and_eq_true_iff.mp e
      obtain ⟨i, rfl, hi⟩ := has_nat ea
      obtain ⟨j, rfl, hj⟩ := has_nat eb
      refine iteF ⟨_, rfl, p, C, dx, _, _, rfl, hob, TC.cl, TC.nHeads, fs_heads _ _ _ _ _, _, rfl, o.lh, _, _, _, rfl, rfl, SqL.of hT.now.heads, at_of (j := i) rfl (hv_get (by omega)), _, rfl, p, C, dx, _, _, rfl, hob, TC.cl, TC.nHeads, fs_heads _ _ _ _ _, _, rfl, o.lh, _, _, _, rfl, rfl, SqL.of hT.now.heads, at_of (j := j) rfl (hv_get (by omega)), rfl, _, rfl, ?_⟩
      rw [equal_int]
      cases eq : Sc13Neutral.equal (Sc13Neutral.classes s.now) i j with
      | true => exact iteT (fin k (st_join_eq e eq) hT.stay)
      | false =>
        have neq : ¬ Sc13Neutral.equal (Sc13Neutral.classes s.now) (i : Int).toNat (j : Int).toNat = true := by
          rw [Int.toNat_natCast, Int.toNat_natCast, eq]; exact Bool.noConfusion
        refine iteF ⟨_, rfl, p, C, dx, _, _, rfl, hob, TC.cl, TC.nJc, fs_jc _ _ _ _ _, _, _, rfl, rfl, _, rfl, ?_⟩
        by_cases hl : 1024 ≤ s.now.equal.length
        · exact ite2 (fun _ => fin k (st_join_not e neq (.inl hl)) hT.stay) (fun hc => absurd (decide_eq_true (by omega)) hc)
        · refine ite2 (fun hc => absurd (of_decide_eq_true hc) (by omega)) (fun _ => ?_)
          refine ⟨_, rfl, p, C, dx, _, _, rfl, hob, TC.cl, TC.nMade, fs_made _ _ _ _ _, _, rfl, p, C, dx, _, _, rfl, hob, TC.cl, TC.nHeads, fs_heads _ _ _ _ _, _, rfl, _, rfl, o.lm, o.lh, s.now, Sc13Neutral.classes s.now, i, j, rfl, hT.now.made, hT.now.heads, hT.good.now.wf, hT.good.now.ir, hT.good.now.canon, hi, hj, by omega, fun H1 d hs' s1 fr hd cn => ?_⟩
          have T1 := hT.same s1
          have sj := sound_join hT.good.now hi hj cn
          have hob1 := s1 _ _ hob
          refine ⟨_, rfl, p, dx, _, rfl, hob1, fs_no _ _ _ _ _ (by decide +kernel), _, rfl, p, d, s, o, hs', rfl, T1, hd, cn.ok.len, _, rfl, ?_⟩
          cases ed : s.now.differ.any (fun q => Sc13Neutral.equal hs' q.1 q.2) with
          | true =>
            rw [ed] at sj
            exact iteT (fin k (st_join_not e neq (.inr sj)) (hT.stp s1))
          | false =>
            rw [ed] at sj
            refine iteF ⟨_, rfl, _, rfl, p, C, dx, _, rfl, hob1, TC.cl, TC.nHeads, (by show 5 < 1000; decide), ?_⟩
            rw [put_heads]
            refine ⟨_, rfl, p, C, dx, _, _, rfl, upd_same, TC.cl, TC.nJc, fs_jc _ _ _ _ _, _, _, rfl, rfl, dx, _, upd_same, (by show 5 < 1000; decide), ?_⟩
            have ej : (s.now.equal.length : Int) + 1 = ((s.now.equal.length + 1 : Nat) : Int) := by omega
            rw [ej, put_jc]
            rw [join_classes hT.good.now hi hj cn] at hd
            exact fin k (st_join_done e neq hl sj) (joined_state hT s1 hob fr hd hi hj (by omega))
end
end Eqt

namespace Eqt
open PySem L2 Sc13 Eqm Eqp
/-! answer_part -/
theorem parted_state {C p t : Addr} {H H1 : Hp} {s : Abs} {o : Own} {bs : List Addr} {a b : Nat} (T : TermsAt C H p s o) (s1 : Same H H1) (hpl : H o.lp = some (.lst (bs.map V.ref))) (hps : TpIs H bs (s.now.differ.map prI)) (ht : TpI H1 t (prI (a, b)))
    (ha : a < s.now.terms.length) (hb : b < s.now.terms.length) (hl : s.now.differ.length < 1024) :
    Stp C H p o (s.put (s.now.part a b)) (upd H1 o.lp (.lst (bs.map V.ref ++ [.ref t]))) := by
  have D := dist_of T.nd
  have T1 := T.same s1
  have sub : ∀ c, c ∈ [o.lp] → c ∈ o.W p := fun c hc => by rw [List.mem_singleton.mp hc]; simp [Own.W]
  have nt := T1.nt sub
  have kp : Kp [o.lp] H1 (upd H1 o.lp (.lst (bs.map V.ref ++ [.ref t]))) := Kp.upd (by simp)
  have hp : upd H1 o.lp (.lst (bs.map V.ref ++ [.ref t])) o.lp = some (.lst ((bs ++ [t]).map V.ref)) := by rw [upd_same, List.map_append]; rfl
  generalize upd H1 o.lp (.lst (bs.map V.ref ++ [.ref t])) = H2 at kp hp
  have out : ∀ {c : Addr}, c ≠ o.lp → c ∉ [o.lp] := fun h => by simpa using h
  obtain ⟨dx, hob⟩ := T1.ob
  obtain ⟨as, m1, m2⟩ := T1.now.made
  refine ⟨o, ⟨⟨dx, kp _ _ hob (out D.pd)⟩, ⟨⟨as, kp _ _ m1 (out D.md), TpIs.keep kp nt m2⟩, ?_, ⟨bs ++ [t], hp, ?_⟩⟩, kp _ _ T1.lst (out D.kd), marks_keep T1.mks kp nt fun c hc => out (D.r c hc).2.2.2.2, T.rev, T.nd, T.good.put (T.good.now.part ha hb hl)⟩, fun c hc => .inl hc, (Kp.same s1).trans (kp.mono sub)⟩
  · show H2 o.lh = some (.lst (hv (Sc13Neutral.classes (s.now.part a b))))
    rw [classes_part]
    exact kp _ _ T1.now.heads (out D.hd)
  · show TpIs H2 (bs ++ [t]) ((s.now.differ ++ [(a, b)]).map prI)
    rw [List.map_append]
    exact paired_snoc (TpI.keep kp nt ht) (TpIs.keep kp nt (Same.tis s1 hps))
section
variable {P : Program} {w : World} {K : PySem.W.Frag} {mg : Str → Option Value} {base : Heap}
theorem scAPart : FnScope ["self", "a", "b"] ["self", "a", "b"] (defScope sAPart) := ⟨rfl, rfl, rfl, by decide +kernel, rfl, by decide +kernel, by decide +kernel⟩
theorem two_le {x y : V} : ([x, y] : List V).length ≤ sizeLine := by show 2 ≤ sizeLine; decide
theorem ok_aPart {f C f1 : Addr} {fd fd1 : FuncData} (F : Fun K "answer_part" "Terms.answer_part" sAPart f fd) (T : Txt mg) (TC : TxtC K mg C) (C1 : CalM P w K mg base C "has_both" ["self", "a", "b"] 2 (spHasBoth C) f1 fd1) : FnOk P w K mg base CX0 3 f fd ["self", "a", "b"] (spAns C 4 2) := by
  refine F.ok scAPart (fun vs H Q E h => ?_) (fun cdv A outer s H vs Q E hr h => ?_)
  · obtain ⟨p, s, o, gs, rfl, hg, _⟩ := h
    rw [List.length_cons, List.length_map, hg]; rfl
  · obtain ⟨p, s, o, gs, rfl, hg, hT, hask, k⟩ := h
    obtain ⟨a, b, rfl⟩ := args2 hg
    obtain ⟨dx, hob⟩ := hT.ob
    obtain ⟨tr, hrf⟩ := TC.refused
    obtain ⟨td, hdn⟩ := TC.done
    obtain ⟨tn, hnd⟩ := TC.notDone
    obtain ⟨tm, hms⟩ := TC.mostS
    have hcl := hT.hl
    have htl := hT.tl
    have big : (1024 : Nat) < sizeLine := by decide
    obtain ⟨bs, hpl, hps⟩ := hT.now.parted
    have hbl : bs.length = s.now.differ.length := by rw [hps.length, List.length_map]
    refine ⟨_, pss_cons (ps_if (pt_not (pt_val (pe_meth (pv 0) TC.cl C1.mt C1.ok hr C1.b .nil pass0 (pa_cons (pv 1) (pa_cons (pv 2) pa_nil))))) (pss_one (ps_ret (pe_glob (v := .int (-2)) rfl hrf ⟨_, rfl⟩))) pss_nil)
      (pss_cons (ps_if (pt_cmpR op_eq (pe_ix ix_list (pe_fld (pv 0) rfl) (pv 1) (fun _ _ => rfl)) (pe_ix ix_list (pe_fld (pv 0) rfl) (pv 2) (fun _ _ => rfl)) (nomark _)) (pss_one (ps_ret (pe_glob (v := .int (-1)) rfl hnd ⟨_, rfl⟩))) pss_nil)
      (pss_cons (ps_if (pt_cmpR op_ge (pe_callB call_len_seq (by rfl) T.len PySem.boot_len (pa_cons (pe_fld (pv 0) rfl) pa_nil)) (pe_glob (v := .int 1024) rfl hms ⟨_, rfl⟩) (nomark _)) (pss_one (ps_ret (pe_glob (v := .int (-1)) rfl hnd ⟨_, rfl⟩))) pss_nil)
      (pss_cons (ps_expr (pe_bm PySem.F.plainAttrs_list PySem.F.slot_list_append PySem.F.type_list_append mt_append (pe_fld (pv 0) rfl) (pa_cons (pe_tup (pa_cons (pv 1) (pa_cons (pv 2) pa_nil))) pa_nil)))
      (pss_one (ps_ret (pe_glob (v := .int 0) rfl hdn ⟨_, rfl⟩)))))), ?_⟩
    refine ⟨_, rfl, p, dx, _, rfl, hob, fs_no _ _ _ _ _ (by decide +kernel), _, rfl, _, rfl, p, a, b, s, o, rfl, hT, _, rfl, ?_⟩
    cases e : s.now.has a && s.now.has b with
    | false => exact iteT (fin k (st_part_ref e) hT.stay)
    | true =>
      obtain ⟨ea, eb⟩ := Bool.and_eq_true_iff.mp e
      obtain ⟨i, rfl, hi⟩ := has_nat ea
      obtain ⟨j, rfl, hj⟩ := has_nat eb
      refine iteF ⟨_, rfl, p, C, dx, _, _, rfl, hob, TC.cl, TC.nHeads, fs_heads _ _ _ _ _, _, rfl, o.lh, _, _, _, rfl, rfl, SqL.of hT.now.heads, at_of (j := i) rfl (hv_get (by omega)), _, rfl, p, C, dx, _, _, rfl, hob, TC.cl, TC.nHeads, fs_heads _ _ _ _ _, _, rfl, o.lh, _, _, _, rfl, rfl, SqL.of hT.now.heads, at_of (j := j) rfl (hv_get (by omega)), rfl, _, rfl, ?_⟩
      rw [equal_int]
      cases eq : Sc13Neutral.equal (Sc13Neutral.classes s.now) i j with
      | true => exact iteT (fin k (st_part_not e (.inl eq)) hT.stay)
      | false =>
        have neq : ¬ Sc13Neutral.equal (Sc13Neutral.classes s.now) (i : Int).toNat (j : Int).toNat = true := by
          rw [Int.toNat_natCast, Int.toNat_natCast, eq]; exact Bool.noConfusion
        refine iteF ⟨_, rfl, p, C, dx, _, _, rfl, hob, TC.cl, TC.nParted, fs_parted _ _ _ _ _, o.lp, _, rfl, .inl (SqL.of hpl), _, _, rfl, rfl, _, rfl, ?_⟩
        rw [List.length_map, hbl]
        by_cases hl : 1024 ≤ s.now.differ.length
        · exact ite2 (fun _ => fin k (st_part_not e (.inr hl)) hT.stay) (fun hc => absurd (decide_eq_true (by omega)) hc)
        · refine ite2 (fun hc => absurd (of_decide_eq_true hc) (by omega)) (fun _ => ?_)
          refine ⟨_, rfl, p, C, dx, _, _, rfl, hob, TC.cl, TC.nParted, fs_parted _ _ _ _ _, .inl ⟨rfl, _, SqL.of hpl⟩, _, rfl, _, rfl, two_le, fun t ht => ?_⟩
          have s1 : Same H (upd H t (.tup [.int (i : Int), .int (j : Int)])) := Same.upd ht
          have ht1 : TpI (upd H t (.tup [.int (i : Int), .int (j : Int)])) t (prI (i, j)) := upd_same
          generalize upd H t (.tup [.int (i : Int), .int (j : Int)]) = H1 at s1 ht1 ⊢
          refine ⟨o.lp, _, _, rfl, rfl, s1 _ _ hpl, by rw [List.length_map, hbl]; omega, ?_⟩
          exact fin k (st_part_done e neq hl) (parted_state hT s1 hpl hps ht1 hi hj (by omega))
/-! are_different, answer_same -/
def spDiff (C : Addr) : Sp := fun vs H Q _ => ∃ (p : Addr) (i j : Nat) (s : Abs) (o : Own), vs = [.ref p, .int (i : Int), .int (j : Int)] ∧ TermsAt C H p s o ∧ i < s.now.terms.length ∧ j < s.now.terms.length ∧ ∀ H', Same H H' → Q (.bl (dif (Sc13Neutral.classes s.now) i j s.now.differ)) H'
theorem in_two {l : List Nat} {a b : Nat} {q : Nat × Nat} : ([[((l.getD a 0 : Nat) : Int), ((l.getD b 0 : Nat) : Int)], [((l.getD b 0 : Nat) : Int), ((l.getD a 0 : Nat) : Int)]].any fun ks => decide (ks = [((l.getD q.1 0 : Nat) : Int), ((l.getD q.2 0 : Nat) : Int)])) = ((Sc13Neutral.equal l q.1 a && Sc13Neutral.equal l q.2 b) || (Sc13Neutral.equal l q.1 b && Sc13Neutral.equal l q.2 a)) := by
  rw [Bool.eq_iff_iff]
  simp only [List.any_cons, List.any_nil, Bool.or_false, Bool.or_eq_true, Bool.and_eq_true, decide_eq_true_eq, equal_iff, List.cons.injEq, and_true]
  constructor
  · rintro (⟨h1, h2⟩ | ⟨h1, h2⟩)
    · exact .inl ⟨by omega, by omega⟩
    · exact .inr ⟨by omega, by omega⟩
  · rintro (⟨h1, h2⟩ | ⟨h1, h2⟩)
    · exact .inl ⟨by omega, by omega⟩
    · exact .inr ⟨by omega, by omega⟩
theorem scDiff : FnScope ["self", "a", "b", "one_way", "other_way", "pair"] ["self", "a", "b"] (defScope sDiff) := ⟨rfl, rfl, rfl, by decide +kernel, rfl, by decide +kernel, by decide +kernel⟩
theorem ok_diff {f C : Addr} {fd : FuncData} (F : Fun K "are_different" "Terms.are_different" sDiff f fd) (TC : TxtC K mg C) : FnOk P w K mg base CX0 1 f fd ["self", "a", "b"] (spDiff C) := by
  refine F.ok scDiff (fun vs H Q E h => ?_) (fun cdv A outer s H vs Q E hr h => ?_)
  · obtain ⟨p, i, j, s, o, rfl, _⟩ := h
    rfl
  · obtain ⟨p, i, j, s, o, rfl, hT, hi, hj, k⟩ := h
    obtain ⟨dx, hob⟩ := hT.ob
    have hcl := hT.hl
    have hh := hT.now.heads
    refine ⟨_, pss_cons (ps_set (i := 3) scDiff.nd rfl (Or.inl rfl) (pe_tup (pa_cons (pe_ix ix_list (pe_fld (pv 0) rfl) (pv 1) (fun _ _ => rfl)) (pa_cons (pe_ix ix_list (pe_fld (pv 0) rfl) (pv 2) (fun _ _ => rfl)) pa_nil))))
      (pss_cons (ps_set (i := 4) scDiff.nd rfl (Or.inl rfl) (pe_tup (pa_cons (pe_ix ix_list (pe_fld (pv 0) rfl) (pv 2) (fun _ _ => rfl)) (pa_cons (pe_ix ix_list (pe_fld (pv 0) rfl) (pv 1) (fun _ _ => rfl)) pa_nil))))
      (pss_cons (ps_for PassesOwn.never rfl (pi_list (pe_fld (pv 0) rfl)) (pg_name (i := 5) scDiff.nd rfl (Or.inl rfl))
        (pss_one (ps_if (pt_cmpR (op_inTI hr.units) (pe_tup (pa_cons (pe_ix ix_list (pe_fld (pv 0) rfl) (pe_ix ix_tup (pv 5) pe_int (fun _ _ => rfl)) (fun _ _ => rfl)) (pa_cons (pe_ix ix_list (pe_fld (pv 0) rfl) (pe_ix ix_tup (pv 5) pe_int (fun _ _ => rfl)) (fun _ _ => rfl)) pa_nil)))
          (pe_tup (pa_cons (pv 3) (pa_cons (pv 4) pa_nil))) (by rfl)) (pss_one (ps_ret pe_bl)) pss_nil)))
      (pss_one (ps_ret pe_bl)))), ?_⟩
    refine ⟨_, rfl, p, C, dx, _, _, rfl, hob, TC.cl, TC.nHeads, fs_heads _ _ _ _ _, _, rfl, o.lh, _, _, _, rfl, rfl, SqL.of hh, at_of (j := i) rfl (hv_get (by omega)), _, rfl, p, C, dx, _, _, rfl, hob, TC.cl, TC.nHeads, fs_heads _ _ _ _ _, _, rfl, o.lh, _, _, _, rfl, rfl, SqL.of hh, at_of (j := j) rfl (hv_get (by omega)), two_le, fun w1 hw1 => ?_⟩
    generalize hl : Sc13Neutral.classes s.now = l at *
    have s1 : Same H (upd H w1 (.tup [.int ((l.getD i 0 : Nat) : Int), .int ((l.getD j 0 : Nat) : Int)])) := Same.upd hw1
    have t1 : TpI (upd H w1 (.tup [.int ((l.getD i 0 : Nat) : Int), .int ((l.getD j 0 : Nat) : Int)])) w1 [((l.getD i 0 : Nat) : Int), ((l.getD j 0 : Nat) : Int)] := upd_same
    generalize upd H w1 (.tup [.int ((l.getD i 0 : Nat) : Int), .int ((l.getD j 0 : Nat) : Int)]) = H1 at s1 t1 ⊢
    have hob1 := s1 _ _ hob
    have hh1 : H1 o.lh = some (.lst (hv l)) := s1 _ _ hh
    refine ⟨_, rfl, p, C, dx, _, _, rfl, hob1, TC.cl, TC.nHeads, fs_heads _ _ _ _ _, _, rfl, o.lh, _, _, _, rfl, rfl, SqL.of hh1, at_of (j := j) rfl (hv_get (by omega)), _, rfl, p, C, dx, _, _, rfl, hob1, TC.cl, TC.nHeads, fs_heads _ _ _ _ _, _, rfl, o.lh, _, _, _, rfl, rfl, SqL.of hh1, at_of (j := i) rfl (hv_get (by omega)), two_le, fun w2 hw2 => ?_⟩
    have s2 : Same H1 (upd H1 w2 (.tup [.int ((l.getD j 0 : Nat) : Int), .int ((l.getD i 0 : Nat) : Int)])) := Same.upd hw2
    have t2 : TpI (upd H1 w2 (.tup [.int ((l.getD j 0 : Nat) : Int), .int ((l.getD i 0 : Nat) : Int)])) w2 [((l.getD j 0 : Nat) : Int), ((l.getD i 0 : Nat) : Int)] := upd_same
    generalize upd H1 w2 (.tup [.int ((l.getD j 0 : Nat) : Int), .int ((l.getD i 0 : Nat) : Int)]) = H2 at s2 t2 ⊢
    have t1' : TpI H2 w1 [((l.getD i 0 : Nat) : Int), ((l.getD j 0 : Nat) : Int)] := s2 _ _ t1
    have s12 := s1.trans s2
    obtain ⟨bs, hpl, hps⟩ := (hT.same s12).now.parted
    have hbl : bs.length = s.now.differ.length := by rw [hps.length, List.length_map]
    have hob2 := s12 _ _ hob
    refine ⟨_, rfl, p, C, dx, _, _, rfl, hob2, TC.cl, TC.nParted, fs_parted _ _ _ _ _, o.lp, rfl, ⟨_, SqL.of hpl⟩, for_list (K := K) (a := o.lp) (xs := bs.map V.ref) (fun i' σ H3 => ∃ v : Option V, σ = [some (.ref p), some (.int (i : Int)), some (.int (j : Int)), some (.ref w1), some (.ref w2), v] ∧ Same H2 H3 ∧
        ∀ (k : Nat) (q : Nat × Nat), k < i' → s.now.differ[k]? = some q → ((Sc13Neutral.equal l q.1 i && Sc13Neutral.equal l q.2 j) || (Sc13Neutral.equal l q.1 j && Sc13Neutral.equal l q.2 i)) = false)
      ⟨none, rfl, Same.refl _, fun k q hk => absurd hk (Nat.not_lt_zero _)⟩ (fun i' σ H3 _ ⟨_, _, e, _⟩ => SqL.of (e _ _ hpl)) ?_ ?_⟩
    · rintro i' y σ H3 hi' ⟨v, rfl, s3, no⟩
      obtain ⟨b, q, rfl, hq, hb⟩ := pairs_get hps hi'
      have hb' : H3 b = some (.tup [.int (q.1 : Int), .int (q.2 : Int)]) := s3 _ _ hb
      obtain ⟨q1, q2⟩ := hT.good.now.dr q (List.mem_of_getElem? hq)
      have hob3 := s3 _ _ hob2
      have hh3 : H3 o.lh = some (.lst (hv l)) := s3 _ _ (s2 _ _ hh1)
      refine ⟨_, rfl, p, C, dx, _, _, rfl, hob3, TC.cl, TC.nHeads, fs_heads _ _ _ _ _, _, rfl, b, _, _, _, rfl, rfl, SqT.of hb', rfl, o.lh, _, _, _, rfl, rfl, SqL.of hh3, at_of (j := q.1) rfl (hv_get (by omega)), _, rfl, p, C, dx, _, _, rfl, hob3, TC.cl, TC.nHeads, fs_heads _ _ _ _ _, _, rfl, b, _, _, _, rfl, rfl, SqT.of hb', rfl, o.lh, _, _, _, rfl, rfl, SqL.of hh3, at_of (j := q.2) rfl (hv_get (by omega)), two_le, fun w3 hw3 => ?_⟩
      have s4 : Same H3 (upd H3 w3 (.tup [.int ((l.getD q.1 0 : Nat) : Int), .int ((l.getD q.2 0 : Nat) : Int)])) := Same.upd hw3
      have t3 : TpI (upd H3 w3 (.tup [.int ((l.getD q.1 0 : Nat) : Int), .int ((l.getD q.2 0 : Nat) : Int)])) w3 [((l.getD q.1 0 : Nat) : Int), ((l.getD q.2 0 : Nat) : Int)] := upd_same
      generalize upd H3 w3 (.tup [.int ((l.getD q.1 0 : Nat) : Int), .int ((l.getD q.2 0 : Nat) : Int)]) = H4 at s4 t3 ⊢
      refine ⟨_, rfl, _, rfl, two_le, fun w4 hw4 => ?_⟩
      have s5 : Same H4 (upd H4 w4 (.tup [.ref w1, .ref w2])) := Same.upd hw4
      have t4 : upd H4 w4 (.tup [.ref w1, .ref w2]) w4 = some (.tup ([w1, w2].map V.ref)) := upd_same
      generalize upd H4 w4 (.tup [.ref w1, .ref w2]) = H5 at s5 t4 ⊢
      have s35 := s4.trans s5
      refine ⟨w3, _, w4, [w1, w2], [[((l.getD i 0 : Nat) : Int), ((l.getD j 0 : Nat) : Int)], [((l.getD j 0 : Nat) : Int), ((l.getD i 0 : Nat) : Int)]], rfl, rfl, s5 _ _ t3, .inr (SqT.of t4), .cons (s35 _ _ (s3 _ _ t1')) (.cons (s35 _ _ (s3 _ _ t2)) .nil), _, rfl, ?_⟩
      rw [in_two]
      cases e : ((Sc13Neutral.equal l q.1 i && Sc13Neutral.equal l q.2 j) || (Sc13Neutral.equal l q.1 j && Sc13Neutral.equal l q.2 i)) with
      | true =>
        refine iteT ?_
        have kk := k H5 ((s12.trans s3).trans s35)
        unfold dif at kk
        rw [any_hit (f := fun q => (Sc13Neutral.equal l q.1 i && Sc13Neutral.equal l q.2 j) || (Sc13Neutral.equal l q.1 j && Sc13Neutral.equal l q.2 i)) hq e] at kk
        exact kk
      | false =>
        refine iteF ⟨_, rfl, s3.trans s35, fun k' q' hk' hq' => ?_⟩
        rcases Nat.lt_or_eq_of_le (Nat.le_of_lt_succ hk') with h | h
        · exact no k' q' h hq'
        · subst h; rw [hq] at hq'; cases hq'; exact e
    · rintro σ H3 ⟨v, rfl, s3, no⟩
      rw [List.length_map, hbl] at no
      have kk := k H3 (s12.trans s3)
      unfold dif at kk
      rw [any_miss no] at kk
      exact kk
theorem scASame : FnScope ["self", "a", "b"] ["self", "a", "b"] (defScope sASame) := ⟨rfl, rfl, rfl, by decide +kernel, rfl, by decide +kernel, by decide +kernel⟩
theorem ok_aSame {f C f1 f2 : Addr} {fd fd1 fd2 : FuncData} (F : Fun K "answer_same" "Terms.answer_same" sASame f fd) (TC : TxtC K mg C) (C1 : CalM P w K mg base C "has_both" ["self", "a", "b"] 2 (spHasBoth C) f1 fd1) (C2 : CalM P w K mg base C "are_different" ["self", "a", "b"] 1 (spDiff C) f2 fd2) : FnOk P w K mg base CX0 3 f fd ["self", "a", "b"] (spAns C 5 2) := by
  refine F.ok scASame (fun vs H Q E h => ?_) (fun cdv A outer s H vs Q E hr h => ?_)
  · obtain ⟨p, s, o, gs, rfl, hg, _⟩ := h
    rw [List.length_cons, List.length_map, hg]; rfl
  · obtain ⟨p, s, o, gs, rfl, hg, hT, hask, k⟩ := h
    obtain ⟨a, b, rfl⟩ := args2 hg
    obtain ⟨dx, hob⟩ := hT.ob
    obtain ⟨tr, hrf⟩ := TC.refused
    obtain ⟨te, heq⟩ := TC.equal
    obtain ⟨td, hdi⟩ := TC.different
    obtain ⟨tu, hun⟩ := TC.unknown
    have hr1 : Room 1 _ := hr.mono (by decide)
    have hcl := hT.hl
    refine ⟨_, pss_cons (ps_if (pt_not (pt_val (pe_meth (pv 0) TC.cl C1.mt C1.ok hr C1.b .nil pass0 (pa_cons (pv 1) (pa_cons (pv 2) pa_nil))))) (pss_one (ps_ret (pe_glob (v := .int (-2)) rfl hrf ⟨_, rfl⟩))) pss_nil)
      (pss_cons (ps_if (pt_cmpR op_eq (pe_ix ix_list (pe_fld (pv 0) rfl) (pv 1) (fun _ _ => rfl)) (pe_ix ix_list (pe_fld (pv 0) rfl) (pv 2) (fun _ _ => rfl)) (nomark _)) (pss_one (ps_ret (pe_glob (v := .int 1) rfl heq ⟨_, rfl⟩))) pss_nil)
      (pss_cons (ps_if (pt_val (pe_meth (pv 0) TC.cl C2.mt C2.ok hr1 C2.b .nil pass0 (pa_cons (pv 1) (pa_cons (pv 2) pa_nil)))) (pss_one (ps_ret (pe_glob (v := .int 2) rfl hdi ⟨_, rfl⟩))) pss_nil)
      (pss_one (ps_ret (pe_glob (v := .int 0) rfl hun ⟨_, rfl⟩))))), ?_⟩
    refine ⟨_, rfl, p, dx, _, rfl, hob, fs_no _ _ _ _ _ (by decide +kernel), _, rfl, _, rfl, p, a, b, s, o, rfl, hT, _, rfl, ?_⟩
    cases e : s.now.has a && s.now.has b with
    | false => exact iteT (fin k (st_same_ref e) hT.stay)
    | true =>
      obtain ⟨ea, eb⟩ := Bool.and_eq_true_iff.mp e
      obtain ⟨i, rfl, hi⟩ := has_nat ea
      obtain ⟨j, rfl, hj⟩ := has_nat eb
      refine iteF ⟨_, rfl, p, C, dx, _, _, rfl, hob, TC.cl, TC.nHeads, fs_heads _ _ _ _ _, _, rfl, o.lh, _, _, _, rfl, rfl, SqL.of hT.now.heads, at_of (j := i) rfl (hv_get (by omega)), _, rfl, p, C, dx, _, _, rfl, hob, TC.cl, TC.nHeads, fs_heads _ _ _ _ _, _, rfl, o.lh, _, _, _, rfl, rfl, SqL.of hT.now.heads, at_of (j := j) rfl (hv_get (by omega)), rfl, _, rfl, ?_⟩
      rw [equal_int]
      cases eq : Sc13Neutral.equal (Sc13Neutral.classes s.now) i j with
      | true => exact iteT (fin k (st_same_eq e eq) hT.stay)
      | false =>
        have neq : ¬ Sc13Neutral.equal (Sc13Neutral.classes s.now) (i : Int).toNat (j : Int).toNat = true := by
          rw [Int.toNat_natCast, Int.toNat_natCast, eq]; exact Bool.noConfusion
        refine iteF ⟨_, rfl, p, dx, _, rfl, hob, fs_no _ _ _ _ _ (by decide +kernel), _, rfl, _, rfl, p, i, j, s, o, rfl, hT, hi, hj, fun H1 s1 => ⟨_, rfl, ?_⟩⟩
        cases ed : dif (Sc13Neutral.classes s.now) i j s.now.differ with
        | true => exact iteT (fin k (st_same_dif e neq ed) (hT.stp s1))
        | false => exact iteF (fin k (st_same_no e neq (by rw [Int.toNat_natCast, Int.toNat_natCast, ed]; exact Bool.noConfusion)) (hT.stp s1))
end
end Eqt

namespace Eqt
open PySem L2 Sc13 Eqm Eqp
theorem paired_unsnoc {α β : Type} {F : α → β → Prop} {b : β} : ∀ {l₁ : List α} {l₂ : List β}, Paired F l₁ (l₂ ++ [b]) → ∃ l a, l₁ = l ++ [a] ∧ Paired F l l₂ ∧ F a b
  | _, [], .cons r .nil => ⟨[], _, rfl, .nil, r⟩
  | _, _ :: _, .cons r t => by
    obtain ⟨l, a, e, h, k⟩ := paired_unsnoc t
    exact ⟨_ :: l, a, by rw [e]; rfl, .cons r h, k⟩
theorem paired_len {α β : Type} {F : α → β → Prop} {l₁ : List α} {l₂ : List β} (h : Paired F l₁ l₂) : l₁.length = l₂.length := Paired.length h
/-! answer_mark -/
theorem marked_state {C p t l1 l2 l3 : Addr} {H H4 : Hp} {s : Abs} {o : Own} {as bs : List Addr} (T : TermsAt C H p s o) (s4 : Same H H4) (hml : H o.lm = some (.lst (as.map V.ref))) (htis : TpIs H as (s.now.terms.map tvI)) (hpl : H o.lp = some (.lst (bs.map V.ref))) (hps : TpIs H bs (s.now.differ.map prI))
    (h1 : H4 l1 = some (.lst (as.map V.ref))) (h2 : H4 l2 = some (.lst (hv (Sc13Neutral.classes s.now)))) (h3 : H4 l3 = some (.lst (bs.map V.ref))) (ht : H4 t = some (.tup [.ref l1, .ref l2, .int (s.now.equal.length : Int), .ref l3]))
    (f1 : H l1 = none) (f2 : H l2 = none) (f3 : H l3 = none) (d12 : l1 ≠ l2) (d13 : l1 ≠ l3) (d23 : l2 ≠ l3) (hl : s.marks.length < 64) :
    Stp C H p o ⟨s.now, s.now :: s.marks⟩ (upd H4 o.lk (.lst (o.as.map V.ref ++ [.ref t]))) := by
  have D := dist_of T.nd
  have T1 := T.same s4
  have sub : ∀ c, c ∈ [o.lk] → c ∈ o.W p := fun c hc => by rw [List.mem_singleton.mp hc]; simp [Own.W]
  have nt := T1.nt sub
  have kp : Kp [o.lk] H4 (upd H4 o.lk (.lst (o.as.map V.ref ++ [.ref t]))) := Kp.upd (by simp)
  have hp : upd H4 o.lk (.lst (o.as.map V.ref ++ [.ref t])) o.lk = some (.lst ((o.as ++ [t]).map V.ref)) := by rw [upd_same, List.map_append]; rfl
  generalize upd H4 o.lk (.lst (o.as.map V.ref ++ [.ref t])) = H5 at kp hp
  have out : ∀ {c : Addr}, c ≠ o.lk → c ∉ [o.lk] := fun h => by simpa using h
  have fr : ∀ {l : Addr}, H l = none → ∀ c, c ∈ o.W p → c ≠ l := fun hf c hc z => T.dom c hc (by rw [z]; exact hf)
  have n0 : p ∈ o.W p := by simp [Own.W]
  have n1 : o.lm ∈ o.W p := by simp [Own.W]
  have n2 : o.lh ∈ o.W p := by simp [Own.W]
  have n3 : o.lp ∈ o.W p := by simp [Own.W]
  have n4 : o.lk ∈ o.W p := by simp [Own.W]
  have nr : ∀ c, c ∈ o.ms.flatMap mkL → c ∈ o.W p := fun c hc => by
    unfold Own.W
    simp only [List.mem_cons]
    exact .inr (.inr (.inr (.inr (.inr hc))))
  obtain ⟨dx, hob⟩ := T1.ob
  have efm : (o.ms ++ [(s.now, l1, l2, l3)]).flatMap mkL = o.ms.flatMap mkL ++ [l1, l2, l3] := by
    rw [List.flatMap_append]
    simp [mkL]
  have hmark : MarkAt H5 t (s.now, l1, l2, l3) := ⟨kp _ _ ht fun z => nt t z _ ht, ⟨as, kp _ _ h1 (out (fr f1 _ n4).symm), TpIs.keep kp nt (Same.tis s4 htis)⟩, kp _ _ h2 (out (fr f2 _ n4).symm), ⟨bs, kp _ _ h3 (out (fr f3 _ n4).symm), TpIs.keep kp nt (Same.tis s4 hps)⟩⟩
  refine ⟨⟨o.lm, o.lh, o.lp, o.lk, o.as ++ [t], o.ms ++ [(s.now, l1, l2, l3)]⟩, ⟨⟨dx, kp _ _ hob (out D.pk)⟩, T1.now.keep kp nt (out D.km.symm) (out D.kh.symm) (out D.kd.symm), hp, paired_snoc hmark (marks_keep T1.mks kp nt fun c hc => out (D.r c hc).2.1), ?_, ?_, ?_⟩, fun c hc => ?_, (Kp.same s4).trans (kp.mono sub)⟩
  · show s.now :: s.marks = ((o.ms ++ [(s.now, l1, l2, l3)]).map (·.1)).reverse
    rw [List.map_append, List.reverse_append, ← T.rev]
    rfl
  · refine of_dist ⟨D.pk, D.pm, D.ph, D.pd, D.km, D.kh, D.kd, D.mh, D.md, D.hd, ?_, ?_⟩
    · show ∀ c, c ∈ (o.ms ++ [(s.now, l1, l2, l3)]).flatMap mkL → _
      rw [efm]
      intro c hc
      rcases List.mem_append.mp hc with hc | hc
      · exact D.r c hc
      · simp only [List.mem_cons, List.not_mem_nil, or_false] at hc
        rcases hc with rfl | rfl | rfl
        · exact ⟨(fr f1 _ n0).symm, (fr f1 _ n4).symm, (fr f1 _ n1).symm, (fr f1 _ n2).symm, (fr f1 _ n3).symm⟩
        · exact ⟨(fr f2 _ n0).symm, (fr f2 _ n4).symm, (fr f2 _ n1).symm, (fr f2 _ n2).symm, (fr f2 _ n3).symm⟩
        · exact ⟨(fr f3 _ n0).symm, (fr f3 _ n4).symm, (fr f3 _ n1).symm, (fr f3 _ n2).symm, (fr f3 _ n3).symm⟩
    · show ((o.ms ++ [(s.now, l1, l2, l3)]).flatMap mkL).Nodup
      rw [efm, List.nodup_append]
      refine ⟨D.rn, by simp [d12, d13, d23], fun c hc e he => ?_⟩
      simp only [List.mem_cons, List.not_mem_nil, or_false] at he
      rcases he with rfl | rfl | rfl
      · exact fr f1 _ (nr c hc)
      · exact fr f2 _ (nr c hc)
      · exact fr f3 _ (nr c hc)
  · exact ⟨T.good.now, fun m hm => by
      rcases List.mem_cons.mp hm with e | e
      · rw [e]; exact T.good.now
      · exact T.good.marks m e, by show (s.now :: s.marks).length ≤ 64; rw [List.length_cons]; omega⟩
  · unfold Own.W at hc ⊢
    simp only [efm, List.mem_cons, List.mem_append, List.not_mem_nil, or_false] at hc ⊢
    rcases hc with h | h | h | h | h | h | h | h | h
    · exact .inl (.inl h)
    · exact .inl (.inr (.inl h))
    · exact .inl (.inr (.inr (.inl h)))
    · exact .inl (.inr (.inr (.inr (.inl h))))
    · exact .inl (.inr (.inr (.inr (.inr (.inl h)))))
    · exact .inl (.inr (.inr (.inr (.inr (.inr h)))))
    · exact .inr (by rw [h]; exact f1)
    · exact .inr (by rw [h]; exact f2)
    · exact .inr (by rw [h]; exact f3)
section
variable {P : Program} {w : World} {K : PySem.W.Frag} {mg : Str → Option Value} {base : Heap}
theorem scAMark : FnScope ["self"] ["self"] (defScope sAMark) := ⟨rfl, rfl, rfl, by decide +kernel, rfl, by decide +kernel, by decide +kernel⟩
theorem four_le {x y z u : V} : ([x, y, z, u] : List V).length ≤ sizeLine := by show 4 ≤ sizeLine; decide
theorem ok_aMark {f C : Addr} {fd : FuncData} (F : Fun K "answer_mark" "Terms.answer_mark" sAMark f fd) (T : Txt mg) (TC : TxtC K mg C) : FnOk P w K mg base CX0 1 f fd ["self"] (spAns C 10 0) := by
  refine F.ok scAMark (fun vs H Q E h => ?_) (fun cdv A outer s H vs Q E hr h => ?_)
  · obtain ⟨p, s, o, gs, rfl, hg, _⟩ := h
    rw [List.length_cons, List.length_map, hg]; rfl
  · obtain ⟨p, s, o, gs, rfl, hg, hT, hask, k⟩ := h
    obtain rfl := args0 hg
    obtain ⟨dx, hob⟩ := hT.ob
    obtain ⟨tr, hrf⟩ := TC.refused
    obtain ⟨tm, hmm⟩ := TC.mostM
    obtain ⟨as, hml, htis⟩ := hT.now.made
    obtain ⟨bs, hpl, hps⟩ := hT.now.parted
    have hh : H o.lh = some (.lst (hv (Sc13Neutral.classes s.now))) := hT.now.heads
    have big : (64 : Nat) < sizeLine := by decide
    have hal : o.as.length = s.marks.length := by rw [paired_len hT.mks, hT.rev, List.length_reverse, List.length_map]
    refine ⟨_, pss_cons (ps_if (pt_cmpR op_ge (pe_callB call_len_seq (by rfl) T.len PySem.boot_len (pa_cons (pe_fld (pv 0) rfl) pa_nil)) (pe_glob (v := .int 64) rfl hmm ⟨_, rfl⟩) (nomark _)) (pss_one (ps_ret (pe_glob (v := .int (-2)) rfl hrf ⟨_, rfl⟩))) pss_nil)
      (pss_cons (ps_expr (pe_bm PySem.F.plainAttrs_list PySem.F.slot_list_append PySem.F.type_list_append mt_append (pe_fld (pv 0) rfl) (pa_cons (pe_tup
        (pa_cons (pe_callTy call_list_of (by rfl) T.list PyProof.Rows.boot_list (pa_cons (pe_fld (pv 0) rfl) pa_nil)) (pa_cons (pe_callTy call_list_of (by rfl) T.list PyProof.Rows.boot_list (pa_cons (pe_fld (pv 0) rfl) pa_nil))
        (pa_cons (pe_fld (pv 0) rfl) (pa_cons (pe_callTy call_list_of (by rfl) T.list PyProof.Rows.boot_list (pa_cons (pe_fld (pv 0) rfl) pa_nil)) pa_nil))))) pa_nil)))
      (pss_one (ps_ret (pe_callB call_len_seq (by rfl) T.len PySem.boot_len (pa_cons (pe_fld (pv 0) rfl) pa_nil))))), ?_⟩
    refine ⟨_, rfl, p, C, dx, _, _, rfl, hob, TC.cl, TC.nMarks, fs_marks _ _ _ _ _, o.lk, _, rfl, .inl (SqL.of hT.lst), _, _, rfl, rfl, _, rfl, ?_⟩
    rw [List.length_map, hal]
    by_cases hl : 64 ≤ s.marks.length
    · exact ite2 (fun _ => fin k (st_mark_ref hl) hT.stay) (fun hc => absurd (decide_eq_true (by omega)) hc)
    · refine ite2 (fun hc => absurd (of_decide_eq_true hc) (by omega)) (fun _ => ?_)
      refine ⟨_, rfl, p, C, dx, _, _, rfl, hob, TC.cl, TC.nMarks, fs_marks _ _ _ _ _, .inl ⟨rfl, _, SqL.of hT.lst⟩, _, rfl, p, C, dx, _, _, rfl, hob, TC.cl, TC.nMade, fs_made _ _ _ _ _, o.lm, _, rfl, .inl (SqL.of hml), fun l1 f1 => ?_⟩
      have s1 : Same H (upd H l1 (.lst (as.map V.ref))) := Same.upd f1
      have e1 : upd H l1 (.lst (as.map V.ref)) l1 = some (.lst (as.map V.ref)) := upd_same
      generalize upd H l1 (.lst (as.map V.ref)) = H1 at s1 e1 ⊢
      refine ⟨_, rfl, p, C, dx, _, _, rfl, s1 _ _ hob, TC.cl, TC.nHeads, fs_heads _ _ _ _ _, o.lh, _, rfl, .inl (SqL.of (s1 _ _ hh)), fun l2 f2 => ?_⟩
      have s2 : Same H1 (upd H1 l2 (.lst (hv (Sc13Neutral.classes s.now)))) := Same.upd f2
      have e2 : upd H1 l2 (.lst (hv (Sc13Neutral.classes s.now))) l2 = some (.lst (hv (Sc13Neutral.classes s.now))) := upd_same
      generalize upd H1 l2 (.lst (hv (Sc13Neutral.classes s.now))) = H2 at s2 e2 ⊢
      have s12 := s1.trans s2
      refine ⟨_, rfl, p, C, dx, _, _, rfl, s12 _ _ hob, TC.cl, TC.nJc, fs_jc _ _ _ _ _, _, rfl, p, C, dx, _, _, rfl, s12 _ _ hob, TC.cl, TC.nParted, fs_parted _ _ _ _ _, o.lp, _, rfl, .inl (SqL.of (s12 _ _ hpl)), fun l3 f3 => ?_⟩
      have s3 : Same H2 (upd H2 l3 (.lst (bs.map V.ref))) := Same.upd f3
      have e3 : upd H2 l3 (.lst (bs.map V.ref)) l3 = some (.lst (bs.map V.ref)) := upd_same
      generalize upd H2 l3 (.lst (bs.map V.ref)) = H3 at s3 e3 ⊢
      have s13 := s12.trans s3
      refine ⟨four_le, fun t ft => ?_⟩
      have s4 : Same H3 (upd H3 t (.tup [.ref l1, .ref l2, .int (s.now.equal.length : Int), .ref l3])) := Same.upd ft
      have e4 : upd H3 t (.tup [.ref l1, .ref l2, .int (s.now.equal.length : Int), .ref l3]) t = some (.tup [.ref l1, .ref l2, .int (s.now.equal.length : Int), .ref l3]) := upd_same
      generalize upd H3 t (.tup [.ref l1, .ref l2, .int (s.now.equal.length : Int), .ref l3]) = H4 at s4 e4 ⊢
      have s14 := s13.trans s4
      have d12 : l1 ≠ l2 := ne_of_none e1 f2
      have d13 : l1 ≠ l3 := ne_of_none (s2 _ _ e1) f3
      have d23 : l2 ≠ l3 := ne_of_none e2 f3
      have D := dist_of hT.nd
      refine ⟨o.lk, _, _, rfl, rfl, s14 _ _ hT.lst, by rw [List.length_map, hal]; omega, ?_⟩
      have st := marked_state hT s14 hml htis hpl hps (s4 _ _ (s3 _ _ (s2 _ _ e1))) (s4 _ _ (s3 _ _ e2)) (s4 _ _ e3) e4 f1 (s1.free f2) (s12.free f3) d12 d13 d23 (by omega)
      have hob5 : upd H4 o.lk (.lst (o.as.map V.ref ++ [.ref t])) p = _ := (upd_ne D.pk).trans (s14 _ _ hob)
      have hl5 : upd H4 o.lk (.lst (o.as.map V.ref ++ [.ref t])) o.lk = some (.lst (o.as.map V.ref ++ [.ref t])) := upd_same
      refine ⟨_, rfl, p, C, dx, _, _, rfl, hob5, TC.cl, TC.nMarks, fs_marks _ _ _ _ _, o.lk, _, rfl, .inl (SqL.of hl5), ?_⟩
      rw [List.length_append, List.length_map, hal]
      exact fin k (st_mark hl) st
/-! answer_back -/
theorem back_state {C p dx : Addr} {H : Hp} {s : Abs} {o : Own} {as0 : List Addr} {ms0 : List Mk4} {t : Addr} {m : Mk4} {X1 X2 X3 : HO} (T : TermsAt C H p s o) (eo : o.ms = ms0 ++ [m]) (ea : o.as = as0 ++ [t]) (hm : Paired (MarkAt H) as0 ms0) (ht : MarkAt H t m) :
    Stp C H p o ⟨m.1, (ms0.map (·.1)).reverse⟩ (upd (upd (upd (upd (upd H o.lk (.lst (as0.map V.ref))) p X1) p X2) p X3) p (.ins C dx (fsT m.2.1 m.2.2.1 m.2.2.2 o.lk m.1.equal.length))) := by
  have D := dist_of T.nd
  have sub : ∀ c, c ∈ [o.lk, p] → c ∈ o.W p := fun c hc => by
    simp only [List.mem_cons, List.not_mem_nil, or_false] at hc
    rcases hc with rfl | rfl <;> simp [Own.W]
  have nt := T.nt sub
  have kp : Kp [o.lk, p] H (upd (upd (upd (upd (upd H o.lk (.lst (as0.map V.ref))) p X1) p X2) p X3) p (.ins C dx (fsT m.2.1 m.2.2.1 m.2.2.2 o.lk m.1.equal.length))) :=
    Kp.trans (Kp.upd (by simp)) (Kp.trans (Kp.upd (by simp)) (Kp.trans (Kp.upd (by simp)) (Kp.trans (Kp.upd (by simp)) (Kp.upd (by simp)))))
  have hlk : (upd (upd (upd (upd (upd H o.lk (.lst (as0.map V.ref))) p X1) p X2) p X3) p (.ins C dx (fsT m.2.1 m.2.2.1 m.2.2.2 o.lk m.1.equal.length))) o.lk = some (.lst (as0.map V.ref)) := by
    rw [upd_ne D.pk.symm, upd_ne D.pk.symm, upd_ne D.pk.symm, upd_ne D.pk.symm, upd_same]
  have hp : (upd (upd (upd (upd (upd H o.lk (.lst (as0.map V.ref))) p X1) p X2) p X3) p (.ins C dx (fsT m.2.1 m.2.2.1 m.2.2.2 o.lk m.1.equal.length))) p = some (.ins C dx (fsT m.2.1 m.2.2.1 m.2.2.2 o.lk m.1.equal.length)) := upd_same
  generalize (upd (upd (upd (upd (upd H o.lk (.lst (as0.map V.ref))) p X1) p X2) p X3) p (.ins C dx (fsT m.2.1 m.2.2.1 m.2.2.2 o.lk m.1.equal.length))) = H5 at kp hlk hp
  have efm : o.ms.flatMap mkL = ms0.flatMap mkL ++ [m.2.1, m.2.2.1, m.2.2.2] := by
    rw [eo, List.flatMap_append]
    simp [mkL]
  have r := D.r
  have rn := D.rn
  rw [efm] at r rn
  have rin : ∀ c, c ∈ ms0.flatMap mkL ++ [m.2.1, m.2.2.1, m.2.2.2] → c ∉ [o.lk, p] := fun c hc => by
    obtain ⟨r1, r2, _⟩ := r c hc
    simp [r1, r2]
  rw [List.nodup_append] at rn
  obtain ⟨rn0, rn3, rnd⟩ := rn
  simp only [List.nodup_cons, List.mem_cons, List.not_mem_nil, or_false, not_or, List.nodup_nil, and_true, not_false_eq_true] at rn3
  obtain ⟨⟨x12, x13⟩, x23⟩ := rn3
  have q1 := r m.2.1 (by simp)
  have q2 := r m.2.2.1 (by simp)
  have q3 := r m.2.2.2 (by simp)
  have hmarks : s.marks = m.1 :: (ms0.map (·.1)).reverse := by
    rw [T.rev, eo, List.map_append, List.reverse_append]
    rfl
  refine ⟨⟨m.2.1, m.2.2.1, m.2.2.2, o.lk, as0, ms0⟩, ⟨⟨dx, hp⟩, ht.2.keep kp nt (rin _ (by simp)) (rin _ (by simp)) (rin _ (by simp)), hlk, marks_keep hm kp nt fun c hc => rin c (List.mem_append.mpr (.inl hc)), rfl, ?_, ?_⟩, fun c hc => .inl ?_, kp.mono sub⟩
  · refine of_dist ⟨D.pk, q1.1.symm, q2.1.symm, q3.1.symm, q1.2.1.symm, q2.2.1.symm, q3.2.1.symm, x12, x13, x23, fun c hc => ?_, rn0⟩
    obtain ⟨r1, r2, _⟩ := r c (List.mem_append.mpr (.inl hc))
    exact ⟨r1, r2, rnd c hc _ (by simp), rnd c hc _ (by simp), rnd c hc _ (by simp)⟩
  · refine ⟨T.good.marks m.1 (by rw [hmarks]; simp), fun n hn => T.good.marks n (by rw [hmarks]; exact List.mem_cons_of_mem _ hn), ?_⟩
    have := T.good.few
    rw [hmarks, List.length_cons] at this
    show (ms0.map (·.1)).reverse.length ≤ 64
    omega
  · unfold Own.W at hc ⊢
    rw [efm]
    simp only [List.mem_cons, List.mem_append, List.not_mem_nil, or_false] at hc ⊢
    rcases hc with h | h | h | h | h | h
    · exact .inl h
    · exact .inr (.inl h)
    · exact .inr (.inr (.inr (.inr (.inr (.inr (.inl h))))))
    · exact .inr (.inr (.inr (.inr (.inr (.inr (.inr (.inl h)))))))
    · exact .inr (.inr (.inr (.inr (.inr (.inr (.inr (.inr h)))))))
    · exact .inr (.inr (.inr (.inr (.inr (.inl h)))))
theorem scABack : FnScope ["self", "mark"] ["self"] (defScope sABack) := ⟨rfl, rfl, rfl, by decide +kernel, rfl, by decide +kernel, by decide +kernel⟩
theorem ok_aBack {f C : Addr} {fd : FuncData} (F : Fun K "answer_back" "Terms.answer_back" sABack f fd) (T : Txt mg) (TC : TxtC K mg C) : FnOk P w K mg base CX0 1 f fd ["self"] (spAns C 11 0) := by
  refine F.ok scABack (fun vs H Q E h => ?_) (fun cdv A outer s H vs Q E hr h => ?_)
  · obtain ⟨p, s, o, gs, rfl, hg, _⟩ := h
    rw [List.length_cons, List.length_map, hg]; rfl
  · obtain ⟨p, s, o, gs, rfl, hg, hT, hask, k⟩ := h
    obtain rfl := args0 hg
    obtain ⟨dx, hob⟩ := hT.ob
    obtain ⟨tn, hnd⟩ := TC.notDone
    obtain ⟨td, hdn⟩ := TC.done
    have hal : o.as.length = s.marks.length := by rw [paired_len hT.mks, hT.rev, List.length_reverse, List.length_map]
    have D := dist_of hT.nd
    refine ⟨_, pss_cons (ps_if (pt_cmpR op_eq (pe_callB call_len_seq (by rfl) T.len PySem.boot_len (pa_cons (pe_fld (pv 0) rfl) pa_nil)) pe_int (nomark _)) (pss_one (ps_ret (pe_glob (v := .int (-1)) rfl hnd ⟨_, rfl⟩))) pss_nil)
      (pss_cons (ps_set (i := 1) scABack.nd rfl (Or.inl rfl) (pe_bm0 PySem.F.plainAttrs_list PySem.F.slot_list_pop PySem.F.type_list_pop mt_pop (pe_fld (pv 0) rfl)))
      (pss_cons (ps_fld (pv 0) (pe_ix ix_tup (pv 1) pe_int (fun _ _ => rfl)) rfl)
      (pss_cons (ps_fld (pv 0) (pe_ix ix_tup (pv 1) pe_int (fun _ _ => rfl)) rfl)
      (pss_cons (ps_fld (pv 0) (pe_ix ix_tup (pv 1) pe_int (fun _ _ => rfl)) rfl)
      (pss_cons (ps_fld (pv 0) (pe_ix ix_tup (pv 1) pe_int (fun _ _ => rfl)) rfl)
      (pss_one (ps_ret (pe_glob (v := .int 0) rfl hdn ⟨_, rfl⟩)))))))), ?_⟩
    refine ⟨_, rfl, p, C, dx, _, _, rfl, hob, TC.cl, TC.nMarks, fs_marks _ _ _ _ _, o.lk, _, rfl, .inl (SqL.of hT.lst), rfl, _, rfl, ?_⟩
    rw [dec_int, List.length_map, hal]
    rcases List.eq_nil_or_concat o.ms with e | ⟨ms0, m, e⟩
    · have e0 : s.marks = [] := by rw [hT.rev, e]; rfl
      exact ite2 (fun _ => fin k (st_back_no e0) hT.stay) (fun hc => absurd (decide_eq_true (by rw [e0]; rfl)) hc)
    · rw [List.concat_eq_append] at e
      have hmk := hT.mks
      rw [e] at hmk
      obtain ⟨as0, t, ea, hm0, hmt⟩ := paired_unsnoc hmk
      have hmarks : s.marks = m.1 :: (ms0.map (·.1)).reverse := by
        rw [hT.rev, e, List.map_append, List.reverse_append]
        rfl
      refine ite2 (fun hc => ?_) (fun _ => ?_)
      · exfalso
        have z := of_decide_eq_true hc
        rw [hmarks, List.length_cons] at z
        omega
      · have hlk : H o.lk = some (.lst (as0.map V.ref ++ [.ref t])) := by rw [hT.lst, ea, List.map_append]; rfl
        refine ⟨_, rfl, p, C, dx, _, _, rfl, hob, TC.cl, TC.nMarks, fs_marks _ _ _ _ _, .inl ⟨rfl, _, SqL.of hlk⟩, o.lk, _, .ref t, rfl, rfl, hlk, by simp, ?_⟩
        rw [List.dropLast_concat]
        have hp1 : upd H o.lk (.lst (as0.map V.ref)) p = _ := (upd_ne D.pk).trans hob
        have nlt : t ≠ o.lk := ne_of hmt.1 hT.lst (by intro z; cases z)
        have nlp : t ≠ p := ne_of hmt.1 hob (by intro z; cases z)
        have ht1 : upd H o.lk (.lst (as0.map V.ref)) t = _ := (upd_ne nlt).trans hmt.1
        have st := back_state (dx := dx) (X1 := .ins C dx (fsT m.2.1 o.lh o.lp o.lk s.now.equal.length)) (X2 := .ins C dx (fsT m.2.1 m.2.2.1 o.lp o.lk s.now.equal.length)) (X3 := .ins C dx (fsT m.2.1 m.2.2.1 o.lp o.lk m.1.equal.length)) hT e ea hm0 hmt
        have kk := fin k (st_back hmarks) st
        have five : ∀ (a b c d : Addr) (j : Nat), (fsT a b c d j).length < 1000 := fun a b c d j => by show 5 < 1000; decide
        refine ⟨_, rfl, t, _, _, _, rfl, rfl, SqT.of ht1, rfl, _, rfl, p, C, dx, _, rfl, hp1, TC.cl, TC.nMade, five _ _ _ _ _, ?_⟩
        rw [put_made]
        have ht2 := (upd_ne (o := HO.ins C dx (fsT m.2.1 o.lh o.lp o.lk s.now.equal.length)) nlp).trans ht1
        refine ⟨_, rfl, t, _, _, _, rfl, rfl, SqT.of ht2, rfl, _, rfl, p, C, dx, _, rfl, upd_same, TC.cl, TC.nHeads, five _ _ _ _ _, ?_⟩
        rw [put_heads]
        have ht3 := (upd_ne (o := HO.ins C dx (fsT m.2.1 m.2.2.1 o.lp o.lk s.now.equal.length)) nlp).trans ht2
        refine ⟨_, rfl, t, _, _, _, rfl, rfl, SqT.of ht3, rfl, _, rfl, p, C, dx, _, rfl, upd_same, TC.cl, TC.nJc, five _ _ _ _ _, ?_⟩
        rw [put_jc]
        have ht4 := (upd_ne (o := HO.ins C dx (fsT m.2.1 m.2.2.1 o.lp o.lk m.1.equal.length)) nlp).trans ht3
        refine ⟨_, rfl, t, _, _, _, rfl, rfl, SqT.of ht4, rfl, _, rfl, p, C, dx, _, rfl, upd_same, TC.cl, TC.nParted, five _ _ _ _ _, ?_⟩
        rw [put_parted]
        exact kk
end
end Eqt

namespace Eqt
open PySem L2 Sc13 Eqm Eqp
abbrev sAnswer : Stmt := top 37
abbrev sAll : Stmt := top 38
abbrev sAnswers : Stmt := top 39
theorem skp {a b : Int} {A B : Prop} (h : a ≠ b) (k : B) : if decide (V.int a = V.int b) = true then A else B := by
  rw [dec_int, decide_eq_false h]; exact iteF k
theorem hit {a : Int} {A B : Prop} (k : A) : if decide (V.int a = V.int a) = true then A else B := by
  rw [dec_int, decide_eq_true rfl]; exact iteT k
structure TxtN (mg : Str → Option Value) : Prop where
  init : ∃ t, mg "INIT" = some (.int 0 t)
  term : ∃ t, mg "TERM" = some (.int 1 t)
  find : ∃ t, mg "FIND" = some (.int 2 t)
  join : ∃ t, mg "JOIN" = some (.int 3 t)
  part : ∃ t, mg "PART" = some (.int 4 t)
  same : ∃ t, mg "SAME" = some (.int 5 t)
  head : ∃ t, mg "HEAD" = some (.int 6 t)
  size : ∃ t, mg "SIZE" = some (.int 7 t)
  depth : ∃ t, mg "DEPTH" = some (.int 8 t)
  list : ∃ t, mg "LIST" = some (.int 9 t)
  mark : ∃ t, mg "MARK" = some (.int 10 t)
def spAnswer (K : PySem.W.Frag) (C : Addr) : Sp := fun vs H Q _ => ∃ (p g : Addr) (s : Abs) (o : Own) (num : Int) (gs : List Int), vs = [.ref p, .int num, .ref g] ∧ SqL K H g (gs.map V.int) ∧ TermsAt C H p s o ∧ gs.length = argn num ∧ 0 ≤ num ∧ num ≤ 11 ∧ num ≠ 9 ∧ Sc13Neutral.asked1 [num :: gs] = true ∧
  ∀ (v : Int) (H' : Hp), (Sc13Neutral.step s [num :: gs]).2 = [v] → Stp C H p o (Sc13Neutral.step s [num :: gs]).1 H' → Q (.int v) H'
structure Ms (P : Program) (w : World) (K : PySem.W.Frag) (mg : Str → Option Value) (base : Heap) (C : Addr) : Prop where
  init : ∃ f fd, CalM P w K mg base C "answer_init" ["self"] 2 (spAns C 0 0) f fd
  term : ∃ f fd, CalM P w K mg base C "answer_term" ["self", "sign", "x", "y"] 5 (spAns C 1 3) f fd
  find : ∃ f fd, CalM P w K mg base C "answer_find" ["self", "sign", "x", "y"] 4 (spAns C 2 3) f fd
  join : ∃ f fd, CalM P w K mg base C "answer_join" ["self", "a", "b"] 5 (spAns C 3 2) f fd
  part : ∃ f fd, CalM P w K mg base C "answer_part" ["self", "a", "b"] 3 (spAns C 4 2) f fd
  same : ∃ f fd, CalM P w K mg base C "answer_same" ["self", "a", "b"] 3 (spAns C 5 2) f fd
  head : ∃ f fd, CalM P w K mg base C "answer_head" ["self", "a"] 2 (spAns C 6 1) f fd
  size : ∃ f fd, CalM P w K mg base C "answer_size" ["self", "a"] 3 (spAns C 7 1) f fd
  depth : ∃ f fd, CalM P w K mg base C "answer_depth" ["self", "a"] 5 (spAns C 8 1) f fd
  mark : ∃ f fd, CalM P w K mg base C "answer_mark" ["self"] 1 (spAns C 10 0) f fd
  back : ∃ f fd, CalM P w K mg base C "answer_back" ["self"] 1 (spAns C 11 0) f fd
theorem twelve {n : Int} (h0 : 0 ≤ n) (h1 : n ≤ 11) : n = 0 ∨ n = 1 ∨ n = 2 ∨ n = 3 ∨ n = 4 ∨ n = 5 ∨ n = 6 ∨ n = 7 ∨ n = 8 ∨ n = 9 ∨ n = 10 ∨ n = 11 := by omega
section
variable {P : Program} {w : World} {K : PySem.W.Frag} {mg : Str → Option Value} {base : Heap}
theorem scAnswer : FnScope ["held", "call", "given"] ["held", "call", "given"] (defScope sAnswer) := ⟨rfl, rfl, rfl, by decide +kernel, rfl, by decide +kernel, by decide +kernel⟩
theorem ok_answer {f C : Addr} {fd : FuncData} (F : Fun K "answer" "answer" sAnswer f fd) (TC : TxtC K mg C) (TN : TxtN mg) (M : Ms P w K mg base C) : FnOk P w K mg base CX0 6 f fd ["held", "call", "given"] (spAnswer K C) := by
  refine F.ok scAnswer (fun vs H Q E h => ?_) (fun cdv A outer s H vs Q E hr h => ?_)
  · obtain ⟨p, g, s, o, num, gs, rfl, _⟩ := h
    rfl
  · obtain ⟨p, g, s, o, num, gs, rfl, hg, hT, hlen, n0, n1, n9, hask, k⟩ := h
    obtain ⟨dx, hob⟩ := hT.ob
    obtain ⟨t0, g0⟩ := TN.init
    obtain ⟨t1, g1⟩ := TN.term
    obtain ⟨t2, g2⟩ := TN.find
    obtain ⟨t3, g3⟩ := TN.join
    obtain ⟨t4, g4⟩ := TN.part
    obtain ⟨t5, g5⟩ := TN.same
    obtain ⟨t6, g6⟩ := TN.head
    obtain ⟨t7, g7⟩ := TN.size
    obtain ⟨t8, g8⟩ := TN.depth
    obtain ⟨t10, g10⟩ := TN.mark
    obtain ⟨f0, d0, m0⟩ := M.init
    obtain ⟨f1, d1, m1⟩ := M.term
    obtain ⟨f2, d2, m2⟩ := M.find
    obtain ⟨f3, d3, m3⟩ := M.join
    obtain ⟨f4, d4, m4⟩ := M.part
    obtain ⟨f5, d5, m5⟩ := M.same
    obtain ⟨f6, d6, m6⟩ := M.head
    obtain ⟨f7, d7, m7⟩ := M.size
    obtain ⟨f8, d8, m8⟩ := M.depth
    obtain ⟨f10, d10, m10⟩ := M.mark
    obtain ⟨f11, d11, m11⟩ := M.back
    have hr1 : Room 1 _ := hr.mono (by decide)
    have hr2 : Room 2 _ := hr.mono (by decide)
    have hr3 : Room 3 _ := hr.mono (by decide)
    have hr4 : Room 4 _ := hr.mono (by decide)
    refine ⟨_,
      pss_cons (ps_if (pt_cmpR op_eq (pv 1) (pe_glob (v := .int 0) rfl g0 ⟨_, rfl⟩) (nomark _)) (pss_one (ps_ret (pe_meth0 (pv 0) TC.cl m0.mt m0.ok hr2 m0.b .nil pass0))) pss_nil)
      (pss_cons (ps_if (pt_cmpR op_eq (pv 1) (pe_glob (v := .int 1) rfl g1 ⟨_, rfl⟩) (nomark _)) (pss_one (ps_ret (pe_meth (pv 0) TC.cl m1.mt m1.ok hr m1.b .nil pass0 (pa_cons (pe_ix ix_list (pv 2) pe_int (fun _ _ => rfl)) (pa_cons (pe_ix ix_list (pv 2) pe_int (fun _ _ => rfl)) (pa_cons (pe_ix ix_list (pv 2) pe_int (fun _ _ => rfl)) pa_nil)))))) pss_nil)
      (pss_cons (ps_if (pt_cmpR op_eq (pv 1) (pe_glob (v := .int 2) rfl g2 ⟨_, rfl⟩) (nomark _)) (pss_one (ps_ret (pe_meth (pv 0) TC.cl m2.mt m2.ok hr4 m2.b .nil pass0 (pa_cons (pe_ix ix_list (pv 2) pe_int (fun _ _ => rfl)) (pa_cons (pe_ix ix_list (pv 2) pe_int (fun _ _ => rfl)) (pa_cons (pe_ix ix_list (pv 2) pe_int (fun _ _ => rfl)) pa_nil)))))) pss_nil)
      (pss_cons (ps_if (pt_cmpR op_eq (pv 1) (pe_glob (v := .int 3) rfl g3 ⟨_, rfl⟩) (nomark _)) (pss_one (ps_ret (pe_meth (pv 0) TC.cl m3.mt m3.ok hr m3.b .nil pass0 (pa_cons (pe_ix ix_list (pv 2) pe_int (fun _ _ => rfl)) (pa_cons (pe_ix ix_list (pv 2) pe_int (fun _ _ => rfl)) pa_nil))))) pss_nil)
      (pss_cons (ps_if (pt_cmpR op_eq (pv 1) (pe_glob (v := .int 4) rfl g4 ⟨_, rfl⟩) (nomark _)) (pss_one (ps_ret (pe_meth (pv 0) TC.cl m4.mt m4.ok hr3 m4.b .nil pass0 (pa_cons (pe_ix ix_list (pv 2) pe_int (fun _ _ => rfl)) (pa_cons (pe_ix ix_list (pv 2) pe_int (fun _ _ => rfl)) pa_nil))))) pss_nil)
      (pss_cons (ps_if (pt_cmpR op_eq (pv 1) (pe_glob (v := .int 5) rfl g5 ⟨_, rfl⟩) (nomark _)) (pss_one (ps_ret (pe_meth (pv 0) TC.cl m5.mt m5.ok hr3 m5.b .nil pass0 (pa_cons (pe_ix ix_list (pv 2) pe_int (fun _ _ => rfl)) (pa_cons (pe_ix ix_list (pv 2) pe_int (fun _ _ => rfl)) pa_nil))))) pss_nil)
      (pss_cons (ps_if (pt_cmpR op_eq (pv 1) (pe_glob (v := .int 6) rfl g6 ⟨_, rfl⟩) (nomark _)) (pss_one (ps_ret (pe_meth (pv 0) TC.cl m6.mt m6.ok hr2 m6.b .nil pass0 (pa_cons (pe_ix ix_list (pv 2) pe_int (fun _ _ => rfl)) pa_nil)))) pss_nil)
      (pss_cons (ps_if (pt_cmpR op_eq (pv 1) (pe_glob (v := .int 7) rfl g7 ⟨_, rfl⟩) (nomark _)) (pss_one (ps_ret (pe_meth (pv 0) TC.cl m7.mt m7.ok hr3 m7.b .nil pass0 (pa_cons (pe_ix ix_list (pv 2) pe_int (fun _ _ => rfl)) pa_nil)))) pss_nil)
      (pss_cons (ps_if (pt_cmpR op_eq (pv 1) (pe_glob (v := .int 8) rfl g8 ⟨_, rfl⟩) (nomark _)) (pss_one (ps_ret (pe_meth (pv 0) TC.cl m8.mt m8.ok hr m8.b .nil pass0 (pa_cons (pe_ix ix_list (pv 2) pe_int (fun _ _ => rfl)) pa_nil)))) pss_nil)
      (pss_cons (ps_if (pt_cmpR op_eq (pv 1) (pe_glob (v := .int 10) rfl g10 ⟨_, rfl⟩) (nomark _)) (pss_one (ps_ret (pe_meth0 (pv 0) TC.cl m10.mt m10.ok hr1 m10.b .nil pass0))) pss_nil)
      (pss_one (ps_ret (pe_meth0 (pv 0) TC.cl m11.mt m11.ok hr1 m11.b .nil pass0)))))))))))), ?_⟩
    rcases twelve n0 n1 with rfl | rfl | rfl | rfl | rfl | rfl | rfl | rfl | rfl | rfl | rfl | rfl
    · refine ⟨_, rfl, rfl, _, rfl, hit ?_⟩
      exact ⟨_, rfl, p, dx, _, rfl, hob, fs_no _ _ _ _ _ (by decide +kernel), p, s, o, gs, by rw [args0 hlen]; rfl, hlen, hT, hask, k⟩
    · repeat (refine ⟨_, rfl, rfl, _, rfl, skp (by decide) ?_⟩)
      refine ⟨_, rfl, rfl, _, rfl, hit ?_⟩
      obtain ⟨a, b, c, rfl⟩ := args3 (gs := gs) hlen
      exact ⟨_, rfl, p, dx, _, rfl, hob, fs_no _ _ _ _ _ (by decide +kernel), _, rfl, g, _, _, _, rfl, rfl, hg, rfl, _, rfl, g, _, _, _, rfl, rfl, hg, rfl, _, rfl, g, _, _, _, rfl, rfl, hg, rfl, p, s, o, _, rfl, rfl, hT, hask, k⟩
    · repeat (refine ⟨_, rfl, rfl, _, rfl, skp (by decide) ?_⟩)
      refine ⟨_, rfl, rfl, _, rfl, hit ?_⟩
      obtain ⟨a, b, c, rfl⟩ := args3 (gs := gs) hlen
      exact ⟨_, rfl, p, dx, _, rfl, hob, fs_no _ _ _ _ _ (by decide +kernel), _, rfl, g, _, _, _, rfl, rfl, hg, rfl, _, rfl, g, _, _, _, rfl, rfl, hg, rfl, _, rfl, g, _, _, _, rfl, rfl, hg, rfl, p, s, o, _, rfl, rfl, hT, hask, k⟩
    · repeat (refine ⟨_, rfl, rfl, _, rfl, skp (by decide) ?_⟩)
      refine ⟨_, rfl, rfl, _, rfl, hit ?_⟩
      obtain ⟨a, b, rfl⟩ := args2 (gs := gs) hlen
      exact ⟨_, rfl, p, dx, _, rfl, hob, fs_no _ _ _ _ _ (by decide +kernel), _, rfl, g, _, _, _, rfl, rfl, hg, rfl, _, rfl, g, _, _, _, rfl, rfl, hg, rfl, p, s, o, _, rfl, rfl, hT, hask, k⟩
    · repeat (refine ⟨_, rfl, rfl, _, rfl, skp (by decide) ?_⟩)
      refine ⟨_, rfl, rfl, _, rfl, hit ?_⟩
      obtain ⟨a, b, rfl⟩ := args2 (gs := gs) hlen
      exact ⟨_, rfl, p, dx, _, rfl, hob, fs_no _ _ _ _ _ (by decide +kernel), _, rfl, g, _, _, _, rfl, rfl, hg, rfl, _, rfl, g, _, _, _, rfl, rfl, hg, rfl, p, s, o, _, rfl, rfl, hT, hask, k⟩
    · repeat (refine ⟨_, rfl, rfl, _, rfl, skp (by decide) ?_⟩)
      refine ⟨_, rfl, rfl, _, rfl, hit ?_⟩
      obtain ⟨a, b, rfl⟩ := args2 (gs := gs) hlen
      exact ⟨_, rfl, p, dx, _, rfl, hob, fs_no _ _ _ _ _ (by decide +kernel), _, rfl, g, _, _, _, rfl, rfl, hg, rfl, _, rfl, g, _, _, _, rfl, rfl, hg, rfl, p, s, o, _, rfl, rfl, hT, hask, k⟩
    · repeat (refine ⟨_, rfl, rfl, _, rfl, skp (by decide) ?_⟩)
      refine ⟨_, rfl, rfl, _, rfl, hit ?_⟩
      obtain ⟨a, rfl⟩ := args1 (gs := gs) hlen
      exact ⟨_, rfl, p, dx, _, rfl, hob, fs_no _ _ _ _ _ (by decide +kernel), _, rfl, g, _, _, _, rfl, rfl, hg, rfl, p, s, o, _, rfl, rfl, hT, hask, k⟩
    · repeat (refine ⟨_, rfl, rfl, _, rfl, skp (by decide) ?_⟩)
      refine ⟨_, rfl, rfl, _, rfl, hit ?_⟩
      obtain ⟨a, rfl⟩ := args1 (gs := gs) hlen
      exact ⟨_, rfl, p, dx, _, rfl, hob, fs_no _ _ _ _ _ (by decide +kernel), _, rfl, g, _, _, _, rfl, rfl, hg, rfl, p, s, o, _, rfl, rfl, hT, hask, k⟩
    · repeat (refine ⟨_, rfl, rfl, _, rfl, skp (by decide) ?_⟩)
      refine ⟨_, rfl, rfl, _, rfl, hit ?_⟩
      obtain ⟨a, rfl⟩ := args1 (gs := gs) hlen
      exact ⟨_, rfl, p, dx, _, rfl, hob, fs_no _ _ _ _ _ (by decide +kernel), _, rfl, g, _, _, _, rfl, rfl, hg, rfl, p, s, o, _, rfl, rfl, hT, hask, k⟩
    · exact absurd rfl n9
    · repeat (refine ⟨_, rfl, rfl, _, rfl, skp (by decide) ?_⟩)
      refine ⟨_, rfl, rfl, _, rfl, hit ?_⟩
      exact ⟨_, rfl, p, dx, _, rfl, hob, fs_no _ _ _ _ _ (by decide +kernel), p, s, o, gs, by rw [args0 hlen]; rfl, hlen, hT, hask, k⟩
    · repeat (refine ⟨_, rfl, rfl, _, rfl, skp (by decide) ?_⟩)
      exact ⟨_, rfl, p, dx, _, rfl, hob, fs_no _ _ _ _ _ (by decide +kernel), p, s, o, gs, by rw [args0 hlen]; rfl, hlen, hT, hask, k⟩
/-! all_answered -/
def spAll (K : PySem.W.Frag) (C : Addr) : Sp := fun vs H Q _ => ∃ (p g : Addr) (s : Abs) (o : Own) (num : Int) (gs : List Int), vs = [.ref p, .int num, .ref g] ∧ SqL K H g (gs.map V.int) ∧ TermsAt C H p s o ∧ gs.length = argn num ∧ 0 ≤ num ∧ num ≤ 11 ∧ Sc13Neutral.asked1 [num :: gs] = true ∧
  ∀ (d : Addr) (H' : Hp), H' d = some (.lst ((Sc13Neutral.step s [num :: gs]).2.map V.int)) → (∀ b u, H b = some u → b ∉ o.W p → b ≠ d) → (Sc13Neutral.step s [num :: gs]).2.length ≤ 513 → Stp C H p o (Sc13Neutral.step s [num :: gs]).1 H' → Q (.ref d) H'
theorem Stp.more {C p : Addr} {H H1 H2 : Hp} {o : Own} {s : Abs} (h : Stp C H p o s H1) (s2 : Same H1 H2) : Stp C H p o s H2 := by
  obtain ⟨o', T, f, k⟩ := h
  exact ⟨o', T.same s2, f, k.trans (Kp.same s2)⟩
theorem scAll : FnScope ["held", "call", "given"] ["held", "call", "given"] (defScope sAll) := ⟨rfl, rfl, rfl, by decide +kernel, rfl, by decide +kernel, by decide +kernel⟩
theorem one_le {x : V} : ([x] : List V).length ≤ sizeLine := by show 1 ≤ sizeLine; decide
theorem ok_all {f C f1 f2 : Addr} {fd fd1 fd2 : FuncData} (F : Fun K "all_answered" "all_answered" sAll f fd) (TC : TxtC K mg C) (TN : TxtN mg) (C1 : CalM P w K mg base C "answer_list" ["self", "a"] 3 (spLst C) f1 fd1) (C2 : Cal P w K mg base "answer" ["held", "call", "given"] 6 (spAnswer K C) f2 fd2) : FnOk P w K mg base CX0 7 f fd ["held", "call", "given"] (spAll K C) := by
  refine F.ok scAll (fun vs H Q E h => ?_) (fun cdv A outer s H vs Q E hr h => ?_)
  · obtain ⟨p, g, s, o, num, gs, rfl, _⟩ := h
    rfl
  · obtain ⟨p, g, s, o, num, gs, rfl, hg, hT, hlen, n0, n1, hask, k⟩ := h
    obtain ⟨dx, hob⟩ := hT.ob
    obtain ⟨t9, g9⟩ := TN.list
    have hr3 : Room 3 _ := hr.mono (by decide)
    refine ⟨_, pss_cons (ps_if (pt_cmpR op_eq (pv 1) (pe_glob (v := .int 9) rfl g9 ⟨_, rfl⟩) (nomark _)) (pss_one (ps_ret (pe_meth (pv 0) TC.cl C1.mt C1.ok hr3 C1.b .nil pass0 (pa_cons (pe_ix ix_list (pv 2) pe_int (fun _ _ => rfl)) pa_nil)))) pss_nil)
      (pss_one (ps_ret (pe_lst (pa_cons (pe_call C2.ok hr rfl C2.at_ C2.kp C2.b .nil pass0 (pa_cons (pv 0) (pa_cons (pv 1) (pa_cons (pv 2) pa_nil)))) pa_nil)))), ?_⟩
    by_cases h9 : num = 9
    · subst h9
      refine ⟨_, rfl, rfl, _, rfl, hit ?_⟩
      obtain ⟨a, rfl⟩ := args1 (gs := gs) hlen
      refine ⟨_, rfl, p, dx, _, rfl, hob, fs_no _ _ _ _ _ (by decide +kernel), _, rfl, g, _, _, _, rfl, rfl, hg, rfl, p, s, o, a, rfl, hT, fun d H' hd fr st => k d H' hd (fun b u e _ z => by rw [z, fr] at e; cases e) ?_ st⟩
      cases e : s.now.has a with
      | false => rw [st_list_ref e]; show 1 ≤ 513; omega
      | true =>
        rw [st_list e]
        have h1 := mem_le s a
        have h2 := hT.tl
        show (Sc13Neutral.ints (mem_ s a)).length + 1 ≤ 513
        unfold Sc13Neutral.ints
        rw [List.length_map]
        omega
    · refine ⟨_, rfl, rfl, _, rfl, skp h9 ?_⟩
      refine ⟨_, rfl, _, rfl, _, rfl, p, g, s, o, num, gs, rfl, hg, hT, hlen, n0, n1, h9, hask, fun v H1 ev st => ⟨one_le, fun d hd => ?_⟩⟩
      refine k d _ (by rw [ev]; exact upd_same) (fun b u e nb z => ?_) (by rw [ev]; show 1 ≤ 513; omega) (st.more (Same.upd hd))
      obtain ⟨o', T', f', kp⟩ := st
      have := kp b u e nb
      rw [z, hd] at this
      cases this
end
end Eqt

namespace Eqt
open PySem L2 Sc13 Eqm Eqp
def hmg : List (Int × Int) := [(0, 0), (1, 3), (2, 3), (3, 2), (4, 2), (5, 2), (6, 1), (7, 1), (8, 1), (9, 1), (10, 0), (11, 0)]
theorem hmg_mem {c : Int} (h0 : 0 ≤ c) (h1 : c ≤ 11) : (c, ((argn c : Nat) : Int)) ∈ hmg := by
  rcases twelve h0 h1 with rfl | rfl | rfl | rfl | rfl | rfl | rfl | rfl | rfl | rfl | rfl | rfl <;> decide
theorem cut_mid {ns : List Int} {j n : Nat} (h : j + 1 + n ≤ ns.length) : cutV (ns.map V.int) (some ((j : Int) + 1)) (some ((j : Int) + 1 + (n : Int))) = ((ns.drop (j + 1)).take n).map V.int := by
  unfold cutV
  have e1 : HT.sIx (ns.map V.int).length 0 (some ((j : Int) + 1)) = j + 1 := by
    unfold HT.sIx
    simp only [List.length_map]
    rw [if_neg (by omega)]
    omega
  have e2 : HT.sIx (ns.map V.int).length (ns.map V.int).length (some ((j : Int) + 1 + (n : Int))) = j + 1 + n := by
    unfold HT.sIx
    simp only [List.length_map]
    rw [if_neg (by omega)]
    omega
  rw [e1, e2, ← List.map_drop, ← List.map_take]
  have e3 : j + 1 + n - (j + 1) = n := by omega
  rw [e3]
structure TxtA (K : PySem.W.Frag) (mg : Str → Option Value) (C : Addr) : Prop where
  terms : mg "Terms" = some (.ref C)
  hm : ∃ a, mg "HOW_MANY_GIVEN" = some (.ref a) ∧ DK K a hmg
def spAnswers (K : PySem.W.Frag) : Sp := fun vs H Q _ => ∃ (a : Addr) (ns : List Int), vs = [.ref a] ∧ SqL K H a (ns.map V.int) ∧ ns.length ≤ 1600 ∧ PySc13.answers_asked ns = true ∧ ∀ (H' : Hp) (l : Addr), H' l = some (.lst ((PySc13.answers ns).map V.int)) → Q (.ref l) H'
/-- the loop's state -/
structure Lp (C : Addr) (H H2 : Hp) (p t : Addr) (ns : List Int) (s : Abs) (o : Own) (j : Nat) (out : List Int) (f : Nat) (cs : List (List (List Int))) : Prop where
  sm : Same H H2
  T : TermsAt C H2 p s o
  fw : ∀ b, b ∈ o.W p → H b = none
  ft : H t = none
  nt : t ∉ o.W p
  told : H2 t = some (.lst (out.map V.int))
  le : j ≤ ns.length
  dec : PyFlat.calls PySc13.shape f (ns.drop j) = some cs
  ask : cs.all Sc13Neutral.asked1 = true
  eq : PySc13.answers ns = out ++ PyFlat.told (PyFlat.played Sc13Neutral.step s cs)
  sz : out.length ≤ 600 * j
theorem lp_turn {C : Addr} {H H2 H3 H4 : Hp} {p t : Addr} {ns : List Int} {s : Abs} {o : Own} {j : Nat} {out : List Int} {f' : Nat} {c : Int} {cs' : List (List (List Int))} (sm : Same H H2) (ft : H t = none) (fw : ∀ b, b ∈ o.W p → H b = none) (nt : t ∉ o.W p) (told : H2 t = some (.lst (out.map V.int))) (s3 : Same H2 H3)
    (hl : j + 1 + argn c ≤ ns.length) (hcs : PyFlat.calls PySc13.shape f' (ns.drop (j + 1 + argn c)) = some cs') (ask : cs'.all Sc13Neutral.asked1 = true)
    (eq : PySc13.answers ns = out ++ PyFlat.told (PyFlat.played Sc13Neutral.step s ([c :: (ns.drop (j + 1)).take (argn c)] :: cs'))) (sz : out.length ≤ 600 * j)
    (hn : (Sc13Neutral.step s [c :: (ns.drop (j + 1)).take (argn c)]).2.length ≤ 513) (st : Stp C H3 p o (Sc13Neutral.step s [c :: (ns.drop (j + 1)).take (argn c)]).1 H4) (ht4 : H4 t = some (.lst (out.map V.int))) :
    ∃ o', Lp C H (upd (upd H4 t (.lst (out.map V.int ++ [.int (((Sc13Neutral.step s [c :: (ns.drop (j + 1)).take (argn c)]).2.map V.int).length : Int)]))) t (.lst (out.map V.int ++ [.int (((Sc13Neutral.step s [c :: (ns.drop (j + 1)).take (argn c)]).2.map V.int).length : Int)] ++ (Sc13Neutral.step s [c :: (ns.drop (j + 1)).take (argn c)]).2.map V.int))) p t ns (Sc13Neutral.step s [c :: (ns.drop (j + 1)).take (argn c)]).1 o' (j + 1 + argn c)
      (out ++ (((Sc13Neutral.step s [c :: (ns.drop (j + 1)).take (argn c)]).2.length : Int) :: (Sc13Neutral.step s [c :: (ns.drop (j + 1)).take (argn c)]).2)) f' cs' := by
  generalize (ns.drop (j + 1)).take (argn c) = gs at *
  have es : PyFlat.played Sc13Neutral.step s ([c :: gs] :: cs') = (Sc13Neutral.step s [c :: gs]).2 :: PyFlat.played Sc13Neutral.step (Sc13Neutral.step s [c :: gs]).1 cs' := rfl
  rw [es, told_cons, ← List.append_assoc] at eq
  generalize Sc13Neutral.step s [c :: gs] = q at *
  obtain ⟨s', ans⟩ := q
  dsimp only at *
  obtain ⟨o', T', fr, kp⟩ := st
  have fresh : ∀ b, H3 b = none → H b = none := fun b hb => (sm.trans s3).free hb
  have ntt : t ∉ o'.W p := fun h => by
    rcases fr t h with z | z
    · exact nt z
    · rw [s3 _ _ told] at z; cases z
  have kt : Kp [t] H4 (upd (upd H4 t (.lst (out.map V.int ++ [.int ((ans.map V.int).length : Int)]))) t (.lst (out.map V.int ++ [.int ((ans.map V.int).length : Int)] ++ ans.map V.int))) := Kp.trans (Kp.upd (by simp)) (Kp.upd (by simp))
  refine ⟨o', ⟨fun b u e => ?_, T'.keep kt (fun b hb xs e => ?_) (fun b hb => ?_), fun b hb => ?_, ft, ntt, ?_, hl, hcs, ask, eq, ?_⟩⟩
  · have hb : b ≠ t := fun z => by rw [z, ft] at e; cases e
    refine kt b u (kp b u (s3 _ _ (sm _ _ e)) fun z => ?_) (by simpa using hb)
    rw [fw b z] at e; cases e
  · rw [List.mem_singleton.mp hb, ht4] at e
    cases e
  · intro z
    rw [List.mem_singleton.mp z] at hb
    exact ntt hb
  · rcases fr b hb with z | z
    · exact fw b z
    · exact fresh b z
  · rw [upd_same]
    simp
  · rw [List.length_append, List.length_cons]
    omega
section
variable {P : Program} {w : World} {K : PySem.W.Frag} {mg : Str → Option Value} {base : Heap}
theorem scAnswers : FnScope ["calls", "held", "told", "at", "behind", "numbers"] ["calls"] (defScope sAnswers) := ⟨rfl, rfl, rfl, by decide +kernel, rfl, by decide +kernel, by decide +kernel⟩
theorem ok_answers {f C fi f1 : Addr} {fd fdi fd1 : FuncData} (F : Fun K "answers" "answers" sAnswers f fd) (T : Txt mg) (TA : TxtA K mg C) (MK : Mk K C fi) (GI : FnOk P w K mg base CX0 2 fi fdi ["self"] (spInit C)) (bI : Binds K fdi ["self"] [])
    (C1 : Cal P w K mg base "all_answered" ["held", "call", "given"] 7 (spAll K C) f1 fd1) : FnOk P w K mg base CX0 8 f fd ["calls"] (spAnswers K) := by
  refine F.ok scAnswers (fun vs H Q E h => ?_) (fun cdv A outer s0 H vs Q E hr h => ?_)
  · obtain ⟨a, ns, rfl, _⟩ := h
    rfl
  · obtain ⟨a, ns, rfl, hS, hlen, hask, k⟩ := h
    obtain ⟨hm, hmm, dk⟩ := TA.hm
    have hr3 : Room 3 _ := hr.mono (by decide)
    obtain ⟨cs0, hcs0, hak0⟩ := asked_of hask
    have ean := answers_of hcs0
    refine ⟨_, pss_cons (ps_set (i := 1) scAnswers.nd rfl (Or.inl rfl) (pe_make0 MK GI hr3 rfl TA.terms bI .nil pass0))
      (pss_cons (ps_set (i := 2) scAnswers.nd rfl (Or.inl rfl) (pe_lst pa_nil))
      (pss_cons (ps_set (i := 3) scAnswers.nd rfl (Or.inl rfl) pe_int)
      (pss_cons (ps_while PassesOwn.never (pt_cmpR op_lt (pv 3) (pe_callB call_len_seq (by rfl) T.len PySem.boot_len (pa_cons (pv 0) pa_nil)) (nomark _))
        (pss_cons (ps_set (i := 4) scAnswers.nd rfl (Or.inl rfl) (pe_op op_add (pe_op op_add (pv 3) pe_int) (pe_dkget (pe_glob (v := .ref hm) rfl hmm rfl) (pe_ix ix_list (pv 0) (pv 3) (fun _ _ => rfl)) (fun _ _ => rfl))))
        (pss_cons (ps_set (i := 5) scAnswers.nd rfl (Or.inl rfl) (pe_call C1.ok hr rfl C1.at_ C1.kp C1.b .nil pass0 (pa_cons (pv 1) (pa_cons (pe_ix ix_list (pv 0) (pv 3) (fun _ _ => rfl)) (pa_cons (pe_slice sl_list (pv 0) (po_some (pe_op op_add (pv 3) pe_int)) (po_some (pv 4))) pa_nil)))))
        (pss_cons (ps_expr (pe_bm PySem.F.plainAttrs_list PySem.F.slot_list_append PySem.F.type_list_append mt_append (pv 2) (pa_cons (pe_callB call_len_seq (by rfl) T.len PySem.boot_len (pa_cons (pv 5) pa_nil)) pa_nil)))
        (pss_cons (ps_expr (pe_bm PySem.F.plainAttrs_list PySem.F.slot_list_extend PySem.F.type_list_extend mt_extend (pv 2) (pa_cons (pv 5) pa_nil)))
        (pss_one (ps_set (i := 3) scAnswers.nd rfl (Or.inl rfl) (pv 4))))))))
      (pss_one (ps_ret (pv 2)))))), ?_⟩
    -- held = Terms()
    intro x dx nx ndx nex
    refine ⟨x, dx, rfl, upd_same, fun H1 o T1 f1' kp => ⟨rfl, ?_⟩⟩
    have s0 : Same H (upd (upd H dx (.own x)) x (.ins C dx [])) := fun b u e => by
      rw [upd_ne (ne_of_none e nx), upd_ne (ne_of_none e ndx)]
      exact e
    have s1 : Same H H1 := fun b u e => kp b u (s0 b u e) (by simpa using ne_of_none e nx)
    have fw : ∀ b, b ∈ o.W x → H b = none := fun b hb => by
      rcases f1' b hb with z | z
      · rw [z]; exact nx
      · exact s0.free z
    have z0 : ([] : List V).length ≤ sizeLine := Nat.zero_le _
    refine ⟨z0, fun t ht => ?_⟩
    have s2 : Same H1 (upd H1 t (.lst [])) := Same.upd ht
    have t2 : upd H1 t (.lst []) t = some (.lst (([] : List Int).map V.int)) := upd_same
    generalize upd H1 t (.lst []) = H2 at s2 t2 ⊢
    refine ⟨fun k σ H3 => ∃ (s : Abs) (o : Own) (j : Nat) (out : List Int) (f : Nat) (cs : List (List (List Int))) (v4 v5 : Option V), σ = [some (.ref a), some (.ref x), some (.ref t), some (.int (j : Int)), v4, v5] ∧ Lp C H H3 x t ns s o j out f cs ∧ k = ns.length - j,
      ⟨_, empty, o, 0, [], ns.length, cs0, none, none, rfl, ⟨s1.trans s2, T1.same s2, fw, s1.free ht, fun h => T1.dom t h ht, t2, Nat.zero_le _, hcs0, hak0, by rw [ean]; rfl, Nat.zero_le _⟩, rfl⟩, ?_⟩
    rintro k0 σ H3 ⟨s, o, j, out, f, cs, v4, v5, rfl, L, rfl⟩
    have hS3 := L.sm.seq hS
    refine ⟨_, rfl, _, rfl, a, _, rfl, .inl hS3, _, _, rfl, rfl, _, rfl, ?_⟩
    rw [List.length_map]
    by_cases hj : j < ns.length
    · refine ite2 (fun _ => ?_) (fun hc => absurd (decide_eq_true (by omega)) hc)
      obtain ⟨sm, T3, fw3, ft3, nt3, told3, _, hcs3, ask3, eq3, sz3⟩ := L
      have hd : ns.drop j = ns[j] :: ns.drop (j + 1) := List.drop_eq_getElem_cons hj
      have hc : ns[j]? = some ns[j] := List.getElem?_eq_getElem hj
      generalize ns[j] = c at hd hc
      rw [hd] at hcs3
      obtain ⟨f', cs', c0, c1, hal, rfl, hcs'⟩ := calls_step hcs3
      rw [List.drop_drop] at hcs'
      rw [List.length_drop] at hal
      have hl : j + 1 + argn c ≤ ns.length := by omega
      rw [List.all_cons, Bool.and_eq_true] at ask3
      have hat : (ns.map V.int)[j]? = some (V.int c) := by rw [List.getElem?_map, hc]; rfl
      have hgl : ((ns.drop (j + 1)).take (argn c)).length = argn c := by rw [List.length_take, List.length_drop]; omega
      refine ⟨fun σ' H' => ∃ m', m' < ns.length - j ∧ ∃ (s : Abs) (o : Own) (j : Nat) (out : List Int) (f : Nat) (cs : List (List (List Int))) (v4 v5 : Option V), σ' = [some (.ref a), some (.ref x), some (.ref t), some (.int (j : Int)), v4, v5] ∧ Lp C H H' x t ns s o j out f cs ∧ m' = ns.length - j, fun σ' H' h => h, ?_⟩
      refine ⟨_, rfl, _, _, rfl, rfl, _, rfl, _, rfl, a, _, _, _, rfl, rfl, hS3, at_of (j := j) rfl hat, hm, hmg, c, _, rfl, rfl, dk, hmg_mem c0 c1, _, _, rfl, rfl, ?_⟩
      refine ⟨_, rfl, _, rfl, _, rfl, a, _, _, _, rfl, rfl, hS3, at_of (j := j) rfl hat, _, rfl, _, rfl, _, _, rfl, rfl, _, rfl, _, rfl, _, rfl, a, _, rfl, hS3, fun g hg => ?_⟩
      rw [cut_mid hl]
      have s3 : Same H3 (upd H3 g (.lst (((ns.drop (j + 1)).take (argn c)).map V.int))) := Same.upd hg
      have hg3 : upd H3 g (.lst (((ns.drop (j + 1)).take (argn c)).map V.int)) g = some (.lst (((ns.drop (j + 1)).take (argn c)).map V.int)) := upd_same
      generalize upd H3 g (.lst (((ns.drop (j + 1)).take (argn c)).map V.int)) = H4 at s3 hg3 ⊢
      refine ⟨x, g, s, o, c, _, rfl, SqL.of hg3, T3.same s3, hgl, c0, c1, ask3.1, fun d H5 hd5 dn hn st => ?_⟩
      have ht5 : H5 t = some (.lst (out.map V.int)) := by
        obtain ⟨o', T', fr, kp'⟩ := st
        exact kp' t _ (s3 _ _ told3) nt3
      have ntd : t ≠ d := dn t _ (s3 _ _ told3) nt3
      have big : (1000000 : Nat) < sizeLine := by decide
      obtain ⟨o', L'⟩ := lp_turn sm ft3 fw3 nt3 told3 s3 hl hcs' ask3.2 eq3 sz3 hn st ht5
      refine ⟨_, rfl, .inl ⟨rfl, _, SqL.of ht5⟩, _, rfl, d, _, rfl, .inl (SqL.of hd5), t, _, _, rfl, rfl, ht5, by rw [List.length_map]; omega, ?_⟩
      have hd6 : upd H5 t (.lst (out.map V.int ++ [.int (((Sc13Neutral.step s [c :: (ns.drop (j + 1)).take (argn c)]).2.map V.int).length : Int)])) d = _ := (upd_ne ntd.symm).trans hd5
      have ht6 : upd H5 t (.lst (out.map V.int ++ [.int (((Sc13Neutral.step s [c :: (ns.drop (j + 1)).take (argn c)]).2.map V.int).length : Int)])) t = some (.lst (out.map V.int ++ [.int (((Sc13Neutral.step s [c :: (ns.drop (j + 1)).take (argn c)]).2.map V.int).length : Int)])) := upd_same
      refine ⟨_, rfl, .inl ⟨rfl, _, SqL.of ht6⟩, _, rfl, t, d, _, _, rfl, rfl, ht6, hd6, by rw [List.length_append, List.length_map, List.length_map]; show _ + 1 + _ ≤ _; omega, ?_⟩
      have ej : (j : Int) + 1 + ((argn c : Nat) : Int) = ((j + 1 + argn c : Nat) : Int) := by omega
      exact ⟨_, rfl, _, by omega, _, o', j + 1 + argn c, _, f', cs', some (.int ((j : Int) + 1 + ((argn c : Nat) : Int))), some (.ref d), by rw [← ej]; rfl, L', rfl⟩
    · refine ite2 (fun hc => absurd (of_decide_eq_true hc) (by omega)) (fun _ => ?_)
      have e1 : j = ns.length := by have := L.le; omega
      have hcs := L.dec
      rw [e1, List.drop_length] at hcs
      have e2 := calls_nil hcs
      have eq := L.eq
      rw [e2] at eq
      have e3 : PySc13.answers ns = out := by rw [eq]; show out ++ [] = out; rw [List.append_nil]
      refine ⟨_, rfl, k H3 t ?_⟩
      rw [e3]
      exact L.told
end
end Eqt

namespace Eqt
open PySem L2 Sc13 Eqm Eqp
set_option maxHeartbeats 0 in
theorem all_mk {P : Program} {w : World} {K : PySem.W.Frag} {h : Heap} {mg : Str → Option Value} {fa C hm f_g0 f_g1 f_g2 f_g3 f_g4 f_g5 f_g6 f_g7 f_g8 f_g9 f_g10 f_g11 f_g12 f_g13 f_m0 f_m1 f_m2 f_m3 f_m4 f_m5 f_m6 f_m7 f_m8 f_m9 f_m10 f_m11 f_m12 f_m13 f_m14 f_m15 f_m16 f_m17 f_m18 f_m19 f_m20 : Addr}
    {od_g0 an_g0 od_g1 an_g1 od_g2 an_g2 od_g3 an_g3 od_g4 an_g4 od_g5 an_g5 od_g6 an_g6 od_g7 an_g7 od_g8 an_g8 od_g9 an_g9 od_g10 an_g10 od_g11 an_g11 od_g12 an_g12 od_g13 an_g13 od_m0 an_m0 od_m1 an_m1 od_m2 an_m2 od_m3 an_m3 od_m4 an_m4 od_m5 an_m5 od_m6 an_m6 od_m7 an_m7 od_m8 an_m8 od_m9 an_m9 od_m10 an_m10 od_m11 an_m11 od_m12 an_m12 od_m13 an_m13 od_m14 an_m14 od_m15 an_m15 od_m16 an_m16 od_m17 an_m17 od_m18 an_m18 od_m19 an_m19 od_m20 an_m20 : Option Addr} {sl_g0 sl_g1 sl_g2 sl_g3 sl_g4 sl_g5 sl_g6 sl_g7 sl_g8 sl_g9 sl_g10 sl_g11 sl_g12 sl_g13 sl_m0 sl_m1 sl_m2 sl_m3 sl_m4 sl_m5 sl_m6 sl_m7 sl_m8 sl_m9 sl_m10 sl_m11 sl_m12 sl_m13 sl_m14 sl_m15 sl_m16 sl_m17 sl_m18 sl_m19 sl_m20 : Array (Option Value)} {oc_g0 kV_g0 dc_g0 pm_g0 cd_g0 ct_g0 oc_g1 kV_g1 dc_g1 pm_g1 cd_g1 ct_g1 oc_g2 kV_g2 dc_g2 pm_g2 cd_g2 ct_g2 oc_g3 kV_g3 dc_g3 pm_g3 cd_g3 ct_g3 oc_g4 kV_g4 dc_g4 pm_g4 cd_g4 ct_g4 oc_g5 kV_g5 dc_g5 pm_g5 cd_g5 ct_g5 oc_g6 kV_g6 dc_g6 pm_g6 cd_g6 ct_g6 oc_g7 kV_g7 dc_g7 pm_g7 cd_g7 ct_g7 oc_g8 kV_g8 dc_g8 pm_g8 cd_g8 ct_g8 oc_g9 kV_g9 dc_g9 pm_g9 cd_g9 ct_g9 oc_g10 kV_g10 dc_g10 pm_g10 cd_g10 ct_g10 oc_g11 kV_g11 dc_g11 pm_g11 cd_g11 ct_g11 oc_g12 kV_g12 dc_g12 pm_g12 cd_g12 ct_g12 oc_g13 kV_g13 dc_g13 pm_g13 cd_g13 ct_g13 oc_m0 kV_m0 dc_m0 pm_m0 cd_m0 ct_m0 oc_m1 kV_m1 dc_m1 pm_m1 cd_m1 ct_m1 oc_m2 kV_m2 dc_m2 pm_m2 cd_m2 ct_m2 oc_m3 kV_m3 dc_m3 pm_m3 cd_m3 ct_m3 oc_m4 kV_m4 dc_m4 pm_m4 cd_m4 ct_m4 oc_m5 kV_m5 dc_m5 pm_m5 cd_m5 ct_m5 oc_m6 kV_m6 dc_m6 pm_m6 cd_m6 ct_m6 oc_m7 kV_m7 dc_m7 pm_m7 cd_m7 ct_m7 oc_m8 kV_m8 dc_m8 pm_m8 cd_m8 ct_m8 oc_m9 kV_m9 dc_m9 pm_m9 cd_m9 ct_m9 oc_m10 kV_m10 dc_m10 pm_m10 cd_m10 ct_m10 oc_m11 kV_m11 dc_m11 pm_m11 cd_m11 ct_m11 oc_m12 kV_m12 dc_m12 pm_m12 cd_m12 ct_m12 oc_m13 kV_m13 dc_m13 pm_m13 cd_m13 ct_m13 oc_m14 kV_m14 dc_m14 pm_m14 cd_m14 ct_m14 oc_m15 kV_m15 dc_m15 pm_m15 cd_m15 ct_m15 oc_m16 kV_m16 dc_m16 pm_m16 cd_m16 ct_m16 oc_m17 kV_m17 dc_m17 pm_m17 cd_m17 ct_m17 oc_m18 kV_m18 dc_m18 pm_m18 cd_m18 ct_m18 oc_m19 kV_m19 dc_m19 pm_m19 cd_m19 ct_m19 oc_m20 kV_m20 dc_m20 pm_m20 cd_m20 ct_m20 : Value} {tk_NONE tk_REFUSED tk_NOT_DONE tk_DONE tk_UNKNOWN tk_EQUAL tk_DIFFERENT tk_MOST_TERMS tk_MOST_SAYINGS tk_MOST_MARKS tk_INIT tk_TERM tk_FIND tk_JOIN tk_PART tk_SAME tk_HEAD tk_SIZE tk_DEPTH tk_LIST tk_MARK : Nat} {es : Array DictEntry} {ep : Nat}
    (X : K.In h) (G : h.Ns mainGlobals mg) (hfa : mg "answers" = some (.ref fa))
    (aC : PySem.W.nsIn K mainGlobals "Terms" = some (some (.ref C)))
    (a_g0 : PySem.W.nsIn K mainGlobals "head_of_part" = some (some (.ref f_g0)))
    (l_g0 : K.lookup f_g0 = some ⟨oc_g0, od_g0, .func (PySem.W.fnOf "head_of_part" "head_of_part" (defArgs sHop) (defBody sHop) (defScope sHop) .none kV_g0 dc_g0 pm_g0 an_g0 cd_g0 ct_g0), sl_g0⟩)
    (c_g0 : PySem.W.codeIn K cd_g0 "head_of_part" = true)
    (k_g0 : PySem.W.keepIn K (.ref f_g0) = true)
    (a_g1 : PySem.W.nsIn K mainGlobals "shape" = some (some (.ref f_g1)))
    (l_g1 : K.lookup f_g1 = some ⟨oc_g1, od_g1, .func (PySem.W.fnOf "shape" "shape" (defArgs sShape) (defBody sShape) (defScope sShape) .none kV_g1 dc_g1 pm_g1 an_g1 cd_g1 ct_g1), sl_g1⟩)
    (c_g1 : PySem.W.codeIn K cd_g1 "shape" = true)
    (k_g1 : PySem.W.keepIn K (.ref f_g1) = true)
    (a_g2 : PySem.W.nsIn K mainGlobals "head_by_parts" = some (some (.ref f_g2)))
    (l_g2 : K.lookup f_g2 = some ⟨oc_g2, od_g2, .func (PySem.W.fnOf "head_by_parts" "head_by_parts" (defArgs sHbp) (defBody sHbp) (defScope sHbp) .none kV_g2 dc_g2 pm_g2 an_g2 cd_g2 ct_g2), sl_g2⟩)
    (c_g2 : PySem.W.codeIn K cd_g2 "head_by_parts" = true)
    (k_g2 : PySem.W.keepIn K (.ref f_g2) = true)
    (a_g3 : PySem.W.nsIn K mainGlobals "numbers_with_head" = some (some (.ref f_g3)))
    (l_g3 : K.lookup f_g3 = some ⟨oc_g3, od_g3, .func (PySem.W.fnOf "numbers_with_head" "numbers_with_head" (defArgs sNwh) (defBody sNwh) (defScope sNwh) .none kV_g3 dc_g3 pm_g3 an_g3 cd_g3 ct_g3), sl_g3⟩)
    (c_g3 : PySem.W.codeIn K cd_g3 "numbers_with_head" = true)
    (k_g3 : PySem.W.keepIn K (.ref f_g3) = true)
    (a_g4 : PySem.W.nsIn K mainGlobals "merged" = some (some (.ref f_g4)))
    (l_g4 : K.lookup f_g4 = some ⟨oc_g4, od_g4, .func (PySem.W.fnOf "merged" "merged" (defArgs sMerged) (defBody sMerged) (defScope sMerged) .none kV_g4 dc_g4 pm_g4 an_g4 cd_g4 ct_g4), sl_g4⟩)
    (c_g4 : PySem.W.codeIn K cd_g4 "merged" = true)
    (k_g4 : PySem.W.keepIn K (.ref f_g4) = true)
    (a_g5 : PySem.W.nsIn K mainGlobals "unequal_pair_of_one_shape" = some (some (.ref f_g5)))
    (l_g5 : K.lookup f_g5 = some ⟨oc_g5, od_g5, .func (PySem.W.fnOf "unequal_pair_of_one_shape" "unequal_pair_of_one_shape" (defArgs sUneq) (defBody sUneq) (defScope sUneq) .none kV_g5 dc_g5 pm_g5 an_g5 cd_g5 ct_g5), sl_g5⟩)
    (c_g5 : PySem.W.codeIn K cd_g5 "unequal_pair_of_one_shape" = true)
    (k_g5 : PySem.W.keepIn K (.ref f_g5) = true)
    (a_g6 : PySem.W.nsIn K mainGlobals "heads_after_join" = some (some (.ref f_g6)))
    (l_g6 : K.lookup f_g6 = some ⟨oc_g6, od_g6, .func (PySem.W.fnOf "heads_after_join" "heads_after_join" (defArgs sHaj) (defBody sHaj) (defScope sHaj) .none kV_g6 dc_g6 pm_g6 an_g6 cd_g6 ct_g6), sl_g6⟩)
    (c_g6 : PySem.W.codeIn K cd_g6 "heads_after_join" = true)
    (k_g6 : PySem.W.keepIn K (.ref f_g6) = true)
    (a_g7 : PySem.W.nsIn K mainGlobals "depth_of_part" = some (some (.ref f_g7)))
    (l_g7 : K.lookup f_g7 = some ⟨oc_g7, od_g7, .func (PySem.W.fnOf "depth_of_part" "depth_of_part" (defArgs sDop) (defBody sDop) (defScope sDop) .none kV_g7 dc_g7 pm_g7 an_g7 cd_g7 ct_g7), sl_g7⟩)
    (c_g7 : PySem.W.codeIn K cd_g7 "depth_of_part" = true)
    (k_g7 : PySem.W.keepIn K (.ref f_g7) = true)
    (a_g8 : PySem.W.nsIn K mainGlobals "depth_by_parts" = some (some (.ref f_g8)))
    (l_g8 : K.lookup f_g8 = some ⟨oc_g8, od_g8, .func (PySem.W.fnOf "depth_by_parts" "depth_by_parts" (defArgs sDbp) (defBody sDbp) (defScope sDbp) .none kV_g8 dc_g8 pm_g8 an_g8 cd_g8 ct_g8), sl_g8⟩)
    (c_g8 : PySem.W.codeIn K cd_g8 "depth_by_parts" = true)
    (k_g8 : PySem.W.keepIn K (.ref f_g8) = true)
    (a_g9 : PySem.W.nsIn K mainGlobals "lowered" = some (some (.ref f_g9)))
    (l_g9 : K.lookup f_g9 = some ⟨oc_g9, od_g9, .func (PySem.W.fnOf "lowered" "lowered" (defArgs sLow) (defBody sLow) (defScope sLow) .none kV_g9 dc_g9 pm_g9 an_g9 cd_g9 ct_g9), sl_g9⟩)
    (c_g9 : PySem.W.codeIn K cd_g9 "lowered" = true)
    (k_g9 : PySem.W.keepIn K (.ref f_g9) = true)
    (a_g10 : PySem.W.nsIn K mainGlobals "least_depths" = some (some (.ref f_g10)))
    (l_g10 : K.lookup f_g10 = some ⟨oc_g10, od_g10, .func (PySem.W.fnOf "least_depths" "least_depths" (defArgs sLd) (defBody sLd) (defScope sLd) .none kV_g10 dc_g10 pm_g10 an_g10 cd_g10 ct_g10), sl_g10⟩)
    (c_g10 : PySem.W.codeIn K cd_g10 "least_depths" = true)
    (k_g10 : PySem.W.keepIn K (.ref f_g10) = true)
    (a_g11 : PySem.W.nsIn K mainGlobals "answer" = some (some (.ref f_g11)))
    (l_g11 : K.lookup f_g11 = some ⟨oc_g11, od_g11, .func (PySem.W.fnOf "answer" "answer" (defArgs sAnswer) (defBody sAnswer) (defScope sAnswer) .none kV_g11 dc_g11 pm_g11 an_g11 cd_g11 ct_g11), sl_g11⟩)
    (c_g11 : PySem.W.codeIn K cd_g11 "answer" = true)
    (k_g11 : PySem.W.keepIn K (.ref f_g11) = true)
    (a_g12 : PySem.W.nsIn K mainGlobals "all_answered" = some (some (.ref f_g12)))
    (l_g12 : K.lookup f_g12 = some ⟨oc_g12, od_g12, .func (PySem.W.fnOf "all_answered" "all_answered" (defArgs sAll) (defBody sAll) (defScope sAll) .none kV_g12 dc_g12 pm_g12 an_g12 cd_g12 ct_g12), sl_g12⟩)
    (c_g12 : PySem.W.codeIn K cd_g12 "all_answered" = true)
    (k_g12 : PySem.W.keepIn K (.ref f_g12) = true)
    (a_g13 : PySem.W.nsIn K mainGlobals "answers" = some (some (.ref f_g13)))
    (l_g13 : K.lookup f_g13 = some ⟨oc_g13, od_g13, .func (PySem.W.fnOf "answers" "answers" (defArgs sAnswers) (defBody sAnswers) (defScope sAnswers) .none kV_g13 dc_g13 pm_g13 an_g13 cd_g13 ct_g13), sl_g13⟩)
    (c_g13 : PySem.W.codeIn K cd_g13 "answers" = true)
    (k_g13 : PySem.W.keepIn K (.ref f_g13) = true)
    (a_m0 : PySem.W.findIn K (.ref C) "__init__" = some (some (.ref f_m0)))
    (i_m0 : PySem.W.isFn K (.ref f_m0) = true)
    (l_m0 : K.lookup f_m0 = some ⟨oc_m0, od_m0, .func (PySem.W.fnOf "__init__" "Terms.__init__" (defArgs sInit) (defBody sInit) (defScope sInit) .none kV_m0 dc_m0 pm_m0 an_m0 cd_m0 ct_m0), sl_m0⟩)
    (c_m0 : PySem.W.codeIn K cd_m0 "Terms.__init__" = true)
    (k_m0 : PySem.W.keepIn K (.ref f_m0) = true)
    (a_m1 : PySem.W.findIn K (.ref C) "forget_all" = some (some (.ref f_m1)))
    (i_m1 : PySem.W.isFn K (.ref f_m1) = true)
    (l_m1 : K.lookup f_m1 = some ⟨oc_m1, od_m1, .func (PySem.W.fnOf "forget_all" "Terms.forget_all" (defArgs sForget) (defBody sForget) (defScope sForget) .none kV_m1 dc_m1 pm_m1 an_m1 cd_m1 ct_m1), sl_m1⟩)
    (c_m1 : PySem.W.codeIn K cd_m1 "Terms.forget_all" = true)
    (k_m1 : PySem.W.keepIn K (.ref f_m1) = true)
    (a_m2 : PySem.W.findIn K (.ref C) "has" = some (some (.ref f_m2)))
    (i_m2 : PySem.W.isFn K (.ref f_m2) = true)
    (l_m2 : K.lookup f_m2 = some ⟨oc_m2, od_m2, .func (PySem.W.fnOf "has" "Terms.has" (defArgs sHas) (defBody sHas) (defScope sHas) .none kV_m2 dc_m2 pm_m2 an_m2 cd_m2 ct_m2), sl_m2⟩)
    (c_m2 : PySem.W.codeIn K cd_m2 "Terms.has" = true)
    (k_m2 : PySem.W.keepIn K (.ref f_m2) = true)
    (a_m3 : PySem.W.findIn K (.ref C) "has_both" = some (some (.ref f_m3)))
    (i_m3 : PySem.W.isFn K (.ref f_m3) = true)
    (l_m3 : K.lookup f_m3 = some ⟨oc_m3, od_m3, .func (PySem.W.fnOf "has_both" "Terms.has_both" (defArgs sHasBoth) (defBody sHasBoth) (defScope sHasBoth) .none kV_m3 dc_m3 pm_m3 an_m3 cd_m3 ct_m3), sl_m3⟩)
    (c_m3 : PySem.W.codeIn K cd_m3 "Terms.has_both" = true)
    (k_m3 : PySem.W.keepIn K (.ref f_m3) = true)
    (a_m4 : PySem.W.findIn K (.ref C) "are_parts" = some (some (.ref f_m4)))
    (i_m4 : PySem.W.isFn K (.ref f_m4) = true)
    (l_m4 : K.lookup f_m4 = some ⟨oc_m4, od_m4, .func (PySem.W.fnOf "are_parts" "Terms.are_parts" (defArgs sAreParts) (defBody sAreParts) (defScope sAreParts) .none kV_m4 dc_m4 pm_m4 an_m4 cd_m4 ct_m4), sl_m4⟩)
    (c_m4 : PySem.W.codeIn K cd_m4 "Terms.are_parts" = true)
    (k_m4 : PySem.W.keepIn K (.ref f_m4) = true)
    (a_m5 : PySem.W.findIn K (.ref C) "answer_init" = some (some (.ref f_m5)))
    (i_m5 : PySem.W.isFn K (.ref f_m5) = true)
    (l_m5 : K.lookup f_m5 = some ⟨oc_m5, od_m5, .func (PySem.W.fnOf "answer_init" "Terms.answer_init" (defArgs sAInit) (defBody sAInit) (defScope sAInit) .none kV_m5 dc_m5 pm_m5 an_m5 cd_m5 ct_m5), sl_m5⟩)
    (c_m5 : PySem.W.codeIn K cd_m5 "Terms.answer_init" = true)
    (k_m5 : PySem.W.keepIn K (.ref f_m5) = true)
    (a_m6 : PySem.W.findIn K (.ref C) "answer_term" = some (some (.ref f_m6)))
    (i_m6 : PySem.W.isFn K (.ref f_m6) = true)
    (l_m6 : K.lookup f_m6 = some ⟨oc_m6, od_m6, .func (PySem.W.fnOf "answer_term" "Terms.answer_term" (defArgs sATerm) (defBody sATerm) (defScope sATerm) .none kV_m6 dc_m6 pm_m6 an_m6 cd_m6 ct_m6), sl_m6⟩)
    (c_m6 : PySem.W.codeIn K cd_m6 "Terms.answer_term" = true)
    (k_m6 : PySem.W.keepIn K (.ref f_m6) = true)
    (a_m7 : PySem.W.findIn K (.ref C) "make" = some (some (.ref f_m7)))
    (i_m7 : PySem.W.isFn K (.ref f_m7) = true)
    (l_m7 : K.lookup f_m7 = some ⟨oc_m7, od_m7, .func (PySem.W.fnOf "make" "Terms.make" (defArgs sMake) (defBody sMake) (defScope sMake) .none kV_m7 dc_m7 pm_m7 an_m7 cd_m7 ct_m7), sl_m7⟩)
    (c_m7 : PySem.W.codeIn K cd_m7 "Terms.make" = true)
    (k_m7 : PySem.W.keepIn K (.ref f_m7) = true)
    (a_m8 : PySem.W.findIn K (.ref C) "answer_find" = some (some (.ref f_m8)))
    (i_m8 : PySem.W.isFn K (.ref f_m8) = true)
    (l_m8 : K.lookup f_m8 = some ⟨oc_m8, od_m8, .func (PySem.W.fnOf "answer_find" "Terms.answer_find" (defArgs sAFind) (defBody sAFind) (defScope sAFind) .none kV_m8 dc_m8 pm_m8 an_m8 cd_m8 ct_m8), sl_m8⟩)
    (c_m8 : PySem.W.codeIn K cd_m8 "Terms.answer_find" = true)
    (k_m8 : PySem.W.keepIn K (.ref f_m8) = true)
    (a_m9 : PySem.W.findIn K (.ref C) "answer_join" = some (some (.ref f_m9)))
    (i_m9 : PySem.W.isFn K (.ref f_m9) = true)
    (l_m9 : K.lookup f_m9 = some ⟨oc_m9, od_m9, .func (PySem.W.fnOf "answer_join" "Terms.answer_join" (defArgs sAJoin) (defBody sAJoin) (defScope sAJoin) .none kV_m9 dc_m9 pm_m9 an_m9 cd_m9 ct_m9), sl_m9⟩)
    (c_m9 : PySem.W.codeIn K cd_m9 "Terms.answer_join" = true)
    (k_m9 : PySem.W.keepIn K (.ref f_m9) = true)
    (a_m10 : PySem.W.findIn K (.ref C) "parted_would_be_equal" = some (some (.ref f_m10)))
    (i_m10 : PySem.W.isFn K (.ref f_m10) = true)
    (l_m10 : K.lookup f_m10 = some ⟨oc_m10, od_m10, .func (PySem.W.fnOf "parted_would_be_equal" "Terms.parted_would_be_equal" (defArgs sPwe) (defBody sPwe) (defScope sPwe) .none kV_m10 dc_m10 pm_m10 an_m10 cd_m10 ct_m10), sl_m10⟩)
    (c_m10 : PySem.W.codeIn K cd_m10 "Terms.parted_would_be_equal" = true)
    (k_m10 : PySem.W.keepIn K (.ref f_m10) = true)
    (a_m11 : PySem.W.findIn K (.ref C) "answer_part" = some (some (.ref f_m11)))
    (i_m11 : PySem.W.isFn K (.ref f_m11) = true)
    (l_m11 : K.lookup f_m11 = some ⟨oc_m11, od_m11, .func (PySem.W.fnOf "answer_part" "Terms.answer_part" (defArgs sAPart) (defBody sAPart) (defScope sAPart) .none kV_m11 dc_m11 pm_m11 an_m11 cd_m11 ct_m11), sl_m11⟩)
    (c_m11 : PySem.W.codeIn K cd_m11 "Terms.answer_part" = true)
    (k_m11 : PySem.W.keepIn K (.ref f_m11) = true)
    (a_m12 : PySem.W.findIn K (.ref C) "answer_same" = some (some (.ref f_m12)))
    (i_m12 : PySem.W.isFn K (.ref f_m12) = true)
    (l_m12 : K.lookup f_m12 = some ⟨oc_m12, od_m12, .func (PySem.W.fnOf "answer_same" "Terms.answer_same" (defArgs sASame) (defBody sASame) (defScope sASame) .none kV_m12 dc_m12 pm_m12 an_m12 cd_m12 ct_m12), sl_m12⟩)
    (c_m12 : PySem.W.codeIn K cd_m12 "Terms.answer_same" = true)
    (k_m12 : PySem.W.keepIn K (.ref f_m12) = true)
    (a_m13 : PySem.W.findIn K (.ref C) "are_different" = some (some (.ref f_m13)))
    (i_m13 : PySem.W.isFn K (.ref f_m13) = true)
    (l_m13 : K.lookup f_m13 = some ⟨oc_m13, od_m13, .func (PySem.W.fnOf "are_different" "Terms.are_different" (defArgs sDiff) (defBody sDiff) (defScope sDiff) .none kV_m13 dc_m13 pm_m13 an_m13 cd_m13 ct_m13), sl_m13⟩)
    (c_m13 : PySem.W.codeIn K cd_m13 "Terms.are_different" = true)
    (k_m13 : PySem.W.keepIn K (.ref f_m13) = true)
    (a_m14 : PySem.W.findIn K (.ref C) "answer_head" = some (some (.ref f_m14)))
    (i_m14 : PySem.W.isFn K (.ref f_m14) = true)
    (l_m14 : K.lookup f_m14 = some ⟨oc_m14, od_m14, .func (PySem.W.fnOf "answer_head" "Terms.answer_head" (defArgs sAHead) (defBody sAHead) (defScope sAHead) .none kV_m14 dc_m14 pm_m14 an_m14 cd_m14 ct_m14), sl_m14⟩)
    (c_m14 : PySem.W.codeIn K cd_m14 "Terms.answer_head" = true)
    (k_m14 : PySem.W.keepIn K (.ref f_m14) = true)
    (a_m15 : PySem.W.findIn K (.ref C) "answer_size" = some (some (.ref f_m15)))
    (i_m15 : PySem.W.isFn K (.ref f_m15) = true)
    (l_m15 : K.lookup f_m15 = some ⟨oc_m15, od_m15, .func (PySem.W.fnOf "answer_size" "Terms.answer_size" (defArgs sASize) (defBody sASize) (defScope sASize) .none kV_m15 dc_m15 pm_m15 an_m15 cd_m15 ct_m15), sl_m15⟩)
    (c_m15 : PySem.W.codeIn K cd_m15 "Terms.answer_size" = true)
    (k_m15 : PySem.W.keepIn K (.ref f_m15) = true)
    (a_m16 : PySem.W.findIn K (.ref C) "answer_depth" = some (some (.ref f_m16)))
    (i_m16 : PySem.W.isFn K (.ref f_m16) = true)
    (l_m16 : K.lookup f_m16 = some ⟨oc_m16, od_m16, .func (PySem.W.fnOf "answer_depth" "Terms.answer_depth" (defArgs sADepth) (defBody sADepth) (defScope sADepth) .none kV_m16 dc_m16 pm_m16 an_m16 cd_m16 ct_m16), sl_m16⟩)
    (c_m16 : PySem.W.codeIn K cd_m16 "Terms.answer_depth" = true)
    (k_m16 : PySem.W.keepIn K (.ref f_m16) = true)
    (a_m17 : PySem.W.findIn K (.ref C) "answer_list" = some (some (.ref f_m17)))
    (i_m17 : PySem.W.isFn K (.ref f_m17) = true)
    (l_m17 : K.lookup f_m17 = some ⟨oc_m17, od_m17, .func (PySem.W.fnOf "answer_list" "Terms.answer_list" (defArgs sAList) (defBody sAList) (defScope sAList) .none kV_m17 dc_m17 pm_m17 an_m17 cd_m17 ct_m17), sl_m17⟩)
    (c_m17 : PySem.W.codeIn K cd_m17 "Terms.answer_list" = true)
    (k_m17 : PySem.W.keepIn K (.ref f_m17) = true)
    (a_m18 : PySem.W.findIn K (.ref C) "equal_to" = some (some (.ref f_m18)))
    (i_m18 : PySem.W.isFn K (.ref f_m18) = true)
    (l_m18 : K.lookup f_m18 = some ⟨oc_m18, od_m18, .func (PySem.W.fnOf "equal_to" "Terms.equal_to" (defArgs sEqTo) (defBody sEqTo) (defScope sEqTo) .none kV_m18 dc_m18 pm_m18 an_m18 cd_m18 ct_m18), sl_m18⟩)
    (c_m18 : PySem.W.codeIn K cd_m18 "Terms.equal_to" = true)
    (k_m18 : PySem.W.keepIn K (.ref f_m18) = true)
    (a_m19 : PySem.W.findIn K (.ref C) "answer_mark" = some (some (.ref f_m19)))
    (i_m19 : PySem.W.isFn K (.ref f_m19) = true)
    (l_m19 : K.lookup f_m19 = some ⟨oc_m19, od_m19, .func (PySem.W.fnOf "answer_mark" "Terms.answer_mark" (defArgs sAMark) (defBody sAMark) (defScope sAMark) .none kV_m19 dc_m19 pm_m19 an_m19 cd_m19 ct_m19), sl_m19⟩)
    (c_m19 : PySem.W.codeIn K cd_m19 "Terms.answer_mark" = true)
    (k_m19 : PySem.W.keepIn K (.ref f_m19) = true)
    (a_m20 : PySem.W.findIn K (.ref C) "answer_back" = some (some (.ref f_m20)))
    (i_m20 : PySem.W.isFn K (.ref f_m20) = true)
    (l_m20 : K.lookup f_m20 = some ⟨oc_m20, od_m20, .func (PySem.W.fnOf "answer_back" "Terms.answer_back" (defArgs sABack) (defBody sABack) (defScope sABack) .none kV_m20 dc_m20 pm_m20 an_m20 cd_m20 ct_m20), sl_m20⟩)
    (c_m20 : PySem.W.codeIn K cd_m20 "Terms.answer_back" = true)
    (k_m20 : PySem.W.keepIn K (.ref f_m20) = true)
    (pgC : PySem.W.plainGet K C Str.empty = true)
    (hdC : PySem.W.hasDictIn K C = true)
    (poC : PySem.W.plainOver K C = true)
    (saC : PySem.W.findIn K (.ref C) "__setattr__" = some (some (.builtin "object.__setattr__")))
    (mkC : PySem.W.makesIn K C = true)
    (kcC : PySem.W.keepIn K (.ref C) = true)
    (at_made : PySem.W.findIn K (.ref C) "made" = some none)
    (at_heads : PySem.W.findIn K (.ref C) "heads" = some none)
    (at_join_count : PySem.W.findIn K (.ref C) "join_count" = some none)
    (at_parted : PySem.W.findIn K (.ref C) "parted" = some none)
    (at_marks : PySem.W.findIn K (.ref C) "marks" = some none)
    (v_NONE : PySem.W.nsIn K mainGlobals "NONE" = some (some (.int (-1) tk_NONE)))
    (v_REFUSED : PySem.W.nsIn K mainGlobals "REFUSED" = some (some (.int (-2) tk_REFUSED)))
    (v_NOT_DONE : PySem.W.nsIn K mainGlobals "NOT_DONE" = some (some (.int (-1) tk_NOT_DONE)))
    (v_DONE : PySem.W.nsIn K mainGlobals "DONE" = some (some (.int (0) tk_DONE)))
    (v_UNKNOWN : PySem.W.nsIn K mainGlobals "UNKNOWN" = some (some (.int (0) tk_UNKNOWN)))
    (v_EQUAL : PySem.W.nsIn K mainGlobals "EQUAL" = some (some (.int (1) tk_EQUAL)))
    (v_DIFFERENT : PySem.W.nsIn K mainGlobals "DIFFERENT" = some (some (.int (2) tk_DIFFERENT)))
    (v_MOST_TERMS : PySem.W.nsIn K mainGlobals "MOST_TERMS" = some (some (.int (512) tk_MOST_TERMS)))
    (v_MOST_SAYINGS : PySem.W.nsIn K mainGlobals "MOST_SAYINGS" = some (some (.int (1024) tk_MOST_SAYINGS)))
    (v_MOST_MARKS : PySem.W.nsIn K mainGlobals "MOST_MARKS" = some (some (.int (64) tk_MOST_MARKS)))
    (v_INIT : PySem.W.nsIn K mainGlobals "INIT" = some (some (.int (0) tk_INIT)))
    (v_TERM : PySem.W.nsIn K mainGlobals "TERM" = some (some (.int (1) tk_TERM)))
    (v_FIND : PySem.W.nsIn K mainGlobals "FIND" = some (some (.int (2) tk_FIND)))
    (v_JOIN : PySem.W.nsIn K mainGlobals "JOIN" = some (some (.int (3) tk_JOIN)))
    (v_PART : PySem.W.nsIn K mainGlobals "PART" = some (some (.int (4) tk_PART)))
    (v_SAME : PySem.W.nsIn K mainGlobals "SAME" = some (some (.int (5) tk_SAME)))
    (v_HEAD : PySem.W.nsIn K mainGlobals "HEAD" = some (some (.int (6) tk_HEAD)))
    (v_SIZE : PySem.W.nsIn K mainGlobals "SIZE" = some (some (.int (7) tk_SIZE)))
    (v_DEPTH : PySem.W.nsIn K mainGlobals "DEPTH" = some (some (.int (8) tk_DEPTH)))
    (v_LIST : PySem.W.nsIn K mainGlobals "LIST" = some (some (.int (9) tk_LIST)))
    (v_MARK : PySem.W.nsIn K mainGlobals "MARK" = some (some (.int (10) tk_MARK)))
    (n_len : PySem.W.nsIn K mainGlobals "len" = some none)
    (n_range : PySem.W.nsIn K mainGlobals "range" = some none)
    (n_min : PySem.W.nsIn K mainGlobals "min" = some none)
    (n_max : PySem.W.nsIn K mainGlobals "max" = some none)
    (n_list : PySem.W.nsIn K mainGlobals "list" = some none)
    (aH : PySem.W.nsIn K mainGlobals "HOW_MANY_GIVEN" = some (some (.ref hm)))
    (lH : K.lookup hm = some { cls := .type "dict", dict := none, data := .dict es ep, slots := #[] })
    (eH : (keysI es && hmg.all (hasI es)) = true)
    : ∃ fd : FuncData, (∀ (s : Shared) (v : Value), BindsTo s fd ⟨[v], []⟩ [("calls", v)]) ∧ ∀ base : Heap, K.In base → base.Ns mainGlobals mg → FnOk P w K mg base CX0 8 fa fd ["calls"] (spAnswers K) := by
  have e := hfa.symm.trans (PySem.W.mg_of X G a_g13)
  cases e
  have T : Txt mg := ⟨⟨_, PySem.W.mg_of X G v_NONE⟩, PySem.W.ns_none_of X G n_len, PySem.W.ns_none_of X G n_range, PySem.W.ns_none_of X G n_min, PySem.W.ns_none_of X G n_max, PySem.W.ns_none_of X G n_list⟩
  have TC : TxtC K mg C := ⟨⟨pgC, hdC, poC, saC⟩, at_made, at_heads, at_join_count, at_parted, at_marks, ⟨_, PySem.W.mg_of X G v_REFUSED⟩, ⟨_, PySem.W.mg_of X G v_NOT_DONE⟩, ⟨_, PySem.W.mg_of X G v_DONE⟩, ⟨_, PySem.W.mg_of X G v_UNKNOWN⟩, ⟨_, PySem.W.mg_of X G v_EQUAL⟩, ⟨_, PySem.W.mg_of X G v_DIFFERENT⟩, ⟨_, PySem.W.mg_of X G v_MOST_TERMS⟩, ⟨_, PySem.W.mg_of X G v_MOST_SAYINGS⟩, ⟨_, PySem.W.mg_of X G v_MOST_MARKS⟩⟩
  have TN : TxtN mg := ⟨⟨_, PySem.W.mg_of X G v_INIT⟩, ⟨_, PySem.W.mg_of X G v_TERM⟩, ⟨_, PySem.W.mg_of X G v_FIND⟩, ⟨_, PySem.W.mg_of X G v_JOIN⟩, ⟨_, PySem.W.mg_of X G v_PART⟩, ⟨_, PySem.W.mg_of X G v_SAME⟩, ⟨_, PySem.W.mg_of X G v_HEAD⟩, ⟨_, PySem.W.mg_of X G v_SIZE⟩, ⟨_, PySem.W.mg_of X G v_DEPTH⟩, ⟨_, PySem.W.mg_of X G v_LIST⟩, ⟨_, PySem.W.mg_of X G v_MARK⟩⟩
  have TA : TxtA K mg C := ⟨PySem.W.mg_of X G aC, _, PySem.W.mg_of X G aH, dk_mk lH eH⟩
  have F_g0 := fun_mk (st := sHop) l_g0 c_g0 k_g0
  have F_g1 := fun_mk (st := sShape) l_g1 c_g1 k_g1
  have F_g2 := fun_mk (st := sHbp) l_g2 c_g2 k_g2
  have F_g3 := fun_mk (st := sNwh) l_g3 c_g3 k_g3
  have F_g4 := fun_mk (st := sMerged) l_g4 c_g4 k_g4
  have F_g5 := fun_mk (st := sUneq) l_g5 c_g5 k_g5
  have F_g6 := fun_mk (st := sHaj) l_g6 c_g6 k_g6
  have F_g7 := fun_mk (st := sDop) l_g7 c_g7 k_g7
  have F_g8 := fun_mk (st := sDbp) l_g8 c_g8 k_g8
  have F_g9 := fun_mk (st := sLow) l_g9 c_g9 k_g9
  have F_g10 := fun_mk (st := sLd) l_g10 c_g10 k_g10
  have F_g11 := fun_mk (st := sAnswer) l_g11 c_g11 k_g11
  have F_g12 := fun_mk (st := sAll) l_g12 c_g12 k_g12
  have F_g13 := fun_mk (st := sAnswers) l_g13 c_g13 k_g13
  have F_m0 := fun_mk (st := sInit) l_m0 c_m0 k_m0
  have F_m1 := fun_mk (st := sForget) l_m1 c_m1 k_m1
  have F_m2 := fun_mk (st := sHas) l_m2 c_m2 k_m2
  have F_m3 := fun_mk (st := sHasBoth) l_m3 c_m3 k_m3
  have F_m4 := fun_mk (st := sAreParts) l_m4 c_m4 k_m4
  have F_m5 := fun_mk (st := sAInit) l_m5 c_m5 k_m5
  have F_m6 := fun_mk (st := sATerm) l_m6 c_m6 k_m6
  have F_m7 := fun_mk (st := sMake) l_m7 c_m7 k_m7
  have F_m8 := fun_mk (st := sAFind) l_m8 c_m8 k_m8
  have F_m9 := fun_mk (st := sAJoin) l_m9 c_m9 k_m9
  have F_m10 := fun_mk (st := sPwe) l_m10 c_m10 k_m10
  have F_m11 := fun_mk (st := sAPart) l_m11 c_m11 k_m11
  have F_m12 := fun_mk (st := sASame) l_m12 c_m12 k_m12
  have F_m13 := fun_mk (st := sDiff) l_m13 c_m13 k_m13
  have F_m14 := fun_mk (st := sAHead) l_m14 c_m14 k_m14
  have F_m15 := fun_mk (st := sASize) l_m15 c_m15 k_m15
  have F_m16 := fun_mk (st := sADepth) l_m16 c_m16 k_m16
  have F_m17 := fun_mk (st := sAList) l_m17 c_m17 k_m17
  have F_m18 := fun_mk (st := sEqTo) l_m18 c_m18 k_m18
  have F_m19 := fun_mk (st := sAMark) l_m19 c_m19 k_m19
  have F_m20 := fun_mk (st := sABack) l_m20 c_m20 k_m20
  have b_g0 := F_g0.binds (ps := ["heads", "part"]) fun _ _ _ _ _ _ us hl => match us, hl with | [_, _], _ => rfl
  have b_g1 := F_g1.binds (ps := ["heads", "term"]) fun _ _ _ _ _ _ us hl => match us, hl with | [_, _], _ => rfl
  have b_g2 := F_g2.binds (ps := ["made", "heads", "term"]) fun _ _ _ _ _ _ us hl => match us, hl with | [_, _, _], _ => rfl
  have b_g3 := F_g3.binds (ps := ["heads", "head"]) fun _ _ _ _ _ _ us hl => match us, hl with | [_, _], _ => rfl
  have b_g4 := F_g4.binds (ps := ["heads", "a", "b"]) fun _ _ _ _ _ _ us hl => match us, hl with | [_, _, _], _ => rfl
  have b_g5 := F_g5.binds (ps := ["made", "heads"]) fun _ _ _ _ _ _ us hl => match us, hl with | [_, _], _ => rfl
  have b_g6 := F_g6.binds (ps := ["made", "heads", "a", "b"]) fun _ _ _ _ _ _ us hl => match us, hl with | [_, _, _, _], _ => rfl
  have b_g7 := F_g7.binds (ps := ["heads", "depths", "part"]) fun _ _ _ _ _ _ us hl => match us, hl with | [_, _, _], _ => rfl
  have b_g8 := F_g8.binds (ps := ["heads", "depths", "term"]) fun _ _ _ _ _ _ us hl => match us, hl with | [_, _, _], _ => rfl
  have b_g9 := F_g9.binds (ps := ["made", "heads", "depths"]) fun _ _ _ _ _ _ us hl => match us, hl with | [_, _, _], _ => rfl
  have b_g10 := F_g10.binds (ps := ["made", "heads"]) fun _ _ _ _ _ _ us hl => match us, hl with | [_, _], _ => rfl
  have b_g11 := F_g11.binds (ps := ["held", "call", "given"]) fun _ _ _ _ _ _ us hl => match us, hl with | [_, _, _], _ => rfl
  have b_g12 := F_g12.binds (ps := ["held", "call", "given"]) fun _ _ _ _ _ _ us hl => match us, hl with | [_, _, _], _ => rfl
  have b_g13 := F_g13.binds (ps := ["calls"]) fun _ _ _ _ _ _ us hl => match us, hl with | [_], _ => rfl
  have b_m0 := F_m0.binds (ps := ["self"]) fun _ _ _ _ _ _ us hl => match us, hl with | [_], _ => rfl
  have b_m1 := F_m1.binds (ps := ["self"]) fun _ _ _ _ _ _ us hl => match us, hl with | [_], _ => rfl
  have b_m2 := F_m2.binds (ps := ["self", "number"]) fun _ _ _ _ _ _ us hl => match us, hl with | [_, _], _ => rfl
  have b_m3 := F_m3.binds (ps := ["self", "a", "b"]) fun _ _ _ _ _ _ us hl => match us, hl with | [_, _, _], _ => rfl
  have b_m4 := F_m4.binds (ps := ["self", "x", "y"]) fun _ _ _ _ _ _ us hl => match us, hl with | [_, _, _], _ => rfl
  have b_m5 := F_m5.binds (ps := ["self"]) fun _ _ _ _ _ _ us hl => match us, hl with | [_], _ => rfl
  have b_m6 := F_m6.binds (ps := ["self", "sign", "x", "y"]) fun _ _ _ _ _ _ us hl => match us, hl with | [_, _, _, _], _ => rfl
  have b_m7 := F_m7.binds (ps := ["self", "term"]) fun _ _ _ _ _ _ us hl => match us, hl with | [_, _], _ => rfl
  have b_m8 := F_m8.binds (ps := ["self", "sign", "x", "y"]) fun _ _ _ _ _ _ us hl => match us, hl with | [_, _, _, _], _ => rfl
  have b_m9 := F_m9.binds (ps := ["self", "a", "b"]) fun _ _ _ _ _ _ us hl => match us, hl with | [_, _, _], _ => rfl
  have b_m10 := F_m10.binds (ps := ["self", "heads"]) fun _ _ _ _ _ _ us hl => match us, hl with | [_, _], _ => rfl
  have b_m11 := F_m11.binds (ps := ["self", "a", "b"]) fun _ _ _ _ _ _ us hl => match us, hl with | [_, _, _], _ => rfl
  have b_m12 := F_m12.binds (ps := ["self", "a", "b"]) fun _ _ _ _ _ _ us hl => match us, hl with | [_, _, _], _ => rfl
  have b_m13 := F_m13.binds (ps := ["self", "a", "b"]) fun _ _ _ _ _ _ us hl => match us, hl with | [_, _, _], _ => rfl
  have b_m14 := F_m14.binds (ps := ["self", "a"]) fun _ _ _ _ _ _ us hl => match us, hl with | [_, _], _ => rfl
  have b_m15 := F_m15.binds (ps := ["self", "a"]) fun _ _ _ _ _ _ us hl => match us, hl with | [_, _], _ => rfl
  have b_m16 := F_m16.binds (ps := ["self", "a"]) fun _ _ _ _ _ _ us hl => match us, hl with | [_, _], _ => rfl
  have b_m17 := F_m17.binds (ps := ["self", "a"]) fun _ _ _ _ _ _ us hl => match us, hl with | [_, _], _ => rfl
  have b_m18 := F_m18.binds (ps := ["self", "a"]) fun _ _ _ _ _ _ us hl => match us, hl with | [_, _], _ => rfl
  have b_m19 := F_m19.binds (ps := ["self"]) fun _ _ _ _ _ _ us hl => match us, hl with | [_], _ => rfl
  have b_m20 := F_m20.binds (ps := ["self"]) fun _ _ _ _ _ _ us hl => match us, hl with | [_], _ => rfl
  refine ⟨PySem.W.fnOf "answers" "answers" (defArgs sAnswers) (defBody sAnswers) (defScope sAnswers) .none kV_g13 dc_g13 pm_g13 an_g13 cd_g13 ct_g13, fun s v => .of_eq rfl, fun base _ _ => ?_⟩
  have Hop : Cal P w K mg base "head_of_part" ["heads", "part"] 1 spHop f_g0 _ := ⟨ok_hop F_g0 T, PySem.W.mg_of X G a_g0, k_g0, b_g0⟩
  have Shp : Cal P w K mg base "shape" ["heads", "term"] 2 spShape f_g1 _ := ⟨ok_shape F_g1 T Hop, PySem.W.mg_of X G a_g1, k_g1, b_g1⟩
  have Hbp : Cal P w K mg base "head_by_parts" ["made", "heads", "term"] 3 spHbp f_g2 _ := ⟨ok_hbp F_g2 T Shp, PySem.W.mg_of X G a_g2, k_g2, b_g2⟩
  have Nwh : Cal P w K mg base "numbers_with_head" ["heads", "head"] 1 spNwh f_g3 _ := ⟨ok_nwh F_g3 T, PySem.W.mg_of X G a_g3, k_g3, b_g3⟩
  have Mrg : Cal P w K mg base "merged" ["heads", "a", "b"] 1 spMerged f_g4 _ := ⟨ok_merged F_g4 T, PySem.W.mg_of X G a_g4, k_g4, b_g4⟩
  have Unq : Cal P w K mg base "unequal_pair_of_one_shape" ["made", "heads"] 3 spUneq f_g5 _ := ⟨ok_uneq F_g5 T Shp, PySem.W.mg_of X G a_g5, k_g5, b_g5⟩
  have Haj : Cal P w K mg base "heads_after_join" ["made", "heads", "a", "b"] 4 spHaj f_g6 _ := ⟨ok_haj F_g6 Mrg Unq, PySem.W.mg_of X G a_g6, k_g6, b_g6⟩
  have Dop : Cal P w K mg base "depth_of_part" ["heads", "depths", "part"] 1 spDop f_g7 _ := ⟨ok_dop F_g7 T, PySem.W.mg_of X G a_g7, k_g7, b_g7⟩
  have Dbp : Cal P w K mg base "depth_by_parts" ["heads", "depths", "term"] 2 spDbp f_g8 _ := ⟨ok_dbp F_g8 T Dop, PySem.W.mg_of X G a_g8, k_g8, b_g8⟩
  have Low : Cal P w K mg base "lowered" ["made", "heads", "depths"] 3 spLow f_g9 _ := ⟨ok_low F_g9 T Dbp, PySem.W.mg_of X G a_g9, k_g9, b_g9⟩
  have Ld : Cal P w K mg base "least_depths" ["made", "heads"] 4 spLd f_g10 _ := ⟨ok_ld F_g10 T Low, PySem.W.mg_of X G a_g10, k_g10, b_g10⟩
  have Fgt : CalM P w K mg base C "forget_all" ["self"] 1 (spForget C) f_m1 _ := ⟨ok_forget F_m1 TC, ⟨a_m1, i_m1, k_m1⟩, b_m1⟩
  have Has : CalM P w K mg base C "has" ["self", "number"] 1 (spHas C) f_m2 _ := ⟨ok_has F_m2 T TC, ⟨a_m2, i_m2, k_m2⟩, b_m2⟩
  have Hbo : CalM P w K mg base C "has_both" ["self", "a", "b"] 2 (spHasBoth C) f_m3 _ := ⟨ok_hasBoth F_m3 TC Has, ⟨a_m3, i_m3, k_m3⟩, b_m3⟩
  have Apa : CalM P w K mg base C "are_parts" ["self", "x", "y"] 2 (spAreParts C) f_m4 _ := ⟨ok_areParts F_m4 T TC Has, ⟨a_m4, i_m4, k_m4⟩, b_m4⟩
  have AI : CalM P w K mg base C "answer_init" ["self"] 2 (spAns C 0 0) f_m5 _ := ⟨ok_aInit F_m5 TC Fgt, ⟨a_m5, i_m5, k_m5⟩, b_m5⟩
  have Mke : CalM P w K mg base C "make" ["self", "term"] 4 (spMake C) f_m7 _ := ⟨ok_make F_m7 T TC Hbp, ⟨a_m7, i_m7, k_m7⟩, b_m7⟩
  have AT : CalM P w K mg base C "answer_term" ["self", "sign", "x", "y"] 5 (spAns C 1 3) f_m6 _ := ⟨ok_aTerm F_m6 T TC Apa Mke, ⟨a_m6, i_m6, k_m6⟩, b_m6⟩
  have AF : CalM P w K mg base C "answer_find" ["self", "sign", "x", "y"] 4 (spAns C 2 3) f_m8 _ := ⟨ok_aFind F_m8 T TC Apa Hbp, ⟨a_m8, i_m8, k_m8⟩, b_m8⟩
  have Pwe : CalM P w K mg base C "parted_would_be_equal" ["self", "heads"] 1 (spPwe C) f_m10 _ := ⟨ok_pwe F_m10 TC, ⟨a_m10, i_m10, k_m10⟩, b_m10⟩
  have AJ : CalM P w K mg base C "answer_join" ["self", "a", "b"] 5 (spAns C 3 2) f_m9 _ := ⟨ok_aJoin F_m9 TC Hbo Haj Pwe, ⟨a_m9, i_m9, k_m9⟩, b_m9⟩
  have AP : CalM P w K mg base C "answer_part" ["self", "a", "b"] 3 (spAns C 4 2) f_m11 _ := ⟨ok_aPart F_m11 T TC Hbo, ⟨a_m11, i_m11, k_m11⟩, b_m11⟩
  have Dif : CalM P w K mg base C "are_different" ["self", "a", "b"] 1 (spDiff C) f_m13 _ := ⟨ok_diff F_m13 TC, ⟨a_m13, i_m13, k_m13⟩, b_m13⟩
  have AS : CalM P w K mg base C "answer_same" ["self", "a", "b"] 3 (spAns C 5 2) f_m12 _ := ⟨ok_aSame F_m12 TC Hbo Dif, ⟨a_m12, i_m12, k_m12⟩, b_m12⟩
  have AH : CalM P w K mg base C "answer_head" ["self", "a"] 2 (spAns C 6 1) f_m14 _ := ⟨ok_aHead F_m14 TC Has, ⟨a_m14, i_m14, k_m14⟩, b_m14⟩
  have Eqt : CalM P w K mg base C "equal_to" ["self", "a"] 2 (spEqTo C) f_m18 _ := ⟨ok_eqTo F_m18 TC Nwh, ⟨a_m18, i_m18, k_m18⟩, b_m18⟩
  have AZ : CalM P w K mg base C "answer_size" ["self", "a"] 3 (spAns C 7 1) f_m15 _ := ⟨ok_aSize F_m15 T TC Has Eqt, ⟨a_m15, i_m15, k_m15⟩, b_m15⟩
  have AD : CalM P w K mg base C "answer_depth" ["self", "a"] 5 (spAns C 8 1) f_m16 _ := ⟨ok_aDepth F_m16 TC Has Ld, ⟨a_m16, i_m16, k_m16⟩, b_m16⟩
  have AL : CalM P w K mg base C "answer_list" ["self", "a"] 3 (spLst C) f_m17 _ := ⟨ok_aList F_m17 T TC Has Eqt, ⟨a_m17, i_m17, k_m17⟩, b_m17⟩
  have AM : CalM P w K mg base C "answer_mark" ["self"] 1 (spAns C 10 0) f_m19 _ := ⟨ok_aMark F_m19 T TC, ⟨a_m19, i_m19, k_m19⟩, b_m19⟩
  have AB : CalM P w K mg base C "answer_back" ["self"] 1 (spAns C 11 0) f_m20 _ := ⟨ok_aBack F_m20 T TC, ⟨a_m20, i_m20, k_m20⟩, b_m20⟩
  have M : Ms P w K mg base C := ⟨⟨_, _, AI⟩, ⟨_, _, AT⟩, ⟨_, _, AF⟩, ⟨_, _, AJ⟩, ⟨_, _, AP⟩, ⟨_, _, AS⟩, ⟨_, _, AH⟩, ⟨_, _, AZ⟩, ⟨_, _, AD⟩, ⟨_, _, AM⟩, ⟨_, _, AB⟩⟩
  have Ans : Cal P w K mg base "answer" ["held", "call", "given"] 6 (spAnswer K C) f_g11 _ := ⟨ok_answer F_g11 TC TN M, PySem.W.mg_of X G a_g11, k_g11, b_g11⟩
  have All : Cal P w K mg base "all_answered" ["held", "call", "given"] 7 (spAll K C) f_g12 _ := ⟨ok_all F_g12 TC TN AL Ans, PySem.W.mg_of X G a_g12, k_g12, b_g12⟩
  exact ok_answers F_g13 T TA ⟨mkC, a_m0, i_m0, kcC⟩ (ok_init F_m0 TC Fgt) b_m0 All
end Eqt

/-! the head -/
namespace Eqt
open PySem PySem.W
theorem said : PySem.Challenge.rw_equalterms_s01_answers.wellSaid = true := by decide +kernel
theorem pre_ns (args : List WData) (h : PySem.Challenge.rw_equalterms_s01_answers.pre args = true) : ∃ ns : List Int, args = [.list (ns.map .int)] ∧ ns.length ≤ 1600 ∧ PySc13.answers_asked ns = true := by
  obtain ⟨⟨ns, u⟩, h1, h2, e⟩ := (OpenSpec.pre_iff said args).mp h
  refine ⟨ns, e, ?_, h2⟩
  have h3 : ((Codec.inLen 0 1600 ns && ns.all _) && true) = true := h1
  rw [Bool.and_true, Bool.and_eq_true] at h3
  exact (Codec.inNat_iff.mp h3.1).2
theorem post_ns (ns : List Int) (h : PySem.Challenge.rw_equalterms_s01_answers.pre [.list (ns.map .int)] = true) : PySem.Challenge.rw_equalterms_s01_answers.post [.list (ns.map .int)] (.list ((PySc13.answers ns).map .int)) = true := by
  obtain ⟨⟨ms, u⟩, h1, h2, e⟩ := (OpenSpec.pre_iff said _).mp h
  have e1 : [WData.list (ns.map .int)] = [WData.list (ms.map .int)] := e
  injection e1 with e2
  injection e2 with e3
  have e4 : ns = ms := Codec.map_inj WData.int (fun x y z => by injection z) ns ms e3
  subst e4
  exact (OpenSpec.post_iff said (a := (ns, ())) h1 _ []).mpr rfl
theorem walk {q : Program} {loose : List Str} {XP : (Str → Option Value) → Heap → Prop} {YP : World → Heap → Prop} {d : DefRec} {K : Params → PySem.W.Frag} (hdf : d.params.defaults = [])
    (hY : ∀ (w : World) (h : Heap), YP w h → (K w.params).In h)
    (F : ∀ (w : World) (mg : Str → Option Value) (fa : Addr) (h : Heap), (K w.params).In h → h.Ns mainGlobals mg → mg d.name = some (.ref fa) →
      ∃ fd : FuncData, (∀ (s : Shared) (u : Value), BindsTo s fd ⟨[u], []⟩ [("calls", u)]) ∧ ∀ base : Heap, (K w.params).In base → base.Ns mainGlobals mg → L2.FnOk PySem.Challenge.rw_equalterms_s01_answers.prog w (K w.params) mg base L2.CX0 8 fa fd ["calls"] (spAnswers (K w.params))) :
    PySem.W.WalkOS q loose XP YP PySem.Challenge.rw_equalterms_s01_answers d [] (fun f vs => PySem.call f vs) :=
  L2.walk_os (r := PySem.Challenge.rw_equalterms_s01_answers) (n := 1600) (k := 8) (x := "calls") (CX := L2.CX0) (sp := spAnswers) (K := K) PySc13.answers (fun ns => PySc13.answers_asked ns = true) (by decide) hdf ⟨rfl, by decide, by decide⟩ pre_ns (fun ns _ _ h => post_ns ns h) hY F
    (fun K H a ns hl hask _ hS => ⟨a, ns, rfl, hS, hl, hask, fun H' l e => ⟨l, rfl, e⟩⟩) fun _ _ _ _ z => z
end Eqt
open PySem PySem.W PyProof.Rows
set_option maxRecDepth 100000 in
set_option maxHeartbeats 0 in
theorem PySem.Challenge.cw_equalterms_s01_answers_holds : PySem.Challenge.rw_equalterms_s01_answers.Holds := by
  w_on; k_headS; (case hw => exact ⟨[.list [.int 0]], by decide +kernel, by decide +kernel⟩)
  k_fillS
  refine Eqt.walk rfl (fun w h Y => PySem.W.kIn_of Y) ?F
  case F =>
    intro w mg fa h KX G hmg
    refine' Eqt.all_mk KX G hmg ?aC ?a_g0 ?l_g0 ?c_g0 ?k_g0 ?a_g1 ?l_g1 ?c_g1 ?k_g1 ?a_g2 ?l_g2 ?c_g2 ?k_g2 ?a_g3 ?l_g3 ?c_g3 ?k_g3 ?a_g4 ?l_g4 ?c_g4 ?k_g4 ?a_g5 ?l_g5 ?c_g5 ?k_g5 ?a_g6 ?l_g6 ?c_g6 ?k_g6 ?a_g7 ?l_g7 ?c_g7 ?k_g7 ?a_g8 ?l_g8 ?c_g8 ?k_g8 ?a_g9 ?l_g9 ?c_g9 ?k_g9 ?a_g10 ?l_g10 ?c_g10 ?k_g10 ?a_g11 ?l_g11 ?c_g11 ?k_g11 ?a_g12 ?l_g12 ?c_g12 ?k_g12 ?a_g13 ?l_g13 ?c_g13 ?k_g13 ?a_m0 ?i_m0 ?l_m0 ?c_m0 ?k_m0 ?a_m1 ?i_m1 ?l_m1 ?c_m1 ?k_m1 ?a_m2 ?i_m2 ?l_m2 ?c_m2 ?k_m2 ?a_m3 ?i_m3 ?l_m3 ?c_m3 ?k_m3 ?a_m4 ?i_m4 ?l_m4 ?c_m4 ?k_m4 ?a_m5 ?i_m5 ?l_m5 ?c_m5 ?k_m5 ?a_m6 ?i_m6 ?l_m6 ?c_m6 ?k_m6 ?a_m7 ?i_m7 ?l_m7 ?c_m7 ?k_m7 ?a_m8 ?i_m8 ?l_m8 ?c_m8 ?k_m8 ?a_m9 ?i_m9 ?l_m9 ?c_m9 ?k_m9 ?a_m10 ?i_m10 ?l_m10 ?c_m10 ?k_m10 ?a_m11 ?i_m11 ?l_m11 ?c_m11 ?k_m11 ?a_m12 ?i_m12 ?l_m12 ?c_m12 ?k_m12 ?a_m13 ?i_m13 ?l_m13 ?c_m13 ?k_m13 ?a_m14 ?i_m14 ?l_m14 ?c_m14 ?k_m14 ?a_m15 ?i_m15 ?l_m15 ?c_m15 ?k_m15 ?a_m16 ?i_m16 ?l_m16 ?c_m16 ?k_m16 ?a_m17 ?i_m17 ?l_m17 ?c_m17 ?k_m17 ?a_m18 ?i_m18 ?l_m18 ?c_m18 ?k_m18 ?a_m19 ?i_m19 ?l_m19 ?c_m19 ?k_m19 ?a_m20 ?i_m20 ?l_m20 ?c_m20 ?k_m20 ?pgC ?hdC ?poC ?saC ?mkC ?kcC ?at_made ?at_heads ?at_join_count ?at_parted ?at_marks ?v_NONE ?v_REFUSED ?v_NOT_DONE ?v_DONE ?v_UNKNOWN ?v_EQUAL ?v_DIFFERENT ?v_MOST_TERMS ?v_MOST_SAYINGS ?v_MOST_MARKS ?v_INIT ?v_TERM ?v_FIND ?v_JOIN ?v_PART ?v_SAME ?v_HEAD ?v_SIZE ?v_DEPTH ?v_LIST ?v_MARK ?n_len ?n_range ?n_min ?n_max ?n_list ?aH ?lH ?eH
    (case aC => k_is)
    (case a_g0 => k_is)
    (case l_g0 => k_is)
    (case c_g0 => k_is)
    (case k_g0 => k_is)
    (case a_g1 => k_is)
    (case l_g1 => k_is)
    (case c_g1 => k_is)
    (case k_g1 => k_is)
    (case a_g2 => k_is)
    (case l_g2 => k_is)
    (case c_g2 => k_is)
    (case k_g2 => k_is)
    (case a_g3 => k_is)
    (case l_g3 => k_is)
    (case c_g3 => k_is)
    (case k_g3 => k_is)
    (case a_g4 => k_is)
    (case l_g4 => k_is)
    (case c_g4 => k_is)
    (case k_g4 => k_is)
    (case a_g5 => k_is)
    (case l_g5 => k_is)
    (case c_g5 => k_is)
    (case k_g5 => k_is)
    (case a_g6 => k_is)
    (case l_g6 => k_is)
    (case c_g6 => k_is)
    (case k_g6 => k_is)
    (case a_g7 => k_is)
    (case l_g7 => k_is)
    (case c_g7 => k_is)
    (case k_g7 => k_is)
    (case a_g8 => k_is)
    (case l_g8 => k_is)
    (case c_g8 => k_is)
    (case k_g8 => k_is)
    (case a_g9 => k_is)
    (case l_g9 => k_is)
    (case c_g9 => k_is)
    (case k_g9 => k_is)
    (case a_g10 => k_is)
    (case l_g10 => k_is)
    (case c_g10 => k_is)
    (case k_g10 => k_is)
    (case a_g11 => k_is)
    (case l_g11 => k_is)
    (case c_g11 => k_is)
    (case k_g11 => k_is)
    (case a_g12 => k_is)
    (case l_g12 => k_is)
    (case c_g12 => k_is)
    (case k_g12 => k_is)
    (case a_g13 => k_is)
    (case l_g13 => k_is)
    (case c_g13 => k_is)
    (case k_g13 => k_is)
    (case a_m0 => k_is)
    (case i_m0 => k_is)
    (case l_m0 => k_is)
    (case c_m0 => k_is)
    (case k_m0 => k_is)
    (case a_m1 => k_is)
    (case i_m1 => k_is)
    (case l_m1 => k_is)
    (case c_m1 => k_is)
    (case k_m1 => k_is)
    (case a_m2 => k_is)
    (case i_m2 => k_is)
    (case l_m2 => k_is)
    (case c_m2 => k_is)
    (case k_m2 => k_is)
    (case a_m3 => k_is)
    (case i_m3 => k_is)
    (case l_m3 => k_is)
    (case c_m3 => k_is)
    (case k_m3 => k_is)
    (case a_m4 => k_is)
    (case i_m4 => k_is)
    (case l_m4 => k_is)
    (case c_m4 => k_is)
    (case k_m4 => k_is)
    (case a_m5 => k_is)
    (case i_m5 => k_is)
    (case l_m5 => k_is)
    (case c_m5 => k_is)
    (case k_m5 => k_is)
    (case a_m6 => k_is)
    (case i_m6 => k_is)
    (case l_m6 => k_is)
    (case c_m6 => k_is)
    (case k_m6 => k_is)
    (case a_m7 => k_is)
    (case i_m7 => k_is)
    (case l_m7 => k_is)
    (case c_m7 => k_is)
    (case k_m7 => k_is)
    (case a_m8 => k_is)
    (case i_m8 => k_is)
    (case l_m8 => k_is)
    (case c_m8 => k_is)
    (case k_m8 => k_is)
    (case a_m9 => k_is)
    (case i_m9 => k_is)
    (case l_m9 => k_is)
    (case c_m9 => k_is)
    (case k_m9 => k_is)
    (case a_m10 => k_is)
    (case i_m10 => k_is)
    (case l_m10 => k_is)
    (case c_m10 => k_is)
    (case k_m10 => k_is)
    (case a_m11 => k_is)
    (case i_m11 => k_is)
    (case l_m11 => k_is)
    (case c_m11 => k_is)
    (case k_m11 => k_is)
    (case a_m12 => k_is)
    (case i_m12 => k_is)
    (case l_m12 => k_is)
    (case c_m12 => k_is)
    (case k_m12 => k_is)
    (case a_m13 => k_is)
    (case i_m13 => k_is)
    (case l_m13 => k_is)
    (case c_m13 => k_is)
    (case k_m13 => k_is)
    (case a_m14 => k_is)
    (case i_m14 => k_is)
    (case l_m14 => k_is)
    (case c_m14 => k_is)
    (case k_m14 => k_is)
    (case a_m15 => k_is)
    (case i_m15 => k_is)
    (case l_m15 => k_is)
    (case c_m15 => k_is)
    (case k_m15 => k_is)
    (case a_m16 => k_is)
    (case i_m16 => k_is)
    (case l_m16 => k_is)
    (case c_m16 => k_is)
    (case k_m16 => k_is)
    (case a_m17 => k_is)
    (case i_m17 => k_is)
    (case l_m17 => k_is)
    (case c_m17 => k_is)
    (case k_m17 => k_is)
    (case a_m18 => k_is)
    (case i_m18 => k_is)
    (case l_m18 => k_is)
    (case c_m18 => k_is)
    (case k_m18 => k_is)
    (case a_m19 => k_is)
    (case i_m19 => k_is)
    (case l_m19 => k_is)
    (case c_m19 => k_is)
    (case k_m19 => k_is)
    (case a_m20 => k_is)
    (case i_m20 => k_is)
    (case l_m20 => k_is)
    (case c_m20 => k_is)
    (case k_m20 => k_is)
    (case pgC => k_is)
    (case hdC => k_is)
    (case poC => k_is)
    (case saC => k_is)
    (case mkC => k_is)
    (case kcC => k_is)
    (case at_made => k_is)
    (case at_heads => k_is)
    (case at_join_count => k_is)
    (case at_parted => k_is)
    (case at_marks => k_is)
    (case v_NONE => k_is)
    (case v_REFUSED => k_is)
    (case v_NOT_DONE => k_is)
    (case v_DONE => k_is)
    (case v_UNKNOWN => k_is)
    (case v_EQUAL => k_is)
    (case v_DIFFERENT => k_is)
    (case v_MOST_TERMS => k_is)
    (case v_MOST_SAYINGS => k_is)
    (case v_MOST_MARKS => k_is)
    (case v_INIT => k_is)
    (case v_TERM => k_is)
    (case v_FIND => k_is)
    (case v_JOIN => k_is)
    (case v_PART => k_is)
    (case v_SAME => k_is)
    (case v_HEAD => k_is)
    (case v_SIZE => k_is)
    (case v_DEPTH => k_is)
    (case v_LIST => k_is)
    (case v_MARK => k_is)
    (case n_len => k_is)
    (case n_range => k_is)
    (case n_min => k_is)
    (case n_max => k_is)
    (case n_list => k_is)
    (case aH => k_is)
    (case lH => k_is)
    (case eH => decide +kernel)
#print axioms PySem.Challenge.cw_equalterms_s01_answers_holds

