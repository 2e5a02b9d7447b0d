import PyProof.Rows.All
import Wide.All
import OpenK.AllK
import Wide.FinOn
import Open.SpecLaws
import KE.OsGo
import KE.GoesEnumKw
import HandS.ForSpec
import HandS.Comp
import HandS.Iter
import HandS.Walk
import HandS.Codes
import HandS.Evl
import HandS.Deep
import HandS.WideBits
import HandS.CallLocal
import HandS.SetFor
import HandS.TupLe
import HandS.TupAny
import HandS.Lambda
import HandS.Nested
import HandS.EndTab
import KE.DataFind
import PySem.Challenge.RW_waygraph_s01_answers
set_option Elab.async false
set_option linter.all false
set_option maxRecDepth 100000
set_option maxHeartbeats 2500000
/-! The order of ways, and what the tables of best ways hold: plain Lean over the specification. -/
namespace WM
open Gq01

/-! ### steps -/
def slt (a b : Step) : Prop := a.1 < b.1 ∨ (a.1 = b.1 ∧ a.2 < b.2)
theorem slt_irrefl (a : Step) : ¬ slt a a := by unfold slt; omega
theorem slt_trans {a b c : Step} (h : slt a b) (k : slt b c) : slt a c := by unfold slt at *; omega
theorem slt_total {a b : Step} (h : a ≠ b) : slt a b ∨ slt b a := by
  obtain ⟨a1, a2⟩ := a
  obtain ⟨b1, b2⟩ := b
  unfold slt
  by_cases e : a1 = b1
  · subst e
    have hn : a2 ≠ b2 := fun z => h (by rw [z])
    rcases Nat.lt_or_gt_of_ne hn with z | z
    · exact .inl (.inr ⟨rfl, z⟩)
    · exact .inr (.inr ⟨rfl, z⟩)
  · rcases Nat.lt_or_gt_of_ne e with z | z
    · exact .inl (.inl z)
    · exact .inr (.inl z)
theorem slt_ne {a b : Step} (h : slt a b) : a ≠ b := fun e => by subst e; exact slt_irrefl _ h

theorem earlier_cons {a b : Step} {l m : Way} : earlier (a :: l) (b :: m) = true ↔ (a = b ∧ earlier l m = true) ∨ slt a b := by
  unfold slt
  by_cases e : a = b
  · subst e
    simp [earlier]
  · simp [earlier, e]

theorem earlier_irrefl : ∀ v : Way, earlier v v = false
  | [] => rfl
  | a :: l => by simp [earlier, earlier_irrefl l]
theorem earlier_trans : ∀ {u v w : Way}, earlier u v = true → earlier v w = true → earlier u w = true
  | [], _, _, h, _ => by simp [earlier] at h
  | _ :: _, [], _, h, _ => by simp [earlier] at h
  | _ :: _, _ :: _, [], _, h => by simp [earlier] at h
  | a :: l, b :: m, c :: n, h, k => by
    rw [earlier_cons] at h k ⊢
    rcases h with ⟨rfl, h⟩ | h
    · rcases k with ⟨rfl, k⟩ | k
      · exact .inl ⟨rfl, earlier_trans h k⟩
      · exact .inr k
    · rcases k with ⟨rfl, k⟩ | k
      · exact .inr h
      · exact .inr (slt_trans h k)
theorem earlier_total : ∀ {v w : Way}, v.length = w.length → v ≠ w → earlier v w = true ∨ earlier w v = true
  | [], [], _, h => absurd rfl h
  | [], _ :: _, len0, _ => by simp at len0
  | _ :: _, [], len0, _ => by simp at len0
  | a :: l, b :: m, h, k => by
    rw [earlier_cons, earlier_cons]
    by_cases e : a = b
    · subst e
      have hl : l.length = m.length := by simpa using h
      have hn : l ≠ m := fun z => k (by rw [z])
      rcases earlier_total hl hn with z | z
      · exact .inl (.inl ⟨rfl, z⟩)
      · exact .inr (.inl ⟨rfl, z⟩)
    · rcases slt_total e with z | z
      · exact .inl (.inr z)
      · exact .inr (.inr z)
theorem earlier_left : ∀ (u : Way) {v w : Way}, earlier v w = true → earlier (u ++ v) (u ++ w) = true
  | [], _, _, h => h
  | a :: u, v, w, h => by
    rw [List.cons_append, List.cons_append, earlier_cons]
    exact .inl ⟨rfl, earlier_left u h⟩
theorem earlier_right : ∀ {v w : Way} (s t : Way), earlier v w = true → earlier (v ++ s) (w ++ t) = true
  | [], _, _, _, h => by simp [earlier] at h
  | _ :: _, [], _, _, h => by simp [earlier] at h
  | a :: l, b :: m, s, t, h => by
    rw [earlier_cons] at h
    rw [List.cons_append, List.cons_append, earlier_cons]
    rcases h with ⟨rfl, h⟩ | h
    · exact .inl ⟨rfl, earlier_right s t h⟩
    · exact .inr h

/-! ### better: a strict order in which any two ways stand -/
theorem better_iff {v w : Way} : better v w = true ↔ v.length < w.length ∨ (v.length = w.length ∧ earlier v w = true) := by
  simp [better]
theorem better_irrefl (v : Way) : better v v = false := by
  cases h : better v v with
  | false => rfl
  | true =>
    rw [better_iff, earlier_irrefl] at h
    simp at h
theorem better_trans {u v w : Way} (h : better u v = true) (k : better v w = true) : better u w = true := by
  rw [better_iff] at *
  rcases h with h | ⟨h, h'⟩
  · rcases k with k | ⟨k, _⟩
    · exact .inl (by omega)
    · exact .inl (by omega)
  · rcases k with k | ⟨k, k'⟩
    · exact .inl (by omega)
    · exact .inr ⟨by omega, earlier_trans h' k'⟩
theorem better_total {v w : Way} (h : v ≠ w) : better v w = true ∨ better w v = true := by
  rw [better_iff, better_iff]
  by_cases e : v.length = w.length
  · rcases earlier_total e h with z | z
    · exact .inl (.inr ⟨e, z⟩)
    · exact .inr (.inr ⟨e.symm, z⟩)
  · omega

/-- as good, or better -/
def Le (v w : Way) : Prop := v = w ∨ better v w = true
theorem Le.refl (v : Way) : Le v v := .inl rfl
theorem Le.trans {u v w : Way} (h : Le u v) (k : Le v w) : Le u w := by
  rcases h with rfl | h
  · exact k
  · rcases k with rfl | k
    · exact .inr h
    · exact .inr (better_trans h k)
theorem Le.antisymm {v w : Way} (h : Le v w) (k : Le w v) : v = w := by
  rcases h with h | h
  · exact h
  · rcases k with k | k
    · exact k.symm
    · have z := better_trans h k
      rw [better_irrefl] at z
      cases z
theorem Le.total (v w : Way) : Le v w ∨ Le w v := by
  by_cases e : v = w
  · exact .inl (.inl e)
  · rcases better_total e with z | z
    · exact .inl (.inr z)
    · exact .inr (.inr z)
theorem le_iff {v w : Way} : Le v w ↔ better w v = false := by
  constructor
  · intro h
    cases k : better w v with
    | false => rfl
    | true =>
      rcases h with rfl | h
      · rw [better_irrefl] at k
        cases k
      · have z := better_trans h k
        rw [better_irrefl] at z
        cases z
  · intro h
    rcases Le.total v w with z | z
    · exact z
    · rcases z with z | z
      · exact .inl z.symm
      · rw [h] at z
        cases z
theorem le_nil (w : Way) : Le [] w := by
  cases w with
  | nil => exact .inl rfl
  | cons a l => exact .inr (better_iff.mpr (.inl (by simp)))
theorem Le.append {v v' w w' : Way} (h : Le v v') (k : Le w w') : Le (v ++ w) (v' ++ w') := by
  rcases h with rfl | h
  · rcases k with rfl | k
    · exact .inl rfl
    · refine .inr ?_
      rw [better_iff] at k ⊢
      rw [List.length_append, List.length_append]
      rcases k with k | ⟨k, k'⟩
      · exact .inl (by omega)
      · exact .inr ⟨by omega, earlier_left v k'⟩
  · refine .inr ?_
    have k1 : w.length ≤ w'.length := by
      rcases k with rfl | k
      · exact Nat.le_refl _
      · rw [better_iff] at k
        omega
    rw [better_iff] at h ⊢
    rw [List.length_append, List.length_append]
    rcases h with h | ⟨h, h'⟩
    · exact .inl (by omega)
    · rcases Nat.lt_or_eq_of_le k1 with k2 | k2
      · exact .inl (by omega)
      · exact .inr ⟨by omega, earlier_right w w' h'⟩

/-! ### the least of a set of ways -/
/-- the best way of those that S tells, if there is one -/
def Best (S : Way → Prop) (o : Option Way) : Prop := (∀ w, o = some w → S w) ∧ ∀ w, S w → ∃ v, o = some v ∧ Le v w
theorem Best.some_of {S : Way → Prop} {w : Way} (h : Best S (some w)) : S w := h.1 w rfl
theorem Best.le {S : Way → Prop} {w v : Way} (h : Best S (some w)) (k : S v) : Le w v := by
  obtain ⟨u, e, l⟩ := h.2 v k
  cases e
  exact l
theorem Best.none_of {S : Way → Prop} (h : Best S none) (w : Way) : ¬ S w := fun k => by
  obtain ⟨_, e, _⟩ := h.2 w k
  cases e
theorem Best.unique {S : Way → Prop} {o p : Option Way} (h : Best S o) (k : Best S p) : o = p := by
  cases o with
  | none =>
    cases p with
    | none => rfl
    | some w => exact absurd k.some_of (h.none_of w)
  | some v =>
    cases p with
    | none => exact absurd h.some_of (k.none_of v)
    | some w => rw [Le.antisymm (h.le k.some_of) (k.le h.some_of)]
theorem Best.isSome {S : Way → Prop} {o : Option Way} (h : Best S o) : o.isSome = true ↔ ∃ w, S w := by
  cases o with
  | none => exact ⟨fun z => by simp at z, fun ⟨w, z⟩ => absurd z (h.none_of w)⟩
  | some v => exact ⟨fun _ => ⟨v, h.some_of⟩, fun _ => rfl⟩
theorem Best.congr {S T : Way → Prop} {o : Option Way} (e : ∀ w, S w ↔ T w) (h : Best S o) : Best T o :=
  ⟨fun w z => (e w).mp (h.1 w z), fun w z => h.2 w ((e w).mpr z)⟩
theorem best_one (v : Way) : Best (fun w => w = v) (some v) := ⟨fun _ e => (Option.some.inj e).symm, fun _ e => ⟨v, rfl, .inl e.symm⟩⟩
theorem best_no {S : Way → Prop} (h : ∀ w, ¬ S w) : Best S none := ⟨fun _ e => (nomatch e), fun w k => absurd k (h w)⟩
theorem best_pick {S T : Way → Prop} {o p : Option Way} (h : Best S o) (k : Best T p) : Best (fun w => S w ∨ T w) (pick o p) := by
  cases o with
  | none =>
    show Best _ (pick none p)
    have e : pick none p = p := by cases p <;> rfl
    rw [e]
    exact k.congr fun w => ⟨.inr, fun z => z.elim (fun q => absurd q (h.none_of w)) id⟩
  | some v =>
    cases p with
    | none => exact h.congr fun w => ⟨.inl, fun z => z.elim id fun q => absurd q (k.none_of w)⟩
    | some u =>
      show Best _ (if better u v = true then some u else some v)
      by_cases c : better u v = true
      · rw [if_pos c]
        refine ⟨fun w e => ?_, fun w z => ⟨u, rfl, ?_⟩⟩
        · cases e
          exact .inr k.some_of
        · rcases z with z | z
          · exact Le.trans (.inr c) (h.le z)
          · exact k.le z
      · rw [if_neg c]
        refine ⟨fun w e => ?_, fun w z => ⟨v, rfl, ?_⟩⟩
        · cases e
          exact .inl h.some_of
        · rcases z with z | z
          · exact h.le z
          · refine Le.trans (le_iff.mpr ?_) (k.le z)
            cases q : better u v with
            | false => rfl
            | true => exact absurd q c
theorem best_foldl {α : Type} {f : α → Option Way} {S : α → Way → Prop} : ∀ (l : List α) (o : Option Way) (T : Way → Prop), Best T o → (∀ a ∈ l, Best (S a) (f a)) →
    Best (fun w => T w ∨ ∃ a ∈ l, S a w) ((l.map f).foldl pick o)
  | [], o, T, h, _ => h.congr fun _ => ⟨.inl, fun z => z.elim id fun ⟨_, q, _⟩ => by cases q⟩
  | a :: l, o, T, h, k => by
    have h1 := best_pick h (k a (List.mem_cons_self ..))
    have ih := best_foldl l (pick o (f a)) _ h1 fun b hb => k b (List.mem_cons_of_mem _ hb)
    refine Best.congr (fun w => ?_) ih
    constructor
    · rintro ((z | z) | ⟨b, hb, z⟩)
      · exact .inl z
      · exact .inr ⟨a, List.mem_cons_self .., z⟩
      · exact .inr ⟨b, List.mem_cons_of_mem _ hb, z⟩
    · rintro (z | ⟨b, hb, z⟩)
      · exact .inl (.inl z)
      · rcases (List.mem_cons.mp hb) with rfl | hb
        · exact .inl (.inr z)
        · exact .inr ⟨b, hb, z⟩
theorem best_joined {S T : Way → Prop} {o p : Option Way} (h : Best S o) (k : Best T p) : Best (fun w => ∃ a b, S a ∧ T b ∧ w = a ++ b) (joined o p) := by
  cases o with
  | none => exact best_no fun w ⟨a, _, z, _⟩ => h.none_of a z
  | some v =>
    cases p with
    | none => exact best_no fun w ⟨_, b, _, z, _⟩ => k.none_of b z
    | some u =>
      show Best _ (some (v ++ u))
      refine ⟨fun w e => ?_, fun w ⟨a, b, z1, z2, e⟩ => ⟨v ++ u, rfl, ?_⟩⟩
      · cases e
        exact ⟨v, u, h.some_of, k.some_of, rfl⟩
      · subst e
        exact Le.append (h.le z1) (k.le z2)
end WM
/-! The specification's tables hold just the best of the ways that Goes tells. -/
namespace WM
open Gq01

theorem mem_nodes {g : Graph} {x : Nat} : x ∈ nodes g ↔ 1 ≤ x ∧ x ≤ g.kinds.length := by
  unfold nodes
  rw [List.mem_map]
  constructor
  · rintro ⟨i, hi, rfl⟩
    have := List.mem_range.mp hi
    omega
  · intro h
    exact ⟨x - 1, List.mem_range.mpr (by omega), by omega⟩
theorem nodes_len (g : Graph) : (nodes g).length = g.kinds.length := by simp [nodes]
theorem nodes_get {g : Graph} {i : Nat} (h : i < g.kinds.length) : (nodes g)[i]? = some (i + 1) := by
  unfold nodes
  rw [List.getElem?_map, List.getElem?_range h]
  rfl
theorem getD_map {α β : Type} {l : List α} {f : α → β} {i : Nat} {d : β} {a : α} (h : l[i]? = some a) : (l.map f).getD i d = f a := by
  rw [List.getD_eq_getElem?_getD, List.getElem?_map, h]
  rfl
theorem get_table {g : Graph} {f : Nat → Nat → Option Way} {x y : Nat} (hx : x ∈ nodes g) (hy : y ∈ nodes g) : get (table g f) x y = f x y := by
  obtain ⟨hx1, hx2⟩ := mem_nodes.mp hx
  obtain ⟨hy1, hy2⟩ := mem_nodes.mp hy
  unfold Gq01.get table
  rw [getD_map (nodes_get (show x - 1 < _ by omega)), getD_map (nodes_get (show y - 1 < _ by omega))]
  congr 1 <;> omega

/-! ### goes one behind another -/
section
variable {N : Nat → Prop} {R : Nat → Way → Nat → Prop}
/-- so many goes -/
def GoN (N : Nat → Prop) (R : Nat → Way → Nat → Prop) : Nat → Nat → Way → Nat → Prop
  | 0, x, w, y => w = [] ∧ x = y ∧ N x
  | n + 1, x, w, z => ∃ v y u, GoN N R n x v y ∧ R y u z ∧ w = v ++ u
/-- the nodes that are come to, from the first go on -/
inductive Pa (N : Nat → Prop) (R : Nat → Way → Nat → Prop) : List Nat → Nat → Way → Nat → Prop where
  | nil (x : Nat) : N x → Pa N R [] x [] x
  | cons (x y z : Nat) (u w : Way) (l : List Nat) : R x u y → Pa N R l y w z → Pa N R (y :: l) x (u ++ w) z
theorem goN_cons {x y : Nat} {u : Way} (hx : N x) (h : R x u y) : ∀ {k : Nat} {w : Way} {z : Nat}, GoN N R k y w z → GoN N R (k + 1) x (u ++ w) z
  | 0, w, z, k => by
    obtain ⟨rfl, rfl, _⟩ := k
    exact ⟨[], x, u, ⟨rfl, rfl, hx⟩, h, by simp⟩
  | k + 1, w, z, q => by
    obtain ⟨v, m, t, q1, q2, rfl⟩ := q
    exact ⟨u ++ v, m, t, goN_cons hx h q1, q2, by rw [List.append_assoc]⟩
theorem pa_goN (hR : ∀ x u y, R x u y → N x) {l : List Nat} {x z : Nat} {w : Way} (h : Pa N R l x w z) : GoN N R l.length x w z := by
  induction h with
  | nil x hx => exact ⟨rfl, rfl, hx⟩
  | cons x y z u w l hr _ ih => exact goN_cons (hR _ _ _ hr) hr ih
theorem pa_snoc {l : List Nat} {x y z : Nat} {w u : Way} (hN : N z) (h : Pa N R l x w y) (k : R y u z) : Pa N R (l ++ [z]) x (w ++ u) z := by
  induction h with
  | nil x _ =>
    have e : ([] : Way) ++ u = u ++ [] := by simp
    rw [e]
    exact .cons x z z u [] [] k (.nil z hN)
  | cons x y' z' u' w' l hr _ ih =>
    rw [List.append_assoc]
    exact .cons x y' z u' (w' ++ u) (l ++ [z]) hr (ih k)
theorem goN_pa (hR : ∀ x u y, R x u y → N y) : ∀ {k : Nat} {x : Nat} {w : Way} {z : Nat}, GoN N R k x w z → ∃ l, l.length = k ∧ Pa N R l x w z
  | 0, x, w, z, h => by
    obtain ⟨rfl, rfl, hx⟩ := h
    exact ⟨[], rfl, .nil _ hx⟩
  | k + 1, x, w, z, h => by
    obtain ⟨v, y, u, h1, h2, rfl⟩ := h
    obtain ⟨l, hl, p⟩ := goN_pa hR h1
    exact ⟨l ++ [z], by simp [hl], pa_snoc (hR _ _ _ h2) p h2⟩
/-- from the last time that m is come to -/
theorem pa_last {m : Nat} {l : List Nat} {x z : Nat} {w : Way} (h : Pa N R l x w z) : m ∈ x :: l → ∃ l2 w2, Pa N R l2 m w2 z ∧ m ∉ l2 ∧ (∀ a ∈ l2, a ∈ l) ∧ Le w2 w := by
  induction h with
  | nil x hx =>
    intro hm
    have e : m = x := by simpa using hm
    subst e
    exact ⟨[], [], .nil _ hx, by simp, by simp, Le.refl _⟩
  | cons x y z u w l hr hp ih =>
    intro hm
    by_cases c : m ∈ y :: l
    · obtain ⟨l2, w2, p, nm, sb, le⟩ := ih c
      exact ⟨l2, w2, p, nm, fun a ha => List.mem_cons_of_mem _ (sb a ha), le.trans (Le.append (le_nil u) (Le.refl w))⟩
    · have e : m = x := by
        rcases (List.mem_cons.mp hm) with e | e
        · exact e
        · exact absurd e c
      subst e
      exact ⟨y :: l, u ++ w, .cons _ y z u w l hr hp, c, fun a ha => ha, Le.refl _⟩
theorem pa_short : ∀ (n : Nat) (S : List Nat), S.length ≤ n → ∀ {l : List Nat} {x z : Nat} {w : Way}, Pa N R l x w z → (∀ a ∈ x :: l, a ∈ S) →
    ∃ l2 w2, Pa N R l2 x w2 z ∧ l2.length + 1 ≤ S.length ∧ Le w2 w
  | 0, S, hn, l, x, z, w, _, hs => by
    have hx := hs x (List.mem_cons_self ..)
    have : S = [] := List.eq_nil_of_length_eq_zero (by omega)
    subst this
    cases hx
  | n + 1, S, hn, l, x, z, w, h, hs => by
    have hx : x ∈ S := hs x (List.mem_cons_self ..)
    obtain ⟨l2, w2, p, nm, sb, le⟩ := pa_last h (m := x) (List.mem_cons_self ..)
    cases p with
    | nil _ hx' => exact ⟨[], [], .nil _ hx', by have := List.length_pos_of_mem hx; simp only [List.length_nil]; omega, le⟩
    | cons _ y _ u w3 l3 hr hp =>
      have hlen : (S.erase x).length = S.length - 1 := List.length_erase_of_mem hx
      have hpos := List.length_pos_of_mem hx
      have hsub : ∀ a ∈ y :: l3, a ∈ S.erase x := fun a ha => by
        have ne : a ≠ x := fun e => nm (e ▸ ha)
        exact (List.mem_erase_of_ne ne).mpr (hs a (List.mem_cons_of_mem _ (sb a ha)))
      obtain ⟨l4, w4, p4, len4, le4⟩ := pa_short n (S.erase x) (by omega) hp hsub
      exact ⟨y :: l4, u ++ w4, .cons _ y _ u w4 l4 hr p4, by simp only [List.length_cons]; omega, (Le.append (Le.refl u) le4).trans le⟩
theorem pa_nodes (hR : ∀ x u y, R x u y → N x ∧ N y) {l : List Nat} {x z : Nat} {w : Way} (h : Pa N R l x w z) : ∀ a ∈ x :: l, N a := by
  induction h with
  | nil x hx =>
    intro a ha
    have e : a = x := by simpa using ha
    subst e
    exact hx
  | cons x y z u w l hr _ ih =>
    intro a ha
    rcases (List.mem_cons.mp ha) with rfl | ha
    · exact (hR _ _ _ hr).1
    · exact ih a ha
end

section
variable {g : Graph} {R : Nat → Way → Nat → Prop} {t : Table}
abbrev nd (g : Graph) : Nat → Prop := fun x => x ∈ nodes g
theorem best_here {x y : Nat} (hx : x ∈ nodes g) (hy : y ∈ nodes g) : Best (fun w => w = [] ∧ x = y) (get (here g) x y) := by
  unfold here
  rw [get_table hx hy]
  by_cases e : x = y
  · rw [if_pos e]
    exact (best_one []).congr fun w => ⟨fun z => ⟨z, e⟩, fun z => z.1⟩
  · rw [if_neg e]
    exact best_no fun w z => e z.2
theorem best_both {u : Table} {S T : Way → Prop} {x y : Nat} (hx : x ∈ nodes g) (hy : y ∈ nodes g) (h : Best S (get t x y)) (k : Best T (get u x y)) : Best (fun w => S w ∨ T w) (get (both g t u) x y) := by
  unfold both
  rw [get_table hx hy]
  exact best_pick h k
theorem best_times {u : Table} {S T : Nat → Nat → Way → Prop} {x y : Nat} (hx : x ∈ nodes g) (hy : y ∈ nodes g) (h : ∀ z ∈ nodes g, Best (S x z) (get t x z)) (k : ∀ z ∈ nodes g, Best (T z y) (get u z y)) :
    Best (fun w => ∃ z ∈ nodes g, ∃ a b, S x z a ∧ T z y b ∧ w = a ++ b) (get (times g t u) x y) := by
  unfold times
  rw [get_table hx hy]
  refine Best.congr (fun w => ?_) (best_foldl (S := fun z w => ∃ a b, S x z a ∧ T z y b ∧ w = a ++ b) (nodes g) none (fun _ => False) (best_no fun _ z => z) fun z hz => best_joined (h z hz) (k z hz))
  exact ⟨fun z => z.elim (fun q => q.elim) id, .inr⟩
theorem best_again (hR : ∀ x u y, R x u y → x ∈ nodes g ∧ y ∈ nodes g) (h : ∀ x ∈ nodes g, ∀ y ∈ nodes g, Best (fun w => R x w y) (get t x y)) :
    ∀ (n : Nat) {x y : Nat}, x ∈ nodes g → y ∈ nodes g → Best (fun w => ∃ k, k ≤ n ∧ GoN (nd g) R k x w y) (get (again g t n) x y)
  | 0, x, y, hx, hy => (best_here hx hy).congr fun w => ⟨fun z => ⟨0, Nat.le_refl _, z.1, z.2, hx⟩, fun ⟨k, hk, q⟩ => by
      have e : k = 0 := by omega
      subst e
      exact ⟨q.1, q.2.1⟩⟩
  | n + 1, x, y, hx, hy => by
    have ih := fun z hz => best_again hR h n hx (y := z) hz
    refine Best.congr (fun w => ?_) (best_both hx hy (best_here hx hy) (best_times (S := fun x z w => ∃ k, k ≤ n ∧ GoN (nd g) R k x w z) (T := fun z y w => R z w y) hx hy ih fun z hz => h z hz y hy))
    constructor
    · rintro (⟨rfl, rfl⟩ | ⟨z, hz, a, b, ⟨k, hk, q⟩, r, rfl⟩)
      · exact ⟨0, Nat.zero_le _, rfl, rfl, hx⟩
      · exact ⟨k + 1, by omega, a, z, b, q, r, rfl⟩
    · rintro ⟨k, hk, q⟩
      cases k with
      | zero => exact .inl ⟨q.1, q.2.1⟩
      | succ k =>
        obtain ⟨v, z, u, q1, q2, rfl⟩ := q
        exact .inr ⟨z, (hR _ _ _ q2).1, v, u, ⟨k, by omega, q1⟩, q2, rfl⟩
/-- any number of goes -/
theorem best_star (hR : ∀ x u y, R x u y → x ∈ nodes g ∧ y ∈ nodes g) (h : ∀ x ∈ nodes g, ∀ y ∈ nodes g, Best (fun w => R x w y) (get t x y)) {x y : Nat} (hx : x ∈ nodes g) (hy : y ∈ nodes g) :
    Best (fun w => ∃ k, GoN (nd g) R k x w y) (get (again g t g.kinds.length) x y) := by
  have b := best_again hR h g.kinds.length hx hy
  refine ⟨fun w e => ?_, fun w ⟨k, q⟩ => ?_⟩
  · obtain ⟨k, _, q⟩ := b.1 w e
    exact ⟨k, q⟩
  · obtain ⟨l, _, p⟩ := goN_pa (fun x u y r => (hR x u y r).2) q
    obtain ⟨l2, w2, p2, len2, le2⟩ := pa_short _ (nodes g) (Nat.le_refl _) p (pa_nodes hR p)
    rw [nodes_len] at len2
    obtain ⟨v, e, le⟩ := b.2 w2 ⟨l2.length, by omega, pa_goN (fun x u y r => (hR x u y r).1) p2⟩
    exact ⟨v, e, le.trans le2⟩
end

/-! ### the tables of the specification -/
/-- every edge's nodes are there -/
def Valid (g : Graph) : Prop := ∀ d ∈ g.edges, d.src ∈ nodes g ∧ d.dst ∈ nodes g
theorem goes_nodes {g : Graph} (v : Valid g) {e : E} {x y : Nat} {w : Way} (h : Goes g e x w y) : x ∈ nodes g ∧ y ∈ nodes g := by
  induction h with
  | stay x hx => exact ⟨hx, hx⟩
  | fwd a x y h => exact v _ h
  | back a x y h => exact ⟨(v _ h).2, (v _ h).1⟩
  | kind k x hx _ => exact ⟨hx, hx⟩
  | seq e f x y z v w _ _ i j => exact ⟨i.1, j.2⟩
  | left e f x y v _ i => exact i
  | right e f x y v _ i => exact i
  | none e x hx => exact ⟨hx, hx⟩
  | more e x y z v w _ _ i j => exact ⟨i.1, j.2⟩
  | has e x y v _ i => exact ⟨i.1, i.1⟩
theorem goes_star {g : Graph} {e : E} {x y : Nat} {w : Way} : Goes g (.star e) x w y ↔ ∃ k, GoN (nd g) (Goes g e) k x w y := by
  constructor
  · intro h
    generalize hs : E.star e = s at h
    induction h with
    | none e' x hx => exact ⟨0, rfl, rfl, hx⟩
    | more e' x y z v w _ h2 ih _ =>
      cases hs
      obtain ⟨k, q⟩ := ih rfl
      exact ⟨k + 1, v, y, w, q, h2, rfl⟩
    | _ => cases hs
  · rintro ⟨k, q⟩
    induction k generalizing w y with
    | zero =>
      obtain ⟨rfl, rfl, hx⟩ := q
      exact .none e _ hx
    | succ k ih =>
      obtain ⟨v, z, u, q1, q2, rfl⟩ := q
      exact .more e x z y v u (ih q1) q2
theorem best_goes {g : Graph} (v : Valid g) : ∀ (e : E) {x y : Nat}, x ∈ nodes g → y ∈ nodes g → Best (fun w => Goes g e x w y) (get (best g e) x y)
  | .stay, x, y, hx, hy => (best_here hx hy).congr fun w => ⟨fun ⟨a, b⟩ => by subst a b; exact .stay _ hx, fun h => by cases h; exact ⟨rfl, rfl⟩⟩
  | .fwd a, x, y, hx, hy => by
    show Best _ (get (table g fun x y => if g.edges.contains ⟨x, a, y⟩ = true then some [(2 * a, y)] else none) x y)
    rw [get_table hx hy]
    by_cases c : g.edges.contains ⟨x, a, y⟩ = true
    · rw [if_pos c]
      have m : (⟨x, a, y⟩ : Edge) ∈ g.edges := List.contains_iff_mem.mp c
      exact (best_one _).congr fun w => ⟨fun z => by subst z; exact .fwd a x y m, fun h => by cases h; rfl⟩
    · rw [if_neg c]
      exact best_no fun w h => by
        cases h with
        | fwd _ _ _ m => exact c (List.contains_iff_mem.mpr m)
  | .back a, x, y, hx, hy => by
    show Best _ (get (table g fun x y => if g.edges.contains ⟨y, a, x⟩ = true then some [(2 * a + 1, y)] else none) x y)
    rw [get_table hx hy]
    by_cases c : g.edges.contains ⟨y, a, x⟩ = true
    · rw [if_pos c]
      have m : (⟨y, a, x⟩ : Edge) ∈ g.edges := List.contains_iff_mem.mp c
      exact (best_one _).congr fun w => ⟨fun z => by subst z; exact .back a x y m, fun h => by cases h; rfl⟩
    · rw [if_neg c]
      exact best_no fun w h => by
        cases h with
        | back _ _ _ m => exact c (List.contains_iff_mem.mpr m)
  | .kind k, x, y, hx, hy => by
    show Best _ (get (table g fun x y => if x = y ∧ hasKind g x k = true then some [] else none) x y)
    rw [get_table hx hy]
    by_cases c : x = y ∧ hasKind g x k = true
    · rw [if_pos c]
      obtain ⟨rfl, c⟩ := c
      exact (best_one _).congr fun w => ⟨fun z => by subst z; exact .kind k x hx c, fun h => by cases h; rfl⟩
    · rw [if_neg c]
      exact best_no fun w h => by
        cases h with
        | kind _ _ _ m => exact c ⟨rfl, m⟩
  | .seq e f, x, y, hx, hy =>
    Best.congr (fun w => ⟨fun ⟨z, _, a, b, h1, h2, q⟩ => by subst q; exact .seq e f x z y a b h1 h2, fun h => by
      cases h with
      | seq _ _ _ z _ a b h1 h2 => exact ⟨z, (goes_nodes v h1).2, a, b, h1, h2, rfl⟩⟩)
      (best_times (S := fun x z w => Goes g e x w z) (T := fun z y w => Goes g f z w y) hx hy (fun z hz => best_goes v e hx hz) fun z hz => best_goes v f hz hy)
  | .alt e f, x, y, hx, hy =>
    Best.congr (fun w => ⟨fun z => z.elim (fun h => .left e f x y w h) fun h => .right e f x y w h, fun h => by
      cases h with
      | left _ _ _ _ _ h => exact .inl h
      | right _ _ _ _ _ h => exact .inr h⟩)
      (best_both hx hy (best_goes v e hx hy) (best_goes v f hx hy))
  | .star e, x, y, hx, hy =>
    Best.congr (fun w => goes_star.symm) (best_star (fun x u y r => goes_nodes v r) (fun x hx y hy => best_goes v e hx hy) hx hy)
  | .has e, x, y, hx, hy => by
    show Best _ (get (table g fun x y => if x = y ∧ ((nodes g).any fun z => (get (best g e) x z).isSome) = true then some [] else none) x y)
    rw [get_table hx hy]
    have key : ((nodes g).any fun z => (get (best g e) x z).isSome) = true ↔ ∃ z u, Goes g e x u z := by
      rw [List.any_eq_true]
      constructor
      · rintro ⟨z, hz, q⟩
        obtain ⟨u, r⟩ := (best_goes v e hx hz).isSome.mp q
        exact ⟨z, u, r⟩
      · rintro ⟨z, u, r⟩
        have hz := (goes_nodes v r).2
        exact ⟨z, hz, (best_goes v e hx hz).isSome.mpr ⟨u, r⟩⟩
    by_cases c : x = y ∧ ((nodes g).any fun z => (get (best g e) x z).isSome) = true
    · rw [if_pos c]
      obtain ⟨rfl, c⟩ := c
      obtain ⟨z, u, r⟩ := key.mp c
      exact (best_one _).congr fun w => ⟨fun q => by subst q; exact .has e x z u r, fun h => by cases h; rfl⟩
    · rw [if_neg c]
      exact best_no fun w h => by
        cases h with
        | has _ _ z u r => exact c ⟨rfl, key.mpr ⟨z, u, r⟩⟩
end WM
/-! The tables that the program makes, as functions: each is the specification's. -/
namespace WM
open Gq01

abbrev T2 := Nat → Nat → Option Way
def tStay : T2 := fun x y => if x = y then some [] else none
def tFwd (es : List Edge) (a : Nat) : T2 := fun x y => if es.contains ⟨x, a, y⟩ = true then some [(2 * a, y)] else none
def tBack (es : List Edge) (a : Nat) : T2 := fun x y => if es.contains ⟨y, a, x⟩ = true then some [(2 * a + 1, y)] else none
def tKind (ks : List (List Nat)) (k : Nat) : T2 := fun x y => if x = y ∧ (ks.getD (x - 1) []).contains k = true then some [] else none
def tSq (n : Nat) (t u : T2) : T2 := fun x y => ((List.range n).map fun z => joined (t x (z + 1)) (u (z + 1) y)).foldl pick none
def tAlt (t u : T2) : T2 := fun x y => pick (t x y) (u x y)
def tJoin (m : Nat) (t : T2) : T2 := fun x y => pick (t x y) (joined (t x m) (t m y))
def tUp (t : T2) : Nat → T2
  | 0 => tAlt tStay t
  | k + 1 => tJoin (k + 1) (tUp t k)
def tHas (n : Nat) (t : T2) : T2 := fun x y => if x = y ∧ ((List.range n).any fun z => (t x (z + 1)).isSome) = true then some [] else none
def tOf (g : Graph) : E → T2
  | .stay => tStay
  | .fwd a => tFwd g.edges a
  | .back a => tBack g.edges a
  | .kind k => tKind g.kinds k
  | .seq e f => tSq g.kinds.length (tOf g e) (tOf g f)
  | .alt e f => tAlt (tOf g e) (tOf g f)
  | .star e => tUp (tOf g e) g.kinds.length
  | .has e => tHas g.kinds.length (tOf g e)

/-! ### again and again, each node the middle once -/
theorem pick_left {v : Way} {o : Option Way} : ∃ u, pick (some v) o = some u ∧ Le u v := by
  cases o with
  | none => exact ⟨v, rfl, Le.refl v⟩
  | some w =>
    show ∃ u, (if better w v = true then some w else some v) = some u ∧ Le u v
    by_cases c : better w v = true
    · rw [if_pos c]
      exact ⟨w, rfl, .inr c⟩
    · rw [if_neg c]
      exact ⟨v, rfl, Le.refl v⟩
theorem pick_right {w : Way} {o : Option Way} : ∃ u, pick o (some w) = some u ∧ Le u w := by
  cases o with
  | none => exact ⟨w, rfl, Le.refl w⟩
  | some v =>
    show ∃ u, (if better w v = true then some w else some v) = some u ∧ Le u w
    by_cases c : better w v = true
    · rw [if_pos c]
      exact ⟨w, rfl, Le.refl w⟩
    · rw [if_neg c]
      refine ⟨v, rfl, le_iff.mpr ?_⟩
      cases q : better w v with
      | false => rfl
      | true => exact absurd q c
theorem pick_some {o p : Option Way} {w : Way} (h : pick o p = some w) : o = some w ∨ p = some w := by
  cases o with
  | none => exact .inr h
  | some v =>
    cases p with
    | none => exact .inl h
    | some u =>
      have h : (if better u v = true then some u else some v) = some w := h
      by_cases c : better u v = true
      · rw [if_pos c] at h
        exact .inr h
      · rw [if_neg c] at h
        exact .inl h
theorem joined_some {o p : Option Way} {w : Way} (h : joined o p = some w) : ∃ a b, o = some a ∧ p = some b ∧ w = a ++ b := by
  cases o with
  | none => cases h
  | some a =>
    cases p with
    | none => cases h
    | some b =>
      have h : some (a ++ b) = some w := h
      exact ⟨a, b, rfl, rfl, (Option.some.inj h).symm⟩
section
variable {N : Nat → Prop} {R : Nat → Way → Nat → Prop}
theorem pa_app {l1 l2 : List Nat} {x y z : Nat} {w1 w2 : Way} (h : Pa N R l1 x w1 y) (k : Pa N R l2 y w2 z) : Pa N R (l1 ++ l2) x (w1 ++ w2) z := by
  induction h with
  | nil x _ => exact k
  | cons x y' z' u w l hr _ ih =>
    rw [List.append_assoc]
    exact .cons x y' z u (w ++ w2) (l ++ l2) hr (ih k)
theorem pa_first {m : Nat} {l : List Nat} {x z : Nat} {w : Way} (hN : ∀ a ∈ l, N a) (h : Pa N R l x w z) : m ∈ l → ∃ l1 l2 w1 w2, l = l1 ++ l2 ∧ l1 ≠ [] ∧ Pa N R l1 x w1 m ∧ Pa N R l2 m w2 z ∧ m ∉ l1.dropLast ∧ w = w1 ++ w2 := by
  induction h with
  | nil x _ => intro hm; cases hm
  | cons x y z u w l hr hp ih =>
    intro hm
    by_cases c : m = y
    · subst c
      refine ⟨[m], l, u ++ [], w, rfl, by simp, .cons x m m u [] [] hr (.nil m (hN m (List.mem_cons_self ..))), hp, by simp, by simp⟩
    · have hm' : m ∈ l := (List.mem_cons.mp hm).elim (fun e => absurd e c) id
      obtain ⟨l1, l2, w1, w2, e1, ne, p1, p2, nm, e2⟩ := ih (fun a ha => hN a (List.mem_cons_of_mem _ ha)) hm'
      refine ⟨y :: l1, l2, u ++ w1, w2, by rw [e1]; rfl, by simp, .cons x y m u w1 l1 hr p1, p2, ?_, by rw [e2, List.append_assoc]⟩
      rw [List.dropLast_cons_of_ne_nil ne]
      intro q
      rcases List.mem_cons.mp q with q | q
      · exact c q
      · exact nm q
theorem pa_tail {m : Nat} {l : List Nat} {x z : Nat} {w : Way} (h : Pa N R l x w z) : m ∈ x :: l → ∃ l' l2 w2, l = l' ++ l2 ∧ Pa N R l2 m w2 z ∧ m ∉ l2 ∧ Le w2 w := by
  induction h with
  | nil x hx =>
    intro hm
    have e : m = x := by simpa using hm
    subst e
    exact ⟨[], [], [], rfl, .nil _ hx, by simp, Le.refl _⟩
  | cons x y z u w l hr hp ih =>
    intro hm
    by_cases c : m ∈ y :: l
    · obtain ⟨l', l2, w2, e, p, nm, le⟩ := ih c
      exact ⟨y :: l', l2, w2, by rw [e]; rfl, p, nm, le.trans (Le.append (le_nil u) (Le.refl w))⟩
    · have e : m = x := (List.mem_cons.mp hm).elim id fun q => absurd q c
      subst e
      exact ⟨[], y :: l, u ++ w, rfl, .cons _ y z u w l hr hp, c, Le.refl _⟩
theorem dl_left {a : Nat} {l p : List Nat} (h : a ∈ l.dropLast) : a ∈ (l ++ p).dropLast := by
  cases p with
  | nil => rw [List.append_nil]; exact h
  | cons b p =>
    rw [List.dropLast_append_of_ne_nil (by simp)]
    exact List.mem_append_left _ (List.dropLast_subset _ h)
theorem dl_right {a : Nat} {l p : List Nat} (h : a ∈ l.dropLast) : a ∈ (p ++ l).dropLast := by
  have ne : l ≠ [] := fun e => by rw [e] at h; cases h
  rw [List.dropLast_append_of_ne_nil ne]
  exact List.mem_append_right _ h
theorem up_ok {n : Nat} {t : T2} (hN : ∀ x, N x ↔ 1 ≤ x ∧ x ≤ n) (hR : ∀ x u y, R x u y → N x ∧ N y) (h : ∀ x y, N x → N y → Best (fun w => R x w y) (t x y)) : ∀ (k : Nat), k ≤ n → ∀ x y, N x → N y →
    (∀ w, tUp t k x y = some w → ∃ l, Pa N R l x w y) ∧ ∀ l w, Pa N R l x w y → (∀ a ∈ l.dropLast, a ≤ k) → ∃ v, tUp t k x y = some v ∧ Le v w
  | 0, _, x, y, hx, hy => by
    refine ⟨fun w e => ?_, fun l w p hl => ?_⟩
    · rcases pick_some e with q | q
      · have q : (if x = y then some ([] : Way) else none) = some w := q
        by_cases c : x = y
        · rw [if_pos c] at q
          cases q
          subst c
          exact ⟨[], .nil x hx⟩
        · rw [if_neg c] at q
          cases q
      · have r : R x w y := (h x y hx hy).1 w q
        have e : w = w ++ [] := by simp
        rw [e]
        exact ⟨[y], .cons x y y w [] [] r (.nil y hy)⟩
    · cases p with
      | nil _ _ =>
        have e : tStay x x = some [] := if_pos rfl
        show ∃ v, pick (tStay x x) (t x x) = some v ∧ Le v []
        rw [e]
        exact pick_left
      | cons _ y' _ u w l hr hp =>
        cases hp with
        | nil _ _ =>
          obtain ⟨v, ev, lv⟩ := (h x y hx hy).2 u hr
          obtain ⟨v', e', l'⟩ := pick_right (w := v) (o := tStay x y)
          refine ⟨v', ?_, ?_⟩
          · show pick (tStay x y) (t x y) = some v'
            rw [ev]
            exact e'
          · rw [List.append_nil]
            exact l'.trans lv
        | cons _ y'' _ u' w' l' hr' hp' =>
          have := hl y' (by simp)
          have := ((hN y').mp (hR _ _ _ hr).2).1
          omega
  | k + 1, hk, x, y, hx, hy => by
    have hm : N (k + 1) := (hN _).mpr ⟨by omega, hk⟩
    have ih := up_ok hN hR h k (by omega)
    refine ⟨fun w e => ?_, fun l w p hl => ?_⟩
    · rcases pick_some e with q | q
      · exact (ih x y hx hy).1 w q
      · obtain ⟨a, b, e1, e2, rfl⟩ := joined_some q
        obtain ⟨l1, p1⟩ := (ih x (k + 1) hx hm).1 a e1
        obtain ⟨l2, p2⟩ := (ih (k + 1) y hm hy).1 b e2
        exact ⟨_, pa_app p1 p2⟩
    · by_cases c : k + 1 ∈ l.dropLast
      · have hNl : ∀ a ∈ l, N a := fun a ha => pa_nodes hR p a (List.mem_cons_of_mem _ ha)
        obtain ⟨l1, la, w1, wa, e1, ne, p1, pa, nm1, ew⟩ := pa_first hNl p (List.dropLast_subset _ c)
        obtain ⟨l', l2, w2, e2, p2, nm2, le2⟩ := pa_tail pa (m := k + 1) (List.mem_cons_self ..)
        obtain ⟨v1, ev1, lv1⟩ := (ih x (k + 1) hx hm).2 l1 w1 p1 fun a ha => by
          have h1 := hl a (by rw [e1]; exact dl_left ha)
          have h2 : a ≠ k + 1 := fun z => nm1 (z ▸ ha)
          omega
        obtain ⟨v2, ev2, lv2⟩ := (ih (k + 1) y hm hy).2 l2 w2 p2 fun a ha => by
          have h1 := hl a (by rw [e1, e2]; exact dl_right (dl_right ha))
          have h2 : a ≠ k + 1 := fun z => nm2 (z ▸ List.dropLast_subset _ ha)
          omega
        obtain ⟨v, e', l''⟩ := pick_right (w := v1 ++ v2) (o := tUp t k x y)
        refine ⟨v, ?_, ?_⟩
        · show pick (tUp t k x y) (joined (tUp t k x (k + 1)) (tUp t k (k + 1) y)) = some v
          rw [ev1, ev2]
          exact e'
        · rw [ew]
          exact l''.trans (Le.append lv1 (lv2.trans le2))
      · obtain ⟨v, ev, lv⟩ := (ih x y hx hy).2 l w p fun a ha => by
          have h1 := hl a ha
          have h2 : a ≠ k + 1 := fun z => c (z ▸ ha)
          omega
        obtain ⟨v', e', l'⟩ := pick_left (v := v) (o := joined (tUp t k x (k + 1)) (tUp t k (k + 1) y))
        refine ⟨v', ?_, l'.trans lv⟩
        show pick (tUp t k x y) _ = some v'
        rw [ev]
        exact e'
end
theorem up_best {g : Graph} {R : Nat → Way → Nat → Prop} {t : T2} (hR : ∀ x u y, R x u y → x ∈ nodes g ∧ y ∈ nodes g) (h : ∀ x ∈ nodes g, ∀ y ∈ nodes g, Best (fun w => R x w y) (t x y)) {x y : Nat} (hx : x ∈ nodes g) (hy : y ∈ nodes g) :
    Best (fun w => ∃ k, GoN (nd g) R k x w y) (tUp t g.kinds.length x y) := by
  obtain ⟨h1, h2⟩ := up_ok (N := nd g) (R := R) (n := g.kinds.length) (fun x => mem_nodes) hR (fun x y hx hy => h x hx y hy) g.kinds.length (Nat.le_refl _) x y hx hy
  refine ⟨fun w e => ?_, fun w ⟨k, q⟩ => ?_⟩
  · obtain ⟨l, p⟩ := h1 w e
    exact ⟨_, pa_goN (fun x u y r => (hR x u y r).1) p⟩
  · obtain ⟨l, _, p⟩ := goN_pa (fun x u y r => (hR x u y r).2) q
    exact h2 l w p fun a ha => (mem_nodes.mp (pa_nodes hR p a (List.mem_cons_of_mem _ (List.dropLast_subset _ ha)))).2

/-! ### the same tables -/
theorem nodes_map {α : Type} (g : Graph) (f : Nat → α) : (nodes g).map f = (List.range g.kinds.length).map fun z => f (z + 1) := by
  unfold nodes
  rw [List.map_map]
  rfl
theorem mem_range_nodes {g : Graph} {z : Nat} (h : z ∈ List.range g.kinds.length) : z + 1 ∈ nodes g := mem_nodes.mpr ⟨by omega, List.mem_range.mp h⟩
theorem tOf_eq {g : Graph} (v : Valid g) : ∀ (e : E) {x y : Nat}, x ∈ nodes g → y ∈ nodes g → tOf g e x y = get (best g e) x y
  | .stay, x, y, hx, hy => (get_table (f := fun x y => if x = y then some [] else none) hx hy).symm
  | .fwd a, x, y, hx, hy => (get_table (f := fun x y => if g.edges.contains ⟨x, a, y⟩ = true then some [(2 * a, y)] else none) hx hy).symm
  | .back a, x, y, hx, hy => (get_table (f := fun x y => if g.edges.contains ⟨y, a, x⟩ = true then some [(2 * a + 1, y)] else none) hx hy).symm
  | .kind k, x, y, hx, hy => (get_table (f := fun x y => if x = y ∧ hasKind g x k = true then some [] else none) hx hy).symm
  | .seq e f, x, y, hx, hy => by
    show ((List.range g.kinds.length).map fun z => joined (tOf g e x (z + 1)) (tOf g f (z + 1) y)).foldl pick none = get (times g (best g e) (best g f)) x y
    unfold times
    rw [get_table hx hy, nodes_map]
    congr 1
    refine List.map_congr_left fun z hz => ?_
    have hz' := mem_range_nodes hz
    rw [tOf_eq v e hx hz', tOf_eq v f hz' hy]
  | .alt e f, x, y, hx, hy => by
    show pick (tOf g e x y) (tOf g f x y) = get (both g (best g e) (best g f)) x y
    unfold both
    rw [get_table hx hy, tOf_eq v e hx hy, tOf_eq v f hx hy]
  | .star e, x, y, hx, hy => by
    have b1 := up_best (R := Goes g e) (t := tOf g e) (fun x u y r => goes_nodes v r) (fun x hx y hy => by rw [tOf_eq v e hx hy]; exact best_goes v e hx hy) hx hy
    exact b1.unique (best_star (fun x u y r => goes_nodes v r) (fun x hx y hy => best_goes v e hx hy) hx hy)
  | .has e, x, y, hx, hy => by
    show (if x = y ∧ ((List.range g.kinds.length).any fun z => (tOf g e x (z + 1)).isSome) = true then some ([] : Way) else none) = get (table g fun x y => if x = y ∧ ((nodes g).any fun z => (get (best g e) x z).isSome) = true then some [] else none) x y
    rw [get_table hx hy]
    have e1 : ((List.range g.kinds.length).any fun z => (tOf g e x (z + 1)).isSome) = ((nodes g).any fun z => (get (best g e) x z).isSome) := by
      unfold nodes
      rw [List.any_map, Bool.eq_iff_iff, List.any_eq_true, List.any_eq_true]
      constructor
      · rintro ⟨z, hz, q⟩
        refine ⟨z, hz, ?_⟩
        rw [tOf_eq v e hx (mem_range_nodes hz)] at q
        exact q
      · rintro ⟨z, hz, q⟩
        refine ⟨z, hz, ?_⟩
        rw [tOf_eq v e hx (mem_range_nodes hz)]
        exact q
    rw [e1]

/-! ### where they lead -/
abbrev B2 := Nat → Nat → Bool
def rStay : B2 := fun x y => decide (x = y)
def rSteps (ps : List (Nat × Nat)) : B2 := fun x y => ps.contains (x, y)
def rKind (ks : List (List Nat)) (k : Nat) : B2 := fun x y => decide (x = y) && (ks.getD (x - 1) []).contains k
def rSq (n : Nat) (f h : B2) : B2 := fun x y => (List.range n).any fun z => f x (z + 1) && h (z + 1) y
def rAlt (f h : B2) : B2 := fun x y => f x y || h x y
def rJoin (m : Nat) (f : B2) : B2 := fun x y => f x y || (f x m && f m y)
def rUp (f : B2) : Nat → B2
  | 0 => rAlt rStay f
  | k + 1 => rJoin (k + 1) (rUp f k)
def rHas (n : Nat) (f : B2) : B2 := fun x y => decide (x = y) && (List.range n).any fun z => f x (z + 1)
def pairsF (es : List Edge) (a : Nat) : List (Nat × Nat) := (es.filter fun e => e.label == a).map fun e => (e.src, e.dst)
def pairsB (es : List Edge) (a : Nat) : List (Nat × Nat) := (es.filter fun e => e.label == a).map fun e => (e.dst, e.src)
def rOf (g : Graph) : E → B2
  | .stay => rStay
  | .fwd a => rSteps (pairsF g.edges a)
  | .back a => rSteps (pairsB g.edges a)
  | .kind k => rKind g.kinds k
  | .seq e f => rSq g.kinds.length (rOf g e) (rOf g f)
  | .alt e f => rAlt (rOf g e) (rOf g f)
  | .star e => rUp (rOf g e) g.kinds.length
  | .has e => rHas g.kinds.length (rOf g e)
theorem isSome_ite {c : Prop} [Decidable c] {α : Type} {a : α} : (if c then some a else none).isSome = decide c := by
  by_cases h : c
  · rw [if_pos h, decide_eq_true h]; rfl
  · rw [if_neg h, decide_eq_false h]; rfl
theorem isSome_pick (o p : Option Way) : (pick o p).isSome = (o.isSome || p.isSome) := by
  cases o with
  | none => cases p <;> rfl
  | some v =>
    cases p with
    | none => rfl
    | some w =>
      show (if better w v = true then some w else some v).isSome = true
      split <;> rfl
theorem isSome_joined (o p : Option Way) : (joined o p).isSome = (o.isSome && p.isSome) := by
  cases o <;> cases p <;> rfl
theorem isSome_fold (l : List (Option Way)) : ∀ o : Option Way, (l.foldl pick o).isSome = (o.isSome || l.any Option.isSome) := by
  induction l with
  | nil => intro o; simp
  | cons p l ih =>
    intro o
    rw [List.foldl_cons, ih, isSome_pick, List.any_cons, Bool.or_assoc]
theorem mem_pairsF {es : List Edge} {a x y : Nat} : (x, y) ∈ pairsF es a ↔ (⟨x, a, y⟩ : Edge) ∈ es := by
  unfold pairsF
  rw [List.mem_map]
  constructor
  · rintro ⟨e, he, q⟩
    obtain ⟨h1, h2⟩ := List.mem_filter.mp he
    have h3 : e.label = a := by simpa using h2
    obtain ⟨s, l, d⟩ := e
    cases q
    subst h3
    exact h1
  · intro h
    exact ⟨_, List.mem_filter.mpr ⟨h, by simp⟩, rfl⟩
theorem mem_pairsB {es : List Edge} {a x y : Nat} : (x, y) ∈ pairsB es a ↔ (⟨y, a, x⟩ : Edge) ∈ es := by
  unfold pairsB
  rw [List.mem_map]
  constructor
  · rintro ⟨e, he, q⟩
    obtain ⟨h1, h2⟩ := List.mem_filter.mp he
    have h3 : e.label = a := by simpa using h2
    obtain ⟨s, l, d⟩ := e
    cases q
    subst h3
    exact h1
  · intro h
    exact ⟨_, List.mem_filter.mpr ⟨h, by simp⟩, rfl⟩
theorem contains_iff {α : Type} [BEq α] [LawfulBEq α] {β : Type} [BEq β] [LawfulBEq β] {l : List α} {m : List β} {a : α} {b : β} (h : a ∈ l ↔ b ∈ m) : l.contains a = m.contains b := by
  rw [Bool.eq_iff_iff, List.contains_iff_mem, List.contains_iff_mem]
  exact h
theorem rUp_eq {f : B2} {t : T2} (h : ∀ x y, f x y = (t x y).isSome) : ∀ (k : Nat) (x y : Nat), rUp f k x y = (tUp t k x y).isSome
  | 0, x, y => by
    show (decide (x = y) || f x y) = (pick (tStay x y) (t x y)).isSome
    rw [isSome_pick, h]
    congr 1
    exact isSome_ite.symm
  | k + 1, x, y => by
    show (rUp f k x y || (rUp f k x (k + 1) && rUp f k (k + 1) y)) = (pick (tUp t k x y) (joined (tUp t k x (k + 1)) (tUp t k (k + 1) y))).isSome
    rw [isSome_pick, isSome_joined, rUp_eq h k, rUp_eq h k, rUp_eq h k]
theorem rOf_eq (g : Graph) : ∀ (e : E) (x y : Nat), rOf g e x y = (tOf g e x y).isSome
  | .stay, x, y => isSome_ite.symm
  | .fwd a, x, y => by
    show (pairsF g.edges a).contains (x, y) = (if g.edges.contains ⟨x, a, y⟩ = true then some [(2 * a, y)] else none).isSome
    rw [isSome_ite, contains_iff mem_pairsF]
    simp
  | .back a, x, y => by
    show (pairsB g.edges a).contains (x, y) = (if g.edges.contains ⟨y, a, x⟩ = true then some [(2 * a + 1, y)] else none).isSome
    rw [isSome_ite, contains_iff mem_pairsB]
    simp
  | .kind k, x, y => by
    show (decide (x = y) && (g.kinds.getD (x - 1) []).contains k) = (if x = y ∧ (g.kinds.getD (x - 1) []).contains k = true then some ([] : Way) else none).isSome
    rw [isSome_ite, Bool.decide_and, Bool.decide_eq_true]
  | .seq e f, x, y => by
    show ((List.range g.kinds.length).any fun z => rOf g e x (z + 1) && rOf g f (z + 1) y) = (((List.range g.kinds.length).map fun z => joined (tOf g e x (z + 1)) (tOf g f (z + 1) y)).foldl pick none).isSome
    rw [isSome_fold, List.any_map]
    show _ = (false || _)
    rw [Bool.false_or]
    congr 1
    funext z
    show _ = (joined _ _).isSome
    rw [isSome_joined, rOf_eq g e, rOf_eq g f]
  | .alt e f, x, y => by
    show (rOf g e x y || rOf g f x y) = (pick (tOf g e x y) (tOf g f x y)).isSome
    rw [isSome_pick, rOf_eq g e, rOf_eq g f]
  | .star e, x, y => rUp_eq (rOf_eq g e) _ x y
  | .has e, x, y => by
    show (decide (x = y) && (List.range g.kinds.length).any fun z => rOf g e x (z + 1)) = (if x = y ∧ ((List.range g.kinds.length).any fun z => (tOf g e x (z + 1)).isSome) = true then some ([] : Way) else none).isSome
    rw [isSome_ite, Bool.decide_and, Bool.decide_eq_true]
    congr 2
    funext z
    exact rOf_eq g e x (z + 1)
theorem rOf_best {g : Graph} (v : Valid g) (e : E) {x y : Nat} (hx : x ∈ nodes g) (hy : y ∈ nodes g) : rOf g e x y = (get (best g e) x y).isSome := by
  rw [rOf_eq, tOf_eq v e hx hy]
end WM
namespace WG
open PySem PySem.Spec
open PyProof.Rows
open L2 hiding CX0 E0 pass0 Fun
open C8 Evl
end WG
/-! Two rules that the hand layer lacks: enumerate(xs, start=k), and xs.remove(t) where the items are data. -/
namespace WG
open PySem PySem.Spec
open PyProof.Rows
open L2 hiding CX0 E0 pass0 Fun

/-! ### enumerate(xs, start=k) -/
def IteS (K : PySem.W.Frag) (a : Addr) (k : Int) : It :=
  ⟨fun i H => ∃ (xs : List V) (x : V), SqL K H a xs ∧ xs[i]? = some x, fun i H v H' => ∃ T x, v = .ref T ∧ H T = none ∧ H' = upd H T (.tup [.int (k + (i : Nat)), x]) ∧ ∀ xs, SqL K H a xs → xs[i]? = some x, fun i H => ∃ xs : List V, SqL K H a xs ∧ xs.length = i⟩
theorem list_ne_iter {h : Heap} {l it : Addr} {items : Array Value} {i : Nat} (a : h.IsList l items) (b : h.IsListIter it l i) : l ≠ it := by
  intro e
  subst e
  obtain ⟨o, ho, hc, _⟩ := a
  obtain ⟨o', ho', hc', _⟩ := b
  rw [ho] at ho'
  cases ho'
  rw [hc] at hc'
  exact absurd (Value.type.inj hc') (by decide)
theorem list_ne_enum {h : Heap} {l e it : Addr} {items : Array Value} {i : Int} {old : Value} (a : h.IsList l items) (b : IsEnum h e it i old) : e ≠ l := by
  intro z
  subst z
  obtain ⟨o, ho, hc, _⟩ := a
  have q : h.get? e = some _ := b
  rw [ho] at q
  cases q
  exact absurd (Value.type.inj hc) (by decide)
theorem turn_enumS {P : Program} {w : World} {K : PySem.W.Frag} {elts : List Expr} {kk : Nat} {tpos : Pos} (a e it : Addr) (k : Int) :
    Turn P w K (.Tuple elts kk tpos) (IteS K a k) [e, it] e (fun i h => (∃ old, IsEnum h e it (k + ((i : Nat) : Int)) old) ∧ h.IsListIter it a i ∧ e ≠ it) where
  mem := by simp
  obj := fun i h stt b hb => by
    obtain ⟨⟨old, hEn⟩, ⟨o, ho, hc, hd⟩, _⟩ := stt
    have eor : b = e ∨ b = it := by simpa using hb
    rcases eor with z | z
    · rw [z]; exact ⟨_, hEn, fun v q => nomatch q⟩
    · rw [z]; exact ⟨o, ho, fun v q2 => by rw [hd] at q2; cases q2⟩
  keep := fun i h h' stt k => let ⟨⟨old, hEn⟩, hi, dif⟩ := stt; ⟨⟨old, k e (by simp) _ hEn⟩, hi.at fun o q => k it (by simp) o q, dif⟩
  item := by
    intro X hP hw hK hc i pn s σ H E Iv fpk stt hgo
    subst hP hw hK
    obtain ⟨⟨old, hEn⟩, hIt, dif⟩ := stt
    obtain ⟨xs, x, hsq, hxAt⟩ := hgo
    obtain ⟨jts, rvs, p, hz⟩ := Iv.list hsq
    obtain ⟨u, huAt, rel⟩ := rvs.get hxAt
    have ltE : e < s.heap.objs.size := Heap.lt_size hEn
    have ltI : it < s.heap.objs.size := by obtain ⟨_, q, _⟩ := hIt; exact Heap.lt_size q
    have hla : a ≠ it := list_ne_iter p.isList hIt
    have hea : e ≠ a := list_ne_enum p.isList hEn
    have iLt : i < jts.toArray.size := by
      have := (List.getElem?_eq_some_iff.mp huAt).1
      simpa using this
    refine wpAny_pyNext_enum_itemC (Draws.list (A := X.A.in1) (Iv.ok.hd hc) it a hla jts.toArray) hEn ⟨hIt, p.isList⟩ iLt dif (by simp [dif, hea]) fun x' h' tk hP ho hst' hT hsz hk => ?_
    have ex : x' = u := by
      have q : jts.toArray[i]? = some x' := hP
      have q2 : jts.toArray[i]? = some u := by simpa using huAt
      rw [q2] at q
      exact Option.some.inj q.symm
    subst ex
    obtain ⟨hIt1, _⟩ := hst'
    refine ⟨_, rfl, wpAny_letOwnedTupleGo_enum (s := { s with heap := h', toks := tk + 1 }) ho fun h'' hEn1 sbs => ?_⟩
    have hT2 : h''.get? s.heap.objs.size = some { cls := .type "tuple", data := .seq #[.int (k + (i : Int)) tk, x'] } := (sbs.2 _ (Nat.ne_of_gt ltE)).trans hT
    have new : ObjOk X.prog X.w (upd H s.heap.objs.size (.tup [.int (k + (i : Nat)), x])) h'' s.heap.objs.size (.tup [.int (k + (i : Nat)), x]) :=
      ⟨by show 2 ≤ sizeLine; decide, [.int (k + (i : Int)) tk, x'], .cons ⟨_, rfl⟩ (.cons rel .nil), ⟨_, hT2, rfl, _, rfl⟩⟩
    have I1 : Inv X pn σ (upd H s.heap.objs.size (.tup [.int (k + (i : Nat)), x])) { s with heap := h'', toks := tk + 1 } :=
      Iv.turnedNew (ch := [e, it]) (fun b ob hb q => (sbs.2 b (fun z => hb (by simp [z]))).trans (hk b ob (fun z => hb (by simp [z])) (fun z => hb (by simp [z])) q)) fpk (Nat.le_refl _) new
    refine ⟨.ref s.heap.objs.size, _, I1, rfl, ⟨_, x, rfl, Iv.hok.fresh (Nat.le_refl _), rfl, fun ys hy => by rw [Iv.list_inj hy hsq]; exact hxAt⟩, ⟨⟨x', ?_⟩, hIt1.at fun o q => (sbs.2 it (Ne.symm dif)).trans q, dif⟩, fun b hb => ?_⟩
    · have e1 : k + ((i + 1 : Nat) : Int) = k + (i : Int) + 1 := by omega
      rw [e1]; exact hEn1
    · have hbs : b < s.heap.objs.size := by
        have eor : b = e ∨ b = it := by simpa using hb
        rcases eor with z | z
        · rw [z]; exact ltE
        · rw [z]; exact ltI
      rw [upd_ne (Nat.ne_of_lt hbs)]
      exact (fpk b hb).1
  done := by
    intro X hP hw hK hc i pn s σ H E Iv fpk stt hgo
    subst hP hw hK
    obtain ⟨⟨old, hEn⟩, hIt, dif⟩ := stt
    obtain ⟨xs, hsq, hxAt⟩ := hgo
    obtain ⟨jts, rvs, p, hz⟩ := Iv.list hsq
    obtain ⟨f0, f1, f2, f3, f4, f5⟩ := fpk it (by simp)
    have hl := rvs.length
    have hi : i = jts.toArray.size := by
      rw [List.size_toArray]
      omega
    subst hi
    exact wpAny_pyNext_enum_endD (Draws.list (A := X.A.in1) (Iv.ok.hd hc) it a (list_ne_iter p.isList hIt) jts.toArray) hEn ⟨hIt, p.isList⟩ fun h' eb => ⟨rfl, Iv.turned (t' := s.toks) (fun b o hb q => eb b o hb q) f0 f1 f3 f4 f5⟩
  self := fun A i s Q E stt h => let ⟨⟨_, hEn⟩, _⟩ := stt; wpAny_pyIter_enum hEn h

theorem callWith_typeKw {M : Model} {A : Around} {E : Value → Shared → Prop} {s : Shared} {env : Env} {pos : Pos} {T : String} {e : Expr} {rest : List Expr} {kws : List Keyword} {Q : Value → Shared → Prop}
    (h : wpAny M A (spliced (backTo pos (starEach (e :: rest) env))) (fun vs s1 => wpAny M A (evalAll ((backToKw pos (keywordEach kws env)).map (·.2)))
      (fun kvs s2 => wpAny M A (call (.type T) vs (((backToKw pos (keywordEach kws env)).filterMap (·.1)).zip kvs)) Q E s2) E s1) E s)
    (hEn : backTo pos (starEach (e :: rest) env) = (false, eval e env) :: backTo pos (starEach rest env) := by rfl)
    (noStar : (backTo pos (starEach (e :: rest) env)).any (·.1) = false := by rfl)
    (allNamed : (backToKw pos (keywordEach kws env)).all (·.1.isSome) = true := by rfl)
    (noDouble : (backToKw pos (keywordEach kws env)).any (·.1.isNone) = false := by rfl) :
    wpAny M A (callWith pos (.type T) [] (backTo pos (starEach (e :: rest) env)) (backToKw pos (keywordEach kws env))) Q E s := by
  have h2 : wpAny M A (evalArgs (.type T) true (backTo pos (starEach (e :: rest) env)) (backToKw pos (keywordEach kws env))) (fun a s1 => wpAny M A (call (.type T) ([] ++ a.pos) a.kw) Q E s1) E s := by
    rw [hEn] at h ⊢
    exact evalArgs_kwB allNamed h
  unfold callWith
  refine wpAny_bind (wpAny_holding (wpAny_mono h2 (fun a s1 h1 => wpAny_bind (wpAny_standAt ?_)) fun _ _ x => x))
  simp only [noStar, noDouble, Bool.or_false]
  refine wpAny_bind <| wpAny_pure ?_
  exact wpAny_bind (wpAny_mono h1 (fun r s2 hr => wpAny_bind (wpAny_holding (wpAny_point (wpAny_pure hr)))) fun _ _ x => x)
def iEnumS (K : PySem.W.Frag) (ta tk : TA) : TI := fun σ H R => ta σ H fun vs H1 => tk σ H1 fun zs H2 => ∃ a xs k, vs = [.ref a] ∧ zs = [.int k] ∧ SqL K H2 a xs ∧ -(2 ^ 63) ≤ k ∧ k < 2 ^ 63 ∧ R (IteS K a k) H2
theorem pi_enumS {X : Cx} {e v : Expr} {ta tk : TA} {p pos tpos kpos : Pos} {elts : List Expr} {kk : Nat} (hgo : Gl X "enumerate") (hm : X.mg "enumerate" = none) (ha : PA X [e] ta) (hk : PK X [⟨some "start", v, kpos⟩] tk)
    (hEn : backTo pos (starEach [e] X.env) = (false, eval e X.env) :: backTo pos (starEach [] X.env) := by rfl) (hpl : (backTo pos (starEach [e] X.env)).any (·.1) = false := by rfl) :
    PI X (.Tuple elts kk tpos) (.Call (.Name "enumerate" p) [e] [⟨some "start", v, kpos⟩] pos) (iEnumS X.K ta tk) := by
  refine ⟨fun pn s σ H R Iv h => ?_⟩
  refine wpAny_Call_Name_kw (ld_blt Iv hgo hm boot_enumerate ?_)
  refine callWith_typeKw (thn (ha.run pos pn s σ H _ Iv h) fun us s0 ⟨vs, H0, I0, r0, q0⟩ => thn (hk.run pos pn s0 σ H0 _ I0 q0) fun ws s1 ⟨zs, H1, I1, rd1, q1⟩ => ?_) hEn hpl
  obtain ⟨a, xs, k, ex, ez, hsq, k0, k1, q⟩ := q1
  subst ex ez
  cases r0 with
  | cons r rr =>
    cases rr
    cases r
    cases rd1 with
    | cons rk rrk =>
      cases rrk
      obtain ⟨t, rfl⟩ := rk
      obtain ⟨jts, rvs, p', hz⟩ := I1.list hsq
      refine enum_begins_start (begins_list a jts.toArray) p'.isList k0 k1 fun h' hEn1 hIt hsz hk' => wpAny_pyIter_enum hEn1 ?_
      have I2 : Inv X pn σ H1 { s1 with heap := h' } := I1.kept (t' := s1.toks) hk'
      have e0 : k + ((0 : Nat) : Int) = k := by omega
      refine ⟨s1.heap.objs.size + 1, [s1.heap.objs.size + 1, s1.heap.objs.size], _, _, H1, rfl, I2, turn_enumS a (s1.heap.objs.size + 1) s1.heap.objs.size k, ⟨⟨.none, by rw [e0]; exact hEn1⟩, ⟨_, hIt, rfl, rfl⟩, Nat.succ_ne_self _⟩, fun b hb => ?_, q⟩
      have eor : b = s1.heap.objs.size + 1 ∨ b = s1.heap.objs.size := by simpa using hb
      have le0 : s1.heap.objs.size ≤ b := by
        rcases eor with z | z
        · rw [z]
          exact Nat.le_add_right ..
        · rw [z]; exact Nat.le_refl _
      exact I1.fpOk le0 (I1.hok.fresh le0)
theorem walk_enumS {K : PySem.W.Frag} {a : Addr} {xs : List V} {k : Int} : Walk (IteS K a k) xs.length (fun H => SqL K H a xs) (YPair (fun i => some (.int (k + (i : Nat)))) (fun i => xs[i]?)) := by
  refine ⟨fun i _ hi q => ⟨xs, xs[i], q, by simp [hi]⟩, fun _ q => ⟨xs, q, rfl⟩, fun i H v H' _ q y => ?_⟩
  obtain ⟨T, x, h1, h2, h3, rdAll⟩ := y
  exact ⟨T, .int (k + (i : Nat)), x, h1, h2, h3, rfl, rdAll xs q⟩

/-! ### xs.remove(t), the items data of any depth -/
def rRemD (K : PySem.W.Frag) : V → List V → Hp → VK → Prop := fun x xs H Q => ∃ (l : Addr) (ys : List V) (y : V) (d : PyData) (ds : List PyData) (j : Nat) (z : PyData), x = .ref l ∧ xs = [y] ∧ H l = some (.lst ys) ∧ Dp K H (.ref l) (.list ds) ∧ Dp K H y d ∧
  SeqAt.shaped (.list ds) = true ∧ SeqAt.shaped d = true ∧ ds[j]? = some z ∧ PyData.eqv z d = true ∧ (∀ (m : Nat) (zm : PyData), m < j → ds[m]? = some zm → PyData.eqv zm d = false) ∧ Q .non (upd H l (.lst (ys.eraseIdx j)))
theorem mt_removeD {X : Cx} (huAt : X.A.units + 65 < cLine) : MtM X "list.remove" (rRemD X.K) := by
  intro pn s σ H x xs v us Q Iv rx rxs h
  obtain ⟨l, ys, y, d, ds, j, z, rfl, rfl, hHl, hl, hy, sl, sd, hz, hzj, hno, q⟩ := h
  cases rx
  obtain ⟨uy, rfl, ry⟩ := rxs.one
  obtain ⟨bs, rd1⟩ := Dp.reads Iv d y uy hy ry
  have lay0 : PyData.canLayAll0 ds = true := SeqAt.canLay_of_shaped sl
  have deepOk : X.A.units + 1 + min (PyData.depthAll ds) d.depth < cLine := room_in_shaped sd huAt
  obtain ⟨hlen, jts, n, r, hl2, ho⟩ := Iv.lstM hHl
  cases hl with
  | lst hs ha =>
    have ey := Iv.list_inj hs (SqL.of hHl)
    subst ey
    obtain ⟨as, rdAll⟩ := Dp.readsAll Iv ds _ jts ha r
    have sameN : jts.length = ds.length := SeqAt.ReadsAll.length ds jts as rdAll
    have asData : jts.map (SeqAt.readOf s.heap) = ds := SeqAt.readsAll_map ds jts as lay0 rdAll
    obtain ⟨jD, _⟩ := List.getElem?_eq_some_iff.mp hz
    have jLt : j < jts.length := by omega
    have hj : j < jts.toArray.size := by simpa using jLt
    have readAt : ∀ (m : Nat) (hm : m < jts.toArray.size) (zm : PyData), ds[m]? = some zm → SeqAt.readOf s.heap jts.toArray[m] = zm := by
      intro m hm zm hzm
      have mLt : m < jts.length := by simpa using hm
      rw [← asData, List.getElem?_map, List.getElem?_eq_getElem mLt] at hzm
      have e1 : SeqAt.readOf s.heap jts[m] = zm := Option.some.inj (show some (SeqAt.readOf s.heap jts[m]) = some zm from hzm)
      simpa using e1
    refine call_meets PySem.F.slot_list_remove ⟨_, ho, rfl⟩ PySem.F.entry_list_remove (PySem.F.args_list_remove_2 _ _)
      (PySem.SeqAt.list_removeAt l jts.toArray n none #[] uy (fun u => PyData.eqv (SeqAt.readOf s.heap u) d) j hj ?_ ?_ (by rw [List.size_toArray]; omega)) ⟨ho, SeqAt.items_eqAt (vs := jts.toArray) (show ReadsAll s.heap jts.toArray.toList ds as from rdAll) rd1 lay0 (SeqAt.canLay_of_shaped sd) deepOk, ?_⟩
    · show PyData.eqv (SeqAt.readOf s.heap jts.toArray[j]) d = true
      rw [readAt j hj z hz]
      exact hzj
    · intro m hm hmj
      have mD : m < ds.length := by omega
      have hzm : ds[m]? = some ds[m] := List.getElem?_eq_getElem mD
      show PyData.eqv (SeqAt.readOf s.heap jts.toArray[m]) d = false
      rw [readAt m hm _ hzm]
      exact hno m _ hmj hzm
    · refine ⟨.non, _, Iv.lset (its' := jts.eraseIdx j) (t' := s.toks) hHl ho ?_ (r.eraseIdx j) ?_, rfl, q⟩
      · show jts.toArray.eraseIdxIfInBounds j = (jts.eraseIdx j).toArray
        exact List.eraseIdxIfInBounds_toArray ..
      · exact Nat.le_trans (len_erase _ _) hlen
/-! ### xs.extend(t), t a tuple -/
/-- xs.extend(t), t any tuple -/
theorem ext_tup (q : Addr) (ys : Array Value) (m : Nat) (t : Addr) (zs : Array Value) (k : Nat) (dd : Option Addr) (sl : Array (Option Value)) (short : ¬(!ys.isEmpty && Builtin.List.listTooLong (ys.size + zs.size)) = true) (fits : ys.size ≤ sizeLine) (both : ys.size + zs.size ≤ sizeLine + 1) :
    Meets (Builtin.«list.extend» ⟨[.ref q, .ref t], []⟩) (fun _ R s => s.heap.get? q = some { cls := .type "list", dict := none, data := .seq ys m, slots := #[] } ∧ s.heap.get? t = some { cls := .type "tuple", dict := dd, data := .seq zs k, slots := sl } ∧ R (.ok (.ret Value.none)) { s with heap := s.heap.update q (Obj.mapSeq fun x => x ++ zs), toks := s.toks }) :=
  .of_wp fun pr w A R s0 h => by
    obtain ⟨hp0, g, d, tk, os⟩ := s0
    obtain ⟨hsq, ht, h⟩ := h
    have f5 := sub_list_tuple
    have f2 := sub_tuple_tuple
    have f3 := sub_list_list
    have room : (ys ++ zs).size ≤ sizeLine + 1 := by
      rw [Array.size_append]
      exact both
    wp_walk using (wpAny_updateSeq hsq rfl (hz := fits) (_hz' := room)), wpAny_loadPart' hsq, wpAny_loadPart' ht
    exact ⟨_, rfl, h⟩
def rExtendT (K : PySem.W.Frag) : V → List V → Hp → VK → Prop := fun x vs H Q => ∃ (l b : Addr) (xs zs : List V), x = .ref l ∧ vs = [.ref b] ∧ H l = some (.lst xs) ∧ SqT K H b zs ∧ xs.length + zs.length ≤ sizeLine ∧ Q .non (upd H l (.lst (xs ++ zs)))
theorem mt_extendT {X : Cx} : MtM X "list.extend" (rExtendT X.K) := by
  intro pn s σ H x vs v us Q Iv rx rvs h
  obtain ⟨l, b, xs, zs, rfl, rfl, hHl, hBt, hz, q⟩ := h
  cases rx
  obtain ⟨u, rfl, rel⟩ := rvs.one
  cases rel
  obtain ⟨z, jts, n, r, hl, e⟩ := Iv.lstM hHl
  obtain ⟨kts, r2, ⟨o, ho, hoc, k, hod⟩, _⟩ := Iv.tuple hBt
  obtain ⟨oc, odd, odata, osl⟩ := o
  cases hoc
  cases hod
  have l2 := r2.length
  have fit : jts.toArray.size + kts.toArray.size ≤ sizeLine := by
    simp only [List.size_toArray]
    omega
  have sh : ¬ (!jts.toArray.isEmpty && Builtin.List.listTooLong (jts.toArray.size + kts.toArray.size)) = true := by
    rw [notLongL fit, Bool.and_false]
    exact Bool.false_ne_true
  refine call_meets PySem.F.slot_list_extend ⟨_, e, rfl⟩ PySem.F.entry_list_extend (PySem.F.args_list_extend_2 _ _) (ext_tup l jts.toArray n b kts.toArray k odd osl sh (by rw [List.size_toArray]; omega) (by omega)) ⟨e, ho, ?_⟩
  refine ⟨.non, _, Iv.lset (its' := jts ++ kts) hHl e (by simp) (r.append r2) ?_, rfl, q⟩
  rw [List.length_append]
  omega
end WG
/-! Words for what the top leaves: a def, a method, an __init__ with their bindings; rules that call them. -/
namespace WG
open PySem PySem.Spec
open PyProof.Rows
open L2 hiding CX0 E0 pass0 Fun
open C8 Evl
def inC (s : Stmt) (j : Nat) : Stmt := (clsBody s).getD j (.Pass ⟨0, 0, 0, 0⟩)
abbrev GC (mg : Str → Option Value) (x : Str) (v : V) : Prop := ∃ u, mg x = some u ∧ RelV v u
theorem rel_ref (a : Addr) : RelV (.ref a) (Value.ref a) := rfl
theorem hu65 {k : Nat} {A : Around} (hr : Room k A) : A.units + 65 < cLine := by have := hr.un; omega
/-- a def of the module with its binding -/
structure DefAt (K : PySem.W.Frag) (mg : Str → Option Value) (g x : Str) (st : Stmt) (ps : List Str) : Prop where
  ex : ∃ f fd, C8.Fun K x x st f fd ∧ mg g = some (.ref f) ∧ PySem.W.keepIn K (.ref f) = true ∧ Binds K fd ps []
/-- C's method, by its name -/
structure MethAt (K : PySem.W.Frag) (C : Addr) (m qual : Str) (st : Stmt) (ps : List Str) : Prop where
  ex : ∃ f fd, Cls K C ∧ Meth K C m f ∧ C8.Fun K m qual st f fd ∧ Binds K fd ps []
/-- the __init__ of the class at C -/
structure InitAt (K : PySem.W.Frag) (C : Addr) (qual : Str) (st : Stmt) (ps : List Str) : Prop where
  ex : ∃ f fd, Mk K C f ∧ C8.Fun K "__init__" qual st f fd ∧ Binds K fd ps []
section
variable {K : PySem.W.Frag} {mg : Str → Option Value} {P : Program} {w : World} {base : Heap}
theorem fun_mk8 {x qual : Str} {st : Stmt} {f : Addr} {oc : Value} {od an : Option Addr} {osl : Array (Option Value)} {kV doc pm cdv ct : Value} (l : K.lookup f = some ⟨oc, od, .func (PySem.W.fnOf x qual (fnArgs st) (fnBody st) (fnScope st) .none kV doc pm an cdv ct), osl⟩)
    (c : PySem.W.codeIn K cdv qual = true) : C8.Fun K x qual st f (PySem.W.fnOf x qual (fnArgs st) (fnBody st) (fnScope st) .none kV doc pm an cdv ct) := ⟨⟨oc, od, .none, kV, doc, pm, an, cdv, ct, osl, rfl, l, c⟩⟩
section
variable {h : Heap} {g x qual : Str} {st : Stmt} {ps : List Str} {f C : Addr} {oc : Value} {od an : Option Addr} {osl : Array (Option Value)} {kV doc pm cdv ct : Value}
theorem defAt_mk (X : K.In h) (G : h.Ns mainGlobals mg) (a : PySem.W.nsIn K mainGlobals g = some (some (.ref f)))
    (l : K.lookup f = some ⟨oc, od, .func (PySem.W.fnOf x x (fnArgs st) (fnBody st) (fnScope st) .none kV doc pm an cdv ct), osl⟩) (c : PySem.W.codeIn K cdv x = true) (k : PySem.W.keepIn K (.ref f) = true)
    (b : ∀ (kV doc pm : Value) (an : Option Addr) (cdv ct : Value) (us : List Value), us.length = ps.length → bindArgs (PySem.W.fnOf x x (fnArgs st) (fnBody st) (fnScope st) .none kV doc pm an cdv ct) ⟨us, []⟩ = pure (ps.zip us)) : DefAt K mg g x st ps :=
  ⟨f, _, fun_mk8 l c, PySem.W.mg_of X G a, k, (fun_mk8 (st := st) l c).binds rfl b⟩
theorem methAt_mk (cl : Cls K C) (a : PySem.W.findIn K (.ref C) x = some (some (.ref f))) (i : PySem.W.isFn K (.ref f) = true)
    (l : K.lookup f = some ⟨oc, od, .func (PySem.W.fnOf x qual (fnArgs st) (fnBody st) (fnScope st) .none kV doc pm an cdv ct), osl⟩) (c : PySem.W.codeIn K cdv qual = true) (k : PySem.W.keepIn K (.ref f) = true)
    (b : ∀ (kV doc pm : Value) (an : Option Addr) (cdv ct : Value) (us : List Value), us.length = ps.length → bindArgs (PySem.W.fnOf x qual (fnArgs st) (fnBody st) (fnScope st) .none kV doc pm an cdv ct) ⟨us, []⟩ = pure (ps.zip us)) : MethAt K C x qual st ps :=
  ⟨f, _, cl, ⟨a, i, k⟩, fun_mk8 l c, (fun_mk8 (st := st) l c).binds rfl b⟩
theorem initAt_mk (mk : PySem.W.makesIn K C = true) (kc : PySem.W.keepIn K (.ref C) = true) (a : PySem.W.findIn K (.ref C) "__init__" = some (some (.ref f))) (i : PySem.W.isFn K (.ref f) = true)
    (l : K.lookup f = some ⟨oc, od, .func (PySem.W.fnOf "__init__" qual (fnArgs st) (fnBody st) (fnScope st) .none kV doc pm an cdv ct), osl⟩) (c : PySem.W.codeIn K cdv qual = true)
    (b : ∀ (kV doc pm : Value) (an : Option Addr) (cdv ct : Value) (us : List Value), us.length = ps.length → bindArgs (PySem.W.fnOf "__init__" qual (fnArgs st) (fnBody st) (fnScope st) .none kV doc pm an cdv ct) ⟨us, []⟩ = pure (ps.zip us)) : InitAt K C qual st ps :=
  ⟨f, _, ⟨mk, a, i, kc⟩, fun_mk8 l c, (fun_mk8 (st := st) l c).binds rfl b⟩
end
/-! ### the same, handed on (so that K is read off the head's own fact) -/
section
variable {h : Heap} {g x qual : Str} {st : Stmt} {ps : List Str} {f C : Addr} {oc : Value} {od an : Option Addr} {osl : Array (Option Value)} {kV doc pm cdv ct : Value} {R : Prop}
theorem withDef (X : K.In h) (G : h.Ns mainGlobals mg) (a : PySem.W.nsIn K mainGlobals g = some (some (.ref f)))
    (l : K.lookup f = some ⟨oc, od, .func (PySem.W.fnOf x x (fnArgs st) (fnBody st) (fnScope st) .none kV doc pm an cdv ct), osl⟩) (c : PySem.W.codeIn K cdv x = true) (k : PySem.W.keepIn K (.ref f) = true)
    (b : ∀ (kV doc pm : Value) (an : Option Addr) (cdv ct : Value) (us : List Value), us.length = ps.length → bindArgs (PySem.W.fnOf x x (fnArgs st) (fnBody st) (fnScope st) .none kV doc pm an cdv ct) ⟨us, []⟩ = pure (ps.zip us))
    (r : DefAt K mg g x st ps → R) : R := r (defAt_mk X G a l c k b)
theorem withCls (X : K.In h) (G : h.Ns mainGlobals mg) (a : PySem.W.nsIn K mainGlobals x = some (some (.ref C))) (pg : PySem.W.plainGet K C Str.empty = true) (hd : PySem.W.hasDictIn K C = true) (po : PySem.W.plainOver K C = true)
    (sa : PySem.W.findIn K (.ref C) "__setattr__" = some (some (.builtin "object.__setattr__"))) (r : mg x = some (.ref C) → Cls K C → R) : R := r (PySem.W.mg_of X G a) ⟨pg, hd, po, sa⟩
theorem withMeth (X : K.In h) (cl : Cls K C) (a : PySem.W.findIn K (.ref C) x = some (some (.ref f))) (i : PySem.W.isFn K (.ref f) = true)
    (l : K.lookup f = some ⟨oc, od, .func (PySem.W.fnOf x qual (fnArgs st) (fnBody st) (fnScope st) .none kV doc pm an cdv ct), osl⟩) (c : PySem.W.codeIn K cdv qual = true) (k : PySem.W.keepIn K (.ref f) = true)
    (b : ∀ (kV doc pm : Value) (an : Option Addr) (cdv ct : Value) (us : List Value), us.length = ps.length → bindArgs (PySem.W.fnOf x qual (fnArgs st) (fnBody st) (fnScope st) .none kV doc pm an cdv ct) ⟨us, []⟩ = pure (ps.zip us))
    (r : MethAt K C x qual st ps → R) : R := r (methAt_mk cl a i l c k b)
theorem withInit (X : K.In h) (cl : Cls K C) (mk : PySem.W.makesIn K C = true) (kc : PySem.W.keepIn K (.ref C) = true) (a : PySem.W.findIn K (.ref C) "__init__" = some (some (.ref f))) (i : PySem.W.isFn K (.ref f) = true)
    (l : K.lookup f = some ⟨oc, od, .func (PySem.W.fnOf "__init__" qual (fnArgs st) (fnBody st) (fnScope st) .none kV doc pm an cdv ct), osl⟩) (c : PySem.W.codeIn K cdv qual = true)
    (b : ∀ (kV doc pm : Value) (an : Option Addr) (cdv ct : Value) (us : List Value), us.length = ps.length → bindArgs (PySem.W.fnOf "__init__" qual (fnArgs st) (fnBody st) (fnScope st) .none kV doc pm an cdv ct) ⟨us, []⟩ = pure (ps.zip us))
    (r : InitAt K C qual st ps → R) : R := r (initAt_mk mk kc a i l c b)
theorem withNo (X : K.In h) (cl : Cls K C) {m : Str} (a : PySem.W.findIn K (.ref C) m = some none) (r : NoAttr K C m → R) : R := r a
def refOf : Value → V
  | .ref a => .ref a
  | _ => .non
def isRef : Value → Bool
  | .ref _ => true
  | _ => false
theorem refs_vals : ∀ l : List Value, l.all isRef = true → Vals (l.map refOf) l
  | [], _ => .nil
  | v :: l, h => by
    rw [List.all_cons, Bool.and_eq_true_iff] at h
    refine .cons ?_ (refs_vals l h.2)
    have h1 := h.1
    cases v with
    | ref a => exact rfl
    | _ => exact (Bool.false_ne_true h1).elim
theorem withTab (X : K.In h) (G : h.Ns mainGlobals mg) {a : Addr} {o : Obj} {its : Array Value} {n : Nat} (g : PySem.W.nsIn K mainGlobals x = some (some (.ref a))) (lk : K.lookup a = some o) (c1 : o.cls = .type "tuple") (c2 : o.data = .seq its n)
    (c3 : its.size ≤ sizeLine) (c4 : its.toList.all isRef = true) (r : GC mg x (.ref a) → (∀ H, SqT K H a (its.toList.map refOf)) → R) : R := r ⟨_, PySem.W.mg_of X G g, rfl⟩ fun H => Or.inr ⟨o, its, n, lk, c1, c2, c3, refs_vals _ c4⟩
end
theorem DefAt.cal {g x : Str} {st : Stmt} {N ps : List Str} {k : Nat} {sp : Sp} (F : DefAt K mg g x st ps) (S : FnScope N ps (fnScope st)) (len : ∀ vs H Q E, sp vs H Q E → vs.length = ps.length)
    (hbody : ∀ (f : Addr) (cdv : Value) (A : Around) (outer : List Env) (s : Shared) (H : Hp) (vs : List V) (Q : VK) (E : XK), Room k (A.deeper (envOfC x (fnScope st) s.heap.objs.size f cdv)) → sp vs H Q E →
      ∃ t, PSs (cxOf CX0 P w K mg base N x (fnScope st) f cdv A outer s H E).nox (fnBody st) t ∧ t { nx := fun _ H' => Q .non H', rt := Q } (start N vs) H) : Cal P w K mg base (k + 1) g sp [] := by
  obtain ⟨f, fd, D, hm, kp, b⟩ := F.ex
  exact ⟨f, fd, ps, [], fn0 D S len (hbody f), hm, kp, b, .nil⟩
/-- a def whose code object is the one at c -/
structure DefC (K : PySem.W.Frag) (mg : Str → Option Value) (x : Str) (st : Stmt) (ps : List Str) (c : Addr) : Prop where
  ex : ∃ (f : Addr) (oc : Value) (od : Option Addr) (kV doc pm : Value) (an : Option Addr) (ct : Value) (osl : Array (Option Value)), K.lookup f = some ⟨oc, od, .func (PySem.W.fnOf x x (fnArgs st) (fnBody st) (fnScope st) .none kV doc pm an (.ref c) ct), osl⟩ ∧
    PySem.W.codeIn K (.ref c) x = true ∧ mg x = some (.ref f) ∧ PySem.W.keepIn K (.ref f) = true ∧ Binds K (PySem.W.fnOf x x (fnArgs st) (fnBody st) (fnScope st) .none kV doc pm an (.ref c) ct) ps []
theorem withDefC {h : Heap} {x : Str} {st : Stmt} {ps : List Str} {f c : Addr} {oc : Value} {od an : Option Addr} {osl : Array (Option Value)} {kV doc pm ct : Value} {R : Prop} (X : K.In h) (G : h.Ns mainGlobals mg) (a : PySem.W.nsIn K mainGlobals x = some (some (.ref f)))
    (l : K.lookup f = some ⟨oc, od, .func (PySem.W.fnOf x x (fnArgs st) (fnBody st) (fnScope st) .none kV doc pm an (.ref c) ct), osl⟩) (cd : PySem.W.codeIn K (.ref c) x = true) (k : PySem.W.keepIn K (.ref f) = true)
    (b : ∀ (kV doc pm : Value) (an : Option Addr) (cdv ct : Value) (us : List Value), us.length = ps.length → bindArgs (PySem.W.fnOf x x (fnArgs st) (fnBody st) (fnScope st) .none kV doc pm an cdv ct) ⟨us, []⟩ = pure (ps.zip us))
    (r : DefC K mg x st ps c → R) : R := r ⟨f, oc, od, kV, doc, pm, an, ct, osl, l, cd, PySem.W.mg_of X G a, k, (fun_mk8 (st := st) l cd).binds rfl b⟩
theorem DefC.cal {x : Str} {st : Stmt} {N ps : List Str} {c : Addr} {k : Nat} {sp : Sp} (F : DefC K mg x st ps c) (S : FnScope N ps (fnScope st)) (len : ∀ vs H Q E, sp vs H Q E → vs.length = ps.length)
    (hbody : ∀ (f : Addr) (A : Around) (outer : List Env) (s : Shared) (H : Hp) (vs : List V) (Q : VK) (E : XK), Room k (A.deeper (envOfC x (fnScope st) s.heap.objs.size f (.ref c))) → sp vs H Q E →
      ∃ t, PSs (cxOf CX0 P w K mg base N x (fnScope st) f (.ref c) A outer s H E).nox (fnBody st) t ∧ t { nx := fun _ H' => Q .non H', rt := Q } (start N vs) H) : Cal P w K mg base (k + 1) x sp [] := by
  obtain ⟨f, oc, od, kV, doc, pm, an, ct, osl, lk, cd, hm, kp, b⟩ := F.ex
  refine ⟨f, _, ps, [], fn_of lk cd S len fun A outer s H vs Q E hr hsp => ?_, hm, kp, b, .nil⟩
  obtain ⟨t, h, q⟩ := hbody f A outer s H vs Q E hr hsp
  exact ⟨t, h.nox, q⟩
theorem MethAt.met {C : Addr} {m qual : Str} {st : Stmt} {N ps : List Str} {k : Nat} {sp : Sp} (F : MethAt K C m qual st ps) (S : FnScope N ps (fnScope st)) (len : ∀ vs H Q E, sp vs H Q E → vs.length = ps.length)
    (hbody : ∀ (f : Addr) (cdv : Value) (A : Around) (outer : List Env) (s : Shared) (H : Hp) (vs : List V) (Q : VK) (E : XK), Room k (A.deeper (envOfC qual (fnScope st) s.heap.objs.size f cdv)) → sp vs H Q E →
      ∃ t, PSs (cxOf CX0 P w K mg base N qual (fnScope st) f cdv A outer s H E).nox (fnBody st) t ∧ t { nx := fun _ H' => Q .non H', rt := Q } (start N vs) H) : Met P w K mg base (k + 1) C m sp [] := by
  obtain ⟨f, fd, c, me, F, b⟩ := F.ex
  exact met0 c me F b S len (hbody f)
theorem InitAt.mak {C : Addr} {x qual : Str} {st : Stmt} {N ps : List Str} {k : Nat} {sp : Sp} (F : InitAt K C qual st ps) (hm : mg x = some (.ref C)) (S : FnScope N ps (fnScope st)) (len : ∀ vs H Q E, sp vs H Q E → vs.length = ps.length)
    (hbody : ∀ (f : Addr) (cdv : Value) (A : Around) (outer : List Env) (s : Shared) (H : Hp) (vs : List V) (Q : VK) (E : XK), Room k (A.deeper (envOfC qual (fnScope st) s.heap.objs.size f cdv)) → sp vs H Q E →
      ∃ t, PSs (cxOf CX0 P w K mg base N qual (fnScope st) f cdv A outer s H E).nox (fnBody st) t ∧ t { nx := fun _ H' => Q .non H', rt := Q } (start N vs) H) : Mak P w K mg base (k + 1) x C sp [] := by
  obtain ⟨f, fd, M, F, b⟩ := F.ex
  exact ⟨f, fd, ps, [], M, fn0 F S len (hbody f), hm, b, .nil⟩
/-- a def that a table holds -/
theorem held_of {x : Str} {k : Nat} {sp : Sp} {f : Addr} (c : Cal P w K mg base k x sp []) (h : mg x = some (.ref f)) : Held P w K mg base k f sp := by
  obtain ⟨f', fd, ps, ds, F, hm, kp, b, d⟩ := c.ex
  rw [h] at hm
  cases hm
  cases d
  exact ⟨fd, ps, F, kp, b⟩
end
section
variable {X : Cx} {j k : Nat} {C : Addr} {x : Str} {sp : Sp} {dvs : List V} {p pos : Pos}
theorem pe_mk0 (c : Mak X.prog X.w X.K X.mg X.base k x C sp dvs) (hr : Room j X.A) (hk : k + 1 ≤ j) (hg : Gl X x) (hdb : (x == ("__debug__" : Str)) = false := by decide) :
    PE X (.Call (.Name x p) [] [] pos) (tMake C sp dvs E0 tNil) := by
  obtain ⟨f, fd, ps, ds, mk, ok, am, bd, dv⟩ := c.ex
  exact pe_make0 mk ok (hr.mono hk) hg am bd dv pass0 hdb
theorem pe_c0 (c : Cal X.prog X.w X.K X.mg X.base k x sp dvs) (hr : Room j X.A) (hk : k ≤ j) (hg : Gl X x) (hdb : (x == ("__debug__" : Str)) = false := by decide) :
    PE X (.Call (.Name x p) [] [] pos) (tCall sp dvs E0 tNil) := by
  obtain ⟨f, fd, ps, ds, ok, am, kp, bd, dv⟩ := c.ex
  exact pe_call0 ok (hr.mono hk) hg am kp bd dv pass0 hdb
end
end WG
/-! What a reading comes to, told by a relation; comprehensions over any walk. -/
namespace WG
open PySem PySem.Spec
open PyProof.Rows
open L2 hiding CX0 E0 pass0 Fun
open C8 Evl
/-! ### pairs of lists -/
inductive F2 {α β : Type} (R : α → β → Prop) : List α → List β → Prop
  | nil : F2 R [] []
  | cons {a : α} {b : β} {l : List α} {m : List β} : R a b → F2 R l m → F2 R (a :: l) (b :: m)
section
variable {α β γ : Type} {R S : α → β → Prop} {l : List α} {m : List β}
theorem F2.len (h : F2 R l m) : l.length = m.length := by
  induction h with
  | nil => rfl
  | cons _ _ ih => simp [ih]
theorem F2.imp (h : F2 R l m) (k : ∀ a b, a ∈ l → R a b → S a b) : F2 S l m := by
  induction h with
  | nil => exact .nil
  | cons r _ ih => exact .cons (k _ _ (List.mem_cons_self ..) r) (ih fun a b ha => k a b (List.mem_cons_of_mem _ ha))
theorem F2.snoc (h : F2 R l m) {a : α} {b : β} (r : R a b) : F2 R (l ++ [a]) (m ++ [b]) := by
  induction h with
  | nil => exact .cons r .nil
  | cons q _ ih => exact .cons q ih
theorem F2.app (h : F2 R l m) {l' : List α} {m' : List β} (k : F2 R l' m') : F2 R (l ++ l') (m ++ m') := by
  induction h with
  | nil => exact k
  | cons q _ ih => exact .cons q ih
theorem F2.get : ∀ {l : List α} {m : List β}, F2 R l m → ∀ {i : Nat} {a : α}, l[i]? = some a → ∃ b, m[i]? = some b ∧ R a b
  | _, _, .nil, i, a, h => by simp at h
  | _, _, .cons r t, 0, a, h => by
    simp at h
    subst h
    exact ⟨_, rfl, r⟩
  | _, _, .cons r t, i + 1, a, h => by
    obtain ⟨b, h1, h2⟩ := F2.get t (i := i) (by simpa using h)
    exact ⟨b, by simpa using h1, h2⟩
theorem F2.get' : ∀ {l : List α} {m : List β}, F2 R l m → ∀ {i : Nat} {b : β}, m[i]? = some b → ∃ a, l[i]? = some a ∧ R a b
  | _, _, .nil, i, a, h => by simp at h
  | _, _, .cons r t, 0, a, h => by
    simp at h
    subst h
    exact ⟨_, rfl, r⟩
  | _, _, .cons r t, i + 1, a, h => by
    obtain ⟨b, h1, h2⟩ := F2.get' t (i := i) (by simpa using h)
    exact ⟨b, by simpa using h1, h2⟩
theorem F2.of_map {f : γ → α} {l : List γ} (h : F2 R (l.map f) m) : F2 (fun c b => R (f c) b) l m := by
  induction l generalizing m with
  | nil => cases h; exact .nil
  | cons c l ih =>
    cases h with
    | cons r t => exact .cons r (ih t)
theorem F2.map {f : γ → α} {l : List γ} (h : F2 (fun c b => R (f c) b) l m) : F2 R (l.map f) m := by
  induction h with
  | nil => exact .nil
  | cons r _ ih => exact .cons r ih
theorem F2.eq {v : α → β} (h : F2 (fun a b => b = v a) l m) : m = l.map v := by
  induction h with
  | nil => rfl
  | cons r _ ih => rw [r, ih]; rfl
theorem F2.same (f : α → β) (k : ∀ a ∈ l, R a (f a)) : F2 R l (l.map f) := by
  induction l with
  | nil => exact .nil
  | cons a l ih => exact .cons (k a (List.mem_cons_self ..)) (ih fun b hb => k b (List.mem_cons_of_mem _ hb))
theorem F2.set (h : F2 R l m) {i : Nat} {a : α} {b : β} (r : R a b) : F2 R (l.set i a) (m.set i b) := by
  induction h generalizing i with -- pair by pair
  | nil => exact .nil
  | cons q t ih =>
    cases i with
    | zero => exact .cons r t
    | succ i => exact .cons q ih
theorem F2.drop (h : F2 R l m) (n : Nat) : F2 R (l.drop n) (m.drop n) := by
  induction h generalizing n with
  | nil => simp; exact .nil
  | cons q t ih =>
    cases n with
    | zero => exact .cons q t
    | succ n => exact ih n
theorem F2.rev (h : F2 R l m) : F2 R l.reverse m.reverse := by
  induction h with
  | nil => exact .nil
  | cons q t ih => rw [List.reverse_cons, List.reverse_cons]; exact ih.snoc q
end
/-! ### what may happen to the heap on the way -/
def noTbl (o : HO) : Prop := ∀ ps, o ≠ .tbl ps
class Pre (L : Hp → Hp → Prop) : Prop where
  refl : ∀ H, L H H
  trans : ∀ {H H1 H2 : Hp}, L H H1 → L H1 H2 → L H H2
  ex : ∀ {H H' : Hp}, Ex H H' → L H H'
  wr : ∀ {H H' : Hp} {p : Addr} {xs ys : List V}, L H H' → H p = none → H' p = some (.lst xs) → L H (upd H' p (.lst ys))
  keep : ∀ {H H' : Hp} {a : Addr} {o : HO}, L H H' → H a = some o → noTbl o → H' a = some o
instance : Pre Ex where
  refl := Ex.refl
  trans := Ex.trans
  ex := id
  wr := fun e h _ => e.mut h
  keep := fun e h _ => e _ _ h
class PreB (L : Hp → Hp → Prop) : Prop extends Pre L where
  back : ∀ {H H' : Hp} {p : Addr}, L H H' → H' p = none → H p = none
instance : PreB Ex where
  back := fresh_back
theorem nt_lst {xs : List V} : noTbl (.lst xs) := fun _ z => nomatch z
theorem nt_tup {xs : List V} : noTbl (.tup xs) := fun _ z => nomatch z
theorem nt_ins {C dx : Addr} {fs : List (Str × V)} : noTbl (.ins C dx fs) := fun _ z => nomatch z
theorem nt_frz {o : Obj} {u : HO} : noTbl (.frz o u) := fun _ z => nomatch z
abbrev Rp := V → Hp → Prop
section
variable {L : Hp → Hp → Prop} [Pre L]
theorem Pre.new {H : Hp} {p : Addr} {o : HO} (h : H p = none) : L H (upd H p o) := Pre.ex (Ex.new h)
theorem Pre.lst {H H' : Hp} {a : Addr} {xs : List V} (e : L H H') (h : H a = some (.lst xs)) : H' a = some (.lst xs) := Pre.keep e h nt_lst
theorem Pre.tup {H H' : Hp} {a : Addr} {xs : List V} (e : L H H') (h : H a = some (.tup xs)) : H' a = some (.tup xs) := Pre.keep e h nt_tup
theorem Pre.sqL {K : PySem.W.Frag} {H H' : Hp} {a : Addr} {xs : List V} (e : L H H') (h : SqL K H a xs) : SqL K H' a xs := by
  rcases (h) with (h | ⟨o, h⟩) | h
  · exact .inl (.inl (Pre.lst e h))
  · exact .inl (.inr ⟨o, Pre.keep e h nt_frz⟩)
  · exact .inr h
theorem Pre.sqT {K : PySem.W.Frag} {H H' : Hp} {a : Addr} {xs : List V} (e : L H H') (h : SqT K H a xs) : SqT K H' a xs := by
  rcases (h) with (h | ⟨o, h⟩) | h
  · exact .inl (.inl (Pre.tup e h))
  · exact .inl (.inr ⟨o, Pre.keep e h nt_frz⟩)
  · exact .inr h
end
def Mo (L : Hp → Hp → Prop) (R : Rp) : Prop := ∀ v H H', L H H' → R v H → R v H'
def EvR (L : Hp → Hp → Prop) (te : TE) (σ : L2.St) (H : Hp) (R : Rp) : Prop := ∀ H1, L H H1 → ∀ Q : VK, (∀ v H2, L H1 H2 → R v H2 → Q v H2) → te σ H1 Q
/-- a new list -/
def EvN (L : Hp → Hp → Prop) (te : TE) (σ : L2.St) (H : Hp) (P : List V → Hp → Prop) : Prop := ∀ H1, L H H1 → ∀ Q : VK, (∀ p ys H2, H1 p = none → L H1 H2 → H2 p = some (.lst ys) → P ys H2 → Q (.ref p) H2) → te σ H1 Q
def EvB (L : Hp → Hp → Prop) (t : TT) (σ : L2.St) (H : Hp) (b : Bool) : Prop := ∀ H1, L H H1 → ∀ Q : Bool → Hp → Prop, (∀ H2, L H1 H2 → Q b H2) → t σ H1 Q
def EvV (L : Hp → Hp → Prop) (te : TE) (σ : L2.St) (H : Hp) (v : V) : Prop := ∀ H1, L H H1 → ∀ Q : VK, (∀ H2, L H1 H2 → Q v H2) → te σ H1 Q
theorem EvN.l {te : TE} {σ : L2.St} {H : Hp} {P : List V → Hp → Prop} {xs : List V} (h : EvN Ex te σ H P) (k : ∀ ys H, P ys H → ys = xs) : EvL te σ H xs := fun H1 e Q q => h H1 e Q fun p ys H2 hp e2 h2 hP => q p H2 hp e2 (by rw [h2, k ys H2 hP])
theorem EvR.of {te : TE} {σ : L2.St} {H : Hp} {v : V} {R : Rp} (h : Ev te σ H v) (k : ∀ H1, Ex H H1 → R v H1) : EvR Ex te σ H R := fun H1 e Q q => h H1 e Q fun H2 e2 => q v H2 e2 (k H2 (e.trans e2))
theorem EvB.of {t : TT} {σ : L2.St} {H : Hp} {b : Bool} (h : EvT t σ H b) : EvB Ex t σ H b := h
section
variable {L : Hp → Hp → Prop} [Pre L] {K : PySem.W.Frag} {σ : L2.St} {H : Hp}
theorem eb_yes : EvB L tYes σ H true := fun H1 _ Q q => q H1 (Pre.refl H1)
/-! ### comprehensions -/
theorem rng_yes {n : Nat} {f : Nat → Bool} (h : f n = true) : (List.range (n + 1)).filter f = (List.range n).filter f ++ [n] := by
  rw [List.range_succ, List.filter_append, List.filter_cons, if_pos h]; rfl
theorem rng_no {n : Nat} {f : Nat → Bool} (h : f n = false) : (List.range (n + 1)).filter f = (List.range n).filter f := by
  rw [List.range_succ, List.filter_append, List.filter_cons, if_neg (by rw [h]; decide)]
  exact List.append_nil _
/-- true of a value whatever lists are written -/
def Stb (R : Rp) : Prop := ∀ v H p xs ys, R v H → H p = some (.lst xs) → R v (upd H p (.lst ys))
theorem lc_gen {J : It} {n : Nat} {G : Hp → Prop} {Y : Nat → Hp → V → Hp → Prop} (w : Walk J n G Y) {g : TG} {tt : TT} {te : TE} {vs : List Nat} {H1 : Hp} {D : Addr} {Qd : Hp → Prop} (hD : H1 D = none) (f : Nat → Bool) (R : Nat → Rp) (hm : ∀ i, Mo L (R i))
    (hu : ∀ i y H xs ys, R i y H → H D = some (.lst xs) → R i y (upd H D (.lst ys))) (hn : n ≤ 40000)
    (hG : ∀ H', L H1 H' → G H')
    (hs : ∀ i x H' H'', i < n → L H1 H' → (∃ xs, H' D = some (.lst xs)) → Y i H' x H'' → ∀ Q : L2.St → Hp → Prop, (∀ σ2 H2, wipe σ2 vs = wipe σ vs → L H' H2 → EvB L tt σ2 H2 (f i) → (f i = true → EvR L te σ2 H2 (R i)) → Q σ2 H2) → g x (wipe σ vs) H'' Q)
    (hd : ∀ H' ys, L H1 H' → H' D = some (.lst ys) → F2 (fun i y => R i y H') ((List.range n).filter f) ys → Qd H') :
    ∃ V : Nat → Nat → Hp → Prop, (∃ m, V 0 m (upd H1 D (.lst []))) ∧ ∀ i m H, V i m H →
      (J.stop i H ∧ Qd H) ∨ (J.go i H ∧ ∃ N : Hp → Prop, (∀ H', N H' → ∃ m', m' < m ∧ V (i + 1) m' H') ∧ ∀ x H', J.yld i H x H' → g x (wipe σ vs) H' fun σ2 H2 => wipe σ2 vs = wipe σ vs ∧ tt σ2 H2 fun b H3 =>
        if b = true then te σ2 H3 fun y H4 => ∃ acc, H4 D = some (.lst acc) ∧ acc.length < sizeLine ∧ N (upd H4 D (.lst (acc ++ [y]))) else N H3) := by
  refine lc_it w (fun i H' => L H1 H' ∧ ∃ ys, H' D = some (.lst ys) ∧ ys.length ≤ i ∧ F2 (fun i y => R i y H') ((List.range i).filter f) ys) ⟨Pre.new hD, [], upd_same, Nat.le_refl _, .nil⟩ (fun i H' _ p => hG H' p.1) (fun i x H' H'' hi p y => ?_) fun H' ⟨p1, ys, p2, _, p3⟩ => hd H' ys p1 p2 p3
  obtain ⟨p1, ys, p2, p4, p3⟩ := p
  refine hs i x H' H'' hi p1 ⟨ys, p2⟩ y _ fun σ2 H2 hw e2 ht he => ⟨hw, ?_⟩
  refine ht H2 (Pre.refl H2) _ fun H3 e3 => ?_
  have e13 : L H1 H3 := Pre.trans p1 (Pre.trans e2 e3)
  have e23 : L H' H3 := Pre.trans e2 e3
  cases hf : f i with
  | true =>
    show te σ2 H3 fun y H4 => _
    refine he hf H3 e3 _ fun y H4 e4 r4 => ?_
    have hD4 := Pre.lst (Pre.trans e23 e4) p2
    refine ⟨ys, hD4, sz_lt (by omega), Pre.wr (Pre.trans e13 e4) hD hD4, ys ++ [y], upd_same, by simp; omega, ?_⟩
    rw [rng_yes hf]
    exact F2.snoc (p3.imp fun j v _ r => hu j v _ _ _ (hm j v _ _ (Pre.trans e23 e4) r) hD4) (hu i y _ _ _ r4 hD4)
  | false =>
    show _ ∧ _
    refine ⟨e13, ys, Pre.lst e23 p2, by omega, ?_⟩
    rw [rng_no hf]
    exact p3.imp fun j v _ r => hm j v _ _ e23 r
/-! targets -/
theorem g_two {K : PySem.W.Frag} {σ : L2.St} {H : Hp} {T : Addr} {x y : V} {i j : Nat} {Q : L2.St → Hp → Prop} (h : SqT K H T [x, y]) (q : Q ((σ.set i (some x)).set j (some y)) H) : gTup K 2 (gCons (gName i) (gCons (gName j) gNil)) (.ref T) σ H Q :=
  ⟨T, [x, y], rfl, h, rfl, x, [y], rfl, y, [], rfl, rfl, q⟩
theorem g_three {K : PySem.W.Frag} {σ : L2.St} {H : Hp} {T : Addr} {x y z : V} {i j k : Nat} {Q : L2.St → Hp → Prop} (h : SqT K H T [x, y, z]) (q : Q (((σ.set i (some x)).set j (some y)).set k (some z)) H) : gTup K 3 (gCons (gName i) (gCons (gName j) (gCons (gName k) gNil))) (.ref T) σ H Q :=
  ⟨T, [x, y, z], rfl, h, rfl, x, [y, z], rfl, y, [z], rfl, z, [], rfl, rfl, q⟩
/-- the values of a comprehension that gives things that stand whatever lists are written -/
abbrev OutR (R : Nat → Rp) (n : Nat) (f : Nat → Bool) : List V → Hp → Prop := fun ys H => F2 (fun i y => R i y H) ((List.range n).filter f) ys
end
section
variable {L : Hp → Hp → Prop} [PreB L] {K : PySem.W.Frag} {σ : L2.St} {H : Hp}
section
variable {tt : TT} {te tl : TE} {vs : List Nat} {n : Nat}
/-- over a list, the target a name -/
theorem er_lcL {a : Addr} {xs : List V} {j : Nat} (f : Nat → Bool) (R : Nat → Rp) (hm : ∀ i, Mo L (R i)) (hu : ∀ i, Stb (R i)) (h : EvV L tl σ H (.ref a)) (hx : ∀ H1, L H H1 → SqL K H1 a xs) (hz : xs.length ≤ 40000) (hw : ∀ x, wipe ((wipe σ vs).set j (some x)) vs = wipe σ vs)
    (hs : ∀ (i : Nat) (x : V) H1, L H H1 → xs[i]? = some x → EvB L tt ((wipe σ vs).set j (some x)) H1 (f i) ∧ (f i = true → EvR L te ((wipe σ vs).set j (some x)) H1 (R i))) :
    EvN L (tLc (iList K tl) (gName j) tt te vs) σ H (OutR R xs.length f) := fun H0 e Q q => h H0 e _ fun H1 e1 => ⟨a, rfl, ⟨xs, hx H1 (Pre.trans e e1)⟩, fun Dl hD =>
  lc_gen (walk_list (xs := xs)) hD f R hm (fun i y H xs ys r hd => hu i y H Dl xs ys r hd) hz (fun H' e' => hx H' (Pre.trans e (Pre.trans e1 e'))) (fun i x H' H'' hi e' hDl y Q k => by
    obtain ⟨rfl, hy⟩ := y
    obtain ⟨h1, h2⟩ := hs i x H'' (Pre.trans e (Pre.trans e1 e')) hy
    exact k _ _ (hw x) (Pre.refl _) h1 h2) fun H' ys e' h' r => q Dl ys H' (PreB.back e1 hD) (Pre.trans e1 e') h' r⟩
/-- over a new list -/
theorem er_lcN {P : List V → Hp → Prop} {xs : List V} {j : Nat} (f : Nat → Bool) (R : Nat → Rp) (hm : ∀ i, Mo L (R i)) (hu : ∀ i, Stb (R i)) (h : EvN L tl σ H (fun ys H => ys = xs ∧ P ys H)) (hz : xs.length ≤ 40000) (hw : ∀ x, wipe ((wipe σ vs).set j (some x)) vs = wipe σ vs)
    (hs : ∀ (i : Nat) (x : V) H1, L H H1 → xs[i]? = some x → EvB L tt ((wipe σ vs).set j (some x)) H1 (f i) ∧ (f i = true → EvR L te ((wipe σ vs).set j (some x)) H1 (R i))) :
    EvN L (tLc (iList K tl) (gName j) tt te vs) σ H (OutR R xs.length f) := fun H0 e Q q => h H0 e _ fun a ys H1 ha e1 h1 ⟨ey, _⟩ => ⟨a, rfl, ⟨xs, by rw [← ey]; exact sq_of h1⟩, fun Dl hD =>
  lc_gen (walk_list (xs := xs)) hD f R hm (fun i y H xs ys r hd => hu i y H Dl xs ys r hd) hz (fun H' e' => by rw [← ey]; exact sq_of (Pre.lst e' h1)) (fun i x H' H'' hi e' hDl y Q k => by
    obtain ⟨rfl, hy⟩ := y
    obtain ⟨h1, h2⟩ := hs i x H'' (Pre.trans e (Pre.trans e1 e')) hy
    exact k _ _ (hw x) (Pre.refl _) h1 h2) fun H' ys e' h' r => q Dl ys H' (PreB.back e1 hD) (Pre.trans e1 e') h' r⟩
/-- range(lo, hi), the target a name -/
theorem er_lcR {ta : TA} {lo hi : Int} {j : Nat} (f : Nat → Bool) (R : Nat → Rp) (hm : ∀ i, Mo L (R i)) (hu : ∀ i, Stb (R i)) (h : ∀ H1, L H H1 → ∀ Q : List V → Hp → Prop, (∀ H2, L H1 H2 → Q [.int lo, .int hi] H2) → ta σ H1 Q) (hb : 0 ≤ lo ∧ lo ≤ 10000 ∧ 0 ≤ hi ∧ hi ≤ 10000) (hw : ∀ x, wipe ((wipe σ vs).set j (some x)) vs = wipe σ vs)
    (hs : ∀ (i : Nat) H1, L H H1 → i < (hi - lo).toNat → EvB L tt ((wipe σ vs).set j (some (.int (lo + (i : Int))))) H1 (f i) ∧ (f i = true → EvR L te ((wipe σ vs).set j (some (.int (lo + (i : Int))))) H1 (R i))) :
    EvN L (tLc (iRng2 ta) (gName j) tt te vs) σ H (OutR R (hi - lo).toNat f) := fun H0 e Q q => h H0 e _ fun H1 e1 => ⟨lo, hi, rfl, ⟨by omega, by omega, by omega, by omega⟩, fun Dl hD =>
  lc_gen (walk_range (lo := lo) (n := (hi - lo).toNat)) hD f R hm (fun i y H xs ys r hd => hu i y H Dl xs ys r hd) (by omega) (fun H' e' => trivial) (fun i x H' H'' hi e' hDl y Q k => by
    obtain ⟨rfl, rfl⟩ := y
    obtain ⟨h1, h2⟩ := hs i H'' (Pre.trans e (Pre.trans e1 e')) hi
    exact k _ _ (hw _) (Pre.refl _) h1 h2) fun H' ys e' h' r => q Dl ys H' (PreB.back e1 hD) (Pre.trans e1 e') h' r⟩
/-- zip of two lists, the target two names -/
theorem er_lcZ {ta : TA} {a b : Addr} {xs ys : List V} {j k : Nat} (f : Nat → Bool) (R : Nat → Rp) (hm : ∀ i, Mo L (R i)) (hu : ∀ i, Stb (R i)) (h : ∀ H1, L H H1 → ∀ Q : List V → Hp → Prop, (∀ H2, L H1 H2 → Q [.ref a, .ref b] H2) → ta σ H1 Q) (hx : ∀ H1, L H H1 → SqL K H1 a xs ∧ SqL K H1 b ys) (hz : xs.length ≤ 40000)
    (hw : ∀ x y, wipe (((wipe σ vs).set j (some x)).set k (some y)) vs = wipe σ vs)
    (hs : ∀ (i : Nat) (x y : V) H1, L H H1 → xs[i]? = some x → ys[i]? = some y → EvB L tt (((wipe σ vs).set j (some x)).set k (some y)) H1 (f i) ∧ (f i = true → EvR L te (((wipe σ vs).set j (some x)).set k (some y)) H1 (R i))) :
    EvN L (tLc (iZip K ta) (gTup K 2 (gCons (gName j) (gCons (gName k) gNil))) tt te vs) σ H (OutR R (min xs.length ys.length) f) := fun H0 e Q q => h H0 e _ fun H1 e1 => ⟨a, b, xs, ys, rfl, (hx H1 (Pre.trans e e1)).1, (hx H1 (Pre.trans e e1)).2, fun Dl hD =>
  lc_gen (walk_zip (xs := xs) (ys := ys) rfl) hD f R hm (fun i y H xs ys r hd => hu i y H Dl xs ys r hd) (by omega) (fun H' e' => hx H' (Pre.trans e (Pre.trans e1 e'))) (fun i x H' H'' hi e' hDl y Q kk => by
    obtain ⟨T, x', y', rfl, hT, rfl, hx', hy'⟩ := y
    have eN : L H' (upd H' T (.tup [x', y'])) := Pre.new hT
    obtain ⟨h1, h2⟩ := hs i x' y' _ (Pre.trans e (Pre.trans e1 (Pre.trans e' eN))) hx' hy'
    exact g_two (st_of upd_same) (kk _ _ (hw _ _) eN h1 h2)) fun H' ys e' h' r => q Dl ys H' (PreB.back e1 hD) (Pre.trans e1 e') h' r⟩
/-- enumerate(list, start=k), the target two names -/
theorem er_lcE {ta tk : TA} {a : Addr} {xs : List V} {j k : Nat} {k0 : Int} (f : Nat → Bool) (R : Nat → Rp) (hm : ∀ i, Mo L (R i)) (hu : ∀ i, Stb (R i)) (h : ∀ H1, L H H1 → ∀ Q : List V → Hp → Prop, (∀ H2, L H1 H2 → Q [.ref a] H2) → ta σ H1 Q) (hk : ∀ H1, L H H1 → ∀ Q : List V → Hp → Prop, (∀ H2, L H1 H2 → Q [.int k0] H2) → tk σ H1 Q)
    (hb : 0 ≤ k0 ∧ k0 ≤ 1000) (hx : ∀ H1, L H H1 → SqL K H1 a xs) (hz : xs.length ≤ 40000)
    (hw : ∀ x y, wipe (((wipe σ vs).set j (some x)).set k (some y)) vs = wipe σ vs)
    (hs : ∀ (i : Nat) (y : V) H1, L H H1 → xs[i]? = some y → EvB L tt (((wipe σ vs).set j (some (.int (k0 + (i : Nat))))).set k (some y)) H1 (f i) ∧ (f i = true → EvR L te (((wipe σ vs).set j (some (.int (k0 + (i : Nat))))).set k (some y)) H1 (R i))) :
    EvN L (tLc (iEnumS K ta tk) (gTup K 2 (gCons (gName j) (gCons (gName k) gNil))) tt te vs) σ H (OutR R xs.length f) := fun H0 e Q q => h H0 e _ fun H1 e1 => hk H1 (Pre.trans e e1) _ fun H2 e2 => ⟨a, xs, k0, rfl, rfl, hx H2 (Pre.trans e (Pre.trans e1 e2)), by omega, by omega, fun Dl hD =>
  lc_gen (walk_enumS (xs := xs)) hD f R hm (fun i y H xs ys r hd => hu i y H Dl xs ys r hd) (by omega) (fun H' e' => hx H' (Pre.trans e (Pre.trans e1 (Pre.trans e2 e')))) (fun i x H' H'' hi e' hDl y Q kk => by
    obtain ⟨T, x', y', rfl, hT, rfl, hx', hy'⟩ := y
    cases hx'
    have eN : L H' (upd H' T (.tup [.int (k0 + (i : Nat)), y'])) := Pre.new hT
    obtain ⟨h1, h2⟩ := hs i y' _ (Pre.trans e (Pre.trans e1 (Pre.trans e2 (Pre.trans e' eN)))) hy'
    exact g_two (st_of upd_same) (kk _ _ (hw _ _) eN h1 h2)) fun H' ys e' h' r => q Dl ys H' (PreB.back (Pre.trans e1 e2) hD) (Pre.trans e1 (Pre.trans e2 e')) h' r⟩
/-- over a list of triples, the target three names -/
theorem er_lc3 {a : Addr} {ts : List Addr} {xs : List (V × V × V)} {j k l : Nat} (f : Nat → Bool) (R : Nat → Rp) (hm : ∀ i, Mo L (R i)) (hu : ∀ i, Stb (R i)) (h : EvV L tl σ H (.ref a)) (hx : ∀ H1, L H H1 → SqL K H1 a (ts.map V.ref) ∧ F2 (fun t (x : V × V × V) => H1 t = some (.tup [x.1, x.2.1, x.2.2])) ts xs) (hz : xs.length ≤ 40000)
    (hw : ∀ x y z, wipe ((((wipe σ vs).set j (some x)).set k (some y)).set l (some z)) vs = wipe σ vs)
    (hs : ∀ (i : Nat) (x : V × V × V) H1, L H H1 → xs[i]? = some x → EvB L tt ((((wipe σ vs).set j (some x.1)).set k (some x.2.1)).set l (some x.2.2)) H1 (f i) ∧ (f i = true → EvR L te ((((wipe σ vs).set j (some x.1)).set k (some x.2.1)).set l (some x.2.2)) H1 (R i))) :
    EvN L (tLc (iList K tl) (gTup K 3 (gCons (gName j) (gCons (gName k) (gCons (gName l) gNil)))) tt te vs) σ H (OutR R xs.length f) := fun H0 e Q q => h H0 e _ fun H1 e1 => by
  have hl : (ts.map V.ref).length = xs.length := by rw [List.length_map]; exact (hx H1 (Pre.trans e e1)).2.len
  refine ⟨a, rfl, ⟨_, (hx H1 (Pre.trans e e1)).1⟩, fun Dl hD => lc_gen (walk_list (xs := ts.map V.ref)) hD f R hm (fun i y H xs ys r hd => hu i y H Dl xs ys r hd) (by omega) (fun H' e' => (hx H' (Pre.trans e (Pre.trans e1 e'))).1) (fun i x H' H'' hi e' hDl y Q kk => ?_) fun H' ys e' h' r => ?_⟩
  · obtain ⟨rfl, hy⟩ := y
    rw [List.getElem?_map] at hy
    cases ht : ts[i]? with
    | none => rw [ht] at hy; cases hy
    | some t =>
      rw [ht] at hy
      cases hy
      obtain ⟨x, hx1, hx2⟩ := (hx H'' (Pre.trans e (Pre.trans e1 e'))).2.get ht
      obtain ⟨h1, h2⟩ := hs i x H'' (Pre.trans e (Pre.trans e1 e')) hx1
      exact g_three (st_of hx2) (kk _ _ (hw _ _ _) (Pre.refl _) h1 h2)
  · rw [hl] at r
    exact q Dl ys H' (PreB.back e1 hD) (Pre.trans e1 e') h' r
end
/-! ### comprehensions that give new lists -/
def PMo (L : Hp → Hp → Prop) (P : List V → Hp → Prop) : Prop := ∀ ys H H', L H H' → P ys H → P ys H'
def PSt (P : List V → Hp → Prop) : Prop := ∀ ys H p xs zs, P ys H → H p = some (.lst xs) → P ys (upd H p (.lst zs))
/-- a list told by P, elsewhere than D -/
def NewL (D : Addr) (P : List V → Hp → Prop) : Rp := fun v H => ∃ p ys, v = .ref p ∧ p ≠ D ∧ H p = some (.lst ys) ∧ P ys H
abbrev OutL (P : Nat → List V → Hp → Prop) (n : Nat) : List V → Hp → Prop := fun ys H => F2 (fun i y => ∃ p zs, y = .ref p ∧ H p = some (.lst zs) ∧ P i zs H) (List.range n) ys
theorem newL_mo {D : Addr} {P : List V → Hp → Prop} (h : PMo L P) : Mo L (NewL D P) := fun v H H' e ⟨p, ys, e1, e2, e3, e4⟩ => ⟨p, ys, e1, e2, Pre.lst e e3, h ys H H' e e4⟩
theorem newL_st {D : Addr} {P : List V → Hp → Prop} (h : PSt P) {v : V} {H : Hp} {xs ys : List V} (r : NewL D P v H) (hD : H D = some (.lst xs)) : NewL D P v (upd H D (.lst ys)) := by
  obtain ⟨p, zs, e1, e2, e3, e4⟩ := r
  exact ⟨p, zs, e1, e2, (upd_ne e2).trans e3, h zs H D xs ys e4 hD⟩
theorem newL_ev {te : TE} {σ : L2.St} {H : Hp} {D : Addr} {P : List V → Hp → Prop} (h : EvN L te σ H P) (hD : ∃ xs, H D = some (.lst xs)) : EvR L te σ H (NewL D P) := fun H1 e Q q => h H1 e Q fun p ys H2 hp e2 h2 hP => by
  refine q _ H2 e2 ⟨p, ys, rfl, fun z => ?_, h2, hP⟩
  obtain ⟨xs, hD⟩ := hD
  rw [z, Pre.lst e hD] at hp
  cases hp
theorem rng_all (n : Nat) : (List.range n).filter (fun _ => true) = List.range n := List.filter_eq_self.mpr fun _ _ => rfl
section
variable {te tl : TE} {vs : List Nat} {n : Nat}
theorem er_lcLN {a : Addr} {xs : List V} {j : Nat} (P : Nat → List V → Hp → Prop) (hm : ∀ i, PMo L (P i)) (hu : ∀ i, PSt (P i)) (h : EvV L tl σ H (.ref a)) (hx : ∀ H1, L H H1 → SqL K H1 a xs) (hz : xs.length ≤ 40000) (hw : ∀ x, wipe ((wipe σ vs).set j (some x)) vs = wipe σ vs)
    (hs : ∀ (i : Nat) (x : V) H1, L H H1 → xs[i]? = some x → EvN L te ((wipe σ vs).set j (some x)) H1 (P i)) :
    EvN L (tLc (iList K tl) (gName j) tYes te vs) σ H (OutL P xs.length) := fun H0 e Q q => h H0 e _ fun H1 e1 => ⟨a, rfl, ⟨xs, hx H1 (Pre.trans e e1)⟩, fun Dl hD =>
  lc_gen (walk_list (xs := xs)) hD (fun _ => true) (fun i => NewL Dl (P i)) (fun i => newL_mo (hm i)) (fun i y H xs ys r hd => newL_st (hu i) r hd) hz (fun H' e' => hx H' (Pre.trans e (Pre.trans e1 e'))) (fun i x H' H'' hi e' hDl y Q k => by
    obtain ⟨rfl, hy⟩ := y
    exact k _ _ (hw x) (Pre.refl _) eb_yes fun _ => newL_ev (hs i x H'' (Pre.trans e (Pre.trans e1 e')) hy) hDl) fun H' ys e' h' r => q Dl ys H' (PreB.back e1 hD) (Pre.trans e1 e') h' (by
      rw [rng_all] at r
      exact r.imp fun i y _ ⟨p, zs, e1, _, e3, e4⟩ => ⟨p, zs, e1, e3, e4⟩)⟩
theorem er_lcZN {ta : TA} {a b : Addr} {xs ys : List V} {j k : Nat} (P : Nat → List V → Hp → Prop) (hm : ∀ i, PMo L (P i)) (hu : ∀ i, PSt (P i)) (h : ∀ H1, L H H1 → ∀ Q : List V → Hp → Prop, (∀ H2, L H1 H2 → Q [.ref a, .ref b] H2) → ta σ H1 Q) (hx : ∀ H1, L H H1 → SqL K H1 a xs ∧ SqL K H1 b ys) (hz : xs.length ≤ 40000)
    (hw : ∀ x y, wipe (((wipe σ vs).set j (some x)).set k (some y)) vs = wipe σ vs)
    (hs : ∀ (i : Nat) (x y : V) H1, L H H1 → xs[i]? = some x → ys[i]? = some y → EvN L te (((wipe σ vs).set j (some x)).set k (some y)) H1 (P i)) :
    EvN L (tLc (iZip K ta) (gTup K 2 (gCons (gName j) (gCons (gName k) gNil))) tYes te vs) σ H (OutL P (min xs.length ys.length)) := fun H0 e Q q => h H0 e _ fun H1 e1 => ⟨a, b, xs, ys, rfl, (hx H1 (Pre.trans e e1)).1, (hx H1 (Pre.trans e e1)).2, fun Dl hD =>
  lc_gen (walk_zip (xs := xs) (ys := ys) rfl) hD (fun _ => true) (fun i => NewL Dl (P i)) (fun i => newL_mo (hm i)) (fun i y H xs ys r hd => newL_st (hu i) r hd) (by omega) (fun H' e' => hx H' (Pre.trans e (Pre.trans e1 e'))) (fun i x H' H'' hi e' hDl y Q kk => by
    obtain ⟨T, x', y', rfl, hT, rfl, hx', hy'⟩ := y
    have eN : L H' (upd H' T (.tup [x', y'])) := Pre.new hT
    have hDl' : ∃ xs, (upd H' T (.tup [x', y'])) Dl = some (.lst xs) := hDl.imp fun xs h => Pre.lst eN h
    exact g_two (st_of upd_same) (kk _ _ (hw _ _) eN eb_yes fun _ => newL_ev (hs i x' y' _ (Pre.trans e (Pre.trans e1 (Pre.trans e' eN))) hx' hy') hDl')) fun H' ys e' h' r => q Dl ys H' (PreB.back e1 hD) (Pre.trans e1 e') h' (by
      rw [rng_all] at r
      exact r.imp fun i y _ ⟨p, zs, e1, _, e3, e4⟩ => ⟨p, zs, e1, e3, e4⟩)⟩
end
end
/-! ### promises -/
/-- the arguments told by A, then what R tells, all else as it was -/
def spE {α : Type} (A : α → List V → Hp → Prop) (R : α → Rp) : Sp := fun vs H Q _ => ∃ a, A a vs H ∧ ∀ v H', Ex H H' → R a v H' → Q v H'
/-- a new list -/
def spN {α : Type} (A : α → List V → Hp → Prop) (P : α → List V → Hp → Prop) : Sp := fun vs H Q _ => ∃ a, A a vs H ∧ ∀ p ys H', H p = none → Ex H H' → H' p = some (.lst ys) → P a ys H' → Q (.ref p) H'
end WG
/-! The best ways are short: no step of the expression comes to a node twice. -/
namespace WM
open Gq01
abbrev PStep := List Nat × Step
def tag (i : Nat) (s : PStep) : PStep := (i :: s.1, s.2)
/-- a way, and with each step its place in the expression -/
inductive GP (g : Graph) : E → Nat → List PStep → Nat → Prop where
  | stay (x : Nat) : x ∈ nodes g → GP g .stay x [] x
  | fwd (a x y : Nat) : ⟨x, a, y⟩ ∈ g.edges → GP g (.fwd a) x [([], (2 * a, y))] y
  | back (a x y : Nat) : ⟨y, a, x⟩ ∈ g.edges → GP g (.back a) x [([], (2 * a + 1, y))] y
  | kind (k x : Nat) : x ∈ nodes g → hasKind g x k = true → GP g (.kind k) x [] x
  | seq (e f : E) (x y z : Nat) (v w : List PStep) : GP g e x v y → GP g f y w z → GP g (.seq e f) x (v.map (tag 0) ++ w.map (tag 1)) z
  | left (e f : E) (x y : Nat) (v : List PStep) : GP g e x v y → GP g (.alt e f) x (v.map (tag 0)) y
  | right (e f : E) (x y : Nat) (v : List PStep) : GP g f x v y → GP g (.alt e f) x (v.map (tag 1)) y
  | none (e : E) (x : Nat) : x ∈ nodes g → GP g (.star e) x [] x
  | more (e : E) (x y z : Nat) (v w : List PStep) : GP g (.star e) x v y → GP g e y w z → GP g (.star e) x (v ++ w) z
  | has (e : E) (x y : Nat) (v : Way) : Goes g e x v y → GP g (.has e) x [] x
theorem snd_tag (i : Nat) (v : List PStep) : (v.map (tag i)).map (·.2) = v.map (·.2) := by
  rw [List.map_map]
  rfl
theorem gp_goes {g : Graph} {e : E} {x y : Nat} {v : List PStep} (h : GP g e x v y) : Goes g e x (v.map (·.2)) y := by
  induction h with
  | stay x hx => exact .stay x hx
  | fwd a x y h => exact .fwd a x y h
  | back a x y h => exact .back a x y h
  | kind k x hx h => exact .kind k x hx h
  | seq e f x y z v w _ _ i j =>
    rw [List.map_append, snd_tag, snd_tag]
    exact .seq e f x y z _ _ i j
  | left e f x y v _ i => rw [snd_tag]; exact .left e f x y _ i
  | right e f x y v _ i => rw [snd_tag]; exact .right e f x y _ i
  | none e x hx => exact .none e x hx
  | more e x y z v w _ _ i j => rw [List.map_append]; exact .more e x y z _ _ i j
  | has e x y v h => exact .has e x y v h
theorem goes_gp {g : Graph} {e : E} {x y : Nat} {w : Way} (h : Goes g e x w y) : ∃ v, GP g e x v y ∧ v.map (·.2) = w := by
  induction h with
  | stay x hx => exact ⟨[], .stay x hx, rfl⟩
  | fwd a x y h => exact ⟨_, .fwd a x y h, rfl⟩
  | back a x y h => exact ⟨_, .back a x y h, rfl⟩
  | kind k x hx h => exact ⟨[], .kind k x hx h, rfl⟩
  | seq e f x y z v w _ _ i j =>
    obtain ⟨v', h1, rfl⟩ := i
    obtain ⟨w', h2, rfl⟩ := j
    exact ⟨_, .seq e f x y z v' w' h1 h2, by rw [List.map_append, snd_tag, snd_tag]⟩
  | left e f x y v _ i =>
    obtain ⟨v', h1, rfl⟩ := i
    exact ⟨_, .left e f x y v' h1, snd_tag ..⟩
  | right e f x y v _ i =>
    obtain ⟨v', h1, rfl⟩ := i
    exact ⟨_, .right e f x y v' h1, snd_tag ..⟩
  | none e x hx => exact ⟨[], .none e x hx, rfl⟩
  | more e x y z v w _ _ i j =>
    obtain ⟨v', h1, rfl⟩ := i
    obtain ⟨w', h2, rfl⟩ := j
    exact ⟨_, .more e x y z v' w' h1 h2, List.map_append⟩
  | has e x y v h => exact ⟨[], .has e x y v h, rfl⟩
theorem split_at {α : Type} {a b u r : List α} {s : α} (h : a ++ b = u ++ s :: r) : (∃ r1, a = u ++ s :: r1 ∧ r = r1 ++ b) ∨ ∃ u1, u = a ++ u1 ∧ b = u1 ++ s :: r := by
  rcases List.append_eq_append_iff.mp h with ⟨c, h1, h2⟩ | ⟨c, h1, h2⟩
  · exact .inr ⟨c, h1, h2⟩
  · cases c with
    | nil =>
      rw [List.append_nil] at h1
      exact .inr ⟨[], by rw [List.append_nil, h1], h2.symm⟩
    | cons d c =>
      rw [List.cons_append] at h2
      injection h2 with h3 h4
      subst h3
      exact .inl ⟨c, h1, h4⟩
theorem split_map {α β : Type} {f : α → β} {l : List α} {u r : List β} {s : β} (h : l.map f = u ++ s :: r) : ∃ l1 a l2, l = l1 ++ a :: l2 ∧ u = l1.map f ∧ s = f a ∧ r = l2.map f := by
  obtain ⟨l1, l', h1, h2, h3⟩ := List.map_eq_append_iff.mp h
  obtain ⟨a, l2, h4, h5, h6⟩ := List.map_eq_cons_iff.mp h3
  exact ⟨l1, a, l2, by rw [h1, h4], h2.symm, h5.symm, h6.symm⟩
theorem gp_nodes {g : Graph} (v : Valid g) {e : E} {x y : Nat} {w : List PStep} (h : GP g e x w y) : x ∈ nodes g ∧ y ∈ nodes g := goes_nodes v (gp_goes h)
theorem star_app {g : Graph} {e : E} {x y z : Nat} {v w : List PStep} (h : GP g (.star e) x v y) (k : GP g (.star e) y w z) : GP g (.star e) x (v ++ w) z := by
  generalize hs : E.star e = s at k
  induction k with
  | none e' x hx => cases hs; rw [List.append_nil]; exact h
  | more e' x' y' z' v' w' _ h2 ih _ =>
    cases hs
    rw [← List.append_assoc]
    exact .more e _ y' z' _ _ (ih h rfl) h2
  | _ => cases hs
theorem star_at {g : Graph} (vg : Valid g) {e : E} {x y : Nat} {l : List PStep} (h : GP g (.star e) x l y) : ∀ {u r : List PStep} {s : PStep}, l = u ++ s :: r → ∃ a b u0 u1 r1 r2, u = u0 ++ u1 ∧ r = r1 ++ r2 ∧ GP g (.star e) x u0 a ∧ GP g e a (u1 ++ s :: r1) b ∧ GP g (.star e) b r2 y := by
  generalize hs : E.star e = st at h
  induction h with
  | none e' x hx => intro u r s h; simp at h
  | more e' x y z v w h1 h2 ih _ =>
    cases hs
    intro u r s hl
    rcases split_at hl with ⟨r1, e1, e2⟩ | ⟨u1, e1, e2⟩
    · obtain ⟨a, b, u0, u1, r3, r4, q1, q2, q3, q4, q5⟩ := ih rfl e1
      exact ⟨a, b, u0, u1, r3, r4 ++ w, q1, by rw [e2, q2, List.append_assoc], q3, q4, .more e b y z r4 w q5 h2⟩
    · subst e2
      exact ⟨y, z, v, u1, r, [], e1, by simp, h1, h2, .none e z (gp_nodes vg h2).2⟩
  | _ => cases hs
/-- what follows a step at a place and a node may follow it at the same place and node elsewhere -/
theorem cross {g : Graph} (vg : Valid g) : ∀ (e : E) {x y x' y' : Nat} {u r u' t : List PStep} {s s' : PStep}, GP g e x (u ++ s :: r) y → GP g e x' (u' ++ s' :: t) y' → s.1 = s'.1 → s.2.2 = s'.2.2 → GP g e x (u ++ s :: t) y'
  | .stay, x, y, x', y', u, r, u', t, s, s', h, _, _, _ => by
    generalize hl : u ++ s :: r = l at h
    cases h
    simp at hl
  | .kind k, x, y, x', y', u, r, u', t, s, s', h, _, _, _ => by
    generalize hl : u ++ s :: r = l at h
    cases h
    simp at hl
  | .has e, x, y, x', y', u, r, u', t, s, s', h, _, _, _ => by
    generalize hl : u ++ s :: r = l at h
    cases h
    simp at hl
  | .fwd a, x, y, x', y', u, r, u', t, s, s', h, k, _, hn => by
    generalize hl : u ++ s :: r = l at h
    generalize hm : u' ++ s' :: t = m at k
    cases h with
    | fwd _ _ _ he =>
    cases k with
    | fwd _ _ _ he' =>
    cases u with
    | cons b u => simp at hl
    | nil =>
    cases u' with
    | cons b u => simp at hm
    | nil =>
      simp at hl hm
      obtain ⟨rfl, rfl⟩ := hl
      obtain ⟨rfl, rfl⟩ := hm
      have hn : y = y' := hn
      subst hn
      exact .fwd a x y he
  | .back a, x, y, x', y', u, r, u', t, s, s', h, k, _, hn => by
    generalize hl : u ++ s :: r = l at h
    generalize hm : u' ++ s' :: t = m at k
    cases h with
    | back _ _ _ he =>
    cases k with
    | back _ _ _ he' =>
    cases u with
    | cons b u => simp at hl
    | nil =>
    cases u' with
    | cons b u => simp at hm
    | nil =>
      simp at hl hm
      obtain ⟨rfl, rfl⟩ := hl
      obtain ⟨rfl, rfl⟩ := hm
      have hn : y = y' := hn
      subst hn
      exact .back a x y he
  | .seq e f, x, y, x', y', u, r, u', t, s, s', h, k, hp, hn => by
    generalize hl : u ++ s :: r = l at h
    generalize hm : u' ++ s' :: t = m at k
    cases h with
    | seq _ _ _ z _ v w h1 h2 =>
    cases k with
    | seq _ _ _ z' _ v' w' k1 k2 =>
    rcases split_at hl.symm with ⟨r1, e1, e2⟩ | ⟨u1, e1, e2⟩
    · obtain ⟨v1, s0, v2, ev, eu, es, er⟩ := split_map e1
      rcases split_at hm.symm with ⟨t1, f1, f2⟩ | ⟨u1', f1, f2⟩
      · obtain ⟨v1', s0', v2', ev', eu', es', er'⟩ := split_map f1
        subst ev ev' es es'
        have c := cross vg e h1 k1 (by simpa [tag] using hp) (by simpa [tag] using hn)
        have q := GP.seq e f x z' y' _ w' c k2
        rw [List.map_append, List.map_cons, List.append_assoc, List.cons_append, ← er', ← f2, ← eu] at q
        exact q
      · obtain ⟨v1', s0', v2', ev', eu', es', er'⟩ := split_map f2
        subst es es'
        simp [tag] at hp
    · obtain ⟨v1, s0, v2, ev, eu, es, er⟩ := split_map e2
      rcases split_at hm.symm with ⟨t1, f1, f2⟩ | ⟨u1', f1, f2⟩
      · obtain ⟨v1', s0', v2', ev', eu', es', er'⟩ := split_map f1
        subst es es'
        simp [tag] at hp
      · obtain ⟨v1', s0', v2', ev', eu', es', er'⟩ := split_map f2
        subst ev ev' es es'
        have c := cross vg f h2 k2 (by simpa [tag] using hp) (by simpa [tag] using hn)
        have q := GP.seq e f x z y' v _ h1 c
        rw [List.map_append, List.map_cons, ← er', ← eu, ← List.append_assoc, ← e1] at q
        exact q
  | .alt e f, x, y, x', y', u, r, u', t, s, s', h, k, hp, hn => by
    generalize hl : u ++ s :: r = l at h
    generalize hm : u' ++ s' :: t = m at k
    cases h with
    | left _ _ _ _ v h1 =>
      obtain ⟨v1, s0, v2, ev, eu, es, er⟩ := split_map hl.symm
      cases k with
      | left _ _ _ _ v' k1 =>
        obtain ⟨v1', s0', v2', ev', eu', es', er'⟩ := split_map hm.symm
        subst ev ev' es es'
        have c := cross vg e h1 k1 (by simpa [tag] using hp) (by simpa [tag] using hn)
        have q := GP.left e f x y' _ c
        rw [List.map_append, List.map_cons, ← er', ← eu] at q
        exact q
      | right _ _ _ _ v' k1 =>
        obtain ⟨v1', s0', v2', ev', eu', es', er'⟩ := split_map hm.symm
        subst es es'
        simp [tag] at hp
    | right _ _ _ _ v h1 =>
      obtain ⟨v1, s0, v2, ev, eu, es, er⟩ := split_map hl.symm
      cases k with
      | left _ _ _ _ v' k1 =>
        obtain ⟨v1', s0', v2', ev', eu', es', er'⟩ := split_map hm.symm
        subst es es'
        simp [tag] at hp
      | right _ _ _ _ v' k1 =>
        obtain ⟨v1', s0', v2', ev', eu', es', er'⟩ := split_map hm.symm
        subst ev ev' es es'
        have c := cross vg f h1 k1 (by simpa [tag] using hp) (by simpa [tag] using hn)
        have q := GP.right e f x y' _ c
        rw [List.map_append, List.map_cons, ← er', ← eu] at q
        exact q
  | .star e, x, y, x', y', u, r, u', t, s, s', h, k, hp, hn => by
    obtain ⟨a, b, u0, u1, r1, r2, q1, q2, q3, q4, q5⟩ := star_at vg h rfl
    obtain ⟨a', b', u0', u1', t1, t2, p1, p2, p3, p4, p5⟩ := star_at vg k rfl
    have c := cross vg e q4 p4 hp hn
    have q := star_app (GP.more e x a b' u0 _ q3 c) p5
    have el : u0 ++ (u1 ++ s :: t1) ++ t2 = u ++ s :: t := by rw [q1, p2]; simp
    rw [el] at q
    exact q
/-- how many parts an expression has -/
def szE : E → Nat
  | .stay => 1
  | .fwd _ => 1
  | .back _ => 1
  | .kind _ => 1
  | .seq e f => szE e + szE f + 1
  | .alt e f => szE e + szE f + 1
  | .star e => szE e + 1
  | .has e => szE e + 1
def poss : E → List (List Nat)
  | .stay => []
  | .fwd _ => [[]]
  | .back _ => [[]]
  | .kind _ => []
  | .seq e f => (poss e).map (0 :: ·) ++ (poss f).map (1 :: ·)
  | .alt e f => (poss e).map (0 :: ·) ++ (poss f).map (1 :: ·)
  | .star e => poss e
  | .has _ => []
theorem poss_len : ∀ e : E, (poss e).length ≤ szE e
  | .stay => by decide
  | .fwd _ => Nat.le_refl 1
  | .back _ => Nat.le_refl 1
  | .kind _ => Nat.zero_le _
  | .seq e f => by
    have h1 := poss_len e
    have h2 := poss_len f
    simp only [poss, szE, List.length_append, List.length_map]
    omega
  | .alt e f => by
    have h1 := poss_len e
    have h2 := poss_len f
    simp only [poss, szE, List.length_append, List.length_map]
    omega
  | .star e => by
    have h1 := poss_len e
    simp only [poss, szE]
    omega
  | .has e => Nat.zero_le _
theorem gp_places {g : Graph} (vg : Valid g) {e : E} {x y : Nat} {v : List PStep} (h : GP g e x v y) : ∀ s ∈ v, s.1 ∈ poss e ∧ s.2.2 ∈ nodes g := by
  induction h with
  | stay x hx => intro s hs; cases hs
  | fwd a x y h =>
    intro s hs
    have : s = ([], (2 * a, y)) := by simpa using hs
    subst this
    exact ⟨by simp [poss], (vg _ h).2⟩
  | back a x y h =>
    intro s hs
    have : s = ([], (2 * a + 1, y)) := by simpa using hs
    subst this
    exact ⟨by simp [poss], (vg _ h).1⟩
  | kind k x hx h => intro s hs; cases hs
  | seq e f x y z v w _ _ i j =>
    intro s hs
    rcases List.mem_append.mp hs with hs | hs
    · obtain ⟨s0, h0, rfl⟩ := List.mem_map.mp hs
      exact ⟨List.mem_append_left _ (List.mem_map.mpr ⟨_, (i s0 h0).1, rfl⟩), (i s0 h0).2⟩
    · obtain ⟨s0, h0, rfl⟩ := List.mem_map.mp hs
      exact ⟨List.mem_append_right _ (List.mem_map.mpr ⟨_, (j s0 h0).1, rfl⟩), (j s0 h0).2⟩
  | left e f x y v _ i =>
    intro s hs
    obtain ⟨s0, h0, rfl⟩ := List.mem_map.mp hs
    exact ⟨List.mem_append_left _ (List.mem_map.mpr ⟨_, (i s0 h0).1, rfl⟩), (i s0 h0).2⟩
  | right e f x y v _ i =>
    intro s hs
    obtain ⟨s0, h0, rfl⟩ := List.mem_map.mp hs
    exact ⟨List.mem_append_right _ (List.mem_map.mpr ⟨_, (i s0 h0).1, rfl⟩), (i s0 h0).2⟩
  | none e x hx => intro s hs; cases hs
  | more e x y z v w _ _ i j =>
    intro s hs
    rcases List.mem_append.mp hs with hs | hs
    · exact i s hs
    · exact j s hs
  | has e x y v h => intro s hs; cases hs
theorem twice {α β : Type} (key : α → β) : ∀ l : List α, ¬ (l.map key).Nodup → ∃ u s m s' t, l = u ++ s :: (m ++ s' :: t) ∧ key s = key s'
  | [], h => absurd List.nodup_nil h
  | a :: l, h => by
    by_cases c : key a ∈ l.map key
    · obtain ⟨b, hb, e⟩ := List.mem_map.mp c
      obtain ⟨m, t, rfl⟩ := List.append_of_mem hb
      exact ⟨[], a, m, b, t, rfl, e.symm⟩
    · have h2 : ¬ (l.map key).Nodup := fun q => h (List.nodup_cons.mpr ⟨c, q⟩)
      obtain ⟨u, s, m, s', t, e, k⟩ := twice key l h2
      exact ⟨a :: u, s, m, s', t, by rw [e]; rfl, k⟩
theorem few {α : Type} [BEq α] [LawfulBEq α] : ∀ (L S : List α), L.Nodup → (∀ a ∈ L, a ∈ S) → L.length ≤ S.length
  | [], S, _, _ => Nat.zero_le _
  | a :: L, S, h, k => by
    have ha : a ∈ S := k a (List.mem_cons_self ..)
    obtain ⟨h1, h2⟩ := (List.nodup_cons.mp h)
    have := few L (S.erase a) h2 fun b hb => (List.mem_erase_of_ne (fun e => h1 (by rw [← e]; exact hb))).mpr (k b (List.mem_cons_of_mem _ hb))
    rw [List.length_erase_of_mem ha] at this
    have := List.length_pos_of_mem ha
    simp only [List.length_cons]
    omega
theorem short {g : Graph} (vg : Valid g) {e : E} {x y : Nat} : ∀ (n : Nat) (v : List PStep), v.length ≤ n → GP g e x v y → ∃ v', GP g e x v' y ∧ v'.length ≤ (poss e).length * g.kinds.length
  | 0, v, hn, h => ⟨v, h, by omega⟩
  | n + 1, v, hn, h => by
    by_cases c : (v.map fun s => (s.1, s.2.2)).Nodup
    · refine ⟨v, h, ?_⟩
      have hs : ∀ a ∈ v.map (fun s => (s.1, s.2.2)), a ∈ (poss e).flatMap fun p => (nodes g).map fun z => (p, z) := fun a ha => by
        obtain ⟨s, hs, rfl⟩ := List.mem_map.mp ha
        obtain ⟨h1, h2⟩ := gp_places vg h s hs
        exact List.mem_flatMap.mpr ⟨_, h1, List.mem_map.mpr ⟨_, h2, rfl⟩⟩
      have := few _ _ c hs
      rw [List.length_map, List.length_flatMap] at this
      have e2 : ((poss e).map fun p => ((nodes g).map fun z => (p, z)).length).sum = (poss e).length * g.kinds.length := by
        have : ∀ l : List (List Nat), (l.map fun p => ((nodes g).map fun z => (p, z)).length).sum = l.length * g.kinds.length := fun l => by
          induction l with
          | nil => simp
          | cons a l ih =>
            rw [List.map_cons, List.sum_cons, ih, List.length_map, nodes_len, List.length_cons, Nat.succ_mul]
            omega
        exact this _
      rw [e2] at this
      exact this
    · obtain ⟨u, s, m, s', t, rfl, k⟩ := twice _ v c
      have k1 : s.1 = s'.1 := (Prod.mk.inj k).1
      have k2 : s.2.2 = s'.2.2 := (Prod.mk.inj k).2
      have h' : GP g e x ((u ++ s :: m) ++ s' :: t) y := by
        rw [List.append_assoc]
        exact h
      refine short vg n _ ?_ (cross vg e h h' k1 k2)
      simp at hn ⊢
      omega
theorem best_short {g : Graph} (vg : Valid g) {e : E} {x y : Nat} {w : Way} (h : Best (fun w => Goes g e x w y) (some w)) : w.length ≤ szE e * g.kinds.length := by
  obtain ⟨v, h1, h2⟩ := goes_gp h.some_of
  obtain ⟨v', h3, h4⟩ := short vg v.length v (Nat.le_refl _) h1
  have le := h.le (gp_goes h3)
  have hl : w.length ≤ v'.length := by
    rcases le with rfl | le
    · rw [List.length_map]
      exact Nat.le_refl _
    · rw [better_iff, List.length_map] at le
      omega
  exact Nat.le_trans hl (Nat.le_trans h4 (Nat.mul_le_mul_right _ (poss_len e)))
theorem tOf_short {g : Graph} (vg : Valid g) {e : E} {x y : Nat} (hx : x ∈ nodes g) (hy : y ∈ nodes g) {w : Way} (h : tOf g e x y = some w) : w.length ≤ szE e * g.kinds.length := by
  have b := best_goes vg e hx hy
  rw [← tOf_eq vg e hx hy, h] at b
  exact best_short vg b
end WM
namespace WG
open PySem PySem.Spec
open PyProof.Rows
open L2 hiding CX0 E0 pass0 Fun
open C8 Evl
def top (i : Nat) : Stmt := PySem.Challenge.pw_waygraph_s01_answers.main.body.getD i (.Pass ⟨0, 0, 0, 0⟩)
abbrev s_codes_within : Stmt := top 14
abbrev N_codes_within : List Str := ["sort"]
theorem sc_codes_within : FnScope N_codes_within ["sort"] (fnScope s_codes_within) := fnScope_by (by decide +kernel)
abbrev s_highest_number : Stmt := top 15
abbrev N_highest_number : List Str := ["sort"]
theorem sc_highest_number : FnScope N_highest_number ["sort"] (fnScope s_highest_number) := fnScope_by (by decide +kernel)
abbrev s_part_at : Stmt := top 16
abbrev N_part_at : List Str := ["code", "place", "sort", "highest", "part"]
theorem sc_part_at : FnScope N_part_at ["code", "place"] (fnScope s_part_at) := fnScope_by (by decide +kernel)
abbrev s_parts_of : Stmt := top 17
abbrev N_parts_of : List Str := ["code", "parts", "place", "wanted", "part"]
theorem sc_parts_of : FnScope N_parts_of ["code"] (fnScope s_parts_of) := fnScope_by (by decide +kernel)
abbrev s_code_of : Stmt := top 18
abbrev N_code_of : List Str := ["parts", "code", "part"]
theorem sc_code_of : FnScope N_code_of ["parts"] (fnScope s_code_of) := fnScope_by (by decide +kernel)
abbrev s_folded : Stmt := top 19
abbrev N_folded : List Str := ["parts", "of_plain", "of_one", "of_two", "done", "part", "sort", "within", "first", "second"]
theorem sc_folded : FnScope N_folded ["parts", "of_plain", "of_one", "of_two"] (fnScope s_folded) := fnScope_by (by decide +kernel)
abbrev s_are_kinds : Stmt := top 25
abbrev N_are_kinds : List Str := ["kinds", "before", "kind"]
theorem sc_are_kinds : FnScope N_are_kinds ["kinds"] (fnScope s_are_kinds) := fnScope_by (by decide +kernel)
abbrev s_bit_of : Stmt := top 28
abbrev N_bit_of : List Str := ["node"]
theorem sc_bit_of : FnScope N_bit_of ["node"] (fnScope s_bit_of) := fnScope_by (by decide +kernel)
abbrev s_nodes_of : Stmt := top 29
abbrev N_nodes_of : List Str := ["row", "node"]
theorem sc_nodes_of : FnScope N_nodes_of ["row"] (fnScope s_nodes_of) := fnScope_by (by decide +kernel)
abbrev s_stay_relations : Stmt := top 30
abbrev N_stay_relations : List Str := ["node_count", "node"]
theorem sc_stay_relations : FnScope N_stay_relations ["node_count"] (fnScope s_stay_relations) := fnScope_by (by decide +kernel)
abbrev s_of_kind : Stmt := top 32
abbrev N_of_kind : List Str := ["node_kinds", "kind", "node", "kinds"]
theorem sc_of_kind : FnScope N_of_kind ["node_kinds", "kind"] (fnScope s_of_kind) := fnScope_by (by decide +kernel)
abbrev s_steps_relations : Stmt := top 33
abbrev N_steps_relations : List Str := ["node_count", "pairs", "rows", "x", "y"]
theorem sc_steps_relations : FnScope N_steps_relations ["node_count", "pairs"] (fnScope s_steps_relations) := fnScope_by (by decide +kernel)
abbrev s_reached_from : Stmt := top 35
abbrev N_reached_from : List Str := ["row", "rows", "reached", "node"]
theorem sc_reached_from : FnScope N_reached_from ["row", "rows"] (fnScope s_reached_from) := fnScope_by (by decide +kernel)
abbrev s_in_order_relations : Stmt := top 36
abbrev N_in_order_relations : List Str := ["first", "second", "row"]
theorem sc_in_order_relations : FnScope N_in_order_relations ["first", "second"] (fnScope s_in_order_relations) := fnScope_by (by decide +kernel)
abbrev s_either_relations : Stmt := top 38
abbrev N_either_relations : List Str := ["first", "second", "one", "other"]
theorem sc_either_relations : FnScope N_either_relations ["first", "second"] (fnScope s_either_relations) := fnScope_by (by decide +kernel)
abbrev s_joined_at_relations : Stmt := top 40
abbrev N_joined_at_relations : List Str := ["middle", "rows", "behind", "row"]
theorem sc_joined_at_relations : FnScope N_joined_at_relations ["middle", "rows"] (fnScope s_joined_at_relations) := fnScope_by (by decide +kernel)
abbrev s_again_relations : Stmt := top 42
abbrev N_again_relations : List Str := ["rows", "reached", "middle"]
theorem sc_again_relations : FnScope N_again_relations ["rows"] (fnScope s_again_relations) := fnScope_by (by decide +kernel)
abbrev s_has_relations : Stmt := top 44
abbrev N_has_relations : List Str := ["rows", "node", "row"]
theorem sc_has_relations : FnScope N_has_relations ["rows"] (fnScope s_has_relations) := fnScope_by (by decide +kernel)
abbrev s_pairs_by : Stmt := top 46
abbrev N_pairs_by : List Str := ["part", "edges", "x", "a", "y"]
theorem sc_pairs_by : FnScope N_pairs_by ["part", "edges"] (fnScope s_pairs_by) := fnScope_by (by decide +kernel)
abbrev s_relation_of_plain : Stmt := top 47
abbrev N_relation_of_plain : List Str := ["part", "node_kinds", "edges"]
theorem sc_relation_of_plain : FnScope N_relation_of_plain ["part", "node_kinds", "edges"] (fnScope s_relation_of_plain) := fnScope_by (by decide +kernel)
abbrev s_relation_of_one : Stmt := top 48
abbrev N_relation_of_one : List Str := ["sort", "rows"]
theorem sc_relation_of_one : FnScope N_relation_of_one ["sort", "rows"] (fnScope s_relation_of_one) := fnScope_by (by decide +kernel)
abbrev s_relation_of_two : Stmt := top 49
abbrev N_relation_of_two : List Str := ["sort", "first", "second"]
theorem sc_relation_of_two : FnScope N_relation_of_two ["sort", "first", "second"] (fnScope s_relation_of_two) := fnScope_by (by decide +kernel)
abbrev s_relation_of : Stmt := top 50
abbrev N_relation_of : List Str := ["parts", "node_kinds", "edges"]
theorem sc_relation_of : FnScope N_relation_of ["parts", "node_kinds", "edges"] (fnScope s_relation_of) := fnScope_by (by decide +kernel)
abbrev s_has_pair : Stmt := top 51
abbrev N_has_pair : List Str := ["relation", "x", "y"]
theorem sc_has_pair : FnScope N_has_pair ["relation", "x", "y"] (fnScope s_has_pair) := fnScope_by (by decide +kernel)
abbrev s_turned_part : Stmt := top 53
abbrev N_turned_part : List Str := ["part"]
theorem sc_turned_part : FnScope N_turned_part ["part"] (fnScope s_turned_part) := fnScope_by (by decide +kernel)
abbrev s_pair_of_plain : Stmt := top 54
abbrev N_pair_of_plain : List Str := ["part"]
theorem sc_pair_of_plain : FnScope N_pair_of_plain ["part"] (fnScope s_pair_of_plain) := fnScope_by (by decide +kernel)
abbrev s_pair_of_one : Stmt := top 55
abbrev N_pair_of_one : List Str := ["sort", "within", "plain"]
theorem sc_pair_of_one : FnScope N_pair_of_one ["sort", "within"] (fnScope s_pair_of_one) := fnScope_by (by decide +kernel)
abbrev s_pair_of_two : Stmt := top 56
abbrev N_pair_of_two : List Str := ["sort", "first", "second", "plain"]
theorem sc_pair_of_two : FnScope N_pair_of_two ["sort", "first", "second"] (fnScope s_pair_of_two) := fnScope_by (by decide +kernel)
abbrev s_turned : Stmt := top 57
abbrev N_turned : List Str := ["parts"]
theorem sc_turned : FnScope N_turned ["parts"] (fnScope s_turned) := fnScope_by (by decide +kernel)
abbrev s_shortest : Stmt := top 59
abbrev N_shortest : List Str := ["one", "other"]
theorem sc_shortest : FnScope N_shortest ["one", "other"] (fnScope s_shortest) := fnScope_by (by decide +kernel)
abbrev s_shortest_over : Stmt := top 60
abbrev N_shortest_over : List Str := ["known", "first", "second"]
theorem sc_shortest_over : FnScope N_shortest_over ["known", "first", "second"] (fnScope s_shortest_over) := fnScope_by (by decide +kernel)
abbrev s_no_ways : Stmt := top 61
abbrev N_no_ways : List Str := ["node_count", "node"]
theorem sc_no_ways : FnScope N_no_ways ["node_count"] (fnScope s_no_ways) := fnScope_by (by decide +kernel)
abbrev s_staying : Stmt := top 62
abbrev N_staying : List Str := ["chosen", "table", "place", "is_chosen"]
theorem sc_staying : FnScope N_staying ["chosen"] (fnScope s_staying) := fnScope_by (by decide +kernel)
abbrev s_stay_ways : Stmt := top 63
abbrev N_stay_ways : List Str := ["node_count"]
theorem sc_stay_ways : FnScope N_stay_ways ["node_count"] (fnScope s_stay_ways) := fnScope_by (by decide +kernel)
abbrev s_steps_ways : Stmt := top 65
abbrev N_steps_ways : List Str := ["node_count", "number", "pairs", "table", "x", "y"]
theorem sc_steps_ways : FnScope N_steps_ways ["node_count", "number", "pairs"] (fnScope s_steps_ways) := fnScope_by (by decide +kernel)
abbrev s_row_in_order : Stmt := top 67
abbrev N_row_in_order : List Str := ["row", "table", "found", "first", "behind", "known", "second"]
theorem sc_row_in_order : FnScope N_row_in_order ["row", "table"] (fnScope s_row_in_order) := fnScope_by (by decide +kernel)
abbrev s_in_order_ways : Stmt := top 68
abbrev N_in_order_ways : List Str := ["first", "second", "row"]
theorem sc_in_order_ways : FnScope N_in_order_ways ["first", "second"] (fnScope s_in_order_ways) := fnScope_by (by decide +kernel)
abbrev s_row_either : Stmt := top 70
abbrev N_row_either : List Str := ["row", "other_row", "one", "other"]
theorem sc_row_either : FnScope N_row_either ["row", "other_row"] (fnScope s_row_either) := fnScope_by (by decide +kernel)
abbrev s_either_ways : Stmt := top 71
abbrev N_either_ways : List Str := ["first", "second", "row", "other_row"]
theorem sc_either_ways : FnScope N_either_ways ["first", "second"] (fnScope s_either_ways) := fnScope_by (by decide +kernel)
abbrev s_joined_at_ways : Stmt := top 73
abbrev N_joined_at_ways : List Str := ["place", "table", "behind", "joined", "row", "first", "known", "second"]
theorem sc_joined_at_ways : FnScope N_joined_at_ways ["place", "table"] (fnScope s_joined_at_ways) := fnScope_by (by decide +kernel)
abbrev s_again_ways : Stmt := top 75
abbrev N_again_ways : List Str := ["table", "found", "place"]
theorem sc_again_ways : FnScope N_again_ways ["table"] (fnScope s_again_ways) := fnScope_by (by decide +kernel)
abbrev s_has_way : Stmt := top 77
abbrev N_has_way : List Str := ["row", "way"]
theorem sc_has_way : FnScope N_has_way ["row"] (fnScope s_has_way) := fnScope_by (by decide +kernel)
abbrev s_has_ways : Stmt := top 78
abbrev N_has_ways : List Str := ["table", "row"]
theorem sc_has_ways : FnScope N_has_ways ["table"] (fnScope s_has_ways) := fnScope_by (by decide +kernel)
abbrev s_number_of : Stmt := top 80
abbrev N_number_of : List Str := ["part"]
theorem sc_number_of : FnScope N_number_of ["part"] (fnScope s_number_of) := fnScope_by (by decide +kernel)
abbrev s_ways_of_plain : Stmt := top 81
abbrev N_ways_of_plain : List Str := ["part", "node_kinds", "edges", "kinds"]
theorem sc_ways_of_plain : FnScope N_ways_of_plain ["part", "node_kinds", "edges"] (fnScope s_ways_of_plain) := fnScope_by (by decide +kernel)
abbrev s_ways_of_one : Stmt := top 82
abbrev N_ways_of_one : List Str := ["sort", "table"]
theorem sc_ways_of_one : FnScope N_ways_of_one ["sort", "table"] (fnScope s_ways_of_one) := fnScope_by (by decide +kernel)
abbrev s_ways_of_two : Stmt := top 83
abbrev N_ways_of_two : List Str := ["sort", "first", "second"]
theorem sc_ways_of_two : FnScope N_ways_of_two ["sort", "first", "second"] (fnScope s_ways_of_two) := fnScope_by (by decide +kernel)
abbrev s_ways_of : Stmt := top 84
abbrev N_ways_of : List Str := ["parts", "node_kinds", "edges"]
theorem sc_ways_of : FnScope N_ways_of ["parts", "node_kinds", "edges"] (fnScope s_ways_of) := fnScope_by (by decide +kernel)
abbrev s_counted : Stmt := top 86
abbrev N_counted : List Str := ["numbers"]
theorem sc_counted : FnScope N_counted ["numbers"] (fnScope s_counted) := fnScope_by (by decide +kernel)
abbrev s_counted_edges : Stmt := top 87
abbrev N_counted_edges : List Str := ["edges", "told", "edge"]
theorem sc_counted_edges : FnScope N_counted_edges ["edges"] (fnScope s_counted_edges) := fnScope_by (by decide +kernel)
abbrev s_answer_node : Stmt := top 91
abbrev N_answer_node : List Str := ["line", "reader"]
theorem sc_answer_node : FnScope N_answer_node ["line", "reader"] (fnScope s_answer_node) := fnScope_by (by decide +kernel)
abbrev s_answer_kinds : Stmt := top 92
abbrev N_answer_kinds : List Str := ["line", "reader", "x", "kinds"]
theorem sc_answer_kinds : FnScope N_answer_kinds ["line", "reader"] (fnScope s_answer_kinds) := fnScope_by (by decide +kernel)
abbrev s_answer_edge : Stmt := top 93
abbrev N_answer_edge : List Str := ["line", "reader", "x", "a", "y"]
theorem sc_answer_edge : FnScope N_answer_edge ["line", "reader"] (fnScope s_answer_edge) := fnScope_by (by decide +kernel)
abbrev s_answer_cut : Stmt := top 94
abbrev N_answer_cut : List Str := ["line", "reader", "x", "a", "y"]
theorem sc_answer_cut : FnScope N_answer_cut ["line", "reader"] (fnScope s_answer_cut) := fnScope_by (by decide +kernel)
abbrev s_answer_ask : Stmt := top 95
abbrev N_answer_ask : List Str := ["line", "reader"]
theorem sc_answer_ask : FnScope N_answer_ask ["line", "reader"] (fnScope s_answer_ask) := fnScope_by (by decide +kernel)
abbrev s_answer_to : Stmt := top 96
abbrev N_answer_to : List Str := ["line", "reader"]
theorem sc_answer_to : FnScope N_answer_to ["line", "reader"] (fnScope s_answer_to) := fnScope_by (by decide +kernel)
abbrev s_answer_comes_from : Stmt := top 97
abbrev N_answer_comes_from : List Str := ["line", "reader"]
theorem sc_answer_comes_from : FnScope N_answer_comes_from ["line", "reader"] (fnScope s_answer_comes_from) := fnScope_by (by decide +kernel)
abbrev s_answer_way : Stmt := top 98
abbrev N_answer_way : List Str := ["line", "reader", "x", "y"]
theorem sc_answer_way : FnScope N_answer_way ["line", "reader"] (fnScope s_answer_way) := fnScope_by (by decide +kernel)
abbrev s_answer_needed : Stmt := top 99
abbrev N_answer_needed : List Str := ["line", "reader", "x", "y"]
theorem sc_answer_needed : FnScope N_answer_needed ["line", "reader"] (fnScope s_answer_needed) := fnScope_by (by decide +kernel)
abbrev s_answer_turn : Stmt := top 100
abbrev N_answer_turn : List Str := ["line", "reader"]
theorem sc_answer_turn : FnScope N_answer_turn ["line", "reader"] (fnScope s_answer_turn) := fnScope_by (by decide +kernel)
abbrev s_answer_rounds : Stmt := top 101
abbrev N_answer_rounds : List Str := ["line", "reader"]
theorem sc_answer_rounds : FnScope N_answer_rounds ["line", "reader"] (fnScope s_answer_rounds) := fnScope_by (by decide +kernel)
abbrev s_answer_edges : Stmt := top 102
abbrev N_answer_edges : List Str := ["line", "reader"]
theorem sc_answer_edges : FnScope N_answer_edges ["line", "reader"] (fnScope s_answer_edges) := fnScope_by (by decide +kernel)
abbrev s_answers : Stmt := top 104
abbrev N_answers : List Str := ["calls", "reader", "line", "told", "answer_call", "answer"]
theorem sc_answers : FnScope N_answers ["calls"] (fnScope s_answers) := fnScope_by (by decide +kernel)
abbrev s_Graph_init : Stmt := inC (top 26) 0
abbrev N_Graph_init : List Str := ["self"]
theorem sc_Graph_init : FnScope N_Graph_init ["self"] (fnScope s_Graph_init) := fnScope_by (by decide +kernel)
abbrev s_Graph_has_node : Stmt := inC (top 26) 1
abbrev N_Graph_has_node : List Str := ["self", "x"]
theorem sc_Graph_has_node : FnScope N_Graph_has_node ["self", "x"] (fnScope s_Graph_has_node) := fnScope_by (by decide +kernel)
abbrev s_Graph_add_node : Stmt := inC (top 26) 2
abbrev N_Graph_add_node : List Str := ["self", "kinds"]
theorem sc_Graph_add_node : FnScope N_Graph_add_node ["self", "kinds"] (fnScope s_Graph_add_node) := fnScope_by (by decide +kernel)
abbrev s_Graph_put_kinds : Stmt := inC (top 26) 3
abbrev N_Graph_put_kinds : List Str := ["self", "x", "kinds"]
theorem sc_Graph_put_kinds : FnScope N_Graph_put_kinds ["self", "x", "kinds"] (fnScope s_Graph_put_kinds) := fnScope_by (by decide +kernel)
abbrev s_Graph_add_edge : Stmt := inC (top 26) 4
abbrev N_Graph_add_edge : List Str := ["self", "x", "a", "y"]
theorem sc_Graph_add_edge : FnScope N_Graph_add_edge ["self", "x", "a", "y"] (fnScope s_Graph_add_edge) := fnScope_by (by decide +kernel)
abbrev s_Graph_cut_edge : Stmt := inC (top 26) 5
abbrev N_Graph_cut_edge : List Str := ["self", "x", "a", "y"]
theorem sc_Graph_cut_edge : FnScope N_Graph_cut_edge ["self", "x", "a", "y"] (fnScope s_Graph_cut_edge) := fnScope_by (by decide +kernel)
abbrev s_Line_init : Stmt := inC (top 88) 0
abbrev N_Line_init : List Str := ["self"]
theorem sc_Line_init : FnScope N_Line_init ["self"] (fnScope s_Line_init) := fnScope_by (by decide +kernel)
abbrev s_Line_has_nodes : Stmt := inC (top 88) 1
abbrev N_Line_has_nodes : List Str := ["self", "x", "y"]
theorem sc_Line_has_nodes : FnScope N_Line_has_nodes ["self", "x", "y"] (fnScope s_Line_has_nodes) := fnScope_by (by decide +kernel)
abbrev s_Line_relation_by : Stmt := inC (top 88) 2
abbrev N_Line_relation_by : List Str := ["self", "edges"]
theorem sc_Line_relation_by : FnScope N_Line_relation_by ["self", "edges"] (fnScope s_Line_relation_by) := fnScope_by (by decide +kernel)
abbrev s_Line_relation : Stmt := inC (top 88) 3
abbrev N_Line_relation : List Str := ["self"]
theorem sc_Line_relation : FnScope N_Line_relation ["self"] (fnScope s_Line_relation) := fnScope_by (by decide +kernel)
abbrev s_Line_is_needed : Stmt := inC (top 88) 4
abbrev N_Line_is_needed : List Str := ["self", "edge", "x", "y", "others", "other"]
theorem sc_Line_is_needed : FnScope N_Line_is_needed ["self", "edge", "x", "y"] (fnScope s_Line_is_needed) := fnScope_by (by decide +kernel)
abbrev s_Line_ask : Stmt := inC (top 88) 5
abbrev N_Line_ask : List Str := ["self", "code", "parts", "row"]
theorem sc_Line_ask : FnScope N_Line_ask ["self", "code"] (fnScope s_Line_ask) := fnScope_by (by decide +kernel)
abbrev s_Line_led_to : Stmt := inC (top 88) 6
abbrev N_Line_led_to : List Str := ["self", "x"]
theorem sc_Line_led_to : FnScope N_Line_led_to ["self", "x"] (fnScope s_Line_led_to) := fnScope_by (by decide +kernel)
abbrev s_Line_led_from : Stmt := inC (top 88) 7
abbrev N_Line_led_from : List Str := ["self", "y", "relation", "x"]
theorem sc_Line_led_from : FnScope N_Line_led_from ["self", "y"] (fnScope s_Line_led_from) := fnScope_by (by decide +kernel)
abbrev s_Line_way : Stmt := inC (top 88) 8
abbrev N_Line_way : List Str := ["self", "x", "y", "found"]
theorem sc_Line_way : FnScope N_Line_way ["self", "x", "y"] (fnScope s_Line_way) := fnScope_by (by decide +kernel)
abbrev s_Line_needed : Stmt := inC (top 88) 9
abbrev N_Line_needed : List Str := ["self", "x", "y", "edge"]
theorem sc_Line_needed : FnScope N_Line_needed ["self", "x", "y"] (fnScope s_Line_needed) := fnScope_by (by decide +kernel)
abbrev s_Line_turn : Stmt := inC (top 88) 10
abbrev N_Line_turn : List Str := ["self"]
theorem sc_Line_turn : FnScope N_Line_turn ["self"] (fnScope s_Line_turn) := fnScope_by (by decide +kernel)
abbrev s_Line_rounds : Stmt := inC (top 88) 11
abbrev N_Line_rounds : List Str := ["self", "relation", "x"]
theorem sc_Line_rounds : FnScope N_Line_rounds ["self"] (fnScope s_Line_rounds) := fnScope_by (by decide +kernel)
abbrev s_Line_edges : Stmt := inC (top 88) 12
abbrev N_Line_edges : List Str := ["self"]
theorem sc_Line_edges : FnScope N_Line_edges ["self"] (fnScope s_Line_edges) := fnScope_by (by decide +kernel)
abbrev s_Reader_init : Stmt := inC (top 90) 0
abbrev N_Reader_init : List Str := ["self", "numbers"]
theorem sc_Reader_init : FnScope N_Reader_init ["self", "numbers"] (fnScope s_Reader_init) := fnScope_by (by decide +kernel)
abbrev s_Reader_more : Stmt := inC (top 90) 1
abbrev N_Reader_more : List Str := ["self"]
theorem sc_Reader_more : FnScope N_Reader_more ["self"] (fnScope s_Reader_more) := fnScope_by (by decide +kernel)
abbrev s_Reader_number : Stmt := inC (top 90) 2
abbrev N_Reader_number : List Str := ["self"]
theorem sc_Reader_number : FnScope N_Reader_number ["self"] (fnScope s_Reader_number) := fnScope_by (by decide +kernel)
abbrev s_Reader_row : Stmt := inC (top 90) 3
abbrev N_Reader_row : List Str := ["self", "length"]
theorem sc_Reader_row : FnScope N_Reader_row ["self"] (fnScope s_Reader_row) := fnScope_by (by decide +kernel)
/-- what the top has left: constants, built-in names, defs, classes, tables of defs -/
structure Tx (K : PySem.W.Frag) (mg : Str → Option Value) (C_Graph C_Line C_Reader a_CALLS : Addr) : Prop where
  g_MOST_NODES : GC mg "MOST_NODES" (.int (12))
  g_MOST_EDGES : GC mg "MOST_EDGES" (.int (40))
  g_MOST_CODE : GC mg "MOST_CODE" (.int (60))
  g_HIGHEST_LABEL : GC mg "HIGHEST_LABEL" (.int (5))
  g_HIGHEST_KIND : GC mg "HIGHEST_KIND" (.int (8))
  g_STAY : GC mg "STAY" (.int (0))
  g_FORWARD : GC mg "FORWARD" (.int (1))
  g_BACKWARD : GC mg "BACKWARD" (.int (2))
  g_KIND : GC mg "KIND" (.int (3))
  g_IN_ORDER : GC mg "IN_ORDER" (.int (4))
  g_EITHER : GC mg "EITHER" (.int (5))
  g_AGAIN : GC mg "AGAIN" (.int (6))
  g_HAS : GC mg "HAS" (.int (7))
  g_WRONG : GC mg "WRONG" (.int (-1))
  g_ABSENT : GC mg "ABSENT" (.int (-3))
  g_PRESENT : GC mg "PRESENT" (.int (-4))
  g_FULL : GC mg "FULL" (.int (-5))
  b_len : mg "len" = none
  b_range : mg "range" = none
  b_enumerate : mg "enumerate" = none
  b_zip : mg "zip" = none
  b_sum : mg "sum" = none
  b_reversed : mg "reversed" = none
  b_list : mg "list" = none
  b_any : mg "any" = none
  d_codes_within : DefAt K mg "codes_within" "codes_within" s_codes_within ["sort"]
  d_highest_number : DefAt K mg "highest_number" "highest_number" s_highest_number ["sort"]
  d_part_at : DefAt K mg "part_at" "part_at" s_part_at ["code", "place"]
  d_parts_of : DefAt K mg "parts_of" "parts_of" s_parts_of ["code"]
  d_code_of : DefAt K mg "code_of" "code_of" s_code_of ["parts"]
  d_folded : DefAt K mg "folded" "folded" s_folded ["parts", "of_plain", "of_one", "of_two"]
  d_are_kinds : DefAt K mg "are_kinds" "are_kinds" s_are_kinds ["kinds"]
  d_bit_of : DefAt K mg "bit_of" "bit_of" s_bit_of ["node"]
  d_nodes_of : DefAt K mg "nodes_of" "nodes_of" s_nodes_of ["row"]
  d_stay_relations : DefAt K mg "stay_relations" "stay" s_stay_relations ["node_count"]
  d_of_kind : DefAt K mg "of_kind" "of_kind" s_of_kind ["node_kinds", "kind"]
  d_steps_relations : DefAt K mg "steps_relations" "steps" s_steps_relations ["node_count", "pairs"]
  d_reached_from : DefAt K mg "reached_from" "reached_from" s_reached_from ["row", "rows"]
  d_in_order_relations : DefAt K mg "in_order_relations" "in_order" s_in_order_relations ["first", "second"]
  d_either_relations : DefAt K mg "either_relations" "either" s_either_relations ["first", "second"]
  d_joined_at_relations : DefAt K mg "joined_at_relations" "joined_at" s_joined_at_relations ["middle", "rows"]
  d_again_relations : DefAt K mg "again_relations" "again" s_again_relations ["rows"]
  d_has_relations : DefAt K mg "has_relations" "has" s_has_relations ["rows"]
  d_pairs_by : DefAt K mg "pairs_by" "pairs_by" s_pairs_by ["part", "edges"]
  d_relation_of_plain : DefAt K mg "relation_of_plain" "relation_of_plain" s_relation_of_plain ["part", "node_kinds", "edges"]
  d_relation_of_one : DefAt K mg "relation_of_one" "relation_of_one" s_relation_of_one ["sort", "rows"]
  d_relation_of_two : DefAt K mg "relation_of_two" "relation_of_two" s_relation_of_two ["sort", "first", "second"]
  d_relation_of : DefAt K mg "relation_of" "relation_of" s_relation_of ["parts", "node_kinds", "edges"]
  d_has_pair : DefAt K mg "has_pair" "has_pair" s_has_pair ["relation", "x", "y"]
  d_turned_part : DefAt K mg "turned_part" "turned_part" s_turned_part ["part"]
  d_pair_of_plain : DefAt K mg "pair_of_plain" "pair_of_plain" s_pair_of_plain ["part"]
  d_pair_of_one : DefAt K mg "pair_of_one" "pair_of_one" s_pair_of_one ["sort", "within"]
  d_pair_of_two : DefAt K mg "pair_of_two" "pair_of_two" s_pair_of_two ["sort", "first", "second"]
  d_turned : DefAt K mg "turned" "turned" s_turned ["parts"]
  d_shortest : DefAt K mg "shortest" "shortest" s_shortest ["one", "other"]
  d_shortest_over : DefAt K mg "shortest_over" "shortest_over" s_shortest_over ["known", "first", "second"]
  d_no_ways : DefAt K mg "no_ways" "no_ways" s_no_ways ["node_count"]
  d_staying : DefAt K mg "staying" "staying" s_staying ["chosen"]
  d_stay_ways : DefAt K mg "stay_ways" "stay" s_stay_ways ["node_count"]
  d_steps_ways : DefAt K mg "steps_ways" "steps" s_steps_ways ["node_count", "number", "pairs"]
  d_row_in_order : DefAt K mg "row_in_order" "row_in_order" s_row_in_order ["row", "table"]
  d_in_order_ways : DefAt K mg "in_order_ways" "in_order" s_in_order_ways ["first", "second"]
  d_row_either : DefAt K mg "row_either" "row_either" s_row_either ["row", "other_row"]
  d_either_ways : DefAt K mg "either_ways" "either" s_either_ways ["first", "second"]
  d_joined_at_ways : DefAt K mg "joined_at_ways" "joined_at" s_joined_at_ways ["place", "table"]
  d_again_ways : DefAt K mg "again_ways" "again" s_again_ways ["table"]
  d_has_way : DefAt K mg "has_way" "has_way" s_has_way ["row"]
  d_has_ways : DefAt K mg "has_ways" "has" s_has_ways ["table"]
  d_number_of : DefAt K mg "number_of" "number_of" s_number_of ["part"]
  d_ways_of_plain : DefAt K mg "ways_of_plain" "ways_of_plain" s_ways_of_plain ["part", "node_kinds", "edges"]
  d_ways_of_one : DefAt K mg "ways_of_one" "ways_of_one" s_ways_of_one ["sort", "table"]
  d_ways_of_two : DefAt K mg "ways_of_two" "ways_of_two" s_ways_of_two ["sort", "first", "second"]
  d_ways_of : DefAt K mg "ways_of" "ways_of" s_ways_of ["parts", "node_kinds", "edges"]
  d_counted : DefAt K mg "counted" "counted" s_counted ["numbers"]
  d_counted_edges : DefAt K mg "counted_edges" "counted_edges" s_counted_edges ["edges"]
  d_answer_node : DefAt K mg "answer_node" "answer_node" s_answer_node ["line", "reader"]
  d_answer_kinds : DefAt K mg "answer_kinds" "answer_kinds" s_answer_kinds ["line", "reader"]
  d_answer_edge : DefAt K mg "answer_edge" "answer_edge" s_answer_edge ["line", "reader"]
  d_answer_cut : DefAt K mg "answer_cut" "answer_cut" s_answer_cut ["line", "reader"]
  d_answer_ask : DefAt K mg "answer_ask" "answer_ask" s_answer_ask ["line", "reader"]
  d_answer_to : DefAt K mg "answer_to" "answer_to" s_answer_to ["line", "reader"]
  d_answer_comes_from : DefAt K mg "answer_comes_from" "answer_comes_from" s_answer_comes_from ["line", "reader"]
  d_answer_way : DefAt K mg "answer_way" "answer_way" s_answer_way ["line", "reader"]
  d_answer_needed : DefAt K mg "answer_needed" "answer_needed" s_answer_needed ["line", "reader"]
  d_answer_turn : DefAt K mg "answer_turn" "answer_turn" s_answer_turn ["line", "reader"]
  d_answer_rounds : DefAt K mg "answer_rounds" "answer_rounds" s_answer_rounds ["line", "reader"]
  d_answer_edges : DefAt K mg "answer_edges" "answer_edges" s_answer_edges ["line", "reader"]
  d_answers : DefAt K mg "answers" "answers" s_answers ["calls"]
  c_Graph : Cls K C_Graph
  g_Graph : mg "Graph" = some (.ref C_Graph)
  n_Graph_node_kinds : NoAttr K C_Graph "node_kinds"
  n_Graph_edge_list : NoAttr K C_Graph "edge_list"
  i_Graph : InitAt K C_Graph "Graph.__init__" s_Graph_init ["self"]
  m_Graph_has_node : MethAt K C_Graph "has_node" "Graph.has_node" s_Graph_has_node ["self", "x"]
  m_Graph_add_node : MethAt K C_Graph "add_node" "Graph.add_node" s_Graph_add_node ["self", "kinds"]
  m_Graph_put_kinds : MethAt K C_Graph "put_kinds" "Graph.put_kinds" s_Graph_put_kinds ["self", "x", "kinds"]
  m_Graph_add_edge : MethAt K C_Graph "add_edge" "Graph.add_edge" s_Graph_add_edge ["self", "x", "a", "y"]
  m_Graph_cut_edge : MethAt K C_Graph "cut_edge" "Graph.cut_edge" s_Graph_cut_edge ["self", "x", "a", "y"]
  c_Line : Cls K C_Line
  g_Line : mg "Line" = some (.ref C_Line)
  n_Line_graph : NoAttr K C_Line "graph"
  n_Line_question : NoAttr K C_Line "question"
  i_Line : InitAt K C_Line "Line.__init__" s_Line_init ["self"]
  m_Line_has_nodes : MethAt K C_Line "has_nodes" "Line.has_nodes" s_Line_has_nodes ["self", "x", "y"]
  m_Line_relation_by : MethAt K C_Line "relation_by" "Line.relation_by" s_Line_relation_by ["self", "edges"]
  m_Line_relation : MethAt K C_Line "relation" "Line.relation" s_Line_relation ["self"]
  m_Line_is_needed : MethAt K C_Line "is_needed" "Line.is_needed" s_Line_is_needed ["self", "edge", "x", "y"]
  m_Line_ask : MethAt K C_Line "ask" "Line.ask" s_Line_ask ["self", "code"]
  m_Line_led_to : MethAt K C_Line "led_to" "Line.led_to" s_Line_led_to ["self", "x"]
  m_Line_led_from : MethAt K C_Line "led_from" "Line.led_from" s_Line_led_from ["self", "y"]
  m_Line_way : MethAt K C_Line "way" "Line.way" s_Line_way ["self", "x", "y"]
  m_Line_needed : MethAt K C_Line "needed" "Line.needed" s_Line_needed ["self", "x", "y"]
  m_Line_turn : MethAt K C_Line "turn" "Line.turn" s_Line_turn ["self"]
  m_Line_rounds : MethAt K C_Line "rounds" "Line.rounds" s_Line_rounds ["self"]
  m_Line_edges : MethAt K C_Line "edges" "Line.edges" s_Line_edges ["self"]
  c_Reader : Cls K C_Reader
  g_Reader : mg "Reader" = some (.ref C_Reader)
  n_Reader_numbers : NoAttr K C_Reader "numbers"
  n_Reader_place : NoAttr K C_Reader "place"
  i_Reader : InitAt K C_Reader "Reader.__init__" s_Reader_init ["self", "numbers"]
  m_Reader_more : MethAt K C_Reader "more" "Reader.more" s_Reader_more ["self"]
  m_Reader_number : MethAt K C_Reader "number" "Reader.number" s_Reader_number ["self"]
  m_Reader_row : MethAt K C_Reader "row" "Reader.row" s_Reader_row ["self"]
  g_CALLS : GC mg "CALLS" (.ref a_CALLS)
  t_CALLS : ∃ f_answer_node f_answer_kinds f_answer_edge f_answer_cut f_answer_ask f_answer_to f_answer_comes_from f_answer_way f_answer_needed f_answer_turn f_answer_rounds f_answer_edges, mg "answer_node" = some (.ref f_answer_node) ∧ mg "answer_kinds" = some (.ref f_answer_kinds) ∧ mg "answer_edge" = some (.ref f_answer_edge) ∧ mg "answer_cut" = some (.ref f_answer_cut) ∧ mg "answer_ask" = some (.ref f_answer_ask) ∧ mg "answer_to" = some (.ref f_answer_to) ∧ mg "answer_comes_from" = some (.ref f_answer_comes_from) ∧ mg "answer_way" = some (.ref f_answer_way) ∧ mg "answer_needed" = some (.ref f_answer_needed) ∧ mg "answer_turn" = some (.ref f_answer_turn) ∧ mg "answer_rounds" = some (.ref f_answer_rounds) ∧ mg "answer_edges" = some (.ref f_answer_edges) ∧ ∀ H, SqT K H a_CALLS [.ref f_answer_node, .ref f_answer_kinds, .ref f_answer_edge, .ref f_answer_cut, .ref f_answer_ask, .ref f_answer_to, .ref f_answer_comes_from, .ref f_answer_way, .ref f_answer_needed, .ref f_answer_turn, .ref f_answer_rounds, .ref f_answer_edges]
theorem tab_mk_CALLS {K : PySem.W.Frag} {mg : Str → Option Value} {a f_answer_node f_answer_kinds f_answer_edge f_answer_cut f_answer_ask f_answer_to f_answer_comes_from f_answer_way f_answer_needed f_answer_turn f_answer_rounds f_answer_edges : Addr} (e_answer_node : mg "answer_node" = some (.ref f_answer_node)) (e_answer_kinds : mg "answer_kinds" = some (.ref f_answer_kinds)) (e_answer_edge : mg "answer_edge" = some (.ref f_answer_edge)) (e_answer_cut : mg "answer_cut" = some (.ref f_answer_cut)) (e_answer_ask : mg "answer_ask" = some (.ref f_answer_ask)) (e_answer_to : mg "answer_to" = some (.ref f_answer_to)) (e_answer_comes_from : mg "answer_comes_from" = some (.ref f_answer_comes_from)) (e_answer_way : mg "answer_way" = some (.ref f_answer_way)) (e_answer_needed : mg "answer_needed" = some (.ref f_answer_needed)) (e_answer_turn : mg "answer_turn" = some (.ref f_answer_turn)) (e_answer_rounds : mg "answer_rounds" = some (.ref f_answer_rounds)) (e_answer_edges : mg "answer_edges" = some (.ref f_answer_edges)) (t : ∀ H, SqT K H a [.ref f_answer_node, .ref f_answer_kinds, .ref f_answer_edge, .ref f_answer_cut, .ref f_answer_ask, .ref f_answer_to, .ref f_answer_comes_from, .ref f_answer_way, .ref f_answer_needed, .ref f_answer_turn, .ref f_answer_rounds, .ref f_answer_edges]) :
    ∃ g_answer_node g_answer_kinds g_answer_edge g_answer_cut g_answer_ask g_answer_to g_answer_comes_from g_answer_way g_answer_needed g_answer_turn g_answer_rounds g_answer_edges, mg "answer_node" = some (.ref g_answer_node) ∧ mg "answer_kinds" = some (.ref g_answer_kinds) ∧ mg "answer_edge" = some (.ref g_answer_edge) ∧ mg "answer_cut" = some (.ref g_answer_cut) ∧ mg "answer_ask" = some (.ref g_answer_ask) ∧ mg "answer_to" = some (.ref g_answer_to) ∧ mg "answer_comes_from" = some (.ref g_answer_comes_from) ∧ mg "answer_way" = some (.ref g_answer_way) ∧ mg "answer_needed" = some (.ref g_answer_needed) ∧ mg "answer_turn" = some (.ref g_answer_turn) ∧ mg "answer_rounds" = some (.ref g_answer_rounds) ∧ mg "answer_edges" = some (.ref g_answer_edges) ∧ ∀ H, SqT K H a [.ref g_answer_node, .ref g_answer_kinds, .ref g_answer_edge, .ref g_answer_cut, .ref g_answer_ask, .ref g_answer_to, .ref g_answer_comes_from, .ref g_answer_way, .ref g_answer_needed, .ref g_answer_turn, .ref g_answer_rounds, .ref g_answer_edges] :=
  ⟨_, _, _, _, _, _, _, _, _, _, _, _, e_answer_node, e_answer_kinds, e_answer_edge, e_answer_cut, e_answer_ask, e_answer_to, e_answer_comes_from, e_answer_way, e_answer_needed, e_answer_turn, e_answer_rounds, e_answer_edges, t⟩
end WG
namespace WG
open PySem PySem.Spec
open PyProof.Rows
open L2 hiding CX0 E0 pass0 Fun
open C8 Evl
/-! ### promises in short -/
/-- a number gives a number -/
def spI1 (f : Int → Int) : Sp := fun vs H Q _ => ∃ n : Int, vs = [.int n] ∧ ∀ H', Ex H H' → Q (.int (f n)) H'
theorem spI1_v {f : Int → Int} {n : Int} {H : Hp} : SpV (spI1 f) [.int n] H (.int (f n)) := fun H1 e Q q E => ⟨n, rfl, q⟩
theorem inV2 (n a b : Int) : inV (.int n) [.int a, .int b] = decide (n = a ∨ n = b) := by
  show ((a == n) || ((b == n) || false)) = decide (n = a ∨ n = b)
  rw [Bool.or_false]
  by_cases h1 : n = a
  · subst h1
    simp
  · by_cases h2 : n = b
    · subst h2
      simp
    · rw [decide_eq_false (by omega), beq_eq_false_iff_ne.mpr (by omega), beq_eq_false_iff_ne.mpr (by omega)]
      rfl
/-- a list of numbers -/
abbrev nums (l : List Int) : List V := l.map V.int
theorem nums_at {l : List Int} {i : Nat} {z : Int} (h : l[i]? = some z) : (nums l)[i]? = some (.int z) := by
  rw [List.getElem?_map, h]
  rfl
theorem nums_of {l : List Int} {i : Nat} {v : V} (h : (nums l)[i]? = some v) : ∃ z, l[i]? = some z ∧ v = .int z := by
  rw [List.getElem?_map] at h
  cases e : l[i]? with
  | none => rw [e] at h; exact nomatch h
  | some z => rw [e] at h; exact ⟨z, rfl, (Option.some.inj h).symm⟩
theorem nums_len (l : List Int) : (nums l).length = l.length := List.length_map ..
theorem cut_nat (xs : List V) (i j : Nat) : cutV xs (some (i : Int)) (some (j : Int)) = (xs.drop i).take (j - i) := by
  unfold cutV
  rw [HT.sIx_nat, HT.sIx_nat]
  by_cases h : i ≤ xs.length
  · rw [Nat.min_eq_left h]
    by_cases h2 : j ≤ xs.length
    · rw [Nat.min_eq_left h2]
    · rw [Nat.min_eq_right (by omega), List.take_of_length_le (by rw [List.length_drop]; omega), List.take_of_length_le (by rw [List.length_drop]; omega)]
  · rw [Nat.min_eq_right (show xs.length ≤ i by omega), List.drop_eq_nil_of_le (Nat.le_refl xs.length), List.drop_eq_nil_of_le (show xs.length ≤ i by omega), List.take_nil, List.take_nil]

theorem ev_chain {σ : L2.St} {H : Hp} {ta tb tc : TE} {r r' : R2} {x y z : V} {b c : Bool} (ha : Ev ta σ H x) (hb : Ev tb σ H y) (hr : RV r x y H (.bl b)) (hc : b = true → Ev tc σ H z) (hr' : b = true → RV r' y z H (.bl c)) :
    Ev (tChain r r' ta tb tc) σ H (.bl (b && c)) := fun H1 e Q q =>
  ha H1 e _ fun H2 e2 => hb H2 (e.trans e2) _ fun H3 e3 => hr H3 ((e.trans e2).trans e3) _ fun H4 e4 => ⟨b, rfl, by
    cases b with
    | true =>
      show tc σ H4 _
      exact hc rfl H4 (((e.trans e2).trans e3).trans e4) _ fun H5 e5 => hr' rfl H5 ((((e.trans e2).trans e3).trans e4).trans e5) Q fun H6 e6 => q H6 ((((e2.trans e3).trans e4).trans e5).trans e6)
    | false =>
      show Q (.bl false) H4
      exact q H4 ((e2.trans e3).trans e4)⟩
/-! ### a code's parts: the mirror -/
def cw (n : Int) : Int := if n = 4 ∨ n = 5 then 2 else if n = 6 ∨ n = 7 then 1 else 0
def hn (n : Int) : Int := if n = 1 ∨ n = 2 then 5 else if n = 3 then 8 else 0
/-- the part at the head of the rest of a code -/
def partOf : List Int → Option (List Int)
  | [] => none
  | s :: r => if 7 < s then none else if hn s = 0 then some [s] else match r with
    | [] => none
    | a :: _ => if 1 ≤ a ∧ a ≤ hn s then some [s, a] else none
section
variable {P : Program} {w : World} {K : PySem.W.Frag} {mg : Str → Option Value} {base : Heap} {C_Graph C_Line C_Reader a_CALLS : Addr}
theorem cal_codes_within (T : Tx K mg C_Graph C_Line C_Reader a_CALLS) : Cal P w K mg base 1 "codes_within" (spI1 cw) [] := by
  refine T.d_codes_within.cal sc_codes_within (fun vs H Q E h => by obtain ⟨n, rfl, _⟩ := h; rfl) (fun f cdv A outer s H vs Q E hr h => ⟨_, (pss_cons (ps_if (pt_cmpR op_in_seq (pv 0) (pe_tup (pa_cons (pe_gc rfl T.g_IN_ORDER) (pa_cons (pe_gc rfl T.g_EITHER) pa_nil))) (by rfl)) (pss_one (ps_ret pe_int)) pss_nil)
      (pss_cons (ps_if (pt_cmpR op_in_seq (pv 0) (pe_tup (pa_cons (pe_gc rfl T.g_AGAIN) (pa_cons (pe_gc rfl T.g_HAS) pa_nil))) (by rfl)) (pss_one (ps_ret pe_int)) pss_nil)
      (pss_one (ps_ret pe_int)))), ?_⟩)
  obtain ⟨n, rfl, k⟩ := h
  refine q_when (et_test (ev_inU (ev_var rfl) (eu_tup (ea_cons ev_c (ea_cons ev_c ea_nil)) (by decide)) rfl rfl)) (fun hb H1 e1 => s_ret ev_c fun H2 e2 => ?_) (fun hb H1 e1 => ?_)
  · rw [inV2, decide_eq_true_eq] at hb
    have q := k H2 (e1.trans e2)
    rw [show cw n = 2 from if_pos hb] at q
    exact q
  rw [inV2, decide_eq_false_iff_not] at hb
  refine q_when (et_test (ev_inU (ev_var rfl) (eu_tup (ea_cons ev_c (ea_cons ev_c ea_nil)) (by decide)) rfl rfl)) (fun hb' H2 e2 => s_ret ev_c fun H3 e3 => ?_) (fun hb' H2 e2 => s_ret ev_c fun H3 e3 => ?_)
  · rw [inV2, decide_eq_true_eq] at hb'
    have q := k H3 ((e1.trans e2).trans e3)
    rw [show cw n = 1 from (if_neg hb).trans (if_pos hb')] at q
    exact q
  · rw [inV2, decide_eq_false_iff_not] at hb'
    have q := k H3 ((e1.trans e2).trans e3)
    rw [show cw n = 0 from (if_neg hb).trans (if_neg hb')] at q
    exact q
theorem cal_highest_number (T : Tx K mg C_Graph C_Line C_Reader a_CALLS) : Cal P w K mg base 1 "highest_number" (spI1 hn) [] := by
  refine T.d_highest_number.cal sc_highest_number (fun vs H Q E h => by obtain ⟨n, rfl, _⟩ := h; rfl) (fun f cdv A outer s H vs Q E hr h => ⟨_, (pss_cons (ps_if (pt_cmpR op_in_seq (pv 0) (pe_tup (pa_cons (pe_gc rfl T.g_FORWARD) (pa_cons (pe_gc rfl T.g_BACKWARD) pa_nil))) (by rfl)) (pss_one (ps_ret (pe_gc rfl T.g_HIGHEST_LABEL))) pss_nil)
      (pss_cons (ps_if (pt_cmpR op_eq (pv 0) (pe_gc rfl T.g_KIND) (nomark _)) (pss_one (ps_ret (pe_gc rfl T.g_HIGHEST_KIND))) pss_nil)
      (pss_one (ps_ret pe_int)))), ?_⟩)
  obtain ⟨n, rfl, k⟩ := h
  refine q_when (et_test (ev_inU (ev_var rfl) (eu_tup (ea_cons ev_c (ea_cons ev_c ea_nil)) (by decide)) rfl rfl)) (fun hb H1 e1 => s_ret ev_c fun H2 e2 => ?_) (fun hb H1 e1 => ?_)
  · rw [inV2, decide_eq_true_eq] at hb
    have q := k H2 (e1.trans e2)
    rw [show hn n = 5 from if_pos hb] at q
    exact q
  rw [inV2, decide_eq_false_iff_not] at hb
  refine q_when (et_test (ev_op (ev_var rfl) ev_c (rv_eq rfl))) (fun hb' H2 e2 => s_ret ev_c fun H3 e3 => ?_) (fun hb' H2 e2 => s_ret ev_c fun H3 e3 => ?_)
  · have hb2 : n = 3 := V.int.inj (of_decide_eq_true hb')
    have q := k H3 ((e1.trans e2).trans e3)
    rw [show hn n = 8 from (if_neg hb).trans (if_pos hb2)] at q
    exact q
  · have hb2 : ¬ n = 3 := fun z => of_decide_eq_false hb' (by rw [z])
    have q := k H3 ((e1.trans e2).trans e3)
    rw [show hn n = 0 from (if_neg hb).trans (if_neg hb2)] at q
    exact q
/-- part_at(code, place), place within the code: None, or a new list -/
def spPart (K : PySem.W.Frag) : Sp := fun vs H Q _ => ∃ (a : Addr) (ns : List Int) (i : Nat), vs = [.ref a, .int (i : Int)] ∧ SqL K H a (nums ns) ∧ i < ns.length ∧
  (partOf (ns.drop i) = none → ∀ H', Ex H H' → Q .non H') ∧ (∀ l, partOf (ns.drop i) = some l → ∀ p H', H p = none → Ex H H' → H' p = some (.lst (nums l)) → Q (.ref p) H')
theorem cal_part_at (T : Tx K mg C_Graph C_Line C_Reader a_CALLS) : Cal P w K mg base 2 "part_at" (spPart K) [] := by
  refine T.d_part_at.cal sc_part_at (fun vs H Q E h => by obtain ⟨a, ns, i, rfl, _⟩ := h; rfl) (fun f cdv A outer s H vs Q E hr h => ⟨_, (pss_cons (ps_set (i := 2) sc_part_at.nd rfl (Or.inl rfl) (pe_ix ix_list (pv 0) (pv 1) (fun _ _ => rfl)))
      (pss_cons (ps_if (pt_cmpR op_gt (pv 2) (pe_gc rfl T.g_HAS) (nomark _)) (pss_one (ps_ret pe_non)) pss_nil)
      (pss_cons (ps_set (i := 3) sc_part_at.nd rfl (Or.inl rfl) (pe_c (cal_highest_number T) hr (by decide) rfl (pa_cons (pv 2) pa_nil)))
      (pss_cons (ps_if (pt_cmpR op_eq (pv 3) pe_int (nomark _)) (pss_one (ps_ret (pe_lst (pa_cons (pv 2) pa_nil)))) pss_nil)
      (pss_cons (ps_set (i := 4) sc_part_at.nd rfl (Or.inl rfl) (pe_slice sl_list (pv 0) (po_some (pv 1)) (po_some (pe_op op_add (pv 1) pe_int))))
      (pss_cons (ps_if (PW.pt (pw_or (pt_cmpR op_lt (pe_callB call_len_seq (by rfl) T.b_len PySem.boot_len (pa_cons (pv 4) pa_nil)) pe_int (nomark _)) (pw_or1 (pt_not (pt_chain op_le op_le pe_int (pe_ix ix_list (pv 4) pe_int (fun _ _ => rfl)) (pv 3)))))) (pss_one (ps_ret pe_non)) pss_nil)
      (pss_one (ps_ret (pv 4))))))))), ?_⟩)
  obtain ⟨a, ns, i, rfl, hs, hi, kN, kS⟩ := h
  obtain ⟨z, hz⟩ : ∃ z, ns[i]? = some z := ⟨ns[i], List.getElem?_eq_getElem hi⟩
  have hd : ns.drop i = z :: ns.drop (i + 1) := by
    rw [List.drop_eq_getElem_cons hi]
    rw [List.getElem?_eq_getElem hi] at hz
    rw [Option.some.inj hz]
  refine q_asg (ev_op (ev_var rfl) (ev_var rfl) (rv_ixL hs (atI_nat (nums_at hz)))) fun H1 e1 => ?_
  refine q_when (et_test (ev_op (ev_var rfl) ev_c rv_I0)) (fun hb H2 e2 => s_ret ev_c fun H3 e3 => ?_) (fun hb H2 e2 => ?_)
  · have hb2 : 7 < z := of_decide_eq_true hb
    refine kN ?_ H3 ((e1.trans e2).trans e3)
    rw [hd]
    exact if_pos hb2
  have hb2 : ¬ 7 < z := of_decide_eq_false hb
  have e12 := e1.trans e2
  refine q_asg (ev_call (ea_cons (ev_var rfl) ea_nil) spI1_v) fun H3 e3 => ?_
  have e13 := e12.trans e3
  refine q_when (et_test (ev_op (ev_var rfl) ev_c (rv_eq rfl))) (fun hc H4 e4 => s_retL (el_lst (ea_cons (ev_var rfl) ea_nil) (by show 1 ≤ 100000; decide)) fun p H5 hp e5 h5 => ?_) (fun hc H4 e4 => ?_)
  · have hc2 : hn z = 0 := V.int.inj (of_decide_eq_true hc)
    refine kS [z] ?_ p H5 (fresh_back (e13.trans e4) hp) ((e13.trans e4).trans e5) h5
    rw [hd]
    exact (if_neg hb2).trans (if_pos hc2)
  have hc2 : ¬ hn z = 0 := fun q => of_decide_eq_false hc (by rw [q])
  have e14 := e13.trans e4
  refine q_asgL (el_sl (ev_var rfl) (eo_some (ev_var rfl)) (eo_some (ev_op (ev_var rfl) ev_c rv_I0)) (ex_l e14 hs)) fun p H5 hp e5 h5 => ?_
  have ecut : cutV (nums ns) (some (i : Int)) (some ((i : Int) + 2)) = nums ((ns.drop i).take 2) := by
    have := cut_nat (nums ns) i (i + 2)
    rw [show ((i + 2 : Nat) : Int) = (i : Int) + 2 by omega, show i + 2 - i = 2 by omega] at this
    rw [this, ← List.map_drop, ← List.map_take]
  rw [ecut] at h5
  have e15 := e14.trans e5
  cases hr2 : ns.drop (i + 1) with
  | nil =>
    have et : (ns.drop i).take 2 = [z] := by rw [hd, hr2]; rfl
    rw [et] at h5
    refine q_when (et_is (et_or (b := true) (et_test (ev_op (ev_len (ev_var rfl) (sq_of h5)) ev_c rv_I0)) (fun q => by cases q)) rfl) (fun hb H6 e6 => s_ret ev_c fun H7 e7 => ?_) (fun hb H6 e6 => by cases hb)
    refine kN ?_ H7 ((e15.trans e6).trans e7)
    rw [hd, hr2]
    exact (if_neg hb2).trans (if_neg hc2)
  | cons b r =>
    have et : (ns.drop i).take 2 = [z, b] := by rw [hd, hr2]; rfl
    rw [et] at h5
    refine q_when (et_or (b := !(decide (1 ≤ b) && decide (b ≤ hn z))) (et_test (ev_op (ev_len (ev_var rfl) (sq_of h5)) ev_c rv_I0)) (fun _ => et_not (et_test (ev_chain ev_c (ev_op (ev_var rfl) ev_c (rv_ixL (sq_of h5) (show atI (nums [z, b]) 1 = some (.int b) from rfl))) rv_I0 (fun _ => ev_var rfl) fun _ => rv_I0))))
      (fun hb H6 e6 => s_ret ev_c fun H7 e7 => ?_) (fun hb H6 e6 => s_ret (ev_var rfl) fun H7 e7 => ?_)
    · have hb : (!(decide (1 ≤ b) && decide (b ≤ hn z))) = true := hb
      have hb3 : ¬ (1 ≤ b ∧ b ≤ hn z) := fun ⟨q1, q2⟩ => by
        rw [decide_eq_true q1, decide_eq_true q2] at hb
        exact absurd hb (by decide)
      refine kN ?_ H7 ((e15.trans e6).trans e7)
      rw [hd, hr2]
      exact (if_neg hb2).trans ((if_neg hc2).trans (if_neg hb3))
    · have hb : (!(decide (1 ≤ b) && decide (b ≤ hn z))) = false := hb
      have hb3 : 1 ≤ b ∧ b ≤ hn z := by
        rw [Bool.not_eq_false', Bool.and_eq_true, decide_eq_true_eq, decide_eq_true_eq] at hb
        exact hb
      refine kS [z, b] ?_ p H7 (fresh_back e14 hp) ((e15.trans e6).trans e7) (e7 p _ (e6 p _ h5))
      rw [hd, hr2]
      exact (if_neg hb2).trans ((if_neg hc2).trans (if_pos hb3))
end
end WG
namespace WG
open PySem PySem.Spec
open PyProof.Rows
open L2 hiding CX0 E0 pass0 Fun
open C8 Evl
/-! ### parts_of -/
def loopP : Nat → List Int → Nat → Option (List (List Int))
  | _, [], 0 => some []
  | _, [], _ + 1 => none
  | _, _ :: _, 0 => none
  | 0, _ :: _, _ + 1 => none
  | f + 1, s :: r, w + 1 => match partOf (s :: r) with
    | none => none
    | some p => (loopP f ((s :: r).drop p.length) (w + (cw s).toNat)).map (p :: ·)
def partsOf (ns : List Int) : Option (List (List Int)) := if 60 < ns.length then none else loopP ns.length ns 1
theorem loopP_done (f : Nat) : loopP f [] 0 = some [] := by cases f <;> rfl
theorem loopP_short (f w : Nat) (h : 0 < w) : loopP f [] w = none := by
  cases w with
  | zero => cases h
  | succ w => cases f <;> rfl
theorem loopP_long (f : Nat) {l : List Int} (h : l ≠ []) : loopP f l 0 = none := by
  cases l with
  | nil => exact absurd rfl h
  | cons s r => cases f <;> rfl
theorem loopP_no {f w : Nat} {l : List Int} (hl : l.length ≤ f) (hw : 0 < w) (h : partOf l = none) : loopP f l w = none := by
  cases l with
  | nil => exact loopP_short f w hw
  | cons s r =>
    cases w with
    | zero => cases hw
    | succ w =>
      cases f with
      | zero => cases hl
      | succ f =>
        unfold loopP
        rw [h]
theorem partOf_eq (s : Int) (r : List Int) : partOf (s :: r) = if 7 < s then none else if hn s = 0 then some [s] else match r with
    | [] => none
    | a :: _ => if 1 ≤ a ∧ a ≤ hn s then some [s, a] else none := rfl
theorem partOf_cons {l p : List Int} (h : partOf l = some p) : ∃ s r t, l = s :: r ∧ p = s :: t ∧ p.length ≤ l.length := by
  cases l with
  | nil => cases h
  | cons s r =>
    rw [partOf_eq] at h
    by_cases c1 : 7 < s
    · rw [if_pos c1] at h
      cases h
    · rw [if_neg c1] at h
      by_cases c2 : hn s = 0
      · rw [if_pos c2] at h
        cases h
        exact ⟨s, r, [], rfl, rfl, by simp⟩
      · rw [if_neg c2] at h
        cases r with
        | nil => cases h
        | cons a r =>
          have h' : (if 1 ≤ a ∧ a ≤ hn s then some [s, a] else none) = some p := h
          by_cases c3 : 1 ≤ a ∧ a ≤ hn s
          · rw [if_pos c3] at h'
            cases h'
            exact ⟨s, a :: r, [a], rfl, rfl, by simp⟩
          · rw [if_neg c3] at h'
            cases h'
theorem loopP_yes {f w : Nat} {l p : List Int} {s : Int} {t : List Int} (hl : l.length ≤ f) (hw : 0 < w) (h : partOf l = some p) (hp : p = s :: t) :
    ∃ f', (l.drop p.length).length ≤ f' ∧ loopP f l w = (loopP f' (l.drop p.length) (w - 1 + (cw s).toNat)).map (p :: ·) := by
  obtain ⟨s', r, t', rfl, hp', hlen⟩ := partOf_cons h
  subst hp
  cases hp'
  cases w with
  | zero => cases hw
  | succ w =>
    cases f with
    | zero => cases hl
    | succ f =>
      refine ⟨f, ?_, ?_⟩
      · rw [List.length_drop]
        simp only [List.length_cons] at *
        omega
      · show (match partOf (s :: r) with
          | none => none
          | some p => (loopP f ((s :: r).drop p.length) (w + (cw s).toNat)).map (p :: ·)) = _
        rw [h]
        rfl
/-- a new list at l of new lists at qs -/
structure LsAt (H0 H : Hp) (l : Addr) (qs : List Addr) (ls : List (List Int)) : Prop where
  new : H0 l = none
  at_ : H l = some (.lst (qs.map V.ref))
  len : qs.length = ls.length
  its : ∀ (i : Nat) (q : Addr) (p : List Int), qs[i]? = some q → ls[i]? = some p → H q = some (.lst (nums p)) ∧ q ≠ l ∧ H0 q = none
theorem LsAt.mono {H0 H H' : Hp} {l : Addr} {qs : List Addr} {ls : List (List Int)} (h : LsAt H0 H l qs ls) (e : Ex H H') : LsAt H0 H' l qs ls :=
  ⟨h.new, e _ _ h.at_, h.len, fun i q p h1 h2 => ⟨e _ _ (h.its i q p h1 h2).1, (h.its i q p h1 h2).2⟩⟩
theorem LsAt.push {H0 H H' : Hp} {l q : Addr} {qs : List Addr} {ls : List (List Int)} {p : List Int} (h : LsAt H0 H l qs ls) (e : Ex H H') (e0 : Ex H0 H) (hq : H q = none) (hp : H' q = some (.lst (nums p))) :
    LsAt H0 (upd H' l (.lst (qs.map V.ref ++ [.ref q]))) l (qs ++ [q]) (ls ++ [p]) := by
  have nl : q ≠ l := fun z => by
    subst z
    rw [h.at_] at hq
    cases hq
  refine ⟨h.new, ?_, by simp [h.len], fun i r t h1 h2 => ?_⟩
  · rw [upd_same, List.map_append]
    rfl
  · by_cases c : i < qs.length
    · rw [List.getElem?_append_left c] at h1
      rw [List.getElem?_append_left (by rw [← h.len]; exact c)] at h2
      obtain ⟨k1, k2, k3⟩ := h.its i r t h1 h2
      exact ⟨by rw [upd_ne k2]; exact e _ _ k1, k2, k3⟩
    · rw [List.getElem?_append_right (by omega)] at h1
      rw [List.getElem?_append_right (by rw [← h.len]; omega)] at h2
      have c1 : i - qs.length = 0 := by
        have := (List.getElem?_eq_some_iff.mp h1).1
        simp at this
        omega
      have c2 : i - ls.length = 0 := by
        rw [← h.len]
        exact c1
      rw [c1] at h1
      rw [c2] at h2
      cases h1
      cases h2
      exact ⟨by rw [upd_ne nl]; exact hp, nl, fresh_back e0 hq⟩
theorem rv_isN {x : V} {H : Hp} : RV (fun x y H Q => y = .non ∧ Q (.bl (decide (x = .non))) H) x .non H (.bl (decide (x = .non))) := fun H1 _ _ q => ⟨rfl, q H1 (Ex.refl H1)⟩
section
variable {P : Program} {w : World} {K : PySem.W.Frag} {mg : Str → Option Value} {base : Heap} {C_Graph C_Line C_Reader a_CALLS : Addr}
/-- parts_of(code): None, or a new list of new lists -/
def spParts (K : PySem.W.Frag) : Sp := fun vs H Q _ => ∃ (a : Addr) (ns : List Int), vs = [.ref a] ∧ SqL K H a (nums ns) ∧ ns.length ≤ 10000 ∧
  (partsOf ns = none → ∀ H', Ex H H' → Q .non H') ∧ (∀ ls, partsOf ns = some ls → ∀ l qs H', Ex H H' → LsAt H H' l qs ls → Q (.ref l) H')
theorem cw_nonneg (n : Int) : 0 ≤ cw n := by
  unfold cw
  split
  · decide
  · split <;> decide
theorem cal_parts_of (T : Tx K mg C_Graph C_Line C_Reader a_CALLS) : Cal P w K mg base 3 "parts_of" (spParts K) [] := by
  refine T.d_parts_of.cal sc_parts_of (fun vs H Q E h => by obtain ⟨a, ns, rfl, _⟩ := h; rfl) (fun f cdv A outer s H vs Q E hr h => ⟨_, (pss_cons (ps_if (pt_cmpR op_gt (pe_callB call_len_seq (by rfl) T.b_len PySem.boot_len (pa_cons (pv 0) pa_nil)) (pe_gc rfl T.g_MOST_CODE) (nomark _)) (pss_one (ps_ret pe_non)) pss_nil)
      (pss_cons (ps_set (i := 1) sc_parts_of.nd rfl (Or.inl rfl) (pe_lst pa_nil))
      (pss_cons (ps_set (i := 2) sc_parts_of.nd rfl (Or.inl rfl) pe_int)
      (pss_cons (ps_set (i := 3) sc_parts_of.nd rfl (Or.inl rfl) pe_int)
      (pss_cons (ps_while PassesOwn.never (PW.pt (pw_and (pt_cmpR op_gt (pv 3) pe_int (nomark _)) (pw_and1 (pt_cmpR op_lt (pv 2) (pe_callB call_len_seq (by rfl) T.b_len PySem.boot_len (pa_cons (pv 0) pa_nil)) (nomark _))))) (pss_cons (ps_set (i := 4) sc_parts_of.nd rfl (Or.inl rfl) (pe_c (cal_part_at T) hr (by decide) rfl (pa_cons (pv 0) (pa_cons (pv 2) pa_nil))))
      (pss_cons (ps_if (pt_cmpR op_isN (pv 4) pe_non (nomark _)) (pss_one (ps_ret pe_non)) pss_nil)
      (pss_cons (ps_expr (pe_bm PySem.F.plainAttrs_list PySem.F.slot_list_append PySem.F.type_list_append mt_append (pv 1) (pa_cons (pv 4) pa_nil)))
      (pss_cons (ps_set (i := 2) sc_parts_of.nd rfl (Or.inl rfl) (pe_op op_add (pv 2) (pe_callB call_len_seq (by rfl) T.b_len PySem.boot_len (pa_cons (pv 4) pa_nil))))
      (pss_one (ps_set (i := 3) sc_parts_of.nd rfl (Or.inl rfl) (pe_op op_add (pe_op op_sub (pv 3) pe_int) (pe_c (cal_codes_within T) hr (by decide) rfl (pa_cons (pe_ix ix_list (pv 4) pe_int (fun _ _ => rfl)) pa_nil))))))))))
      (pss_cons (ps_if (PW.pt (pw_or (pt_cmpR op_gt (pv 3) pe_int (nomark _)) (pw_or1 (pt_cmpR op_lt (pv 2) (pe_callB call_len_seq (by rfl) T.b_len PySem.boot_len (pa_cons (pv 0) pa_nil)) (nomark _))))) (pss_one (ps_ret pe_non)) pss_nil)
      (pss_one (ps_ret (pv 1))))))))), ?_⟩)
  obtain ⟨a, ns, rfl, hs, hz, kN, kS⟩ := h
  refine q_when (et_test (ev_op (ev_len (ev_var rfl) hs) ev_c rv_I0)) (fun hb H1 e1 => s_ret ev_c fun H2 e2 => ?_) (fun hb H1 e1 => ?_)
  · have hb2 : (60 : Int) < ((nums ns).length : Int) := of_decide_eq_true hb
    rw [nums_len] at hb2
    exact kN (if_pos (by omega)) H2 (e1.trans e2)
  have hb2 : ¬ (60 : Int) < ((nums ns).length : Int) := of_decide_eq_false hb
  rw [nums_len] at hb2
  have hP : partsOf ns = loopP ns.length ns 1 := if_neg (by omega)
  rw [hP] at kN
  rw [hP] at kS
  refine q_asgL (el_lst ea_nil (by decide)) fun l H2 hl e2 h2 => ?_
  refine q_asg ev_c fun H3 e3 => ?_
  refine q_asg ev_c fun H4 e4 => ?_
  refine q_while (fun m σ' H' => ∃ (i wt : Nat) (acc : List (List Int)) (qs : List Addr) (fl : Nat) (v : Option V), m = ns.length - i ∧ i ≤ ns.length ∧ σ' = [some (.ref a), some (.ref l), some (.int i), some (.int wt), v] ∧ Ex H H' ∧ LsAt H H' l qs acc ∧
      acc.length ≤ i ∧ (ns.drop i).length ≤ fl ∧ loopP ns.length ns 1 = (loopP fl (ns.drop i) wt).map (acc ++ ·)) ns.length ?_ ?_
  · refine ⟨0, 1, [], [], ns.length, none, rfl, Nat.zero_le _, rfl, ((e1.trans e2).trans e3).trans e4, ⟨fresh_back e1 hl, e4 _ _ (e3 _ _ h2), rfl, fun i q p h1 => by simp at h1⟩, Nat.le_refl _, by simp, ?_⟩
    rw [List.drop_zero]
    cases loopP ns.length ns 1 <;> rfl
  · rintro m σ' H' ⟨i, wt, acc, qs, fl, v, rfl, hi, rfl, eH, hL, hA, hfl, hE⟩
    refine ⟨_, et_and (et_test (ev_op (ev_var rfl) ev_c rv_I0)) (fun _ => et_test (ev_op (ev_var rfl) (ev_len (ev_var rfl) (ex_l eH hs)) rv_I0)), fun hb H5 e5 => ?_, fun hb H5 e5 => ?_⟩
    · rw [Bool.and_eq_true, decide_eq_true_eq, decide_eq_true_eq, nums_len] at hb
      obtain ⟨hw, hi2⟩ := hb
      have hi3 : i < ns.length := (by omega)
      have eH5 := eH.trans e5
      have hL5 := hL.mono e5
      refine ⟨_, fun σ2 H2 h => h, ?_⟩
      refine ⟨_, rfl, _, rfl, a, ns, i, rfl, ex_l eH5 hs, hi3, fun hno H6 e6 => ?_, fun p hp q H6 hq e6 h6 => ?_⟩
      · refine q_when (et_test (ev_op (ev_var rfl) ev_c rv_isN)) (fun hb H7 e7 => s_ret ev_c fun H8 e8 => ?_) (fun hb H7 e7 => by cases hb)
        refine kN ?_ H8 (((eH5.trans e6).trans e7).trans e8)
        rw [hE, loopP_no hfl (by omega) hno]
        rfl
      · obtain ⟨s', r', t', hd, hpc, hpl⟩ := partOf_cons hp
        refine q_when (et_test (ev_op (ev_var rfl) ev_c rv_isN)) (fun hb H7 e7 => by cases hb) (fun hb H7 e7 => ?_)
        have hL7 := hL5.mono (e6.trans e7)
        have h7 := e7 _ _ h6
        refine q_app hL7.at_ (ev_var rfl) (ev_var rfl) (by rw [List.length_map, hL7.len]; omega) fun H8 e8 => ?_
        have hP8 := hL5.push ((e6.trans e7).trans e8) eH5 hq (e8 _ _ h7)
        have eX : Ex H (upd H8 l (.lst (qs.map V.ref ++ [.ref q]))) := (((eH5.trans e6).trans e7).trans e8).mut hL.new
        have hql : q ≠ l := (hP8.its qs.length q p (by simp) (by rw [hL.len]; simp)).2.1
        have h8 : (upd H8 l (.lst (qs.map V.ref ++ [.ref q]))) q = some (.lst (nums p)) := by
          rw [upd_ne hql]
          exact e8 _ _ h7
        refine q_asg (ev_op (ev_var rfl) (ev_len (ev_var rfl) (sq_of h8)) rv_I0) fun H9 e9 => ?_
        refine s_asg (ev_op (ev_op (ev_var rfl) ev_c rv_I0) (ev_call (ea_cons (ev_op (ev_var rfl) ev_c (rv_ixL (sq_of (e9 _ _ h8)) (show atI (nums p) 0 = some (.int s') by rw [hpc]; exact atI_nat (j := 0) rfl))) ea_nil) spI1_v) rv_I0) fun H10 e10 => ?_
        obtain ⟨f', hf', hE'⟩ := loopP_yes hfl (show 0 < wt by omega) hp hpc
        have hlen : (ns.drop i).length = ns.length - i := List.length_drop
        have hpos : 0 < p.length := by rw [hpc]; simp
        have hcw := cw_nonneg s'
        refine ⟨ns.length - (i + p.length), by omega, i + p.length, wt - 1 + (cw s').toNat, acc ++ [p], qs ++ [q], f', some (.ref q), rfl, by omega, ?_, eX.trans (e9.trans e10), hP8.mono (e9.trans e10), by simp; omega, ?_, ?_⟩
        · have c1 : ((i : Int) + ((nums p).length : Int)) = ((i + p.length : Nat) : Int) := by rw [nums_len]; omega
          have c2 : ((wt : Int) - 1 + cw s') = ((wt - 1 + (cw s').toNat : Nat) : Int) := by omega
          show [some (V.ref a), some (V.ref l), some (V.int ((i : Int) + ((nums p).length : Int))), some (V.int ((wt : Int) - 1 + cw s')), some (V.ref q)] = _
          rw [c1, c2]
        · rw [← List.drop_drop]
          exact hf'
        · rw [hE, hE', Option.map_map, ← List.drop_drop]
          congr 1
          funext x
          simp
    · have eH5 := eH.trans e5
      have hL5 := hL.mono e5
      have hb' : ¬ (0 < wt ∧ i < ns.length) := fun ⟨q1, q2⟩ => by
        rw [nums_len, decide_eq_true (show (0 : Int) < (wt : Int) by omega), decide_eq_true (show (i : Int) < (ns.length : Int) by omega)] at hb
        cases hb
      refine q_when (et_or (et_test (ev_op (ev_var rfl) ev_c rv_I0)) (fun _ => et_test (ev_op (ev_var rfl) (ev_len (ev_var rfl) (ex_l eH5 hs)) rv_I0))) (fun hc H6 e6 => s_ret ev_c fun H7 e7 => ?_) (fun hc H6 e6 => s_ret (ev_var rfl) fun H7 e7 => ?_)
      · rw [Bool.or_eq_true, decide_eq_true_eq, decide_eq_true_eq, nums_len] at hc
        refine kN ?_ H7 ((eH5.trans e6).trans e7)
        rw [hE]
        rcases hc with hc | hc
        · have : i = ns.length := by omega
          rw [this, List.drop_length, loopP_short _ _ (by omega)]
          rfl
        · have hw0 : wt = 0 := by omega
          have hne : ns.drop i ≠ [] := fun z => by
            have := congrArg List.length z
            rw [List.length_drop] at this
            simp at this
            omega
          rw [hw0, loopP_long _ hne]
          rfl
      · rw [Bool.or_eq_false_iff, decide_eq_false_iff_not, decide_eq_false_iff_not, nums_len] at hc
        have hw0 : wt = 0 := by omega
        have hi0 : i = ns.length := by omega
        refine kS acc ?_ l qs H7 ((eH5.trans e6).trans e7) (hL5.mono (e6.trans e7))
        rw [hE, hw0, hi0, List.drop_length, loopP_done]
        simp
end
end WG
namespace WG
open PySem PySem.Spec
open PyProof.Rows
open L2 hiding CX0 E0 pass0 Fun
open C8 Evl
/-! ### more of what evaluates to what -/
section
variable {K : PySem.W.Frag} {σ : L2.St} {H : Hp} {ta tb te : TE} {t : TA} {x y z v : V} {r : R2} {a C dx : Addr} {fs : List (Str × V)} {f m : Str} {sp : Sp} {dvs vs xs : List V} {E : XK}
theorem ev_fld (ha : Ev ta σ H (.ref a)) (h : H a = some (.ins C dx fs)) (c : Cls K C) (n : NoAttr K C f) (l : fs.lookup f = some v) : Ev (tFld K ta f) σ H v := fun H1 e Q q =>
  ha H1 e _ fun H2 e2 => ⟨a, C, dx, fs, v, rfl, (e.trans e2) a _ h, c, n, l, q H2 e2⟩
theorem ev_meth (ha : Ev ta σ H (.ref a)) (h : H a = some (.ins C dx fs)) (l : fs.lookup m = none) (hA : EvA t σ H vs) (hs : SpV sp (.ref a :: (vs ++ dvs)) H z) : Ev (tMeth C m sp dvs E ta t) σ H z := fun H1 e Q q =>
  ha H1 e _ fun H2 e2 => ⟨a, dx, fs, rfl, (e.trans e2) a _ h, l, hA H2 (e.trans e2) _ fun H3 e3 => hs H3 ((e.trans e2).trans e3) Q (fun H4 e4 => q H4 ((e2.trans e3).trans e4)) E⟩
theorem ev_opU1 (ha : EvU ta σ H xs) (hb : Ev tb σ H y) (hr : ∀ p H1, H1 p = some (.tup xs) → Ex H H1 → RV r (.ref p) y H1 z) : Ev (tOp r ta tb) σ H z := fun H1 e Q q =>
  ha H1 e _ fun p H2 _ e2 hp => hb H2 (e.trans e2) _ fun H3 e3 => hr p H3 (e3 p _ hp) ((e.trans e2).trans e3) H3 (Ex.refl H3) Q fun H4 e4 => q H4 ((e2.trans e3).trans e4)
theorem lk_here {k : Str} {v : V} {r : List (Str × V)} : List.lookup k ((k, v) :: r) = some v := by
  have e : (k == k) = true := beq_self_eq_true k
  simp only [List.lookup, e]
theorem lk_past {k g : Str} {v : V} {r : List (Str × V)} (h : (k == g) = false) : List.lookup k ((g, v) :: r) = List.lookup k r := by
  simp only [List.lookup, h]
theorem lk_nil {k : Str} : List.lookup k ([] : List (Str × V)) = none := rfl
theorem put_here {f : Str} {v x : V} {r : List (Str × V)} : putF f v ((f, x) :: r) = (f, v) :: r := if_pos rfl
theorem put_past {f g : Str} {v x : V} {r : List (Str × V)} (h : ¬ g = f) : putF f v ((g, x) :: r) = (g, x) :: putF f v r := if_neg h
theorem put_nil {f : Str} {v : V} : putF f v [] = [(f, v)] := rfl
end
/-- all that was tracked stands, but for these -/
def Keep (M : List Addr) (H H' : Hp) : Prop := ∀ b o, H b = some o → b ∉ M → H' b = some o
theorem Keep.refl (M : List Addr) (H : Hp) : Keep M H H := fun _ _ h _ => h
theorem Keep.of {M : List Addr} {H H' : Hp} (e : Ex H H') : Keep M H H' := fun b o h _ => e b o h
theorem Keep.trans {M : List Addr} {H H1 H2 : Hp} (a : Keep M H H1) (b : Keep M H1 H2) : Keep M H H2 := fun c o h n => b c o (a c o h n) n
theorem Keep.mono {M N : List Addr} {H H' : Hp} (a : Keep M H H') (s : ∀ b ∈ M, b ∈ N) : Keep N H H' := fun b o h n => a b o h fun z => n (s b z)
theorem keep_upd {M : List Addr} {H H' : Hp} {a : Addr} {o : HO} (k : Keep M H H') (h : a ∈ M) : Keep M H (upd H' a o) := fun b u hb n => by
  have hne : b ≠ a := fun e => n (by rw [e]; exact h)
  rw [upd_ne hne]
  exact k b u hb n

/-! ### kinds -/
abbrev ofN (l : List Nat) : List Int := l.map fun (n : Nat) => (n : Int)
abbrev nn (l : List Nat) : List V := nums (ofN l)
theorem nn_len (l : List Nat) : (nn l).length = l.length := by rw [nums_len, List.length_map]
theorem nn_at {l : List Nat} {i n : Nat} (h : l[i]? = some n) : (nn l)[i]? = some (.int (n : Int)) := by
  refine nums_at ?_
  rw [List.getElem?_map, h]
  rfl
def kindsFrom : Nat → List Nat → Bool
  | _, [] => true
  | b, k :: r => if k ≤ b ∨ 8 < k then false else kindsFrom k r
theorem kindsFrom_iff : ∀ (l : List Nat) (b : Nat), b ≤ 8 → kindsFrom b l = (Gq01.rises l && l.all (fun k => decide (1 ≤ k) && decide (k ≤ 8)) && (match l with | [] => true | k :: _ => decide (b < k)))
  | [], _, _ => rfl
  | [k], b, hb => by
    show (if k ≤ b ∨ 8 < k then false else true) = _
    by_cases c : k ≤ b ∨ 8 < k
    · rw [if_pos c]
      simp [Gq01.rises]
      omega
    · rw [if_neg c]
      simp [Gq01.rises]
      omega
  | k :: m :: r, b, hb => by
    show (if k ≤ b ∨ 8 < k then false else kindsFrom k (m :: r)) = _
    by_cases c : k ≤ b ∨ 8 < k
    · rw [if_pos c]
      simp only [Gq01.rises, List.all_cons]
      cases h1 : decide (1 ≤ k) && decide (k ≤ 8) with
      | false => simp
      | true =>
        rw [Bool.and_eq_true_iff, decide_eq_true_eq, decide_eq_true_eq] at h1
        have : decide (b < k) = false := decide_eq_false (by omega)
        simp [this]
    · rw [if_neg c, kindsFrom_iff (m :: r) k (by omega)]
      have h1 : decide (1 ≤ k) = true := decide_eq_true (by omega)
      have h2 : decide (k ≤ 8) = true := decide_eq_true (by omega)
      have h3 : decide (b < k) = true := decide_eq_true (by omega)
      simp only [Gq01.rises, List.all_cons, h1, h2, h3, Bool.true_and, Bool.and_true]
      cases decide (k < m) <;> simp
theorem kindsFrom_zero (l : List Nat) : kindsFrom 0 l = Gq01.isKinds l := by
  rw [kindsFrom_iff l 0 (by omega)]
  unfold Gq01.isKinds
  cases l with
  | nil => rfl
  | cons k r =>
    simp only [List.all_cons]
    cases Gq01.rises (k :: r) with
    | false => rfl
    | true =>
      by_cases c : 1 ≤ k
      · simp [show 0 < k from c]
      · simp [c]
section
variable {P : Program} {w : World} {K : PySem.W.Frag} {mg : Str → Option Value} {base : Heap} {C_Graph C_Line C_Reader a_CALLS : Addr}
def spKinds (K : PySem.W.Frag) : Sp := fun vs H Q _ => ∃ (a : Addr) (l : List Nat), vs = [.ref a] ∧ SqL K H a (nn l) ∧ ∀ H', Ex H H' → Q (.bl (Gq01.isKinds l)) H'
theorem spKinds_v {a : Addr} {l : List Nat} {H : Hp} (h : SqL K H a (nn l)) : SpV (spKinds K) [.ref a] H (.bl (Gq01.isKinds l)) := fun H1 e Q q E => ⟨a, l, rfl, ex_l e h, q⟩
theorem cal_are_kinds (T : Tx K mg C_Graph C_Line C_Reader a_CALLS) : Cal P w K mg base 1 "are_kinds" (spKinds K) [] := by
  refine T.d_are_kinds.cal sc_are_kinds (fun vs H Q E h => by obtain ⟨a, l, rfl, _⟩ := h; rfl) (fun f cdv A outer s H vs Q E hr h => ⟨_, (pss_cons (ps_set (i := 1) sc_are_kinds.nd rfl (Or.inl rfl) pe_int)
      (pss_cons (ps_for PassesOwn.never rfl (pi_list (pv 0)) (pg_name (i := 2) sc_are_kinds.nd rfl (Or.inl rfl)) (pss_cons (ps_if (PW.pt (pw_or (pt_cmpR op_le (pv 2) (pv 1) (nomark _)) (pw_or1 (pt_cmpR op_gt (pv 2) (pe_gc rfl T.g_HIGHEST_KIND) (nomark _))))) (pss_one (ps_ret pe_bl)) pss_nil)
      (pss_one (ps_set (i := 1) sc_are_kinds.nd rfl (Or.inl rfl) (pv 2)))))
      (pss_one (ps_ret pe_bl)))), ?_⟩)
  obtain ⟨a, l, rfl, hs, k⟩ := h
  rw [← kindsFrom_zero] at k
  refine q_asg ev_c fun H1 e1 => ?_
  refine q_forLn (ev_var rfl) (ex_l e1 hs) (fun i σ' H' => ∃ (b : Nat) (v : Option V), σ' = [some (.ref a), some (.int (b : Int)), v] ∧ Ex H H' ∧ kindsFrom 0 l = kindsFrom b (l.drop i)) (fun H2 e2 => ⟨0, none, rfl, e1.trans e2, rfl⟩) (fun i σ' H' _ ⟨_, _, _, e, _⟩ => ex_l e hs) ?_ ?_
  · rintro i x σ' H' hi ⟨b, v, rfl, e, hE⟩
    obtain ⟨z, hz, rfl⟩ := nums_of hi
    obtain ⟨n, hn, rfl⟩ : ∃ n, l[i]? = some n ∧ z = (n : Int) := by
      rw [List.getElem?_map] at hz
      cases q : l[i]? with
      | none => rw [q] at hz; cases hz
      | some n => rw [q] at hz; exact ⟨n, rfl, (Option.some.inj hz).symm⟩
    have hd : l.drop i = n :: l.drop (i + 1) := by
      obtain ⟨h1, h2⟩ := List.getElem?_eq_some_iff.mp hn
      rw [(List.drop_eq_getElem_cons h1), h2]
    have hE2 : kindsFrom 0 l = if n ≤ b ∨ 8 < n then false else kindsFrom n (l.drop (i + 1)) := by rw [hE, hd]; rfl
    refine q_when (et_or (et_test (ev_op (ev_var rfl) (ev_var rfl) rv_I0)) (fun _ => et_test (ev_op (ev_var rfl) ev_c rv_I0))) (fun hb H2 e2 => s_ret ev_c fun H3 e3 => ?_) (fun hb H2 e2 => s_asg (ev_var rfl) fun H3 e3 => ?_)
    · rw [Bool.or_eq_true, decide_eq_true_eq, decide_eq_true_eq] at hb
      have q := k H3 ((e.trans e2).trans e3)
      rw [hE2, if_pos (by omega)] at q
      exact q
    · rw [Bool.or_eq_false_iff, decide_eq_false_iff_not, decide_eq_false_iff_not] at hb
      refine ⟨n, some (.int (n : Int)), rfl, (e.trans e2).trans e3, ?_⟩
      rw [hE2, if_neg (by omega)]
  · rintro σ' H' ⟨b, v, rfl, e, hE⟩
    refine s_ret ev_c fun H2 e2 => ?_
    have q := k H2 (e.trans e2)
    rw [hE, nn_len, List.drop_length] at q
    exact q
end
end WG
namespace WG
open PySem PySem.Spec
open PyProof.Rows
open L2 hiding CX0 E0 pass0 Fun
open C8 Evl
/-! ### the graph in the heap -/
abbrev gF (aN aE : Addr) : List (Str × V) := [("node_kinds", .ref aN), ("edge_list", .ref aE)]
theorem gF_n {aN aE : Addr} : (gF aN aE).lookup ("node_kinds" : Str) = some (.ref aN) := lk_here
theorem gF_e {aN aE : Addr} : (gF aN aE).lookup ("edge_list" : Str) = some (.ref aE) := (lk_past (by decide +kernel)).trans lk_here
theorem gF_no {aN aE : Addr} {m : Str} (h1 : (m == ("node_kinds" : Str)) = false) (h2 : (m == ("edge_list" : Str)) = false) : (gF aN aE).lookup m = none := (lk_past h1).trans ((lk_past h2).trans rfl)
def edV (e : Gq01.Edge) : List V := [.int (e.src : Int), .int (e.label : Int), .int (e.dst : Int)]
structure GrAt (C : Addr) (M : List Addr) (H : Hp) (aG aN aE : Addr) (g : Gq01.Graph) : Prop where
  obj : ∃ dx, H aG = some (.ins C dx (gF aN aE))
  nl : ∃ qs : List Addr, H aN = some (.lst (qs.map V.ref)) ∧ qs.length = g.kinds.length ∧ ∀ (i : Nat) (q : Addr) (k : List Nat), qs[i]? = some q → g.kinds[i]? = some k → H q = some (.lst (nn k)) ∧ q ≠ aN ∧ q ≠ aE ∧ q ∉ M
  el : ∃ ts : List Addr, H aE = some (.lst (ts.map V.ref)) ∧ ts.length = g.edges.length ∧ ∀ (i : Nat) (t : Addr) (e : Gq01.Edge), ts[i]? = some t → g.edges[i]? = some e → H t = some (.tup (edV e))
  ne : aN ≠ aE
  few : g.kinds.length ≤ 12 ∧ g.edges.length ≤ 40
  nd : g.edges.Nodup
theorem GrAt.keep {C : Addr} {M : List Addr} {H H' : Hp} {aG aN aE : Addr} {g : Gq01.Graph} (h : GrAt C M H aG aN aE g) {N : List Addr} (e : Keep N H H') (m1 : aG ∉ N) (m2 : aN ∉ N) (m3 : aE ∉ N) (mL : ∀ b ∈ N, (∃ xs, H b = some (.lst xs)) → b = aN ∨ b = aE ∨ b ∈ M) (mT : ∀ b ∈ N, ∀ xs, H b ≠ some (.tup xs)) : GrAt C M H' aG aN aE g := by
  obtain ⟨dx, h1⟩ := h.obj
  obtain ⟨qs, h2, h3, h4⟩ := h.nl
  obtain ⟨ts, h5, h6, h7⟩ := h.el
  refine ⟨⟨dx, e _ _ h1 m1⟩, ⟨qs, e _ _ h2 m2, h3, fun i q k a b => ?_⟩, ⟨ts, e _ _ h5 m3, h6, fun i t d a b => e _ _ (h7 i t d a b) fun z => mT t z _ (h7 i t d a b)⟩, h.ne, h.few, h.nd⟩
  obtain ⟨k1, k2, k3, k4⟩ := h4 i q k a b
  exact ⟨e _ _ k1 fun z => (mL q z ⟨_, k1⟩).elim k2 fun z => z.elim k3 k4, k2, k3, k4⟩
theorem GrAt.mono {C : Addr} {M : List Addr} {H H' : Hp} {aG aN aE : Addr} {g : Gq01.Graph} (h : GrAt C M H aG aN aE g) (e : Ex H H') : GrAt C M H' aG aN aE g :=
  h.keep (N := []) (Keep.of e) (by simp) (by simp) (by simp) (fun b hb => by simp at hb) (fun b hb => by simp at hb)
/-! ### edges as data -/
def eD (e : Gq01.Edge) : PyData := .tuple [.int (e.src : Int), .int (e.label : Int), .int (e.dst : Int)]
theorem eD_lay (e : Gq01.Edge) : (eD e).canLay0 = true := by simp [eD, PyData.canLay0, PyData.canLayAll0]
theorem eD_depth (e : Gq01.Edge) : (eD e).depth = 1 := by simp [eD, PyData.depth, PyData.depthAll]
theorem eDs_lay : ∀ l : List Gq01.Edge, PyData.canLayAll0 (l.map eD) = true
  | [] => by simp only [List.map_nil, PyData.canLayAll0]
  | e :: l => by simp [PyData.canLayAll0, eD_lay e, eDs_lay l]
theorem eDs_depth : ∀ l : List Gq01.Edge, PyData.depthAll (l.map eD) ≤ 1
  | [] => by simp [PyData.depthAll, List.map_nil]
  | e :: l => by
    have h1 := eDs_depth l
    have h2 := eD_depth e
    simp only [PyData.depthAll, List.map_cons]
    omega
theorem eD_shaped (e : Gq01.Edge) : SeqAt.shaped (eD e) = true := by
  have h := eD_depth e
  show ((eD e).canLay0 && decide ((eD e).depth ≤ 64)) = true
  rw [Bool.and_eq_true]
  exact ⟨eD_lay e, decide_eq_true (by omega)⟩
theorem eDs_shaped (l : List Gq01.Edge) : SeqAt.shaped (.list (l.map eD)) = true := by
  have h1 := eDs_depth l
  have h2 : PyData.depth (.list (l.map eD)) ≤ 64 := by
    simp only [PyData.depth]
    omega
  show (PyData.canLay0 (.list (l.map eD)) && decide (PyData.depth (.list (l.map eD)) ≤ 64)) = true
  rw [Bool.and_eq_true]
  exact ⟨by simp only [PyData.canLay0]; exact eDs_lay l, decide_eq_true h2⟩
theorem eD_eqv (d e : Gq01.Edge) : PyData.eqv (eD d) (eD e) = decide (d = e) := by
  obtain ⟨a, b, c⟩ := d
  obtain ⟨a', b', c'⟩ := e
  have h : PyData.eqv (eD ⟨a, b, c⟩) (eD ⟨a', b', c'⟩) = (((a : Int) == (a' : Int)) && (((b : Int) == (b' : Int)) && (((c : Int) == (c' : Int)) && true))) := by simp only [eD, PyData.eqv, PyData.eqvAll]
  rw [h, Bool.and_true, Bool.eq_iff_iff]
  simp only [Bool.and_eq_true, beq_iff_eq, decide_eq_true_eq, Gq01.Edge.mk.injEq]
  omega
theorem eDs_any (l : List Gq01.Edge) (e : Gq01.Edge) : ((l.map eD).any fun z => PyData.eqv z (eD e)) = l.contains e := by
  induction l with
  | nil => rfl
  | cons d l ih =>
    rw [List.map_cons, List.any_cons, ih, eD_eqv, List.contains_cons]
    congr 1
    by_cases h : d = e
    · subst h
      simp
    · rw [decide_eq_false h]
      exact (beq_eq_false_iff_ne.mpr (fun z => h z.symm)).symm
section
variable {K : PySem.W.Frag} {C : Addr} {M : List Addr} {H : Hp} {aG aN aE : Addr} {g : Gq01.Graph}
theorem dp_edges_aux : ∀ (ts : List Addr) (es : List Gq01.Edge), ts.length = es.length → (∀ (i : Nat) (t : Addr) (e : Gq01.Edge), ts[i]? = some t → es[i]? = some e → H t = some (.tup (edV e))) → DpAll K H (ts.map V.ref) (es.map eD)
  | [], [], _, _ => .nil
  | [], _ :: _, len0, _ => by simp at len0
  | _ :: _, [], len0, _ => by simp at len0
  | t :: ts, e :: es, h, k => .cons (.tup (st_of (k 0 t e rfl rfl)) (.cons (.int _) (.cons (.int _) (.cons (.int _) .nil)))) (dp_edges_aux ts es (by simpa using h) fun i t' e' h1 h2 => k (i + 1) t' e' h1 h2)
theorem GrAt.dp (h : GrAt C M H aG aN aE g) : Dp K H (.ref aE) (.list (g.edges.map eD)) := by
  obtain ⟨ts, h5, h6, h7⟩ := h.el
  exact .lst (sq_of h5) (dp_edges_aux ts _ h6 h7)
theorem dp_tup {p : Addr} {e : Gq01.Edge} (h : H p = some (.tup (edV e))) : Dp K H (.ref p) (eD e) := .tup (st_of h) (.cons (.int _) (.cons (.int _) (.cons (.int _) .nil)))
end
section
variable {P : Program} {w : World} {K : PySem.W.Frag} {mg : Str → Option Value} {base : Heap} {C_Graph C_Line C_Reader a_CALLS : Addr}
/-! ### the methods -/
def spGInit (C : Addr) : Sp := fun vs H Q _ => ∃ (p dx : Addr), vs = [.ref p] ∧ H p = some (.ins C dx []) ∧
  ∀ (H' : Hp) (aN aE : Addr), H aN = none → H aE = none → (∀ M, GrAt C M H' p aN aE ⟨[], []⟩) → Keep [p] H H' → Q .non H'
theorem mak_Graph (T : Tx K mg C_Graph C_Line C_Reader a_CALLS) : Mak P w K mg base 1 "Graph" C_Graph (spGInit C_Graph) [] := by
  refine T.i_Graph.mak T.g_Graph sc_Graph_init (fun vs H Q E h => by obtain ⟨p, dx, rfl, _⟩ := h; rfl) (fun f cdv A outer s H vs Q E hr h => ⟨_, (pss_cons (ps_fld (pv 0) (pe_lst pa_nil) rfl)
      (pss_one (ps_fld (pv 0) (pe_lst pa_nil) rfl))), ?_⟩)
  obtain ⟨p, dx, rfl, hp, k⟩ := h
  refine ⟨by decide, fun aN hN => ⟨_, rfl, p, C_Graph, dx, [], rfl, ?_, T.c_Graph, T.n_Graph_node_kinds, by decide, ?_⟩⟩
  · rw [upd_ne (ne_of_none hp hN)]
    exact hp
  have n1 : p ≠ aN := ne_of_none hp hN
  refine ⟨by decide, fun aE hE => ⟨_, rfl, p, C_Graph, dx, [("node_kinds", .ref aN)], rfl, ?_, T.c_Graph, T.n_Graph_edge_list, by show 1 < 1000; decide, ?_⟩⟩
  · have n2 : p ≠ aE := fun z => by
      subst z
      rw [upd_same] at hE
      cases hE
    rw [upd_ne n2, upd_same]
    rfl
  have n2 : aE ≠ p := fun z => by
    subst z
    rw [upd_same] at hE
    cases hE
  rw [upd_ne n2] at hE
  have n3 : aE ≠ aN := fun z => by
    subst z
    rw [upd_same] at hE
    cases hE
  rw [upd_ne n3] at hE
  refine k _ aN aE hN hE (fun M => ⟨⟨dx, ?_⟩, ⟨[], ?_, rfl, fun i q k h => by simp at h⟩, ⟨[], ?_, rfl, fun i q k h => by simp at h⟩, n3.symm, ⟨by decide, by decide⟩, .nil⟩) ?_
  · rw [upd_same]
    exact congrArg (fun q => some (HO.ins C_Graph dx q)) ((put_past (by decide +kernel)).trans rfl)
  · rw [upd_ne n1.symm, upd_ne n3.symm, upd_ne n1.symm, upd_same]
    rfl
  · rw [upd_ne n2, upd_same]
    rfl
  · intro b o hb hm
    have h1 : b ≠ p := fun z => hm (by simp [z])
    rw [upd_ne h1, upd_ne (ne_of_none hb hE), upd_ne h1, upd_ne (ne_of_none hb hN)]
    exact hb
def spHasNode (C : Addr) : Sp := fun vs H Q _ => ∃ (aG aN aE : Addr) (M : List Addr) (g : Gq01.Graph) (x : Nat), vs = [.ref aG, .int (x : Int)] ∧ GrAt C M H aG aN aE g ∧ ∀ H', Ex H H' → Q (.bl (Gq01.isNode g x)) H'
theorem spHasNode_v {C aG aN aE : Addr} {M : List Addr} {g : Gq01.Graph} {x : Nat} {H : Hp} (h : GrAt C M H aG aN aE g) : SpV (spHasNode C) [.ref aG, .int (x : Int)] H (.bl (Gq01.isNode g x)) := fun H1 e Q q E => ⟨aG, aN, aE, M, g, x, rfl, h.mono e, q⟩
theorem met_Graph_has_node (T : Tx K mg C_Graph C_Line C_Reader a_CALLS) : Met P w K mg base 1 C_Graph "has_node" (spHasNode C_Graph) [] := by
  refine T.m_Graph_has_node.met sc_Graph_has_node (fun vs H Q E h => by obtain ⟨aG, aN, aE, M, g, x, rfl, _⟩ := h; rfl) (fun f cdv A outer s H vs Q E hr h => ⟨_, (pss_one (ps_ret (pe_chain op_le op_le pe_int (pv 1) (pe_callB call_len_seq (by rfl) T.b_len PySem.boot_len (pa_cons (pe_fld (pv 0) rfl) pa_nil))))), ?_⟩)
  obtain ⟨aG, aN, aE, M, g, x, rfl, hg, k⟩ := h
  obtain ⟨dx, h1⟩ := hg.obj
  obtain ⟨qs, h2, h3, h4⟩ := hg.nl
  refine s_ret (ev_chain ev_c (ev_var rfl) rv_I0 (fun _ => ev_len (ev_fld (ev_var rfl) h1 T.c_Graph T.n_Graph_node_kinds gF_n) (sq_of h2)) fun _ => rv_I0) fun H1 e1 => ?_
  have q := k H1 e1
  have e : (decide ((1 : Int) ≤ (x : Int)) && decide ((x : Int) ≤ ((qs.map V.ref).length : Int))) = Gq01.isNode g x := by
    unfold Gq01.isNode
    rw [List.length_map, h3]
    congr 1
    · exact decide_eq_decide.mpr (by omega)
    · exact decide_eq_decide.mpr (by omega)
  rw [← e] at q
  exact q

/-! ### changes -/
def gNode (g : Gq01.Graph) (l : List Nat) : Gq01.Graph × Int := if Gq01.isKinds l = false then (g, -1) else if 12 ≤ g.kinds.length then (g, -5) else ({ g with kinds := g.kinds ++ [l] }, ((g.kinds.length + 1 : Nat) : Int))
def gKinds (g : Gq01.Graph) (x : Nat) (l : List Nat) : Gq01.Graph × Int := if Gq01.isNode g x = false ∨ Gq01.isKinds l = false then (g, -1) else ({ g with kinds := g.kinds.set (x - 1) l }, 0)
def gEdge (g : Gq01.Graph) (e : Gq01.Edge) : Gq01.Graph × Int := if Gq01.isNode g e.src = false ∨ Gq01.isLabel e.label = false ∨ Gq01.isNode g e.dst = false then (g, -1) else if g.edges.contains e = true then (g, -4) else if 40 ≤ g.edges.length then (g, -5) else
  ({ g with edges := g.edges ++ [e] }, ((g.edges.length + 1 : Nat) : Int))
def gCut (g : Gq01.Graph) (e : Gq01.Edge) : Gq01.Graph × Int := if g.edges.contains e = false then (g, -3) else (Gq01.without g e, ((g.edges.length - 1 : Nat) : Int))
def spAddNode (C : Addr) : Sp := fun vs H Q _ => ∃ (aG aN aE : Addr) (M : List Addr) (g : Gq01.Graph) (ak : Addr) (l : List Nat), vs = [.ref aG, .ref ak] ∧ GrAt C M H aG aN aE g ∧ H ak = some (.lst (nn l)) ∧ ak ≠ aN ∧ ak ≠ aE ∧ ak ∉ M ∧
  ∀ H', GrAt C M H' aG aN aE (gNode g l).1 → Keep [aN, aE] H H' → Q (.int (gNode g l).2) H'
theorem GrAt.neG {C : Addr} {M : List Addr} {H : Hp} {aG aN aE : Addr} {g : Gq01.Graph} (h : GrAt C M H aG aN aE g) : aG ≠ aN ∧ aG ≠ aE := by
  obtain ⟨dx, h1⟩ := h.obj
  obtain ⟨qs, h2, _⟩ := h.nl
  obtain ⟨ts, h3, _⟩ := h.el
  exact ⟨ne_of h1 h2 (fun z => nomatch z), ne_of h1 h3 (fun z => nomatch z)⟩
theorem snoc_at {α : Type} {l : List α} {a : α} {i : Nat} {x : α} (h : (l ++ [a])[i]? = some x) : (i < l.length ∧ l[i]? = some x) ∨ (i = l.length ∧ x = a) := by
  by_cases c : i < l.length
  · rw [List.getElem?_append_left c] at h
    exact .inl ⟨c, h⟩
  · rw [List.getElem?_append_right (by omega)] at h
    have c1 : i - l.length = 0 := by
      have := (List.getElem?_eq_some_iff.mp h).1
      simp at this
      omega
    rw [c1] at h
    cases h
    exact .inr ⟨by omega, rfl⟩
theorem met_Graph_add_node (T : Tx K mg C_Graph C_Line C_Reader a_CALLS) : Met P w K mg base 2 C_Graph "add_node" (spAddNode C_Graph) [] := by
  refine T.m_Graph_add_node.met sc_Graph_add_node (fun vs H Q E h => by obtain ⟨aG, aN, aE, M, g, ak, l, rfl, _⟩ := h; rfl) (fun f cdv A outer s H vs Q E hr h => ⟨_, (pss_cons (ps_if (pt_not (pt_val (pe_c (cal_are_kinds T) hr (by decide) rfl (pa_cons (pv 1) pa_nil)))) (pss_one (ps_ret (pe_gc rfl T.g_WRONG))) pss_nil)
      (pss_cons (ps_if (pt_cmpR op_eq (pe_callB call_len_seq (by rfl) T.b_len PySem.boot_len (pa_cons (pe_fld (pv 0) rfl) pa_nil)) (pe_gc rfl T.g_MOST_NODES) (nomark _)) (pss_one (ps_ret (pe_gc rfl T.g_FULL))) pss_nil)
      (pss_cons (ps_expr (pe_bm PySem.F.plainAttrs_list PySem.F.slot_list_append PySem.F.type_list_append mt_append (pe_fld (pv 0) rfl) (pa_cons (pv 1) pa_nil)))
      (pss_one (ps_ret (pe_callB call_len_seq (by rfl) T.b_len PySem.boot_len (pa_cons (pe_fld (pv 0) rfl) pa_nil))))))), ?_⟩)
  obtain ⟨aG, aN, aE, M, g, ak, l, rfl, hg, hk, nk1, nk2, nk3, k⟩ := h
  obtain ⟨dx, h1⟩ := hg.obj
  obtain ⟨qs, h2, h3, h4⟩ := hg.nl
  have evN : ∀ {H1 : Hp} {σ : L2.St}, Ex H H1 → σ[0]? = some (some (.ref aG)) → Ev (tFld K (tVar 0) "node_kinds") σ H1 (.ref aN) := fun e hσ => ev_fld (ev_var hσ) (e _ _ h1) T.c_Graph T.n_Graph_node_kinds gF_n
  refine q_when (et_not (et_B (ev_call (ea_cons (ev_var rfl) ea_nil) (spKinds_v (sq_of hk))))) (fun hb H1 e1 => s_ret ev_c fun H2 e2 => ?_) (fun hb H1 e1 => ?_)
  · have hb : Gq01.isKinds l = false := by rwa [Bool.not_eq_true'] at hb
    have q := k H2
    rw [show gNode g l = (g, -1) from if_pos hb] at q
    exact q (hg.mono (e1.trans e2)) (Keep.of (e1.trans e2))
  have hb : ¬ Gq01.isKinds l = false := by
    rw [Bool.not_eq_false'] at hb
    rw [hb]
    exact Bool.noConfusion
  refine q_when (et_test (ev_op (ev_len (evN e1 rfl) (sq_of (e1 _ _ h2))) ev_c (rv_eq rfl))) (fun hc H2 e2 => s_ret ev_c fun H3 e3 => ?_) (fun hc H2 e2 => ?_)
  · have hc2 : ((qs.map V.ref).length : Int) = 12 := V.int.inj (of_decide_eq_true hc)
    rw [List.length_map, h3] at hc2
    have q := k H3
    rw [show gNode g l = (g, -5) from (if_neg hb).trans (if_pos (by omega))] at q
    exact q (hg.mono ((e1.trans e2).trans e3)) (Keep.of ((e1.trans e2).trans e3))
  have hc2 : ¬ ((qs.map V.ref).length : Int) = 12 := fun z => of_decide_eq_false hc (by rw [z])
  rw [List.length_map, h3] at hc2
  have hfew := hg.few
  have e12 := e1.trans e2
  refine q_app (e12 _ _ h2) (evN e12 rfl) (ev_var rfl) (by rw [List.length_map, h3]; omega) fun H3 e3 => ?_
  have e13 := e12.trans e3
  have hU : (upd H3 aN (.lst (qs.map V.ref ++ [.ref ak]))) aN = some (.lst (qs.map V.ref ++ [.ref ak])) := upd_same
  refine s_ret (ev_len (ev_fld (ev_var rfl) ((upd_ne hg.neG.1).trans (e13 _ _ h1)) T.c_Graph T.n_Graph_node_kinds gF_n) (sq_of hU)) fun H4 e4 => ?_
  have hres : gNode g l = ({ g with kinds := g.kinds ++ [l] }, ((g.kinds.length + 1 : Nat) : Int)) := (if_neg hb).trans (if_neg (by omega))
  have q := k H4
  rw [hres] at q
  have el : ((qs.map V.ref ++ [V.ref ak]).length : Int) = ((g.kinds.length + 1 : Nat) : Int) := by rw [List.length_append, List.length_map, h3]; rfl
  rw [← el] at q
  have hg3 := hg.mono e13
  obtain ⟨ts, h5, h6, h7⟩ := hg3.el
  refine q ?_ ((keep_upd (Keep.of e13) (by simp)).trans (Keep.of e4))
  refine GrAt.mono ?_ e4
  refine ⟨⟨dx, (upd_ne hg.neG.1).trans (e13 _ _ h1)⟩, ⟨qs ++ [ak], ?_, by simp [h3], fun i q' k' a b => ?_⟩, ⟨ts, (upd_ne (Ne.symm hg.ne)).trans h5, h6, fun i t e a b => ?_⟩, hg.ne, ⟨?_, hfew.2⟩, hg.nd⟩
  · rw [upd_same, List.map_append]
    rfl
  · rcases snoc_at a with ⟨c, a⟩ | ⟨c, rfl⟩
    · rcases snoc_at b with ⟨d, b⟩ | ⟨d, _⟩
      · obtain ⟨k1, k2, k3, k4⟩ := h4 i q' k' a b
        exact ⟨(upd_ne k2).trans (e13 _ _ k1), k2, k3, k4⟩
      · omega
    · rcases snoc_at b with ⟨d, b⟩ | ⟨d, rfl⟩
      · omega
      · exact ⟨(upd_ne nk1).trans (e13 _ _ hk), nk1, nk2, nk3⟩
  · have ht := h7 i t e a b
    exact (upd_ne (ne_of ht (e13 _ _ h2) (fun z => nomatch z))).trans ht
  · show (g.kinds ++ [l]).length ≤ 12
    simp
    omega
end
end WG
namespace WG
open PySem PySem.Spec
open PyProof.Rows
open L2 hiding CX0 E0 pass0 Fun
open C8 Evl
section
variable {P : Program} {w : World} {K : PySem.W.Frag} {mg : Str → Option Value} {base : Heap} {C_Graph C_Line C_Reader a_CALLS : Addr}
def spPutKinds (C : Addr) : Sp := fun vs H Q _ => ∃ (aG aN aE : Addr) (M : List Addr) (g : Gq01.Graph) (x : Nat) (ak : Addr) (l : List Nat), vs = [.ref aG, .int (x : Int), .ref ak] ∧ GrAt C M H aG aN aE g ∧ H ak = some (.lst (nn l)) ∧ ak ≠ aN ∧ ak ≠ aE ∧ ak ∉ M ∧
  ∀ H', GrAt C M H' aG aN aE (gKinds g x l).1 → Keep [aN, aE] H H' → Q (.int (gKinds g x l).2) H'
theorem not_false_of {b : Bool} (h : (!b) = false) : ¬ b = false := by
  rw [Bool.not_eq_false'] at h
  rw [h]
  exact Bool.noConfusion
theorem met_Graph_put_kinds (T : Tx K mg C_Graph C_Line C_Reader a_CALLS) : Met P w K mg base 2 C_Graph "put_kinds" (spPutKinds C_Graph) [] := by
  refine T.m_Graph_put_kinds.met sc_Graph_put_kinds (fun vs H Q E h => by obtain ⟨aG, aN, aE, M, g, x, ak, l, rfl, _⟩ := h; rfl) (fun f cdv A outer s H vs Q E hr h => ⟨_, (pss_cons (ps_if (PW.pt (pw_or (pt_not (pt_val (pe_c (cal_are_kinds T) hr (by decide) rfl (pa_cons (pv 2) pa_nil)))) (pw_or1 (pt_not (pt_val (pe_mt (met_Graph_has_node T) hr (by decide) (pv 0) (pa_cons (pv 1) pa_nil))))))) (pss_one (ps_ret (pe_gc rfl T.g_WRONG))) pss_nil)
      (pss_cons (ps_asg (pv 2) (pg_sub (pe_fld (pv 0) rfl) (pe_op op_sub (pv 1) pe_int) set_list))
      (pss_one (ps_ret pe_int)))), ?_⟩)
  obtain ⟨aG, aN, aE, M, g, x, ak, l, rfl, hg, hk, nk1, nk2, nk3, k⟩ := h
  obtain ⟨dx, h1⟩ := hg.obj
  obtain ⟨qs, h2, h3, h4⟩ := hg.nl
  refine q_when (et_or (et_not (et_B (ev_call (ea_cons (ev_var rfl) ea_nil) (spKinds_v (sq_of hk))))) (fun _ => et_not (et_B (ev_meth (ev_var rfl) h1 (gF_no (by decide +kernel) (by decide +kernel)) (ea_cons (ev_var rfl) ea_nil) (spHasNode_v hg))))) (fun hb H1 e1 => s_ret ev_c fun H2 e2 => ?_) (fun hb H1 e1 => ?_)
  · rw [Bool.or_eq_true, Bool.not_eq_true', Bool.not_eq_true'] at hb
    have q := k H2
    rw [show gKinds g x l = (g, -1) from if_pos hb.symm] at q
    exact q (hg.mono (e1.trans e2)) (Keep.of (e1.trans e2))
  rw [Bool.or_eq_false_iff] at hb
  have hb1 := not_false_of hb.1
  have hb2 := not_false_of hb.2
  have hres : gKinds g x l = ({ g with kinds := g.kinds.set (x - 1) l }, 0) := if_neg (fun z => z.elim hb2 hb1)
  have hx : 1 ≤ x ∧ x ≤ g.kinds.length := by
    have hn : Gq01.isNode g x = true := by
      cases q : Gq01.isNode g x with
      | true => rfl
      | false => exact absurd q hb2
    unfold Gq01.isNode at hn
    rw [Bool.and_eq_true, decide_eq_true_eq, decide_eq_true_eq] at hn
    exact hn
  refine q_setL (j := x - 1) (e1 _ _ h2) (ev_var rfl) (ev_fld (ev_var rfl) (e1 _ _ h1) T.c_Graph T.n_Graph_node_kinds gF_n) (ev_is (ev_op (ev_var rfl) ev_c rv_I0) (by show V.int ((x : Int) - 1) = V.int ((x - 1 : Nat) : Int); congr 1; omega)) (by rw [List.length_map, h3]; omega) fun H2 e2 => ?_
  refine s_ret ev_c fun H3 e3 => ?_
  have q := k H3
  rw [hres] at q
  have e12 := e1.trans e2
  have hg3 := hg.mono e12
  obtain ⟨ts, h5, h6, h7⟩ := hg3.el
  refine q ?_ ((keep_upd (Keep.of e12) (by simp)).trans (Keep.of e3))
  refine GrAt.mono ?_ e3
  refine ⟨⟨dx, (upd_ne hg.neG.1).trans (e12 _ _ h1)⟩, ⟨qs.set (x - 1) ak, ?_, by simp [h3], fun i q' k' a b => ?_⟩, ⟨ts, (upd_ne (Ne.symm hg.ne)).trans h5, h6, fun i t e a b => ?_⟩, hg.ne, ⟨by show (g.kinds.set (x - 1) l).length ≤ 12; rw [List.length_set]; exact hg.few.1, hg.few.2⟩, hg.nd⟩
  · rw [upd_same, List.map_set]
  · have b' : (g.kinds.set (x - 1) l)[i]? = some k' := b
    by_cases c : x - 1 = i
    · subst c
      rw [List.getElem?_set_self (by omega)] at a
      rw [List.getElem?_set_self (by omega)] at b'
      cases a
      cases b'
      exact ⟨(upd_ne nk1).trans (e12 _ _ hk), nk1, nk2, nk3⟩
    · rw [List.getElem?_set_ne c] at a
      rw [List.getElem?_set_ne c] at b'
      obtain ⟨k1, k2, k3, k4⟩ := h4 i q' k' a b'
      exact ⟨(upd_ne k2).trans (e12 _ _ k1), k2, k3, k4⟩
  · have ht := h7 i t e a b
    exact (upd_ne (ne_of ht (e12 _ _ h2) (fun z => nomatch z))).trans ht
/-! ### edges -/
theorem rv_inE {H : Hp} {p aE : Addr} {e : Gq01.Edge} {C aG aN : Addr} {M : List Addr} {g : Gq01.Graph} (hp : H p = some (.tup (edV e))) (hg : GrAt C M H aG aN aE g) : RV (rInD K) (.ref p) (.ref aE) H (.bl (g.edges.contains e)) := fun H1 x Q q =>
  ⟨eD e, g.edges.map eD, dp_tup (x _ _ hp), (hg.mono x).dp, eD_shaped e, eDs_shaped _, by rw [eDs_any]; exact q H1 (Ex.refl H1)⟩
theorem rv_notInE {H : Hp} {p aE : Addr} {e : Gq01.Edge} {C aG aN : Addr} {M : List Addr} {g : Gq01.Graph} (hp : H p = some (.tup (edV e))) (hg : GrAt C M H aG aN aE g) : RV (rNotInD K) (.ref p) (.ref aE) H (.bl (!g.edges.contains e)) := fun H1 x Q q =>
  ⟨eD e, g.edges.map eD, dp_tup (x _ _ hp), (hg.mono x).dp, eD_shaped e, eDs_shaped _, by rw [eDs_any]; exact q H1 (Ex.refl H1)⟩
def spAddEdge (C : Addr) : Sp := fun vs H Q _ => ∃ (aG aN aE : Addr) (M : List Addr) (g : Gq01.Graph) (e : Gq01.Edge), vs = .ref aG :: edV e ∧ GrAt C M H aG aN aE g ∧
  ∀ H', GrAt C M H' aG aN aE (gEdge g e).1 → Keep [aN, aE] H H' → Q (.int (gEdge g e).2) H'
theorem met_Graph_add_edge (T : Tx K mg C_Graph C_Line C_Reader a_CALLS) : Met P w K mg base 2 C_Graph "add_edge" (spAddEdge C_Graph) [] := by
  refine T.m_Graph_add_edge.met sc_Graph_add_edge (fun vs H Q E h => by obtain ⟨aG, aN, aE, M, g, e, rfl, _⟩ := h; rfl) (fun f cdv A outer s H vs Q E hr h => ⟨_, (pss_cons (ps_if (PW.pt (pw_or (pt_not (pt_val (pe_mt (met_Graph_has_node T) hr (by decide) (pv 0) (pa_cons (pv 1) pa_nil)))) (pw_or (pt_not (pt_val (pe_mt (met_Graph_has_node T) hr (by decide) (pv 0) (pa_cons (pv 3) pa_nil)))) (pw_or1 (pt_not (pt_chain op_le op_le pe_int (pv 2) (pe_gc rfl T.g_HIGHEST_LABEL))))))) (pss_one (ps_ret (pe_gc rfl T.g_WRONG))) pss_nil)
      (pss_cons (ps_if (pt_cmpR (op_inD (hu65 hr)) (pe_tup (pa_cons (pv 1) (pa_cons (pv 2) (pa_cons (pv 3) pa_nil)))) (pe_fld (pv 0) rfl) (by rfl)) (pss_one (ps_ret (pe_gc rfl T.g_PRESENT))) pss_nil)
      (pss_cons (ps_if (pt_cmpR op_eq (pe_callB call_len_seq (by rfl) T.b_len PySem.boot_len (pa_cons (pe_fld (pv 0) rfl) pa_nil)) (pe_gc rfl T.g_MOST_EDGES) (nomark _)) (pss_one (ps_ret (pe_gc rfl T.g_FULL))) pss_nil)
      (pss_cons (ps_expr (pe_bm PySem.F.plainAttrs_list PySem.F.slot_list_append PySem.F.type_list_append mt_append (pe_fld (pv 0) rfl) (pa_cons (pe_tup (pa_cons (pv 1) (pa_cons (pv 2) (pa_cons (pv 3) pa_nil)))) pa_nil)))
      (pss_one (ps_ret (pe_callB call_len_seq (by rfl) T.b_len PySem.boot_len (pa_cons (pe_fld (pv 0) rfl) pa_nil)))))))), ?_⟩)
  obtain ⟨aG, aN, aE, M, g, e, rfl, hg, k⟩ := h
  obtain ⟨dx, h1⟩ := hg.obj
  obtain ⟨ts, h5, h6, h7⟩ := hg.el
  have hno : (gF aN aE).lookup ("has_node" : Str) = none := gF_no (by decide +kernel) (by decide +kernel)
  refine q_when (et_or (et_not (et_B (ev_meth (ev_var rfl) h1 hno (ea_cons (ev_var rfl) ea_nil) (spHasNode_v hg)))) (fun _ => et_or (et_not (et_B (ev_meth (ev_var rfl) h1 hno (ea_cons (ev_var rfl) ea_nil) (spHasNode_v hg)))) (fun _ => et_not (et_test (ev_chain ev_c (ev_var rfl) rv_I0 (fun _ => ev_c) fun _ => rv_I0))))) (fun hb H1 e1 => s_ret ev_c fun H2 e2 => ?_) (fun hb H1 e1 => ?_)
  · have hb2 : Gq01.isNode g e.src = false ∨ Gq01.isLabel e.label = false ∨ Gq01.isNode g e.dst = false := by
      rw [Bool.or_eq_true, Bool.or_eq_true, Bool.not_eq_true', Bool.not_eq_true', Bool.not_eq_true'] at hb
      rcases hb with z | z | z
      · exact .inl z
      · exact .inr (.inr z)
      · refine .inr (.inl ?_)
        unfold Gq01.isLabel
        rw [Bool.and_eq_false_iff, decide_eq_false_iff_not, decide_eq_false_iff_not] at z ⊢
        omega
    have q := k H2
    rw [show gEdge g e = (g, -1) from if_pos hb2] at q
    exact q (hg.mono (e1.trans e2)) (Keep.of (e1.trans e2))
  have hb2 : ¬ (Gq01.isNode g e.src = false ∨ Gq01.isLabel e.label = false ∨ Gq01.isNode g e.dst = false) := by
    rw [Bool.or_eq_false_iff, Bool.or_eq_false_iff] at hb
    obtain ⟨z1, z2, z3⟩ := hb
    rintro (z | z | z)
    · exact not_false_of z1 z
    · rw [Bool.not_eq_false', Bool.and_eq_true, decide_eq_true_eq, decide_eq_true_eq] at z3
      unfold Gq01.isLabel at z
      rw [Bool.and_eq_false_iff, decide_eq_false_iff_not, decide_eq_false_iff_not] at z
      omega
    · exact not_false_of z2 z
  have evE : ∀ {H1 : Hp} {σ : L2.St}, Ex H H1 → σ[0]? = some (some (.ref aG)) → Ev (tFld K (tVar 0) "edge_list") σ H1 (.ref aE) := fun e hσ => ev_fld (ev_var hσ) (e _ _ h1) T.c_Graph T.n_Graph_edge_list gF_e
  refine q_when (et_test (ev_opU1 (eu_tup (vs := edV e) (ea_cons (ev_var rfl) (ea_cons (ev_var rfl) (ea_cons (ev_var rfl) ea_nil))) (by show 3 ≤ 100000; decide)) (evE e1 rfl) fun p H2 hp e2 => rv_inE hp (hg.mono (e1.trans e2)))) (fun hc H2 e2 => s_ret ev_c fun H3 e3 => ?_) (fun hc H2 e2 => ?_)
  · have q := k H3
    rw [show gEdge g e = (g, -4) from (if_neg hb2).trans (if_pos hc)] at q
    exact q (hg.mono ((e1.trans e2).trans e3)) (Keep.of ((e1.trans e2).trans e3))
  have hc2 : ¬ g.edges.contains e = true := by
    rw [hc]
    exact Bool.false_ne_true
  have e12 := e1.trans e2
  refine q_when (et_test (ev_op (ev_len (evE e12 rfl) (sq_of (e12 _ _ h5))) ev_c (rv_eq rfl))) (fun hd H3 e3 => s_ret ev_c fun H4 e4 => ?_) (fun hd H3 e3 => ?_)
  · have hd2 : ((ts.map V.ref).length : Int) = 40 := V.int.inj (of_decide_eq_true hd)
    rw [List.length_map, h6] at hd2
    have q := k H4
    rw [show gEdge g e = (g, -5) from (if_neg hb2).trans ((if_neg hc2).trans (if_pos (by omega)))] at q
    exact q (hg.mono ((e12.trans e3).trans e4)) (Keep.of ((e12.trans e3).trans e4))
  have hd2 : ¬ ((ts.map V.ref).length : Int) = 40 := fun z => of_decide_eq_false hd (by rw [z])
  rw [List.length_map, h6] at hd2
  have hfew := hg.few
  have e13 := e12.trans e3
  have hres : gEdge g e = ({ g with edges := g.edges ++ [e] }, ((g.edges.length + 1 : Nat) : Int)) := (if_neg hb2).trans ((if_neg hc2).trans (if_neg (by omega)))
  refine q_appU (e13 _ _ h5) (evE e13 rfl) (eu_tup (vs := edV e) (ea_cons (ev_var rfl) (ea_cons (ev_var rfl) (ea_cons (ev_var rfl) ea_nil))) (by show 3 ≤ 100000; decide)) (by rw [List.length_map, h6]; omega) fun p H4 hp e4 h4 => ?_
  have e14 := e13.trans e4
  have hU : (upd H4 aE (.lst (ts.map V.ref ++ [.ref p]))) aE = some (.lst (ts.map V.ref ++ [.ref p])) := upd_same
  refine s_ret (ev_len (ev_fld (ev_var rfl) ((upd_ne hg.neG.2).trans (e14 _ _ h1)) T.c_Graph T.n_Graph_edge_list gF_e) (sq_of hU)) fun H5 e5 => ?_
  have q := k H5
  rw [hres] at q
  have el : ((ts.map V.ref ++ [V.ref p]).length : Int) = ((g.edges.length + 1 : Nat) : Int) := by rw [List.length_append, List.length_map, h6]; rfl
  rw [← el] at q
  obtain ⟨qs, h2, h3, h4'⟩ := (hg.mono e14).nl
  refine q ?_ ((keep_upd (Keep.of e14) (by simp)).trans (Keep.of e5))
  refine GrAt.mono ?_ e5
  have npE : p ≠ aE := ne_of h4 (e14 _ _ h5) (fun z => nomatch z)
  refine ⟨⟨dx, (upd_ne hg.neG.2).trans (e14 _ _ h1)⟩, ⟨qs, (upd_ne hg.ne).trans h2, h3, fun i q' k' a b => ?_⟩, ⟨ts ++ [p], ?_, by simp [h6], fun i t d a b => ?_⟩, hg.ne, ⟨hfew.1, ?_⟩, ?_⟩
  · obtain ⟨k1, k2, k3, k4⟩ := h4' i q' k' a b
    exact ⟨(upd_ne k3).trans k1, k2, k3, k4⟩
  · rw [upd_same, List.map_append]
    rfl
  · rcases snoc_at a with ⟨c, a⟩ | ⟨c, rfl⟩
    · rcases snoc_at b with ⟨d, b⟩ | ⟨d, _⟩
      · have ht := e14 _ _ (h7 i t _ a b)
        exact (upd_ne (ne_of ht (e14 _ _ h5) (fun z => nomatch z))).trans ht
      · omega
    · rcases snoc_at b with ⟨d, b⟩ | ⟨d, rfl⟩
      · omega
      · exact (upd_ne npE).trans h4
  · show (g.edges ++ [e]).length ≤ 40
    simp
    omega
  · show (g.edges ++ [e]).Nodup
    rw [List.nodup_append]
    refine ⟨hg.nd, by simp, fun a ha b hb => ?_⟩
    have : b = e := by simpa using hb
    subst this
    exact fun z => hc2 (List.contains_iff_mem.mpr (z ▸ ha))
end
end WG
namespace WG
open PySem PySem.Spec
open PyProof.Rows
open L2 hiding CX0 E0 pass0 Fun
open C8 Evl
theorem erase_filter {α : Type} [DecidableEq α] : ∀ {l : List α} {j : Nat} {e : α}, l.Nodup → l[j]? = some e → l.eraseIdx j = l.filter fun d => d != e
  | [], j, e, _, h => by simp at h
  | a :: l, 0, e, nd, h => by
    cases h
    have hn : a ∉ l := (List.nodup_cons.mp nd).1
    rw [List.eraseIdx_cons_zero, List.filter_cons, if_neg (by simp)]
    refine (List.filter_eq_self.mpr fun d hd => ?_).symm
    exact bne_iff_ne.mpr fun z => hn (z ▸ hd)
  | a :: l, j + 1, e, nd, h => by
    have hn : a ∉ l := (List.nodup_cons.mp nd).1
    have hm : e ∈ l := List.mem_of_getElem? h
    have hne : (a != e) = true := bne_iff_ne.mpr fun z => hn (z ▸ hm)
    rw [List.eraseIdx_cons_succ, List.filter_cons, if_pos hne, erase_filter (List.nodup_cons.mp nd).2 h]
theorem erase_map {α β : Type} (f : α → β) : ∀ (l : List α) (j : Nat), (l.map f).eraseIdx j = (l.eraseIdx j).map f
  | [], _ => by simp
  | _ :: _, 0 => rfl
  | a :: l, j + 1 => by
    show f a :: (l.map f).eraseIdx j = f a :: (l.eraseIdx j).map f
    rw [erase_map f l j]
theorem nodup_at {α : Type} {l : List α} (h : l.Nodup) {i j : Nat} {x : α} (a : l[i]? = some x) (b : l[j]? = some x) : i = j := by
  obtain ⟨h1, e1⟩ := (List.getElem?_eq_some_iff.mp a)
  obtain ⟨h2, e2⟩ := (List.getElem?_eq_some_iff.mp b)
  exact (List.getElem_inj h).mp (e1.trans e2.symm)
section
variable {P : Program} {w : World} {K : PySem.W.Frag} {mg : Str → Option Value} {base : Heap} {C_Graph C_Line C_Reader a_CALLS : Addr}
theorem q_remU {σ : L2.St} {H : Hp} {ta te : TE} {l : Addr} {ys xs : List V} {D : Ends} {tz : TS} (hl : H l = some (.lst ys)) (ha : Ev ta σ H (.ref l)) (ht : EvU te σ H xs)
    (k : ∀ p H1, Ex H H1 → H1 p = some (.tup xs) → ∃ (d : PyData) (ds : List PyData) (j : Nat) (z : PyData), Dp K H1 (.ref l) (.list ds) ∧ Dp K H1 (.ref p) d ∧ SeqAt.shaped (.list ds) = true ∧ SeqAt.shaped d = true ∧ ds[j]? = some z ∧ PyData.eqv z d = true ∧
      (∀ (m : Nat) (z' : PyData), m < j → ds[m]? = some z' → PyData.eqv z' d = false) ∧ tz D σ (upd H1 l (.lst (ys.eraseIdx j)))) : tSeq (tDrop (tBM K "list" (rRemD K) ta (tCons te tNil))) tz D σ H :=
  ha H (Ex.refl H) _ fun H1 e1 => ⟨Or.inl ⟨rfl, ys, sq_of (e1 _ _ hl)⟩, ht H1 e1 _ fun p H2 _ e2 hp => by
    obtain ⟨d, ds, j, z, h1, h2, h3, h4, h5, h6, h7, h8⟩ := k p H2 (e1.trans e2) hp
    exact ⟨l, ys, .ref p, d, ds, j, z, rfl, rfl, e2 _ _ (e1 _ _ hl), h1, h2, h3, h4, h5, h6, h7, h8⟩⟩
def spCutEdge (C : Addr) : Sp := fun vs H Q _ => ∃ (aG aN aE : Addr) (M : List Addr) (g : Gq01.Graph) (e : Gq01.Edge), vs = .ref aG :: edV e ∧ GrAt C M H aG aN aE g ∧
  ∀ H', GrAt C M H' aG aN aE (gCut g e).1 → Keep [aN, aE] H H' → Q (.int (gCut g e).2) H'
theorem met_Graph_cut_edge (T : Tx K mg C_Graph C_Line C_Reader a_CALLS) : Met P w K mg base 1 C_Graph "cut_edge" (spCutEdge C_Graph) [] := by
  refine T.m_Graph_cut_edge.met sc_Graph_cut_edge (fun vs H Q E h => by obtain ⟨aG, aN, aE, M, g, e, rfl, _⟩ := h; rfl) (fun f cdv A outer s H vs Q E hr h => ⟨_, (pss_cons (ps_if (pt_cmpR (op_notInD (hu65 hr)) (pe_tup (pa_cons (pv 1) (pa_cons (pv 2) (pa_cons (pv 3) pa_nil)))) (pe_fld (pv 0) rfl) (by rfl)) (pss_one (ps_ret (pe_gc rfl T.g_ABSENT))) pss_nil)
      (pss_cons (ps_expr (pe_bm PySem.F.plainAttrs_list PySem.F.slot_list_remove PySem.F.type_list_remove (mt_removeD (hu65 hr)) (pe_fld (pv 0) rfl) (pa_cons (pe_tup (pa_cons (pv 1) (pa_cons (pv 2) (pa_cons (pv 3) pa_nil)))) pa_nil)))
      (pss_one (ps_ret (pe_callB call_len_seq (by rfl) T.b_len PySem.boot_len (pa_cons (pe_fld (pv 0) rfl) pa_nil)))))), ?_⟩)
  obtain ⟨aG, aN, aE, M, g, e, rfl, hg, k⟩ := h
  obtain ⟨dx, h1⟩ := hg.obj
  obtain ⟨ts, h5, h6, h7⟩ := hg.el
  have evE : ∀ {H1 : Hp} {σ : L2.St}, Ex H H1 → σ[0]? = some (some (.ref aG)) → Ev (tFld K (tVar 0) "edge_list") σ H1 (.ref aE) := fun e hσ => ev_fld (ev_var hσ) (e _ _ h1) T.c_Graph T.n_Graph_edge_list gF_e
  have evT : ∀ {H1 : Hp}, EvU (tTup (tCons (tVar 1) (tCons (tVar 2) (tCons (tVar 3) tNil)))) (L2.start N_Graph_cut_edge (.ref aG :: edV e)) H1 (edV e) := eu_tup (vs := edV e) (ea_cons (ev_var rfl) (ea_cons (ev_var rfl) (ea_cons (ev_var rfl) ea_nil))) (by show 3 ≤ 100000; decide)
  refine q_when (et_test (ev_opU1 evT (evE (Ex.refl H) rfl) fun p H2 hp e2 => rv_notInE hp (hg.mono e2))) (fun hc H2 e2 => s_ret ev_c fun H3 e3 => ?_) (fun hc H2 e2 => ?_)
  · rw [Bool.not_eq_true'] at hc
    have q := k H3
    rw [show gCut g e = (g, -3) from if_pos hc] at q
    exact q (hg.mono (e2.trans e3)) (Keep.of (e2.trans e3))
  have hc2 := not_false_of hc
  rw [Bool.not_eq_false'] at hc
  have hm : e ∈ g.edges := List.contains_iff_mem.mp hc
  obtain ⟨j, hj⟩ := (List.getElem?_of_mem hm)
  have hjl : j < g.edges.length := (List.getElem?_eq_some_iff.mp hj).1
  have hres : gCut g e = (Gq01.without g e, ((g.edges.length - 1 : Nat) : Int)) := if_neg hc2
  have hwo : Gq01.without g e = { g with edges := g.edges.eraseIdx j } := by
    unfold Gq01.without
    rw [erase_filter hg.nd hj]
  refine q_remU (e2 _ _ h5) (evE e2 rfl) evT fun p H4 e3 h4 => ?_
  have e24 := e2.trans e3
  have hg4 := hg.mono e24
  refine ⟨eD e, g.edges.map eD, j, eD e, hg4.dp, dp_tup h4, eDs_shaped _, eD_shaped e, by rw [List.getElem?_map, hj]; rfl, by rw [eD_eqv]; exact decide_eq_true rfl, fun m z' hm' hz' => ?_, ?_⟩
  · rw [List.getElem?_map] at hz'
    cases q : g.edges[m]? with
    | none => rw [q] at hz'; cases hz'
    | some d =>
      rw [q] at hz'
      cases hz'
      rw [eD_eqv]
      exact decide_eq_false fun z => by
        subst z
        have := nodup_at hg.nd q hj
        omega
  have hU : (upd H4 aE (.lst ((ts.map V.ref).eraseIdx j))) aE = some (.lst ((ts.map V.ref).eraseIdx j)) := upd_same
  refine s_ret (ev_len (ev_fld (ev_var rfl) ((upd_ne hg.neG.2).trans (e24 _ _ h1)) T.c_Graph T.n_Graph_edge_list gF_e) (sq_of hU)) fun H5 e5 => ?_
  have q := k H5
  rw [hres, hwo] at q
  have el : (((ts.map V.ref).eraseIdx j).length : Int) = ((g.edges.length - 1 : Nat) : Int) := by
    rw [List.length_eraseIdx_of_lt (by rw [List.length_map, h6]; exact hjl), List.length_map, h6]
  rw [← el] at q
  obtain ⟨qs, h2, h3, h4'⟩ := hg4.nl
  refine q ?_ ((keep_upd (Keep.of e24) (by simp)).trans (Keep.of e5))
  refine GrAt.mono ?_ e5
  refine ⟨⟨dx, (upd_ne hg.neG.2).trans (e24 _ _ h1)⟩, ⟨qs, (upd_ne hg.ne).trans h2, h3, fun i q' k' a b => ?_⟩, ⟨ts.eraseIdx j, ?_, ?_, fun i t d a b => ?_⟩, hg.ne, ⟨hg.few.1, ?_⟩, ?_⟩
  · obtain ⟨k1, k2, k3, k4⟩ := h4' i q' k' a b
    exact ⟨(upd_ne k3).trans k1, k2, k3, k4⟩
  · rw [upd_same]
    congr 2
    exact erase_map ..
  · show (ts.eraseIdx j).length = (g.edges.eraseIdx j).length
    rw [List.length_eraseIdx_of_lt (by rw [h6]; exact hjl), List.length_eraseIdx_of_lt hjl, h6]
  · have b' : (g.edges.eraseIdx j)[i]? = some d := b
    have key : ∃ i' : Nat, ts[i']? = some t ∧ g.edges[i']? = some d := by
      rw [List.getElem?_eraseIdx] at a b'
      by_cases c : i < j
      · rw [if_pos c] at a b'
        exact ⟨i, a, b'⟩
      · rw [if_neg c] at a b'
        exact ⟨i + 1, a, b'⟩
    obtain ⟨i', a', b''⟩ := key
    have ht := e24 _ _ (h7 i' t d a' b'')
    exact (upd_ne (ne_of ht (e24 _ _ h5) (fun z => nomatch z))).trans ht
  · show (g.edges.eraseIdx j).length ≤ 40
    have := hg.few.2
    rw [List.length_eraseIdx_of_lt hjl]
    omega
  · show (g.edges.eraseIdx j).Nodup
    rw [erase_filter hg.nd hj]
    exact hg.nd.filter _
/-! ### the reader -/
abbrev rF (a : Addr) (i : Nat) : List (Str × V) := [("numbers", .ref a), ("place", .int (i : Int))]
theorem rF_n {a : Addr} {i : Nat} : (rF a i).lookup ("numbers" : Str) = some (.ref a) := lk_here
theorem rF_p {a : Addr} {i : Nat} : (rF a i).lookup ("place" : Str) = some (.int (i : Int)) := (lk_past (by decide +kernel)).trans lk_here
theorem rF_no {a : Addr} {i : Nat} {m : Str} (h1 : (m == ("numbers" : Str)) = false) (h2 : (m == ("place" : Str)) = false) : (rF a i).lookup m = none := (lk_past h1).trans ((lk_past h2).trans rfl)
theorem rF_put {a : Addr} {i j : Nat} : putF "place" (.int (j : Int)) (rF a i) = rF a j := (put_past (by decide +kernel)).trans (congrArg _ put_here)
structure RdAt (K : PySem.W.Frag) (C : Addr) (H : Hp) (aR a : Addr) (ns : List Nat) (i : Nat) : Prop where
  obj : ∃ dx, H aR = some (.ins C dx (rF a i))
  num : SqL K H a (nn ns)
theorem RdAt.mono {C : Addr} {H H' : Hp} {aR a : Addr} {ns : List Nat} {i : Nat} (h : RdAt K C H aR a ns i) (e : Ex H H') : RdAt K C H' aR a ns i := ⟨h.obj.imp fun dx q => e _ _ q, ex_l e h.num⟩
def spRInit (K : PySem.W.Frag) (C : Addr) : Sp := fun vs H Q _ => ∃ (p dx a : Addr), vs = [.ref p, .ref a] ∧ H p = some (.ins C dx []) ∧
  ∀ (H' : Hp), (∃ dx, H' p = some (.ins C dx (rF a 0))) → Keep [p] H H' → Q .non H'
theorem mak_Reader (T : Tx K mg C_Graph C_Line C_Reader a_CALLS) : Mak P w K mg base 1 "Reader" C_Reader (spRInit K C_Reader) [] := by
  refine T.i_Reader.mak T.g_Reader sc_Reader_init (fun vs H Q E h => by obtain ⟨p, dx, a, rfl, _⟩ := h; rfl) (fun f cdv A outer s H vs Q E hr h => ⟨_, (pss_cons (ps_fld (pv 0) (pv 1) rfl)
      (pss_one (ps_fld (pv 0) pe_int rfl))), ?_⟩)
  obtain ⟨p, dx, a, rfl, hp, k⟩ := h
  refine ⟨_, rfl, _, rfl, p, C_Reader, dx, [], rfl, hp, T.c_Reader, T.n_Reader_numbers, by decide, ?_⟩
  refine ⟨_, rfl, p, C_Reader, dx, [("numbers", .ref a)], rfl, upd_same, T.c_Reader, T.n_Reader_place, by show 1 < 1000; decide, ?_⟩
  refine k _ ⟨dx, ?_⟩ fun b o hb hm => ?_
  · rw [upd_same]
    exact congrArg (fun q => some (HO.ins C_Reader dx q)) ((put_past (by decide +kernel)).trans rfl)
  · have h1 : b ≠ p := fun z => hm (by simp [z])
    rw [upd_ne h1, upd_ne h1]
    exact hb
def spMore (K : PySem.W.Frag) (C : Addr) : Sp := fun vs H Q _ => ∃ (aR a : Addr) (ns : List Nat) (i : Nat), vs = [.ref aR] ∧ RdAt K C H aR a ns i ∧ ∀ H', Ex H H' → Q (.bl (decide (i < ns.length))) H'
theorem met_Reader_more (T : Tx K mg C_Graph C_Line C_Reader a_CALLS) : Met P w K mg base 1 C_Reader "more" (spMore K C_Reader) [] := by
  refine T.m_Reader_more.met sc_Reader_more (fun vs H Q E h => by obtain ⟨aR, a, ns, i, rfl, _⟩ := h; rfl) (fun f cdv A outer s H vs Q E hr h => ⟨_, (pss_one (ps_ret (pe_cmpR op_lt (pe_fld (pv 0) rfl) (pe_callB call_len_seq (by rfl) T.b_len PySem.boot_len (pa_cons (pe_fld (pv 0) rfl) pa_nil)) (nomark _)))), ?_⟩)
  obtain ⟨aR, a, ns, i, rfl, hR, k⟩ := h
  obtain ⟨dx, h1⟩ := hR.obj
  refine s_ret (ev_op (ev_fld (ev_var rfl) h1 T.c_Reader T.n_Reader_place rF_p) (ev_len (ev_fld (ev_var rfl) h1 T.c_Reader T.n_Reader_numbers rF_n) hR.num) rv_I0) fun H1 e1 => ?_
  have q := k H1 e1
  have e : decide ((i : Int) < ((nn ns).length : Int)) = decide (i < ns.length) := by rw [nn_len]; exact decide_eq_decide.mpr (by omega)
  rw [← e] at q
  exact q
/-- the next number; there is one -/
def spNumber (K : PySem.W.Frag) (C : Addr) : Sp := fun vs H Q _ => ∃ (aR a : Addr) (ns : List Nat) (i n : Nat), vs = [.ref aR] ∧ RdAt K C H aR a ns i ∧ ns[i]? = some n ∧ ∀ H', (∃ dx, H' aR = some (.ins C dx (rF a (i + 1)))) → Keep [aR] H H' → Q (.int (n : Int)) H'
theorem s_fldI {K : PySem.W.Frag} {σ : L2.St} {H : Hp} {ta tv : TE} {a C dx : Addr} {fs : List (Str × V)} {f : Str} {v : V} {D : Ends} (hv : Ev tv σ H v) (ha : Ev ta σ H (.ref a)) (h : H a = some (.ins C dx fs)) (c : Cls K C) (n : NoAttr K C f) (hl : fs.length < 1000)
    (k : ∀ H1, Ex H H1 → D.nx σ (upd H1 a (.ins C dx (putF f v fs)))) : sFld K ta tv f D σ H := hv H (Ex.refl H) _ fun H1 e1 => ha H1 e1 _ fun H2 e2 => ⟨a, C, dx, fs, rfl, (e1.trans e2) _ _ h, c, n, hl, k H2 (e1.trans e2)⟩
theorem q_fldI {K : PySem.W.Frag} {σ : L2.St} {H : Hp} {ta tv : TE} {a C dx : Addr} {fs : List (Str × V)} {f : Str} {v : V} {D : Ends} {tz : TS} (hv : Ev tv σ H v) (ha : Ev ta σ H (.ref a)) (h : H a = some (.ins C dx fs)) (c : Cls K C) (n : NoAttr K C f) (hl : fs.length < 1000)
    (k : ∀ H1, Ex H H1 → tz D σ (upd H1 a (.ins C dx (putF f v fs)))) : tSeq (sFld K ta tv f) tz D σ H := s_fldI (D := { D with nx := tz D }) hv ha h c n hl k
/-- what is read stays readable when an instance changes -/
theorem sq_ins {K : PySem.W.Frag} {H : Hp} {a p C dx : Addr} {fs : List (Str × V)} {xs : List V} {o : HO} (h : SqL K H a xs) (hp : H p = some (.ins C dx fs)) : SqL K (upd H p o) a xs := by
  rcases h with (h | ⟨b, h⟩) | h
  · exact .inl (.inl ((upd_ne (ne_of h hp (fun z => nomatch z))).trans h))
  · exact .inl (.inr ⟨b, (upd_ne (ne_of h hp (fun z => nomatch z))).trans h⟩)
  · exact .inr h
theorem met_Reader_number (T : Tx K mg C_Graph C_Line C_Reader a_CALLS) : Met P w K mg base 1 C_Reader "number" (spNumber K C_Reader) [] := by
  refine T.m_Reader_number.met sc_Reader_number (fun vs H Q E h => by obtain ⟨aR, a, ns, i, n, rfl, _⟩ := h; rfl) (fun f cdv A outer s H vs Q E hr h => ⟨_, (pss_cons (ps_fld (pv 0) (pe_op op_add (pe_fld (pv 0) rfl) pe_int) rfl)
      (pss_one (ps_ret (pe_ix ix_list (pe_fld (pv 0) rfl) (pe_op op_sub (pe_fld (pv 0) rfl) pe_int) (fun _ _ => rfl))))), ?_⟩)
  obtain ⟨aR, a, ns, i, n, rfl, hR, hn, k⟩ := h
  obtain ⟨dx, h1⟩ := hR.obj
  refine q_fldI (ev_op (ev_fld (ev_var rfl) h1 T.c_Reader T.n_Reader_place rF_p) ev_c rv_I0) (ev_var rfl) h1 T.c_Reader T.n_Reader_place (by show 2 < 1000; decide) fun H1 e1 => ?_
  have eP : putF "place" (.int ((i : Int) + 1)) (rF a i) = rF a (i + 1) := rF_put (j := i + 1)
  have hU : (upd H1 aR (.ins C_Reader dx (putF "place" (.int ((i : Int) + 1)) (rF a i)))) aR = some (.ins C_Reader dx (rF a (i + 1))) := by rw [upd_same, eP]
  refine s_ret (ev_op (ev_fld (ev_var rfl) hU T.c_Reader T.n_Reader_numbers rF_n) (ev_is (ev_op (ev_fld (ev_var rfl) hU T.c_Reader T.n_Reader_place rF_p) ev_c rv_I0) (show V.int (((i + 1 : Nat) : Int) - 1) = V.int ((i : Nat) : Int) by congr 1; omega)) (rv_ixL (sq_ins (ex_l e1 hR.num) (e1 _ _ h1)) (atI_nat (nn_at hn)))) fun H2 e2 => ?_
  exact k H2 ⟨dx, e2 _ _ hU⟩ ((keep_upd (Keep.of e1) (by simp)).trans (Keep.of e2))
/-- a count and so many numbers -/
def spRow (K : PySem.W.Frag) (C : Addr) : Sp := fun vs H Q _ => ∃ (aR a : Addr) (ns : List Nat) (i n : Nat), vs = [.ref aR] ∧ RdAt K C H aR a ns i ∧ ns[i]? = some n ∧ i + 1 + n ≤ ns.length ∧
  ∀ H' p, H p = none → H' p = some (.lst (nn ((ns.drop (i + 1)).take n))) → (∃ dx, H' aR = some (.ins C dx (rF a (i + 1 + n)))) → Keep [aR] H H' → Q (.ref p) H'
theorem met_Reader_row (T : Tx K mg C_Graph C_Line C_Reader a_CALLS) : Met P w K mg base 2 C_Reader "row" (spRow K C_Reader) [] := by
  refine T.m_Reader_row.met sc_Reader_row (fun vs H Q E h => by obtain ⟨aR, a, ns, i, n, rfl, _⟩ := h; rfl) (fun f cdv A outer s H vs Q E hr h => ⟨_, (pss_cons (ps_set (i := 1) sc_Reader_row.nd rfl (Or.inl rfl) (pe_mt0 (met_Reader_number T) hr (by decide) (pv 0)))
      (pss_cons (ps_fld (pv 0) (pe_op op_add (pe_fld (pv 0) rfl) (pv 1)) rfl)
      (pss_one (ps_ret (pe_slice sl_list (pe_fld (pv 0) rfl) (po_some (pe_op op_sub (pe_fld (pv 0) rfl) (pv 1))) (po_some (pe_fld (pv 0) rfl))))))), ?_⟩)
  obtain ⟨aR, a, ns, i, n, rfl, hR, hn, hle, k⟩ := h
  obtain ⟨dx, h1⟩ := hR.obj
  refine ⟨_, rfl, aR, dx, _, rfl, h1, rF_no (by decide +kernel) (by decide +kernel), aR, a, ns, i, n, rfl, hR, hn, fun H1 ⟨dx1, h2⟩ kp => ?_⟩
  have hnum : SqL K H1 a (nn ns) := by
    rcases hR.num with (h | ⟨b, h⟩) | h
    · exact .inl (.inl (kp _ _ h (by simp; exact fun z => by rw [z, h1] at h; cases h)))
    · exact .inl (.inr ⟨b, kp _ _ h (by simp; exact fun z => by rw [z, h1] at h; cases h)⟩)
    · exact .inr h
  refine q_fldI (ev_op (ev_fld (ev_var rfl) h2 T.c_Reader T.n_Reader_place rF_p) (ev_var rfl) rv_I0) (ev_var rfl) h2 T.c_Reader T.n_Reader_place (by show 2 < 1000; decide) fun H2 e2 => ?_
  have eP : putF "place" (.int (((i + 1 : Nat) : Int) + (n : Int))) (rF a (i + 1)) = rF a (i + 1 + n) := rF_put (j := i + 1 + n)
  have hU : (upd H2 aR (.ins C_Reader dx1 (putF "place" (.int (((i + 1 : Nat) : Int) + (n : Int))) (rF a (i + 1))))) aR = some (.ins C_Reader dx1 (rF a (i + 1 + n))) := by rw [upd_same, eP]
  refine s_retL (el_sl (ev_fld (ev_var rfl) hU T.c_Reader T.n_Reader_numbers rF_n) (eo_some (ev_is (ev_op (ev_fld (ev_var rfl) hU T.c_Reader T.n_Reader_place rF_p) (ev_var rfl) rv_I0) (show V.int (((i + 1 + n : Nat) : Int) - (n : Int)) = V.int ((i + 1 : Nat) : Int) by congr 1; omega)))
    (eo_some (ev_fld (ev_var rfl) hU T.c_Reader T.n_Reader_place rF_p)) (sq_ins (ex_l e2 hnum) (e2 _ _ h2))) fun p H3 hp e3 h3 => ?_
  rw [cut_nat, show i + 1 + n - (i + 1) = n by omega, ← List.map_drop, ← List.map_take, ← List.map_drop, ← List.map_take] at h3
  have kA : Keep [aR] H (upd H2 aR (.ins C_Reader dx1 (putF "place" (.int (((i + 1 : Nat) : Int) + (n : Int))) (rF a (i + 1))))) := keep_upd (kp.trans (Keep.of e2)) (by simp)
  refine k H3 p ?_ h3 ⟨dx1, e3 _ _ hU⟩ (kA.trans (Keep.of e3))
  cases q : H p with
  | none => rfl
  | some o =>
    by_cases c : p = aR
    · subst c
      rw [hU] at hp
      cases hp
    · rw [kA p o q (by simpa using c)] at hp
      cases hp
end
end WG
namespace WG
open PySem PySem.Spec
open PyProof.Rows
open L2 hiding CX0 E0 pass0 Fun
open C8 Evl
/-! ### rows of bits -/
def mask (p : Nat → Bool) : Nat → Nat
  | 0 => 0
  | n + 1 => mask p n ||| (if p (n + 1) = true then 2 ^ n else 0)
theorem mask_bit (p : Nat → Bool) : ∀ (n i : Nat), (mask p n).testBit i = (decide (i < n) && p (i + 1))
  | 0, i => by simp [mask]
  | n + 1, i => by
    show (mask p n ||| (if p (n + 1) = true then 2 ^ n else 0)).testBit i = _
    rw [Nat.testBit_or, mask_bit p n i]
    by_cases h : p (n + 1) = true
    · rw [if_pos h, Nat.testBit_two_pow]
      by_cases c : i = n
      · subst c
        simp [h]
      · by_cases c2 : i < n
        · have : ¬ n = i := fun z => c z.symm
          simp [c2, this, show i < n + 1 by omega]
        · have : ¬ n = i := fun z => c z.symm
          simp [c2, this, show ¬ i < n + 1 by omega]
    · rw [if_neg h]
      by_cases c : i = n
      · subst c
        simp [h]
      · by_cases c2 : i < n
        · simp [c2, show i < n + 1 by omega]
        · simp [c2, show ¬ i < n + 1 by omega]
theorem mask_lt (p : Nat → Bool) (n : Nat) : mask p n < 2 ^ n := by
  refine Nat.lt_pow_two_of_testBit _ fun i hi => ?_
  rw [mask_bit, decide_eq_false (by omega)]
  rfl
theorem mask_eq {p : Nat → Bool} {n m : Nat} (h : ∀ i, m.testBit i = (decide (i < n) && p (i + 1))) : m = mask p n := Nat.eq_of_testBit_eq fun i => by rw [h, mask_bit]
theorem mask_congr {p q : Nat → Bool} {n : Nat} (h : ∀ i, i < n → p (i + 1) = q (i + 1)) : mask p n = mask q n := mask_eq fun i => by
  rw [mask_bit]
  by_cases c : i < n
  · rw [h i c]
  · simp [c]
theorem mask_or (p q : Nat → Bool) (n : Nat) : mask p n ||| mask q n = mask (fun y => p y || q y) n := mask_eq fun i => by
  rw [Nat.testBit_or, mask_bit, mask_bit]
  cases decide (i < n) <;> simp
theorem mask_zero {p : Nat → Bool} {n : Nat} : mask p n = 0 ↔ ∀ i, i < n → p (i + 1) = false := by
  constructor
  · intro h i hi
    have := mask_bit p n i
    rw [h, decide_eq_true hi] at this
    simpa using this.symm
  · intro h
    refine (mask_eq fun i => ?_).symm
    by_cases c : i < n
    · simp [c, h i c]
    · simp [c]
theorem mask_one {n k : Nat} (h : k < n) : 2 ^ k = mask (fun y => decide (k + 1 = y)) n := mask_eq fun i => by
  rw [Nat.testBit_two_pow]
  by_cases c : k = i
  · subst c
    simp [h]
  · simp [c]
theorem bAnd (a b : Nat) : Builtin.bitAnd (a : Int) (b : Int) = ((a &&& b : Nat) : Int) := by
  have h1 : decide (0 ≤ (a : Int)) = true := decide_eq_true (by omega)
  have h2 : decide (0 ≤ (b : Int)) = true := decide_eq_true (by omega)
  unfold Builtin.bitAnd
  rw [h1, h2]
  simp
theorem bOr (a b : Nat) : Builtin.bitOr (a : Int) (b : Int) = ((a ||| b : Nat) : Int) := by
  rw [bitOr_nn (by omega) (by omega)]
  simp
theorem and_pow (m k : Nat) : m &&& 2 ^ k = if m.testBit k = true then 2 ^ k else 0 := by
  refine Nat.eq_of_testBit_eq fun i => ?_
  rw [Nat.testBit_and, Nat.testBit_two_pow]
  by_cases h : m.testBit k = true
  · rw [if_pos h, Nat.testBit_two_pow]
    by_cases c : k = i
    · subst c
      simp [h]
    · simp [c]
  · rw [if_neg h]
    by_cases c : k = i
    · subst c
      simp [h]
    · simp [c]
theorem and_bit (m k : Nat) : decide (V.int (Builtin.bitAnd (m : Int) ((2 ^ k : Nat) : Int)) = V.int 0) = !m.testBit k := by
  rw [bAnd, and_pow]
  cases h : m.testBit k with
  | true =>
    have h0 : 0 < 2 ^ k := Nat.two_pow_pos k
    refine decide_eq_false fun z => ?_
    have z := V.int.inj z
    rw [if_pos rfl] at z
    omega
  | false => simp
theorem filter_more {a b : Nat} {f : Nat → Bool} (h : a ≤ b) (hf : ∀ i, a ≤ i → i < b → f i = false) : (List.range b).filter f = (List.range a).filter f := by
  induction b with
  | zero =>
    have : a = 0 := by omega
    rw [this]
  | succ b ih =>
    by_cases c : a = b + 1
    · rw [c]
    · rw [rng_no (hf b (by omega) (by omega))]
      exact ih (by omega) fun i h1 h2 => hf i h1 (by omega)
/-- the nodes 1 to n that p tells, rising -/
def nodesP (n : Nat) (p : Nat → Bool) : List Nat := ((List.range n).filter fun i => p (i + 1)).map (· + 1)
def relN (n : Nat) (f : Nat → Nat → Bool) : List Nat := (List.range n).map fun i => mask (f (i + 1)) n
theorem relN_len (n : Nat) (f : Nat → Nat → Bool) : (relN n f).length = n := by simp [relN]
theorem relN_at {n : Nat} {f : Nat → Nat → Bool} {i : Nat} (h : i < n) : (relN n f)[i]? = some (mask (f (i + 1)) n) := by
  unfold relN
  rw [List.getElem?_map, List.getElem?_range h]
  rfl
theorem relN_of {n : Nat} {f : Nat → Nat → Bool} {i : Nat} {v : V} (h : (nn (relN n f))[i]? = some v) : i < n ∧ v = .int ((mask (f (i + 1)) n : Nat) : Int) := by
  have hl : i < n := by
    have := (List.getElem?_eq_some_iff.mp h).1
    rw [nn_len, relN_len] at this
    exact this
  rw [nn_at (relN_at hl)] at h
  exact ⟨hl, (Option.some.inj h).symm⟩
theorem relN_congr {n : Nat} {f h : Nat → Nat → Bool} (e : ∀ i j, i < n → j < n → f (i + 1) (j + 1) = h (i + 1) (j + 1)) : relN n f = relN n h := by
  unfold relN
  refine List.map_congr_left fun i hi => mask_congr fun j hj => e i j (List.mem_range.mp hi) hj
theorem nn_map {n : Nat} {g : Nat → Nat} : nn ((List.range n).map g) = (List.range n).map fun i => V.int ((g i : Nat) : Int) := by
  unfold nn nums ofN
  rw [(List.map_map), List.map_map]
  rfl
section
variable {P : Program} {w : World} {K : PySem.W.Frag} {mg : Str → Option Value} {base : Heap} {C_Graph C_Line C_Reader a_CALLS : Addr}
/-! ### bit_of, nodes_of -/
def spBit : Sp := fun vs H Q _ => ∃ n : Nat, vs = [.int ((n : Int) + 1)] ∧ n ≤ 100 ∧ ∀ H', Ex H H' → Q (.int ((2 ^ n : Nat) : Int)) H'
theorem spBit_v {n : Nat} {H : Hp} (h : n ≤ 100) : SpV spBit [.int ((n : Int) + 1)] H (.int ((2 ^ n : Nat) : Int)) := fun H1 e Q q E => ⟨n, rfl, h, q⟩
theorem cal_bit_of (T : Tx K mg C_Graph C_Line C_Reader a_CALLS) : Cal P w K mg base 1 "bit_of" spBit [] := by
  refine T.d_bit_of.cal sc_bit_of (fun vs H Q E h => by obtain ⟨n, rfl, _⟩ := h; rfl) (fun f cdv A outer s H vs Q E hr h => ⟨_, (pss_one (ps_ret (pe_op op_shl pe_int (pe_op op_sub (pv 0) pe_int)))), ?_⟩)
  obtain ⟨n, rfl, hn, k⟩ := h
  refine s_ret (ev_op ev_c (ev_is (ev_op (ev_var rfl) ev_c rv_I0) (show V.int ((n : Int) + 1 - 1) = V.int (n : Int) by congr 1; omega)) (rv_I ⟨by omega, by omega, by decide⟩)) fun H1 e1 => ?_
  have q := k H1 e1
  have e : ((2 ^ n : Nat) : Int) = 1 * 2 ^ ((n : Int)).toNat := by
    rw [Int.one_mul, Int.toNat_natCast]
    simp
  rw [e] at q
  exact q
/-- nodes_of(row) -/
def spNodes : Sp := fun vs H Q _ => ∃ (n : Nat) (p : Nat → Bool), vs = [.int ((mask p n : Nat) : Int)] ∧ n ≤ 100 ∧ RetL (nn (nodesP n p)) H Q
theorem spNodes_l {n : Nat} {p : Nat → Bool} {H : Hp} (h : n ≤ 100) : SpL spNodes [.int ((mask p n : Nat) : Int)] H (nn (nodesP n p)) := fun H1 e Q q E => ⟨n, p, rfl, h, q⟩
theorem cal_nodes_of (T : Tx K mg C_Graph C_Line C_Reader a_CALLS) : Cal P w K mg base 2 "nodes_of" spNodes [] := by
  refine T.d_nodes_of.cal sc_nodes_of (fun vs H Q E h => by obtain ⟨n, p, rfl, _⟩ := h; rfl) (fun f cdv A outer s H vs Q E hr h => ⟨_, (pss_one (ps_ret (pe_lc (own := [("node", 1)]) (g := (gName 1)) rfl sc_nodes_of.nd (pi_range2 rfl T.b_range (pa_cons pe_int (pa_cons (pe_op op_add (pe_bits (pv 0)) pe_int) pa_nil))) (blkOk_by (own := [("node", 1)]) (N := N_nodes_of) (sc := fnScope s_nodes_of) (by decide +kernel)) (fun _ _ _ _ _ => (pg_name (i := 1) sc_nodes_of.nd rfl (Or.inl rfl))) (fun _ _ _ _ _ => (pts_one (pt_cmpR op_ne (pe_op op_and (pv 0) (pe_c (cal_bit_of T) hr (by decide) rfl (pa_cons (pv 1) pa_nil))) pe_int (nomark _)))) (fun _ _ _ _ _ => (pv 1))))), ?_⟩)
  obtain ⟨n, p, rfl, hn, k⟩ := h
  have hb : Builtin.Int.intBits ((mask p n : Nat) : Int) ≤ n := PySem.intBits_le_iff.mpr (mask_lt p n)
  generalize hB : Builtin.Int.intBits ((mask p n : Nat) : Int) = B at hb
  have hbit : ∀ i, B ≤ i → (mask p n).testBit i = false := fun i hi => by
    have h1 : mask p n < 2 ^ B := PySem.intBits_le_iff.mp (Nat.le_of_eq hB)
    exact Nat.testBit_lt_two_pow (Nat.lt_of_lt_of_le h1 (Nat.pow_le_pow_right (by decide) hi))
  refine s_retL (EvN.l (er_lcR (lo := 1) (hi := ((B : Nat) : Int) + 1) (fun i => (mask p n).testBit i) (fun i v _ => v = .int (1 + (i : Int))) (fun i v H H' _ r => r) (fun i v H p xs ys r _ => r)
    (fun H1 e1 Q q => ?_) ⟨by decide, by decide, by omega, by omega⟩ (fun x => rfl) (fun i H1 e1 hi => ⟨?_, fun _ => ?_⟩)) (xs := nn (nodesP n p)) fun ys H' r => ?_) k
  · refine ⟨_, rfl, _, rfl, _, _, rfl, rfl, ?_⟩
    rw [hB]
    exact q H1 (Ex.refl _)
  · have ev : EvT (tTest (tOp rNe (tOp (rI0 fun i j => .int (Builtin.bitAnd i j)) (tVar 0) (tCall spBit [] E0 (tCons (tVar 1) tNil))) (tC (.int 0)))) [some (.int ((mask p n : Nat) : Int)), some (.int (1 + (i : Int)))] H1 (!decide (V.int (Builtin.bitAnd ((mask p n : Nat) : Int) ((2 ^ i : Nat) : Int)) = V.int 0)) :=
      et_test (ev_op (ev_op (ev_var rfl) (ev_call (ea_cons (ev_is (ev_var rfl) (show V.int (1 + (i : Int)) = V.int ((i : Int) + 1) by congr 1; omega)) ea_nil) (spBit_v (by omega))) rv_I0) ev_c (rv_ne rfl))
    rw [and_bit, Bool.not_not] at ev
    exact ev
  · exact EvR.of (ev_var rfl) fun _ _ => rfl
  · rw [F2.eq r, show (((B : Nat) : Int) + 1 - 1).toNat = B by omega]
    have e1 : (List.range B).filter (fun i => (mask p n).testBit i) = (List.range n).filter fun i => p (i + 1) := by
      rw [← filter_more hb fun i h1 h2 => hbit i h1]
      refine List.filter_congr fun i hi => ?_
      rw [mask_bit, decide_eq_true (List.mem_range.mp hi), Bool.true_and]
    rw [e1]
    unfold nodesP nn nums ofN
    rw [(List.map_map), List.map_map]
    refine (List.map_congr_left fun i _ => ?_)
    show V.int (1 + (i : Int)) = V.int (((i + 1 : Nat) : Nat) : Int)
    congr 1
    omega
end
end WG
namespace WG
open PySem PySem.Spec
open PyProof.Rows
open L2 hiding CX0 E0 pass0 Fun
open C8 Evl WM
/-! ### rows put together -/
theorem relN_map {n : Nat} {f : Nat → Nat → Bool} {v : Nat → Nat} (h : ∀ i, i < n → v i = mask (f (i + 1)) n) : (List.range n).map v = relN n f := List.map_congr_left fun i hi => h i (List.mem_range.mp hi)
theorem inV_nn (k : Nat) : ∀ l : List Nat, inV (.int (k : Int)) (nn l) = l.contains k
  | [] => rfl
  | a :: l => by
    show ((a : Int) == (k : Int) || inV (.int (k : Int)) (nn l)) = (a :: l).contains k
    rw [inV_nn k l, List.contains_cons]
    congr 1
    by_cases c : k = a
    · subst c
      simp
    · rw [beq_eq_false_iff_ne.mpr (by omega), beq_eq_false_iff_ne.mpr c]
theorem flat_nums (l : List Int) : (nums l).all flatV = true := by
  rw [List.all_eq_true]
  intro v hv
  obtain ⟨z, _, rfl⟩ := List.mem_map.mp hv
  rfl
/-- a list of lists of numbers -/
def LLAt (H : Hp) (a : Addr) (ls : List (List Nat)) : Prop := ∃ qs : List Addr, H a = some (.lst (qs.map V.ref)) ∧ F2 (fun q l => H q = some (.lst (nn l))) qs ls
/-- a list of pairs, of triples -/
def PrAt (H : Hp) (a : Addr) (ps : List (Nat × Nat)) : Prop := ∃ ts : List Addr, H a = some (.lst (ts.map V.ref)) ∧ F2 (fun t (p : Nat × Nat) => H t = some (.tup [.int (p.1 : Int), .int (p.2 : Int)])) ts ps
def EdAt (H : Hp) (a : Addr) (es : List Gq01.Edge) : Prop := ∃ ts : List Addr, H a = some (.lst (ts.map V.ref)) ∧ F2 (fun t e => H t = some (.tup (edV e))) ts es
section
variable {L : Hp → Hp → Prop} [Pre L] {H H' : Hp} {a : Addr}
theorem LLAt.mono {ls : List (List Nat)} (h : LLAt H a ls) (e : L H H') : LLAt H' a ls := by
  obtain ⟨qs, h1, h2⟩ := h
  exact ⟨qs, Pre.lst e h1, h2.imp fun _ _ _ r => Pre.lst e r⟩
theorem PrAt.mono {ls : List (Nat × Nat)} (h : PrAt H a ls) (e : L H H') : PrAt H' a ls := by
  obtain ⟨qs, h1, h2⟩ := h
  exact ⟨qs, Pre.lst e h1, h2.imp fun _ _ _ r => Pre.tup e r⟩
theorem EdAt.mono {ls : List Gq01.Edge} (h : EdAt H a ls) (e : L H H') : EdAt H' a ls := by
  obtain ⟨qs, h1, h2⟩ := h
  exact ⟨qs, Pre.lst e h1, h2.imp fun _ _ _ r => Pre.tup e r⟩
end
theorem f2_ref {α : Type} {R : Addr → α → Prop} {qs : List Addr} {l : List α} (h : F2 R qs l) {i : Nat} {v : V} (hv : (qs.map V.ref)[i]? = some v) : ∃ q x, v = .ref q ∧ qs[i]? = some q ∧ l[i]? = some x ∧ R q x := by
  rw [List.getElem?_map] at hv
  cases hq : qs[i]? with
  | none => rw [hq] at hv; exact nomatch hv
  | some q =>
    rw [hq] at hv
    obtain ⟨x, h1, h2⟩ := h.get hq
    exact ⟨q, x, (Option.some.inj hv).symm, rfl, h1, h2⟩
section
variable {P : Program} {w : World} {K : PySem.W.Frag} {mg : Str → Option Value} {base : Heap} {C_Graph C_Line C_Reader a_CALLS : Addr}
def spStayR : Sp := fun vs H Q _ => ∃ n : Nat, vs = [.int (n : Int)] ∧ n ≤ 100 ∧ RetL (nn (relN n rStay)) H Q
theorem cal_stay_relations (T : Tx K mg C_Graph C_Line C_Reader a_CALLS) : Cal P w K mg base 2 "stay_relations" spStayR [] := by
  refine T.d_stay_relations.cal sc_stay_relations (fun vs H Q E h => by obtain ⟨n, rfl, _⟩ := h; rfl) (fun f cdv A outer s H vs Q E hr h => ⟨_, (pss_one (ps_ret (pe_lc (own := [("node", 1)]) (g := (gName 1)) rfl sc_stay_relations.nd (pi_range2 rfl T.b_range (pa_cons pe_int (pa_cons (pe_op op_add (pv 0) pe_int) pa_nil))) (blkOk_by (own := [("node", 1)]) (N := N_stay_relations) (sc := fnScope s_stay_relations) (by decide +kernel)) (fun _ _ _ _ _ => (pg_name (i := 1) sc_stay_relations.nd rfl (Or.inl rfl))) (fun _ _ _ _ _ => pts_nil) (fun _ _ _ _ _ => (pe_c (cal_bit_of T) hr (by decide) rfl (pa_cons (pv 1) pa_nil)))))), ?_⟩)
  obtain ⟨n, rfl, hn, k⟩ := h
  refine s_retL (EvN.l (er_lcR (lo := 1) (hi := ((n : Nat) : Int) + 1) (fun i => true) (fun i v _ => v = .int ((2 ^ i : Nat) : Int)) (fun i v H H' _ r => r) (fun i v H p xs ys r _ => r)
    (fun H1 e1 Q q => ⟨_, rfl, _, _, rfl, rfl, q H1 (Ex.refl _)⟩) ⟨by decide, by decide, by omega, by omega⟩ (fun x => rfl) (fun i H1 e1 hi => ⟨eb_yes, fun _ => ?_⟩)) (xs := nn (relN n rStay)) fun ys H' r => ?_) k
  · exact EvR.of (ev_call (ea_cons (ev_is (ev_var rfl) (show V.int (1 + (i : Int)) = V.int ((i : Int) + 1) by congr 1; omega)) ea_nil) (spBit_v (by omega))) fun _ _ => rfl
  · rw [F2.eq r, show (((n : Nat) : Int) + 1 - 1).toNat = n by omega, rng_all, ← relN_map (v := fun i => 2 ^ i) (fun i hi => mask_one hi), nn_map]
def spKindR : Sp := fun vs H Q _ => ∃ (a : Addr) (ks : List (List Nat)) (k : Nat), vs = [.ref a, .int (k : Int)] ∧ LLAt H a ks ∧ ks.length ≤ 100 ∧ RetL (nn (relN ks.length (rKind ks k))) H Q
theorem cal_of_kind (T : Tx K mg C_Graph C_Line C_Reader a_CALLS) : Cal P w K mg base 2 "of_kind" spKindR [] := by
  refine T.d_of_kind.cal sc_of_kind (fun vs H Q E h => by obtain ⟨a, ks, k, rfl, _⟩ := h; rfl) (fun f cdv A outer s H vs Q E hr h => ⟨_, (pss_one (ps_ret (pe_lc (own := [("node", 2), ("kinds", 3)]) (g := (gTup K 2 (gCons (gName 2) (gCons (gName 3) gNil)))) (te := (tIf (tTest (tOp (rIn K false) _ _)) _ _)) rfl sc_of_kind.nd (pi_enumS rfl T.b_enumerate (pa_cons (pv 0) pa_nil) (pk_cons pe_int pk_nil)) (blkOk_by (own := [("node", 2), ("kinds", 3)]) (N := N_of_kind) (sc := fnScope s_of_kind) (by decide +kernel)) (fun _ _ _ _ _ => (pg_tup rfl (pgs_cons (pg_name (i := 2) sc_of_kind.nd rfl (Or.inl rfl)) (pgs_cons (pg_name (i := 3) sc_of_kind.nd rfl (Or.inl rfl)) pgs_nil)))) (fun _ _ _ _ _ => pts_nil) (fun _ _ _ _ _ => (pe_ifExp (pt_cmpR op_in_seq (pv 1) (pv 3) (by rfl)) (pe_c (cal_bit_of T) hr (by decide) rfl (pa_cons (pv 2) pa_nil)) pe_int))))), ?_⟩)
  obtain ⟨a, ks, k, rfl, hl, hn, kk⟩ := h
  obtain ⟨qs, h1, h2⟩ := hl
  have hlen : (qs.map V.ref).length = ks.length := by rw [List.length_map]; exact h2.len
  refine s_retL (EvN.l (er_lcE (K := K) (a := a) (xs := qs.map V.ref) (k0 := 1) (fun i => true) (fun i v _ => v = .int ((if (ks.getD i []).contains k = true then 2 ^ i else 0 : Nat) : Int)) (fun i v H H' _ r => r) (fun i v H p xs ys r _ => r)
    (fun H1 e1 Q q => ⟨_, rfl, q H1 (Ex.refl _)⟩) (fun H1 e1 Q q => q H1 (Ex.refl _)) ⟨by decide, by decide⟩ (fun H1 e1 => sq_of (e1 _ _ h1)) (by omega) (fun x y => rfl) (fun i y H1 e1 hi => ⟨eb_yes, fun _ => ?_⟩)) (xs := nn (relN ks.length (rKind ks k))) fun ys H' r => ?_) kk
  · obtain ⟨q, l, rfl, hq, hl, hr2⟩ := f2_ref h2 hi
    have hg : ks.getD i [] = l := by rw [List.getD_eq_getElem?_getD, hl]; rfl
    have hin : i < ks.length := (List.getElem?_eq_some_iff.mp hl).1
    have hin2 : inV (.int (k : Int)) (nn l) = (ks.getD i []).contains k := by rw [hg]; exact inV_nn k l
    refine EvR.of (ev_if (b := (ks.getD i []).contains k) (v := .int ((if (ks.getD i []).contains k = true then 2 ^ i else 0 : Nat) : Int)) (et_test (ev_is (ev_op (ev_var rfl) (ev_var rfl) (rv_isL (sq_of (e1 _ _ hr2)) rfl (flat_nums _))) (congrArg V.bl hin2))) (fun hb => ?_) fun hb => ?_) fun _ _ => rfl
    · rw [if_pos hb]
      exact ev_call (ea_cons (ev_is (ev_var rfl) (show V.int (1 + ((i : Nat) : Int)) = V.int ((i : Int) + 1) by congr 1; omega)) ea_nil) (spBit_v (by omega))
    · rw [hb]
      exact ev_c
  · rw [F2.eq r, hlen, rng_all]
    have e : relN ks.length (rKind ks k) = (List.range ks.length).map fun i => if (ks.getD i []).contains k = true then 2 ^ i else 0 := by
      refine (relN_map fun i hi => ?_).symm
      by_cases c : (ks.getD i []).contains k = true
      · rw [if_pos c, mask_one hi]
        refine mask_congr fun j hj => ?_
        show decide (i + 1 = j + 1) = (decide (i + 1 = j + 1) && (ks.getD (i + 1 - 1) []).contains k)
        rw [show i + 1 - 1 = i by omega, c, Bool.and_true]
      · rw [if_neg c]
        refine (mask_zero.mpr fun j hj => ?_).symm
        show (decide (i + 1 = j + 1) && (ks.getD (i + 1 - 1) []).contains k) = false
        rw [show i + 1 - 1 = i by omega, Bool.eq_false_iff.mpr c, Bool.and_false]
    rw [e, nn_map]
/-! ### steps -/
def spStepsR : Sp := fun vs H Q _ => ∃ (a : Addr) (n : Nat) (ps : List (Nat × Nat)), vs = [.int (n : Int), .ref a] ∧ PrAt H a ps ∧ n ≤ 100 ∧ ps.length ≤ 100 ∧ (∀ p ∈ ps, 1 ≤ p.1 ∧ p.1 ≤ n ∧ 1 ≤ p.2 ∧ p.2 ≤ n) ∧ RetL (nn (relN n (rSteps ps))) H Q
theorem relN_step {n x y : Nat} {ps : List (Nat × Nat)} (hx : x < n) (hy : y < n) : (relN n (rSteps ps)).set x (mask (rSteps ps (x + 1)) n ||| 2 ^ y) = relN n (rSteps (ps ++ [(x + 1, y + 1)])) := by
  refine List.ext_getElem? fun i => ?_
  by_cases hi : i < n
  · rw [relN_at hi]
    by_cases c : x = i
    · subst c
      rw [List.getElem?_set_self (by rw [relN_len]; exact hi), mask_one hy, mask_or]
      refine congrArg some (mask_congr fun j hj => ?_)
      show (ps.contains (x + 1, j + 1) || decide (y + 1 = j + 1)) = (ps ++ [(x + 1, y + 1)]).contains (x + 1, j + 1)
      rw [Bool.eq_iff_iff, Bool.or_eq_true, List.contains_iff_mem, List.contains_iff_mem, List.mem_append, decide_eq_true_eq, List.mem_singleton, Prod.mk.injEq]
      exact or_congr Iff.rfl ⟨fun h => ⟨rfl, by omega⟩, fun h => by omega⟩
    · rw [List.getElem?_set_ne c, relN_at hi]
      refine congrArg some (mask_congr fun j hj => ?_)
      show ps.contains (i + 1, j + 1) = (ps ++ [(x + 1, y + 1)]).contains (i + 1, j + 1)
      rw [Bool.eq_iff_iff, List.contains_iff_mem, List.contains_iff_mem, List.mem_append]
      simp
      omega
  · rw [List.getElem?_eq_none (by rw [List.length_set, relN_len]; omega), List.getElem?_eq_none (by rw [relN_len]; omega)]
theorem nn_set (l : List Nat) (i m : Nat) : (nn l).set i (.int (m : Int)) = nn (l.set i m) := by
  unfold nn nums ofN
  rw [List.map_set, List.map_set]
theorem relN_nil (n : Nat) : nn (relN n (rSteps [])) = List.replicate n (V.int 0) := by
  have e : relN n (rSteps []) = (List.range n).map fun _ => 0 := (relN_map (f := rSteps []) (v := fun _ => 0) fun i hi => (mask_zero.mpr fun j hj => rfl).symm).symm
  rw [e, nn_map]
  refine List.ext_getElem? fun i => ?_
  rw [List.getElem?_map, List.getElem?_replicate]
  by_cases h : i < n
  · rw [if_pos h, List.getElem?_range h]; rfl
  · rw [if_neg h, List.getElem?_eq_none (by simp; omega)]; rfl
theorem rep_one (x : V) (n : Nat) : (List.replicate n [x]).flatten = List.replicate n x := by
  induction n with
  | zero => rfl
  | succ n ih => rw [List.replicate_succ, List.replicate_succ, List.flatten_cons, ih]; rfl
/-- [x] * n -/
theorem el_rep {K : PySem.W.Frag} {σ : L2.St} {H : Hp} {ta tb : TE} {x : V} {n : Nat} (ha : EvL ta σ H [x]) (hb : Ev tb σ H (.int (n : Int))) (hn : n ≤ 10000) : EvL (tOp rRep ta tb) σ H (List.replicate n x) := fun H1 e Q q =>
  ha H1 e _ fun p H2 hp e2 h2 => hb H2 (e.trans e2) _ fun H3 e3 => ⟨p, (n : Int), [x], rfl, rfl, e3 _ _ h2, by omega, by omega, sz_of (by rw [Int.toNat_natCast]; show 1 * n ≤ 100000; omega), fun r hr => by
    have := q r (upd H3 r (.lst (List.replicate n x))) (fresh_back (e2.trans e3) hr) ((e2.trans e3).trans (Ex.new hr)) upd_same
    rw [Int.toNat_natCast, rep_one]
    exact this⟩
theorem cal_steps_relations (T : Tx K mg C_Graph C_Line C_Reader a_CALLS) : Cal P w K mg base 2 "steps_relations" spStepsR [] := by
  refine T.d_steps_relations.cal sc_steps_relations (fun vs H Q E h => by obtain ⟨a, n, ps, rfl, _⟩ := h; rfl) (fun f cdv A outer s H vs Q E hr h => ⟨_, (pss_cons (ps_set (i := 2) sc_steps_relations.nd rfl (Or.inl rfl) (pe_op op_rep (pe_lst (pa_cons pe_int pa_nil)) (pv 0)))
      (pss_cons (ps_for PassesOwn.never rfl (pi_list (pv 1)) (pg_tup rfl (pgs_cons (pg_name (i := 3) sc_steps_relations.nd rfl (Or.inl rfl)) (pgs_cons (pg_name (i := 4) sc_steps_relations.nd rfl (Or.inl rfl)) pgs_nil))) (pss_one (ps_asg (pe_op op_or (pe_ix ix_list (pv 2) (pe_op op_sub (pv 3) pe_int) (fun _ _ => rfl)) (pe_c (cal_bit_of T) hr (by decide) rfl (pa_cons (pv 4) pa_nil))) (pg_sub (pv 2) (pe_op op_sub (pv 3) pe_int) set_list))))
      (pss_one (ps_ret (pv 2))))), ?_⟩)
  obtain ⟨a, n, ps, rfl, hp, hn, hm, hv, k⟩ := h
  obtain ⟨ts, h1, h2⟩ := hp
  refine q_asgL (el_rep (K := K) (el_lst (ea_cons ev_c ea_nil) (by show 1 ≤ 100000; decide)) (ev_var rfl) (by omega)) fun r H1 hr1 e1 hR => ?_
  rw [← relN_nil] at hR
  refine q_forL (K := K) (ev_var rfl) (sq_of (e1 _ _ h1)) (fun i σ' H' => ∃ u v, σ' = [some (.int (n : Int)), some (.ref a), some (.ref r), u, v] ∧ Ex H H' ∧ H' r = some (.lst (nn (relN n (rSteps (ps.take i)))))) (fun H2 e2 => ⟨none, none, rfl, e1.trans e2, e2 _ _ hR⟩) (fun i σ' H' _ ⟨_, _, _, e, _⟩ => sq_of (e _ _ h1)) ?_ ?_
  · rintro i x σ' H' hi ⟨u, v, rfl, eH, hR'⟩
    obtain ⟨t, p, rfl, ht, hpi, hT⟩ := f2_ref h2 hi
    obtain ⟨px, py⟩ := p
    have hb := hv (px, py) (List.mem_of_getElem? hpi)
    obtain ⟨x', rfl⟩ : ∃ x', px = x' + 1 := ⟨px - 1, by have := hb.1; simp at this; omega⟩
    obtain ⟨y', rfl⟩ : ∃ y', py = y' + 1 := ⟨py - 1, by have := hb.2.2.1; simp at this; omega⟩
    have hx' : x' < n := by have := hb.2.1; simp at this; omega
    have hy' : y' < n := by have := hb.2.2.2; simp at this; omega
    refine g_two (st_of (eH _ _ hT)) ?_
    have hlen : x' < (nn (relN n (rSteps (ps.take i)))).length := by rw [nn_len, relN_len]; exact hx'
    have evI : ∀ {H2 : Hp}, Ev (tOp (rI0 fun i j => .int (i - j)) (tVar 3) (tC (.int 1))) [some (V.int (n : Int)), some (.ref a), some (.ref r), some (.int ((x' + 1 : Nat) : Int)), some (.int ((y' + 1 : Nat) : Int))] H2 (.int (x' : Int)) := ev_is (ev_op (ev_var rfl) ev_c rv_I0) (show V.int (((x' + 1 : Nat) : Int) - 1) = V.int (x' : Int) by congr 1; omega)
    refine s_setL hR' (ev_op (ev_op (ev_var rfl) evI (rv_ixL (sq_of hR') (atI_nat (nn_at (relN_at hx'))))) (ev_call (ea_cons (ev_is (ev_var rfl) (show V.int ((y' + 1 : Nat) : Int) = V.int ((y' : Int) + 1) by congr 1)) ea_nil) (spBit_v (by omega))) rv_I0) (ev_var rfl) evI hlen fun H2 e2 => ?_
    refine ⟨_, _, rfl, (eH.trans e2).mut (fresh_back (Ex.refl H) hr1), ?_⟩
    rw [upd_same, bOr, nn_set, relN_step hx' hy']
    have : ps.take (i + 1) = ps.take i ++ [(x' + 1, y' + 1)] := by
      rw [List.take_add_one, hpi]
      rfl
    rw [this]
  · rintro σ' H' ⟨u, v, rfl, eH, hR'⟩
    refine s_ret (ev_var rfl) fun H2 e2 => k r H2 hr1 (eH.trans e2) ?_
    rw [List.length_map, h2.len, List.take_length] at hR'
    exact e2 _ _ hR'
end
end WG
namespace WG
open PySem PySem.Spec
open PyProof.Rows
open L2 hiding CX0 E0 pass0 Fun
open C8 Evl WM
theorem nodesP_of {n : Nat} {p : Nat → Bool} {z : Nat} (h : z ∈ nodesP n p) : ∃ i, z = i + 1 ∧ i < n ∧ p (i + 1) = true := by
  obtain ⟨i, hi, rfl⟩ := (List.mem_map.mp h)
  obtain ⟨h1, h2⟩ := List.mem_filter.mp hi
  exact ⟨i, rfl, List.mem_range.mp h1, h2⟩
theorem nodesP_any {n : Nat} {p q : Nat → Bool} : (nodesP n p).any q = (List.range n).any fun z => p (z + 1) && q (z + 1) := by
  unfold nodesP
  rw [List.any_map, List.any_filter]
  rfl
theorem nodesP_len (n : Nat) (p : Nat → Bool) : (nodesP n p).length ≤ n := by
  unfold nodesP
  rw [List.length_map]
  have h := List.length_filter_le (fun i => p (i + 1)) (List.range n)
  rw [List.length_range] at h
  exact h
section
variable {P : Program} {w : World} {K : PySem.W.Frag} {mg : Str → Option Value} {base : Heap} {C_Graph C_Line C_Reader a_CALLS : Addr}
def spReach : Sp := fun vs H Q _ => ∃ (a : Addr) (n : Nat) (p : Nat → Bool) (h : Nat → Nat → Bool), vs = [.int ((mask p n : Nat) : Int), .ref a] ∧ n ≤ 100 ∧ H a = some (.lst (nn (relN n h))) ∧
  ∀ H', Ex H H' → Q (.int ((mask (fun y => (List.range n).any fun z => p (z + 1) && h (z + 1) y) n : Nat) : Int)) H'
theorem cal_reached_from (T : Tx K mg C_Graph C_Line C_Reader a_CALLS) : Cal P w K mg base 3 "reached_from" spReach [] := by
  refine T.d_reached_from.cal sc_reached_from (fun vs H Q E h => by obtain ⟨a, n, p, h, rfl, _⟩ := h; rfl) (fun f cdv A outer s H vs Q E hr h => ⟨_, (pss_cons (ps_set (i := 2) sc_reached_from.nd rfl (Or.inl rfl) pe_int)
      (pss_cons (ps_for PassesOwn.never rfl (pi_list (pe_c (cal_nodes_of T) hr (by decide) rfl (pa_cons (pv 0) pa_nil))) (pg_name (i := 3) sc_reached_from.nd rfl (Or.inl rfl)) (pss_one (ps_set (i := 2) sc_reached_from.nd rfl (Or.inl rfl) (pe_op op_or (pv 2) (pe_ix ix_list (pv 1) (pe_op op_sub (pv 3) pe_int) (fun _ _ => rfl))))))
      (pss_one (ps_ret (pv 2))))), ?_⟩)
  obtain ⟨a, n, p, h, rfl, hn, ha, k⟩ := h
  refine q_asg ev_c fun H1 e1 => ?_
  refine q_forNLn (K := K) (el_call (ea_cons (ev_var rfl) ea_nil) (spNodes_l hn)) (fun l i σ' H' => ∃ v, σ' = [some (.int ((mask p n : Nat) : Int)), some (.ref a), some (.int ((mask (fun y => ((nodesP n p).take i).any fun z => h z y) n : Nat) : Int)), v] ∧ Ex H H' ∧ H' l = some (.lst (nn (nodesP n p))))
    (fun l H2 _ e2 h2 => ⟨none, ?_, e1.trans e2, h2⟩) (fun l i σ' H' _ ⟨_, _, _, h2⟩ => sq_of h2) ?_ ?_
  · have e0 : mask (fun y => ((nodesP n p).take 0).any fun z => h z y) n = 0 := mask_zero.mpr fun i hi => rfl
    rw [e0]
    rfl
  · rintro l i x σ' H' hi ⟨v, rfl, eH, hL⟩
    obtain ⟨z, hz, rfl⟩ := nums_of hi
    rw [List.getElem?_map] at hz
    cases hq : (nodesP n p)[i]? with
    | none => rw [hq] at hz; cases hz
    | some m =>
      rw [hq] at hz
      obtain rfl := (Option.some.inj hz).symm
      obtain ⟨j, rfl, hj, hp⟩ := nodesP_of (List.mem_of_getElem? hq)
      refine s_asg (ev_op (ev_var rfl) (ev_op (ev_var rfl) (ev_is (ev_op (ev_var rfl) ev_c rv_I0) (show V.int (((j + 1 : Nat) : Int) - 1) = V.int (j : Int) by congr 1; omega)) (rv_ixL (sq_of (eH _ _ ha)) (atI_nat (nn_at (relN_at hj))))) rv_I0) fun H2 e2 => ⟨some (.int ((j + 1 : Nat) : Int)), ?_, eH.trans e2, e2 _ _ hL⟩
      rw [bOr, mask_or]
      have e : (fun y => ((nodesP n p).take i).any (fun z => h z y) || h (j + 1) y) = fun y => ((nodesP n p).take (i + 1)).any fun z => h z y := by
        funext y
        rw [List.take_add_one, hq, List.any_append]
        simp
      rw [e]
      rfl
  · rintro l σ' H' ⟨v, rfl, eH, hL⟩
    refine s_ret (ev_var rfl) fun H2 e2 => ?_
    have q := k H2 (eH.trans e2)
    have e : (fun y => (List.range n).any fun z => p (z + 1) && h (z + 1) y) = fun y => ((nodesP n p).take (nn (nodesP n p)).length).any fun z => h z y := by
      funext y
      rw [nn_len, List.take_length, nodesP_any]
    rw [e] at q
    exact q
/-- two relations give one -/
def spRR (g : Nat → B2 → B2 → B2) : Sp := fun vs H Q _ => ∃ (a b : Addr) (n : Nat) (f h : B2), vs = [.ref a, .ref b] ∧ n ≤ 100 ∧ H a = some (.lst (nn (relN n f))) ∧ H b = some (.lst (nn (relN n h))) ∧ RetL (nn (relN n (g n f h))) H Q
def spR1 (g : Nat → B2 → B2) : Sp := fun vs H Q _ => ∃ (a : Addr) (n : Nat) (f : B2), vs = [.ref a] ∧ n ≤ 100 ∧ H a = some (.lst (nn (relN n f))) ∧ RetL (nn (relN n (g n f))) H Q
theorem cal_in_order_relations (T : Tx K mg C_Graph C_Line C_Reader a_CALLS) : Cal P w K mg base 4 "in_order_relations" (spRR rSq) [] := by
  refine T.d_in_order_relations.cal sc_in_order_relations (fun vs H Q E h => by obtain ⟨a, b, n, f, h, rfl, _⟩ := h; rfl) (fun f cdv A outer s H vs Q E hr h => ⟨_, (pss_one (ps_ret (pe_lc (own := [("row", 2)]) (g := (gName 2)) rfl sc_in_order_relations.nd (pi_list (pv 0)) (blkOk_by (own := [("row", 2)]) (N := N_in_order_relations) (sc := fnScope s_in_order_relations) (by decide +kernel)) (fun _ _ _ _ _ => (pg_name (i := 2) sc_in_order_relations.nd rfl (Or.inl rfl))) (fun _ _ _ _ _ => pts_nil) (fun _ _ _ _ _ => (pe_c (cal_reached_from T) hr (by decide) rfl (pa_cons (pv 2) (pa_cons (pv 1) pa_nil))))))), ?_⟩)
  obtain ⟨a, b, n, f, h, rfl, hn, ha, hb, k⟩ := h
  refine s_retL (EvN.l (er_lcL (K := K) (a := a) (xs := nn (relN n f)) (fun i => true) (fun i v _ => v = .int ((mask (rSq n f h (i + 1)) n : Nat) : Int)) (fun i v H H' _ r => r) (fun i v H p xs ys r _ => r)
    (ev_var rfl) (fun H1 e1 => sq_of (e1 _ _ ha)) (by rw [nn_len, relN_len]; omega) (fun x => rfl) (fun i x H1 e1 hi => ⟨eb_yes, fun _ => ?_⟩)) (xs := nn (relN n (rSq n f h))) fun ys H' r => ?_) k
  · obtain ⟨hi2, rfl⟩ := relN_of hi
    exact EvR.of (ev_call (ea_cons (ev_var rfl) (ea_cons (ev_var rfl) ea_nil)) fun H2 e2 Q q E => ⟨b, n, f (i + 1), h, rfl, hn, e2 _ _ (e1 _ _ hb), q⟩) fun _ _ => rfl
  · rw [F2.eq r, nn_len, relN_len, rng_all, ← nn_map (g := fun i => mask (rSq n f h (i + 1)) n)]
    rfl
theorem cal_either_relations (T : Tx K mg C_Graph C_Line C_Reader a_CALLS) : Cal P w K mg base 1 "either_relations" (spRR fun _ => rAlt) [] := by
  refine T.d_either_relations.cal sc_either_relations (fun vs H Q E h => by obtain ⟨a, b, n, f, h, rfl, _⟩ := h; rfl) (fun f cdv A outer s H vs Q E hr h => ⟨_, (pss_one (ps_ret (pe_lc (own := [("one", 2), ("other", 3)]) (g := (gTup K 2 (gCons (gName 2) (gCons (gName 3) gNil)))) rfl sc_either_relations.nd (pi_zip rfl T.b_zip (pa_cons (pv 0) (pa_cons (pv 1) pa_nil))) (blkOk_by (own := [("one", 2), ("other", 3)]) (N := N_either_relations) (sc := fnScope s_either_relations) (by decide +kernel)) (fun _ _ _ _ _ => (pg_tup rfl (pgs_cons (pg_name (i := 2) sc_either_relations.nd rfl (Or.inl rfl)) (pgs_cons (pg_name (i := 3) sc_either_relations.nd rfl (Or.inl rfl)) pgs_nil)))) (fun _ _ _ _ _ => pts_nil) (fun _ _ _ _ _ => (pe_op op_or (pv 2) (pv 3)))))), ?_⟩)
  obtain ⟨a, b, n, f, h, rfl, hn, ha, hb, k⟩ := h
  refine s_retL (EvN.l (er_lcZ (K := K) (a := a) (b := b) (xs := nn (relN n f)) (ys := nn (relN n h)) (fun i => true) (fun i v _ => v = .int ((mask (rAlt f h (i + 1)) n : Nat) : Int)) (fun i v H H' _ r => r) (fun i v H p xs ys r _ => r)
    (fun H1 e1 Q q => ⟨_, rfl, _, rfl, q H1 (Ex.refl _)⟩) (fun H1 e1 => ⟨sq_of (e1 _ _ ha), sq_of (e1 _ _ hb)⟩) (by rw [nn_len, relN_len]; omega) (fun x y => rfl) (fun i x y H1 e1 hi hj => ⟨eb_yes, fun _ => ?_⟩)) (xs := nn (relN n (rAlt f h))) fun ys H' r => ?_) k
  · obtain ⟨hi2, rfl⟩ := relN_of hi
    obtain ⟨_, rfl⟩ := relN_of hj
    refine EvR.of (ev_op (ev_var rfl) (ev_var rfl) rv_I0) fun _ _ => ?_
    rw [bOr, mask_or]
    rfl
  · rw [F2.eq r, nn_len, nn_len, relN_len, relN_len, Nat.min_self, rng_all, ← nn_map (g := fun i => mask (rAlt f h (i + 1)) n)]
    rfl
def spJoinR : Sp := fun vs H Q _ => ∃ (a : Addr) (n m : Nat) (f : B2), vs = [.int ((m : Int) + 1), .ref a] ∧ n ≤ 100 ∧ m < n ∧ H a = some (.lst (nn (relN n f))) ∧ RetL (nn (relN n (rJoin (m + 1) f))) H Q
theorem cal_joined_at_relations (T : Tx K mg C_Graph C_Line C_Reader a_CALLS) : Cal P w K mg base 2 "joined_at_relations" spJoinR [] := by
  refine T.d_joined_at_relations.cal sc_joined_at_relations (fun vs H Q E h => by obtain ⟨a, n, m, f, rfl, _⟩ := h; rfl) (fun f cdv A outer s H vs Q E hr h => ⟨_, (pss_cons (ps_set (i := 2) sc_joined_at_relations.nd rfl (Or.inr rfl) (pe_ix ix_list (pv 1) (pe_op op_sub (pv 0) pe_int) (fun _ _ => rfl)))
      (pss_one (ps_ret (pe_lc (own := [("row", 3)]) (g := (gName 3)) rfl sc_joined_at_relations.nd (pi_list (pv 1)) (blkOk_by (own := [("row", 3)]) (N := N_joined_at_relations) (sc := fnScope s_joined_at_relations) (by decide +kernel)) (fun _ _ _ _ _ => (pg_name (i := 3) sc_joined_at_relations.nd rfl (Or.inl rfl))) (fun _ _ _ _ _ => pts_nil) (fun _ _ _ _ _ => (pe_ifExp (pt_cmpR op_ne (pe_op op_and (pv 3) (pe_c (cal_bit_of T) hr (by decide) rfl (pa_cons (pv 0) pa_nil))) pe_int (nomark _)) (pe_op op_or (pv 3) (pv 2)) (pv 3))))))), ?_⟩)
  obtain ⟨a, n, m, f, rfl, hn, hm, ha, k⟩ := h
  refine q_asg (ev_op (ev_var rfl) (ev_is (ev_op (ev_var rfl) ev_c rv_I0) (show V.int ((m : Int) + 1 - 1) = V.int (m : Int) by congr 1; omega)) (rv_ixL (sq_of ha) (atI_nat (nn_at (relN_at hm))))) fun H0 e0 => ?_
  refine s_retL (EvN.l (er_lcL (K := K) (a := a) (xs := nn (relN n f)) (fun i => true) (fun i v _ => v = .int ((mask (rJoin (m + 1) f (i + 1)) n : Nat) : Int)) (fun i v H H' _ r => r) (fun i v H p xs ys r _ => r)
    (ev_var rfl) (fun H1 e1 => sq_of (e1 _ _ (e0 _ _ ha))) (by rw [nn_len, relN_len]; omega) (fun x => rfl) (fun i x H1 e1 hi => ⟨eb_yes, fun _ => ?_⟩)) (xs := nn (relN n (rJoin (m + 1) f))) fun ys H' r => ?_) fun p H2 hp e2 h2 => k p H2 (fresh_back e0 hp) (e0.trans e2) h2
  · obtain ⟨hi2, rfl⟩ := relN_of hi
    have ht : EvT (tTest (tOp rNe (tOp (rI0 fun i j => .int (Builtin.bitAnd i j)) (tVar 3) (tCall spBit [] E0 (tCons (tVar 0) tNil))) (tC (.int 0)))) [some (.int ((m : Int) + 1)), some (.ref a), some (.int ((mask (f (m + 1)) n : Nat) : Int)), some (.int ((mask (f (i + 1)) n : Nat) : Int))] H1 (!decide (V.int (Builtin.bitAnd ((mask (f (i + 1)) n : Nat) : Int) ((2 ^ m : Nat) : Int)) = V.int 0)) :=
      et_test (ev_op (ev_op (ev_var rfl) (ev_call (ea_cons (ev_var rfl) ea_nil) (spBit_v (by omega))) rv_I0) ev_c (rv_ne rfl))
    rw [and_bit, Bool.not_not, mask_bit, decide_eq_true hm, Bool.true_and] at ht
    refine EvR.of (ev_if (v := .int ((mask (rJoin (m + 1) f (i + 1)) n : Nat) : Int)) ht (fun hb => ev_is (ev_op (ev_var rfl) (ev_var rfl) rv_I0) ?_) fun hb => ev_is (ev_var rfl) ?_) fun _ _ => rfl
    · rw [bOr, mask_or]
      refine congrArg (fun (m : Nat) => V.int (m : Int)) (mask_congr fun j hj => ?_)
      show (f (i + 1) (j + 1) || f (m + 1) (j + 1)) = (f (i + 1) (j + 1) || (f (i + 1) (m + 1) && f (m + 1) (j + 1)))
      rw [hb, Bool.true_and]
    · refine congrArg (fun (m : Nat) => V.int (m : Int)) (mask_congr fun j hj => ?_)
      show f (i + 1) (j + 1) = (f (i + 1) (j + 1) || (f (i + 1) (m + 1) && f (m + 1) (j + 1)))
      rw [hb, Bool.false_and, Bool.or_false]
  · rw [F2.eq r, nn_len, relN_len, rng_all, ← nn_map (g := fun i => mask (rJoin (m + 1) f (i + 1)) n)]
    rfl
theorem cal_again_relations (T : Tx K mg C_Graph C_Line C_Reader a_CALLS) : Cal P w K mg base 3 "again_relations" (spR1 fun n f => rUp f n) [] := by
  refine T.d_again_relations.cal sc_again_relations (fun vs H Q E h => by obtain ⟨a, n, f, rfl, _⟩ := h; rfl) (fun f cdv A outer s H vs Q E hr h => ⟨_, (pss_cons (ps_set (i := 1) sc_again_relations.nd rfl (Or.inl rfl) (pe_c (cal_either_relations T) hr (by decide) rfl (pa_cons (pe_c (cal_stay_relations T) hr (by decide) rfl (pa_cons (pe_callB call_len_seq (by rfl) T.b_len PySem.boot_len (pa_cons (pv 0) pa_nil)) pa_nil)) (pa_cons (pv 0) pa_nil))))
      (pss_cons (ps_for PassesOwn.never rfl (pi_range2 rfl T.b_range (pa_cons pe_int (pa_cons (pe_op op_add (pe_callB call_len_seq (by rfl) T.b_len PySem.boot_len (pa_cons (pv 0) pa_nil)) pe_int) pa_nil))) (pg_name (i := 2) sc_again_relations.nd rfl (Or.inl rfl)) (pss_one (ps_set (i := 1) sc_again_relations.nd rfl (Or.inl rfl) (pe_c (cal_joined_at_relations T) hr (by decide) rfl (pa_cons (pv 2) (pa_cons (pv 1) pa_nil))))))
      (pss_one (ps_ret (pv 1))))), ?_⟩)
  obtain ⟨a, n, f, rfl, hn, ha, k⟩ := h
  have hl : ((nn (relN n f)).length : Int) = (n : Int) := by rw [nn_len, relN_len]
  have ev1 : EvL (tCall (spRR fun _ => rAlt) [] E0 (tCons (tCall spStayR [] E0 (tCons (tCB (rLenS K) (tCons (tVar 0) tNil)) tNil)) (tCons (tVar 0) tNil))) (L2.start N_again_relations [.ref a]) H (nn (relN n (rAlt rStay f))) := fun H1 e1 Q q => by
    refine ev_len (K := K) (ev_var rfl) (sq_of ha) H1 e1 _ fun H2 e2 => ?_
    refine ⟨n, by rw [hl]; rfl, by omega, fun p H3 hp e3 h3 => ?_⟩
    refine ⟨_, rfl, p, a, n, rStay, f, rfl, hn, h3, e3 _ _ (e2 _ _ (e1 _ _ ha)), fun r H4 hr4 e4 h4 => ?_⟩
    exact q r H4 (fresh_back (e2.trans e3) hr4) ((e2.trans e3).trans e4) h4
  refine q_asgL ev1 fun p H1 hp e1 h1 => ?_
  refine q_forR2 (lo := 1) (n := (n : Int) + 1) (fun H2 e2 Q q => ⟨_, rfl, ?_⟩) ⟨by decide, by decide, by omega, by omega⟩ (fun i σ' H' => ∃ r v, σ' = [some (.ref a), some (.ref r), v] ∧ Ex H H' ∧ H r = none ∧ H' r = some (.lst (nn (relN n (rUp f i))))) (fun H2 e2 => ⟨p, none, rfl, e1.trans e2, hp, e2 _ _ h1⟩) ?_ ?_
  · refine ⟨a, _, rfl, Or.inl (sq_of (e2 _ _ (e1 _ _ ha))), _, _, rfl, rfl, ?_⟩
    rw [hl]
    exact q H2 (Ex.refl _)
  · rintro i σ' H' hi ⟨r, v, rfl, eH, hF, hR⟩
    refine s_asgL (el_call (ea_cons (ev_is (ev_var rfl) (show V.int (1 + (i : Int)) = V.int ((i : Int) + 1) by congr 1; omega)) (ea_cons (ev_var rfl) ea_nil)) fun H2 e2 Q q E => ⟨r, n, i, rUp f i, rfl, hn, by omega, e2 _ _ hR, q⟩) fun p' H2 hp' e2 h2 => ⟨p', some (.int (1 + (i : Int))), rfl, eH.trans e2, fresh_back eH hp', h2⟩
  · rintro σ' H' ⟨r, v, rfl, eH, hF, hR⟩
    refine s_ret (ev_var rfl) fun H2 e2 => ?_
    rw [show ((n : Int) + 1 - 1).toNat = n by omega] at hR
    exact k r H2 hF (eH.trans e2) (e2 _ _ hR)
theorem cal_has_relations (T : Tx K mg C_Graph C_Line C_Reader a_CALLS) : Cal P w K mg base 2 "has_relations" (spR1 rHas) [] := by
  refine T.d_has_relations.cal sc_has_relations (fun vs H Q E h => by obtain ⟨a, n, f, rfl, _⟩ := h; rfl) (fun f cdv A outer s H vs Q E hr h => ⟨_, (pss_one (ps_ret (pe_lc (own := [("node", 1), ("row", 2)]) (g := (gTup K 2 (gCons (gName 1) (gCons (gName 2) gNil)))) rfl sc_has_relations.nd (pi_enumS rfl T.b_enumerate (pa_cons (pv 0) pa_nil) (pk_cons pe_int pk_nil)) (blkOk_by (own := [("node", 1), ("row", 2)]) (N := N_has_relations) (sc := fnScope s_has_relations) (by decide +kernel)) (fun _ _ _ _ _ => (pg_tup rfl (pgs_cons (pg_name (i := 1) sc_has_relations.nd rfl (Or.inl rfl)) (pgs_cons (pg_name (i := 2) sc_has_relations.nd rfl (Or.inl rfl)) pgs_nil)))) (fun _ _ _ _ _ => pts_nil) (fun _ _ _ _ _ => (pe_ifExp (pt_cmpR op_ne (pv 2) pe_int (nomark _)) (pe_c (cal_bit_of T) hr (by decide) rfl (pa_cons (pv 1) pa_nil)) pe_int))))), ?_⟩)
  obtain ⟨a, n, f, rfl, hn, ha, k⟩ := h
  refine s_retL (EvN.l (er_lcE (K := K) (a := a) (xs := nn (relN n f)) (k0 := 1) (fun i => true) (fun i v _ => v = .int ((mask (rHas n f (i + 1)) n : Nat) : Int)) (fun i v H H' _ r => r) (fun i v H p xs ys r _ => r)
    (fun H1 e1 Q q => ⟨_, rfl, q H1 (Ex.refl _)⟩) (fun H1 e1 Q q => q H1 (Ex.refl _)) ⟨by decide, by decide⟩ (fun H1 e1 => sq_of (e1 _ _ ha)) (by rw [nn_len, relN_len]; omega) (fun x y => rfl) (fun i y H1 e1 hi => ⟨eb_yes, fun _ => ?_⟩)) (xs := nn (relN n (rHas n f))) fun ys H' r => ?_) k
  · obtain ⟨hi2, rfl⟩ := relN_of hi
    have hz : decide (V.int ((mask (f (i + 1)) n : Nat) : Int) = V.int 0) = !((List.range n).any fun z => f (i + 1) (z + 1)) := by
      by_cases c : mask (f (i + 1)) n = 0
      · rw [c, decide_eq_true (show V.int ((0 : Nat) : Int) = V.int 0 from rfl)]
        have c := mask_zero.mp c
        have : ((List.range n).any fun z => f (i + 1) (z + 1)) = false := by
          rw [List.any_eq_false]
          intro z hz
          rw [c z (List.mem_range.mp hz)]
          decide
        rw [this]
        rfl
      · rw [decide_eq_false fun z => c (by have := V.int.inj z; omega)]
        have : ((List.range n).any fun z => f (i + 1) (z + 1)) = true := by
          rw [List.any_eq_true]
          refine Classical.byContradiction fun hh => c (mask_zero.mpr fun j hj => ?_)
          cases hq : f (i + 1) (j + 1) with
          | false => rfl
          | true => exact absurd ⟨j, List.mem_range.mpr hj, hq⟩ hh
        rw [this]
        rfl
    have ht : EvT (tTest (tOp rNe (tVar 2) (tC (.int 0)))) [some (.ref a), some (.int (1 + (i : Int))), some (.int ((mask (f (i + 1)) n : Nat) : Int))] H1 (!decide (V.int ((mask (f (i + 1)) n : Nat) : Int) = V.int 0)) := et_test (ev_op (ev_var rfl) ev_c (rv_ne rfl))
    rw [hz, Bool.not_not] at ht
    refine EvR.of (ev_if (v := .int ((mask (rHas n f (i + 1)) n : Nat) : Int)) ht (fun hb => ev_is (ev_call (ea_cons (ev_is (ev_var rfl) (show V.int (1 + (i : Int)) = V.int ((i : Int) + 1) by congr 1; omega)) ea_nil) (spBit_v (by omega))) ?_) fun hb => ev_is ev_c ?_) fun _ _ => rfl
    · rw [mask_one hi2]
      refine congrArg (fun (m : Nat) => V.int (m : Int)) (mask_congr fun j hj => ?_)
      show decide (i + 1 = j + 1) = (decide (i + 1 = j + 1) && (List.range n).any fun z => f (i + 1) (z + 1))
      rw [hb, Bool.and_true]
    · have : mask (rHas n f (i + 1)) n = 0 := mask_zero.mpr fun j hj => by
        show (decide (i + 1 = j + 1) && (List.range n).any fun z => f (i + 1) (z + 1)) = false
        rw [hb, Bool.and_false]
      rw [this]
      rfl
  · rw [F2.eq r, nn_len, relN_len, rng_all, ← nn_map (g := fun i => mask (rHas n f (i + 1)) n)]
    rfl
def spHasPair : Sp := fun vs H Q _ => ∃ (a : Addr) (n x y : Nat) (f : B2), vs = [.ref a, .int (x : Int), .int (y : Int)] ∧ n ≤ 100 ∧ 1 ≤ x ∧ x ≤ n ∧ 1 ≤ y ∧ y ≤ n ∧ H a = some (.lst (nn (relN n f))) ∧ ∀ H', Ex H H' → Q (.bl (f x y)) H'
theorem cal_has_pair (T : Tx K mg C_Graph C_Line C_Reader a_CALLS) : Cal P w K mg base 2 "has_pair" spHasPair [] := by
  refine T.d_has_pair.cal sc_has_pair (fun vs H Q E h => by obtain ⟨a, n, x, y, f, rfl, _⟩ := h; rfl) (fun f cdv A outer s H vs Q E hr h => ⟨_, (pss_one (ps_ret (pe_cmpR op_ne (pe_op op_and (pe_ix ix_list (pv 0) (pe_op op_sub (pv 1) pe_int) (fun _ _ => rfl)) (pe_c (cal_bit_of T) hr (by decide) rfl (pa_cons (pv 2) pa_nil))) pe_int (nomark _)))), ?_⟩)
  obtain ⟨a, n, x, y, f, rfl, hn, hx, hx2, hy, hy2, ha, k⟩ := h
  obtain ⟨x, rfl⟩ : ∃ x', x = x' + 1 := ⟨x - 1, by omega⟩
  obtain ⟨y, rfl⟩ : ∃ y', y = y' + 1 := ⟨y - 1, by omega⟩
  refine s_ret (v := .bl (!decide (V.int (Builtin.bitAnd ((mask (f (x + 1)) n : Nat) : Int) ((2 ^ y : Nat) : Int)) = V.int 0))) (ev_op (ev_op (ev_op (ev_var rfl) (ev_is (ev_op (ev_var rfl) ev_c rv_I0) (show V.int (((x + 1 : Nat) : Int) - 1) = V.int (x : Int) by congr 1; omega)) (rv_ixL (K := K) (sq_of ha) (atI_nat (nn_at (relN_at (by omega)))))) (ev_call (ea_cons (ev_is (ev_var rfl) (show V.int ((y + 1 : Nat) : Int) = V.int ((y : Int) + 1) by congr 1)) ea_nil) (spBit_v (by omega))) rv_I0) ev_c (rv_ne rfl)) fun H1 e1 => ?_
  have q := k H1 e1
  rw [and_bit, Bool.not_not, mask_bit, decide_eq_true (by omega), Bool.true_and]
  exact q
end
end WG
namespace WG
open PySem PySem.Spec
open PyProof.Rows
open L2 hiding CX0 E0 pass0 Fun
open C8 Evl WM
/-! ### what comprehensions give, as lists -/
theorem F2.mapR {α β γ : Type} {R : α → β → Prop} {g : γ → β} {l : List α} {m : List γ} (h : F2 (fun a c => R a (g c)) l m) : F2 R l (m.map g) := by
  induction h with
  | nil => exact .nil
  | cons r _ ih => exact .cons r ih
theorem F2.flip {α β : Type} {R : α → β → Prop} {l : List α} {m : List β} (h : F2 R l m) : F2 (fun b a => R a b) m l := by
  induction h with
  | nil => exact .nil
  | cons r _ ih => exact .cons r ih
theorem range_getD {α : Type} (l : List α) (d : α) : (List.range l.length).map (fun i => l.getD i d) = l := by
  refine List.ext_getElem? fun i => ?_
  rw [List.getElem?_map]
  by_cases h : i < l.length
  · rw [List.getElem?_range h, List.getElem?_eq_getElem h]
    simp [List.getD_eq_getElem?_getD, h]
  · rw [List.getElem?_eq_none (by simpa using h), List.getElem?_eq_none (by simpa using h)]
    rfl
theorem range_filter {α : Type} (l : List α) (d : α) (p : α → Bool) : ((List.range l.length).filter fun i => p (l.getD i d)).map (fun i => l.getD i d) = l.filter p := by
  have h := List.filter_map (f := fun i => l.getD i d) (p := p) (l := List.range l.length)
  rw [range_getD] at h
  exact h.symm
theorem getD_at {α : Type} {l : List α} {i : Nat} {a d : α} (h : l[i]? = some a) : l.getD i d = a := by rw [List.getD_eq_getElem?_getD, h]; rfl
theorem f2_refs {α : Type} {S : α → Addr → Prop} {l : List α} {ys : List V} (h : F2 (fun e y => ∃ t, y = .ref t ∧ S e t) l ys) : ∃ ts : List Addr, ys = ts.map V.ref ∧ F2 (fun t e => S e t) ts l := by
  induction h with
  | nil => exact ⟨[], rfl, .nil⟩
  | cons r _ ih =>
    obtain ⟨t, rfl, s⟩ := r
    obtain ⟨ts, rfl, k⟩ := ih
    exact ⟨t :: ts, rfl, .cons s k⟩
/-- a tuple stands whatever lists are written -/
def TupR (xs : List V) : Rp := fun v H => ∃ t, v = .ref t ∧ H t = some (.tup xs)
theorem tupR_mo {L : Hp → Hp → Prop} [Pre L] {xs : List V} : Mo L (TupR xs) := fun v H H' e ⟨t, h1, h2⟩ => ⟨t, h1, Pre.tup e h2⟩
theorem tupR_st {xs : List V} : Stb (TupR xs) := fun v H p ys zs ⟨t, h1, h2⟩ hp => ⟨t, h1, (upd_ne (ne_of h2 hp (fun z => nomatch z))).trans h2⟩
theorem edges3 {H : Hp} {ts : List Addr} {es : List Gq01.Edge} (h : F2 (fun t e => H t = some (.tup (edV e))) ts es) : F2 (fun t (x : V × V × V) => H t = some (.tup [x.1, x.2.1, x.2.2])) ts (es.map fun e => (V.int (e.src : Int), V.int (e.label : Int), V.int (e.dst : Int))) := F2.mapR h
theorem edges3_at {es : List Gq01.Edge} {i : Nat} {x : V × V × V} (h : (es.map fun e => (V.int (e.src : Int), V.int (e.label : Int), V.int (e.dst : Int)))[i]? = some x) : ∃ e, es[i]? = some e ∧ x = (V.int (e.src : Int), V.int (e.label : Int), V.int (e.dst : Int)) := by
  rw [List.getElem?_map] at h
  cases q : es[i]? with
  | none => rw [q] at h; cases h
  | some e => rw [q] at h; exact ⟨e, rfl, (Option.some.inj h).symm⟩
theorem eq_int (a b : Nat) : decide (V.int (a : Int) = V.int (b : Int)) = (a == b) := by
  by_cases h : a = b
  · subst h
    simp
  · rw [decide_eq_false fun z => h (by have := V.int.inj z; omega), beq_eq_false_iff_ne.mpr h]
abbrev e00 : Gq01.Edge := ⟨0, 0, 0⟩
section
variable {P : Program} {w : World} {K : PySem.W.Frag} {mg : Str → Option Value} {base : Heap} {C_Graph C_Line C_Reader a_CALLS : Addr}
def pairsOf (s : Int) (es : List Gq01.Edge) (a : Nat) : List (Nat × Nat) := if s = 1 then pairsF es a else pairsB es a
def spPairs : Sp := fun vs H Q _ => ∃ (q aE : Addr) (s : Int) (a : Nat) (es : List Gq01.Edge), vs = [.ref q, .ref aE] ∧ H q = some (.lst (nums [s, (a : Int)])) ∧ EdAt H aE es ∧ es.length ≤ 100 ∧
  ∀ p H', H p = none → Ex H H' → PrAt H' p (pairsOf s es a) → Q (.ref p) H'
theorem cal_pairs_by (T : Tx K mg C_Graph C_Line C_Reader a_CALLS) : Cal P w K mg base 1 "pairs_by" spPairs [] := by
  refine T.d_pairs_by.cal sc_pairs_by (fun vs H Q E h => by obtain ⟨q, aE, s, a, es, rfl, _⟩ := h; rfl) (fun f cdv A outer s H vs Q E hr h => ⟨_, (pss_cons (ps_if (pt_cmpR op_eq (pe_ix ix_list (pv 0) pe_int (fun _ _ => rfl)) (pe_gc rfl T.g_FORWARD) (nomark _)) (pss_one (ps_ret (pe_lc (own := [("x", 2), ("a", 3), ("y", 4)]) (g := (gTup K 3 (gCons (gName 2) (gCons (gName 3) (gCons (gName 4) gNil))))) (tt := (tTest (tOp _ _ (tOp (rIxL K) _ _)))) rfl sc_pairs_by.nd (pi_list (pv 1)) (blkOk_by (own := [("x", 2), ("a", 3), ("y", 4)]) (N := N_pairs_by) (sc := fnScope s_pairs_by) (by decide +kernel)) (fun _ _ _ _ _ => (pg_tup rfl (pgs_cons (pg_name (i := 2) sc_pairs_by.nd rfl (Or.inl rfl)) (pgs_cons (pg_name (i := 3) sc_pairs_by.nd rfl (Or.inl rfl)) (pgs_cons (pg_name (i := 4) sc_pairs_by.nd rfl (Or.inl rfl)) pgs_nil))))) (fun _ _ _ _ _ => (pts_one (pt_cmpR op_eq (pv 3) (pe_ix ix_list (pv 0) pe_int (fun _ _ => rfl)) (nomark _)))) (fun _ _ _ _ _ => (pe_tup (pa_cons (pv 2) (pa_cons (pv 4) pa_nil))))))) pss_nil)
      (pss_one (ps_ret (pe_lc (own := [("x", 2), ("a", 3), ("y", 4)]) (g := (gTup K 3 (gCons (gName 2) (gCons (gName 3) (gCons (gName 4) gNil))))) (tt := (tTest (tOp _ _ (tOp (rIxL K) _ _)))) rfl sc_pairs_by.nd (pi_list (pv 1)) (blkOk_by (own := [("x", 2), ("a", 3), ("y", 4)]) (N := N_pairs_by) (sc := fnScope s_pairs_by) (by decide +kernel)) (fun _ _ _ _ _ => (pg_tup rfl (pgs_cons (pg_name (i := 2) sc_pairs_by.nd rfl (Or.inl rfl)) (pgs_cons (pg_name (i := 3) sc_pairs_by.nd rfl (Or.inl rfl)) (pgs_cons (pg_name (i := 4) sc_pairs_by.nd rfl (Or.inl rfl)) pgs_nil))))) (fun _ _ _ _ _ => (pts_one (pt_cmpR op_eq (pv 3) (pe_ix ix_list (pv 0) pe_int (fun _ _ => rfl)) (nomark _)))) (fun _ _ _ _ _ => (pe_tup (pa_cons (pv 4) (pa_cons (pv 2) pa_nil)))))))), ?_⟩)
  obtain ⟨q, aE, s', a, es, rfl, hq, ⟨ts, h1, h2⟩, hn, k⟩ := h
  have key : ∀ (gx : Gq01.Edge → Nat × Nat) (te : TE) (H0 : Hp), Ex H H0 → (∀ (e : Gq01.Edge) H1, EvU te [some (.ref q), some (.ref aE), some (.int (e.src : Int)), some (.int (e.label : Int)), some (.int (e.dst : Int))] H1 [.int ((gx e).1 : Int), .int ((gx e).2 : Int)]) →
      EvN Ex (tLc (iList K (tVar 1)) (gTup K 3 (gCons (gName 2) (gCons (gName 3) (gCons (gName 4) gNil)))) (tTest (tOp rEq (tVar 3) (tOp (rIxL K) (tVar 0) (tC (.int 1))))) te [2, 3, 4]) (L2.start N_pairs_by [.ref q, .ref aE]) H0
        (OutR (fun i => TupR [.int ((gx (es.getD i e00)).1 : Int), .int ((gx (es.getD i e00)).2 : Int)]) (es.map fun e => (V.int (e.src : Int), V.int (e.label : Int), V.int (e.dst : Int))).length (fun i => (es.getD i e00).label == a)) := fun gx te H0 e0 hte => by
    refine er_lc3 (K := K) (a := aE) (ts := ts) _ _ (fun i => tupR_mo) (fun i => tupR_st) (ev_var rfl) (fun H1 e1 => ⟨sq_of (e1 _ _ (e0 _ _ h1)), edges3 (h2.imp fun t e _ r => e1 _ _ (e0 _ _ r))⟩) (by rw [List.length_map]; omega) (fun x y z => rfl) (fun i x H1 e1 hx => ?_)
    obtain ⟨e, he, rfl⟩ := edges3_at hx
    rw [getD_at he]
    refine ⟨?_, fun _ H2 e2 Q k => hte e H1 H2 e2 Q fun p H3 _ e3 h3 => k _ H3 e3 ⟨p, rfl, h3⟩⟩
    have ht : EvT (tTest (tOp rEq (tVar 3) (tOp (rIxL K) (tVar 0) (tC (.int 1))))) [some (.ref q), some (.ref aE), some (.int (e.src : Int)), some (.int (e.label : Int)), some (.int (e.dst : Int))] H1 (decide (V.int (e.label : Int) = V.int (a : Int))) :=
      et_test (ev_op (ev_var rfl) (ev_op (ev_var rfl) ev_c (rv_ixL (sq_of (e1 _ _ (e0 _ _ hq))) rfl)) (rv_eq rfl))
    rw [eq_int] at ht
    exact ht
  have fin : ∀ (gx : Gq01.Edge → Nat × Nat) (p : Addr) (ys : List V) (H' : Hp), H' p = some (.lst ys) → OutR (fun i => TupR [.int ((gx (es.getD i e00)).1 : Int), .int ((gx (es.getD i e00)).2 : Int)]) (es.map fun e => (V.int (e.src : Int), V.int (e.label : Int), V.int (e.dst : Int))).length (fun i => (es.getD i e00).label == a) ys H' →
      PrAt H' p ((es.filter fun e => e.label == a).map gx) := fun gx p ys H' hp r => by
    rw [OutR, List.length_map] at r
    have r2 : F2 (fun (e : Gq01.Edge) y => ∃ t, y = V.ref t ∧ H' t = some (.tup [.int ((gx e).1 : Int), .int ((gx e).2 : Int)])) (((List.range es.length).filter fun i => (es.getD i e00).label == a).map fun i => es.getD i e00) ys := F2.map r
    rw [range_filter es e00 (fun e => e.label == a)] at r2
    obtain ⟨us, rfl, h⟩ := f2_refs r2
    exact ⟨us, hp, F2.mapR h⟩
  refine q_when (et_test (ev_op (ev_op (ev_var rfl) ev_c (rv_ixL (sq_of hq) (show atI (nums [s', (a : Int)]) 0 = some (.int s') from rfl))) ev_c (rv_eq rfl))) (fun hb H1 e1 => ?_) (fun hb H1 e1 => ?_)
  · have hb : s' = 1 := V.int.inj (of_decide_eq_true hb)
    refine key (fun e => (e.src, e.dst)) _ H1 e1 (fun e H2 => eu_tup (ea_cons (ev_var rfl) (ea_cons (ev_var rfl) ea_nil)) (by show 2 ≤ 100000; decide)) H1 (Ex.refl _) _ fun p ys H2 hp e2 h2' r => ?_
    have := fin (fun e => (e.src, e.dst)) p ys H2 h2' r
    exact k p H2 (fresh_back e1 hp) (e1.trans e2) (by unfold pairsOf; rw [if_pos hb]; exact this)
  · have hb : ¬ s' = 1 := fun z => of_decide_eq_false hb (by rw [z])
    refine key (fun e => (e.dst, e.src)) _ H1 e1 (fun e H2 => eu_tup (ea_cons (ev_var rfl) (ea_cons (ev_var rfl) ea_nil)) (by show 2 ≤ 100000; decide)) H1 (Ex.refl _) _ fun p ys H2 hp e2 h2' r => ?_
    have := fin (fun e => (e.dst, e.src)) p ys H2 h2' r
    exact k p H2 (fresh_back e1 hp) (e1.trans e2) (by unfold pairsOf; rw [if_neg hb]; exact this)
/-! ### the relation of a plain part, of one, of two -/
def isPl (p : List Int) : Prop := p = [0] ∨ (∃ a : Nat, p = [1, (a : Int)]) ∨ (∃ a : Nat, p = [2, (a : Int)]) ∨ ∃ a : Nat, p = [3, (a : Int)]
def plainE : List Int → Gq01.E
  | [0] => .stay
  | [1, a] => .fwd a.toNat
  | [2, a] => .back a.toNat
  | [3, a] => .kind a.toNat
  | _ => .stay
def Vld (n : Nat) (es : List Gq01.Edge) : Prop := ∀ e ∈ es, 1 ≤ e.src ∧ e.src ≤ n ∧ 1 ≤ e.dst ∧ e.dst ≤ n
theorem pairsOf_in {n : Nat} {es : List Gq01.Edge} {s : Int} {a : Nat} (v : Vld n es) : ∀ p ∈ pairsOf s es a, 1 ≤ p.1 ∧ p.1 ≤ n ∧ 1 ≤ p.2 ∧ p.2 ≤ n := fun p hp => by
  unfold pairsOf at hp
  by_cases c : s = 1
  · rw [if_pos c] at hp
    obtain ⟨e, he, rfl⟩ := List.mem_map.mp hp
    exact v e (List.mem_filter.mp he).1
  · rw [if_neg c] at hp
    obtain ⟨e, he, rfl⟩ := List.mem_map.mp hp
    obtain ⟨h1, h2, h3, h4⟩ := v e (List.mem_filter.mp he).1
    exact ⟨h3, h4, h1, h2⟩
theorem pairsOf_len {es : List Gq01.Edge} {s : Int} {a : Nat} : (pairsOf s es a).length ≤ es.length := by
  unfold pairsOf
  split
  · unfold pairsF
    rw [List.length_map]
    exact List.length_filter_le ..
  · unfold pairsB
    rw [List.length_map]
    exact List.length_filter_le ..
theorem LLAt.len {K : PySem.W.Frag} {H : Hp} {a : Addr} {ls : List (List Nat)} (h : LLAt H a ls) : ∃ xs, H a = some (.lst xs) ∧ xs.length = ls.length := by
  obtain ⟨qs, h1, h2⟩ := h
  exact ⟨_, h1, by rw [List.length_map]; exact h2.len⟩
/-- len of a list, told by its length -/
theorem ev_lenI {K : PySem.W.Frag} {σ : L2.St} {H : Hp} {ta : TE} {p : Addr} {xs : List V} {n : Nat} (ha : Ev ta σ H (.ref p)) (h : H p = some (.lst xs)) (e : xs.length = n) : Ev (tCB (rLenS K) (tCons ta tNil)) σ H (.int (n : Int)) := by
  rw [← e]
  exact ev_len ha (sq_of h)
def spPlainR : Sp := fun vs H Q _ => ∃ (q aN aE : Addr) (p : List Int) (ks : List (List Nat)) (es : List Gq01.Edge), vs = [.ref q, .ref aN, .ref aE] ∧ isPl p ∧ H q = some (.lst (nums p)) ∧ LLAt H aN ks ∧ EdAt H aE es ∧ ks.length ≤ 100 ∧ es.length ≤ 100 ∧ Vld ks.length es ∧ RetL (nn (relN ks.length (rOf ⟨ks, es⟩ (plainE p)))) H Q
theorem cal_relation_of_plain (T : Tx K mg C_Graph C_Line C_Reader a_CALLS) : Cal P w K mg base 3 "relation_of_plain" spPlainR [] := by
  refine T.d_relation_of_plain.cal sc_relation_of_plain (fun vs H Q E h => by obtain ⟨q, aN, aE, p, ks, es, rfl, _⟩ := h; rfl) (fun f cdv A outer s H vs Q E hr h => ⟨_, (pss_cons (ps_if (pt_cmpR op_eq (pe_ix ix_list (pv 0) pe_int (fun _ _ => rfl)) (pe_gc rfl T.g_STAY) (nomark _)) (pss_one (ps_ret (pe_c (cal_stay_relations T) hr (by decide) rfl (pa_cons (pe_callB call_len_seq (by rfl) T.b_len PySem.boot_len (pa_cons (pv 1) pa_nil)) pa_nil)))) pss_nil)
      (pss_cons (ps_if (pt_cmpR op_eq (pe_ix ix_list (pv 0) pe_int (fun _ _ => rfl)) (pe_gc rfl T.g_KIND) (nomark _)) (pss_one (ps_ret (pe_c (cal_of_kind T) hr (by decide) rfl (pa_cons (pv 1) (pa_cons (pe_ix ix_list (pv 0) pe_int (fun _ _ => rfl)) pa_nil))))) pss_nil)
      (pss_one (ps_ret (pe_c (cal_steps_relations T) hr (by decide) rfl (pa_cons (pe_callB call_len_seq (by rfl) T.b_len PySem.boot_len (pa_cons (pv 1) pa_nil)) (pa_cons (pe_c (cal_pairs_by T) hr (by decide) rfl (pa_cons (pv 0) (pa_cons (pv 2) pa_nil))) pa_nil))))))), ?_⟩)
  obtain ⟨q, aN, aE, p, ks, es, rfl, hp, hq, hN, hE, hn, hm, hv, k⟩ := h
  obtain ⟨xs, hx1, hx2⟩ := hN.len (K := K)
  obtain ⟨s', r, hp0⟩ : ∃ s' r, p = s' :: r := by
    rcases hp with rfl | ⟨a, rfl⟩ | ⟨a, rfl⟩ | ⟨a, rfl⟩ <;> exact ⟨_, _, rfl⟩
  have ev0 : ∀ {H1 : Hp}, Ex H H1 → Ev (tOp (rIxL K) (tVar 0) (tC (.int 0))) (L2.start N_relation_of_plain [.ref q, .ref aN, .ref aE]) H1 (.int s') := fun e => ev_op (ev_var rfl) ev_c (rv_ixL (sq_of (e _ _ hq)) (by rw [hp0]; exact atI_nat (j := 0) rfl))
  refine q_when (et_test (ev_op (ev0 (Ex.refl _)) ev_c (rv_eq rfl))) (fun hb H1 e1 => ?_) (fun hb H1 e1 => ?_)
  · have hb : s' = 0 := V.int.inj (of_decide_eq_true hb)
    have hE : plainE p = .stay := by
      rcases hp with rfl | ⟨a, rfl⟩ | ⟨a, rfl⟩ | ⟨a, rfl⟩
      · rfl
      all_goals (cases hp0; cases hb)
    rw [hE] at k
    exact s_retL (el_call (ea_cons (ev_lenI (K := K) (ev_var rfl) (e1 _ _ hx1) hx2) ea_nil) fun H2 e2 Q q E => ⟨ks.length, rfl, hn, q⟩) fun p H2 hp e2 h2 => k p H2 (fresh_back e1 hp) (e1.trans e2) h2
  have hb0 : ¬ s' = 0 := fun z => of_decide_eq_false hb (by rw [z])
  refine q_when (et_test (ev_op (ev0 e1) ev_c (rv_eq rfl))) (fun hb H2 e2 => ?_) (fun hb H2 e2 => ?_)
  · have hb : s' = 3 := V.int.inj (of_decide_eq_true hb)
    have e12 := e1.trans e2
    obtain ⟨a, rfl⟩ : ∃ a : Nat, p = [3, (a : Int)] := by
      rcases hp with rfl | ⟨a, rfl⟩ | ⟨a, rfl⟩ | ⟨a, rfl⟩
      · cases hp0; cases hb
      · cases hp0; cases hb
      · cases hp0; cases hb
      · exact ⟨a, rfl⟩
    have hE' : plainE [3, (a : Int)] = .kind a := rfl
    rw [hE'] at k
    exact s_retL (el_call (ea_cons (ev_var rfl) (ea_cons (ev_op (ev_var rfl) ev_c (rv_ixL (K := K) (sq_of (e12 _ _ hq)) (show atI (nums [3, (a : Int)]) 1 = some (.int (a : Int)) from rfl))) ea_nil)) fun H3 e3 Q q E => ⟨aN, ks, a, rfl, hN.mono (e12.trans e3), hn, q⟩) fun p H3 hp e3 h3 => k p H3 (fresh_back e12 hp) (e12.trans e3) h3
  · have hb3 : ¬ s' = 3 := fun z => of_decide_eq_false hb (by rw [z])
    have e12 := e1.trans e2
    obtain ⟨a, hpa, hE'⟩ : ∃ a : Nat, p = [s', (a : Int)] ∧ rOf ⟨ks, es⟩ (plainE p) = rSteps (pairsOf s' es a) := by
      rcases hp with rfl | ⟨a, rfl⟩ | ⟨a, rfl⟩ | ⟨a, rfl⟩
      · cases hp0; exact absurd rfl hb0
      · cases hp0; exact ⟨a, rfl, rfl⟩
      · cases hp0; exact ⟨a, rfl, rfl⟩
      · cases hp0; exact absurd rfl hb3
    rw [hE'] at k
    rw [hpa] at hq
    refine ⟨_, rfl, aN, xs, rfl, Or.inl (sq_of (e12 _ _ hx1)), _, rfl, _, rfl, q, aE, s', a, es, rfl, e12 _ _ hq, hE.mono e12, hm, fun p' H4 hp' e4 h4 => ?_⟩
    refine ⟨p', ks.length, pairsOf s' es a, by rw [hx2]; rfl, h4, hn, Nat.le_trans pairsOf_len hm, pairsOf_in hv, fun r H5 hr5 e5 h5 => ?_⟩
    exact k r H5 (fresh_back (e12.trans e4) hr5) ((e12.trans e4).trans e5) h5
def oneR (n : Nat) (s : Int) (f : B2) : B2 := if s = 6 then rUp f n else rHas n f
def twoR (n : Nat) (s : Int) (f h : B2) : B2 := if s = 4 then rSq n f h else rAlt f h
def spOneR : Sp := fun vs H Q _ => ∃ (s : Int) (a : Addr) (n : Nat) (f : B2), vs = [.int s, .ref a] ∧ n ≤ 100 ∧ H a = some (.lst (nn (relN n f))) ∧ RetL (nn (relN n (oneR n s f))) H Q
theorem cal_relation_of_one (T : Tx K mg C_Graph C_Line C_Reader a_CALLS) : Cal P w K mg base 4 "relation_of_one" spOneR [] := by
  refine T.d_relation_of_one.cal sc_relation_of_one (fun vs H Q E h => by obtain ⟨s, a, n, f, rfl, _⟩ := h; rfl) (fun f cdv A outer s H vs Q E hr h => ⟨_, (pss_cons (ps_if (pt_cmpR op_eq (pv 0) (pe_gc rfl T.g_AGAIN) (nomark _)) (pss_one (ps_ret (pe_c (cal_again_relations T) hr (by decide) rfl (pa_cons (pv 1) pa_nil)))) pss_nil)
      (pss_one (ps_ret (pe_c (cal_has_relations T) hr (by decide) rfl (pa_cons (pv 1) pa_nil))))), ?_⟩)
  obtain ⟨s', a, n, f, rfl, hn, ha, k⟩ := h
  refine q_when (et_test (ev_op (ev_var rfl) ev_c (rv_eq rfl))) (fun hb H1 e1 => ?_) (fun hb H1 e1 => ?_)
  · have hb : s' = 6 := V.int.inj (of_decide_eq_true hb)
    have e : oneR n s' f = rUp f n := if_pos hb
    rw [e] at k
    exact s_retL (el_call (ea_cons (ev_var rfl) ea_nil) fun H2 e2 Q q E => ⟨a, n, f, rfl, hn, e2 _ _ (e1 _ _ ha), q⟩) fun p H2 hp e2 h2 => k p H2 (fresh_back e1 hp) (e1.trans e2) h2
  · have hb : ¬ s' = 6 := fun z => of_decide_eq_false hb (by rw [z])
    have e : oneR n s' f = rHas n f := if_neg hb
    rw [e] at k
    exact s_retL (el_call (ea_cons (ev_var rfl) ea_nil) fun H2 e2 Q q E => ⟨a, n, f, rfl, hn, e2 _ _ (e1 _ _ ha), q⟩) fun p H2 hp e2 h2 => k p H2 (fresh_back e1 hp) (e1.trans e2) h2
def spTwoR : Sp := fun vs H Q _ => ∃ (s : Int) (a b : Addr) (n : Nat) (f h : B2), vs = [.int s, .ref a, .ref b] ∧ n ≤ 100 ∧ H a = some (.lst (nn (relN n f))) ∧ H b = some (.lst (nn (relN n h))) ∧ RetL (nn (relN n (twoR n s f h))) H Q
theorem cal_relation_of_two (T : Tx K mg C_Graph C_Line C_Reader a_CALLS) : Cal P w K mg base 5 "relation_of_two" spTwoR [] := by
  refine T.d_relation_of_two.cal sc_relation_of_two (fun vs H Q E h => by obtain ⟨s, a, b, n, f, h, rfl, _⟩ := h; rfl) (fun f cdv A outer s H vs Q E hr h => ⟨_, (pss_cons (ps_if (pt_cmpR op_eq (pv 0) (pe_gc rfl T.g_IN_ORDER) (nomark _)) (pss_one (ps_ret (pe_c (cal_in_order_relations T) hr (by decide) rfl (pa_cons (pv 1) (pa_cons (pv 2) pa_nil))))) pss_nil)
      (pss_one (ps_ret (pe_c (cal_either_relations T) hr (by decide) rfl (pa_cons (pv 1) (pa_cons (pv 2) pa_nil)))))), ?_⟩)
  obtain ⟨s', a, b, n, f, h, rfl, hn, ha, hb', k⟩ := h
  refine q_when (et_test (ev_op (ev_var rfl) ev_c (rv_eq rfl))) (fun hb H1 e1 => ?_) (fun hb H1 e1 => ?_)
  · have hb : s' = 4 := V.int.inj (of_decide_eq_true hb)
    have e : twoR n s' f h = rSq n f h := if_pos hb
    rw [e] at k
    exact s_retL (el_call (ea_cons (ev_var rfl) (ea_cons (ev_var rfl) ea_nil)) fun H2 e2 Q q E => ⟨a, b, n, f, h, rfl, hn, e2 _ _ (e1 _ _ ha), e2 _ _ (e1 _ _ hb'), q⟩) fun p H2 hp e2 h2 => k p H2 (fresh_back e1 hp) (e1.trans e2) h2
  · have hb : ¬ s' = 4 := fun z => of_decide_eq_false hb (by rw [z])
    have e : twoR n s' f h = rAlt f h := if_neg hb
    rw [e] at k
    exact s_retL (el_call (ea_cons (ev_var rfl) (ea_cons (ev_var rfl) ea_nil)) fun H2 e2 Q q E => ⟨a, b, n, f, h, rfl, hn, e2 _ _ (e1 _ _ ha), e2 _ _ (e1 _ _ hb'), q⟩) fun p H2 hp e2 h2 => k p H2 (fresh_back e1 hp) (e1.trans e2) h2
end
end WG
namespace WG
open PySem PySem.Spec
open PyProof.Rows
open L2 hiding CX0 E0 pass0 Fun
open C8 Evl WM
/-! ### folded -/
/-- a call of the local name x, which holds the def at f -/
abbrev Acts (X : Cx) (i : Nat) (x : Str) (f : Addr) (sp : Sp) : Prop := ∀ {p pos : Pos} {e : Expr} {es : List Expr} {t : TA}, PA X (e :: es) t → (starEach (e :: es) X.env = (false, eval e X.env) :: starEach es X.env) → ((backTo pos (starEach es X.env)).any (·.1) = false) → PE X (.Call (.Name x p) (e :: es) [] pos) (tCallL i f sp [] C8.E0 t)
section
variable {α : Type} (plain : List Int → α) (one : Int → α → α) (two : Int → α → α → α)
def stepF : List Int → List α → Option (List α)
  | [], _ => none
  | s :: r, st => if cw s = 0 then some (plain (s :: r) :: st) else if cw s = 1 then (match st with
    | a :: st => some (one s a :: st)
    | [] => none) else (match st with
    | a :: b :: st => some (two s a b :: st)
    | _ => none)
def runF : List (List Int) → List α → Option (List α)
  | [], st => some st
  | p :: ps, st => (stepF plain one two p st).bind (runF ps)
end
theorem last_rev {α β : Type} {R : α → β → Prop} {a : α} {st : List α} {ys : List β} (h : F2 R (a :: st).reverse ys) : ∃ zs y, ys = zs ++ [y] ∧ R a y ∧ F2 R st.reverse zs := by
  have h2 := h.rev
  rw [List.reverse_reverse] at h2
  generalize hr : ys.reverse = rs at h2
  cases h2 with
  | cons r t =>
    rename_i y zs
    refine ⟨zs.reverse, y, ?_, r, t.rev⟩
    have := congrArg List.reverse hr
    rw [List.reverse_reverse, List.reverse_cons] at this
    exact this
theorem pop_last {zs : List V} {y : V} : (zs ++ [y])[(zs ++ [y]).length - 1]? = some y := by
  rw [List.length_append, List.length_singleton, Nat.add_sub_cancel, List.getElem?_append_right (Nat.le_refl _), Nat.sub_self]
  rfl
section
variable {P : Program} {w : World} {K : PySem.W.Frag} {mg : Str → Option Value} {base : Heap} {C_Graph C_Line C_Reader a_CALLS : Addr}
theorem folded_ok (T : Tx K mg C_Graph C_Line C_Reader a_CALLS) {f : Addr} {cdv : Value} {A : Around} {outer : List Env} {s : Shared} {H : Hp} {Q : VK} {E : XK} (hr : Room 5 (A.deeper (envOfC "folded" (fnScope s_folded) s.heap.objs.size f cdv)))
    {α : Type} {plain : List Int → α} {one : Int → α → α} {two : Int → α → α → α} {R : Addr → α → Rp} {okp : List Int → Prop} {wt : α → Nat} (w1 : ∀ p, wt (plain p) ≤ 1) (w2 : ∀ z a, wt (one z a) ≤ wt a + 1) (w3 : ∀ z a b, wt (two z a b) ≤ wt a + wt b + 1) (hm : ∀ d a, Mo Ex (R d a)) (hu : ∀ d a v H xs ys, R d a v H → H d = some (.lst xs) → R d a v (upd H d (.lst ys)))
    {fP fO fT : Addr} {spP spO spT : Sp}
    (a_of_plain : Acts (cxOf CX0 P w K mg base N_folded "folded" (fnScope s_folded) f cdv A outer s H E).nox 1 "of_plain" fP spP) (a_of_one : Acts (cxOf CX0 P w K mg base N_folded "folded" (fnScope s_folded) f cdv A outer s H E).nox 2 "of_one" fO spO) (a_of_two : Acts (cxOf CX0 P w K mg base N_folded "folded" (fnScope s_folded) f cdv A outer s H E).nox 3 "of_two" fT spT)
    {aP : Addr} {qs : List Addr} {ls : List (List Int)} (hP : ∀ d xs H1 p q, H d = none → Ex H H1 → H1 d = some (.lst xs) → H q = some (.lst (nums p)) → q ∈ qs → okp p → ∀ Q : VK, (∀ v H2, Ex H1 H2 → R d (plain p) v H2 → Q v H2) → spP [.ref q] H1 Q C8.E0)
    (hO : ∀ d xs H1 z a v, H d = none → Ex H H1 → H1 d = some (.lst xs) → cw z = 1 → wt a ≤ 60 → R d a v H1 → ∀ Q : VK, (∀ v H2, Ex H1 H2 → R d (one z a) v H2 → Q v H2) → spO [.int z, v] H1 Q C8.E0)
    (hT : ∀ d xs H1 z a b v u, H d = none → Ex H H1 → H1 d = some (.lst xs) → cw z ≠ 0 → cw z ≠ 1 → wt a + wt b ≤ 60 → R d a v H1 → R d b u H1 → ∀ Q : VK, (∀ v H2, Ex H1 H2 → R d (two z a b) v H2 → Q v H2) → spT [.int z, v, u] H1 Q C8.E0)
    (hA : H aP = some (.lst (qs.map V.ref))) (hL : F2 (fun q l => H q = some (.lst (nums l))) qs ls) (hz : ls.length ≤ 60) (hok : ∀ l ∈ ls, ∀ z r, l = z :: r → cw z = 0 → okp l) {fin : α} (run : runF plain one two ls.reverse [] = some [fin])
    (k : ∀ d v H', H d = none → Ex H H' → R d fin v H' → Q v H') :
    ∃ t, PSs (cxOf CX0 P w K mg base N_folded "folded" (fnScope s_folded) f cdv A outer s H E).nox (fnBody s_folded) t ∧ t { nx := fun _ H' => Q .non H', rt := Q } (L2.start N_folded [.ref aP, .ref fP, .ref fO, .ref fT]) H := by
  refine ⟨_, (pss_cons (ps_set (i := 4) sc_folded.nd rfl (Or.inl rfl) (pe_lst pa_nil))
      (pss_cons (ps_for PassesOwn.never rfl (pi_reversed rfl T.b_reversed (pa_cons (pv 0) pa_nil)) (pg_name (i := 5) sc_folded.nd rfl (Or.inl rfl)) (pss_cons (ps_set (i := 6) sc_folded.nd rfl (Or.inl rfl) (pe_ix ix_list (pv 5) pe_int (fun _ _ => rfl)))
      (pss_cons (ps_set (i := 7) sc_folded.nd rfl (Or.inl rfl) (pe_c (cal_codes_within T) hr (by decide) rfl (pa_cons (pv 6) pa_nil)))
      (pss_one (ps_if (pt_cmpR op_eq (pv 7) pe_int (nomark _)) (pss_one (ps_expr (pe_bm PySem.F.plainAttrs_list PySem.F.slot_list_append PySem.F.type_list_append mt_append (pv 4) (pa_cons (a_of_plain (pa_cons (pv 5) pa_nil) (by rfl) (by rfl)) pa_nil)))) (pss_one (ps_if (pt_cmpR op_eq (pv 7) pe_int (nomark _)) (pss_one (ps_expr (pe_bm PySem.F.plainAttrs_list PySem.F.slot_list_append PySem.F.type_list_append mt_append (pv 4) (pa_cons (a_of_one (pa_cons (pv 6) (pa_cons (pe_bm0 PySem.F.plainAttrs_list PySem.F.slot_list_pop PySem.F.type_list_pop mt_pop (pv 4)) pa_nil)) (by rfl) (by rfl)) pa_nil)))) (pss_cons (ps_set (i := 8) sc_folded.nd rfl (Or.inl rfl) (pe_bm0 PySem.F.plainAttrs_list PySem.F.slot_list_pop PySem.F.type_list_pop mt_pop (pv 4)))
      (pss_cons (ps_set (i := 9) sc_folded.nd rfl (Or.inl rfl) (pe_bm0 PySem.F.plainAttrs_list PySem.F.slot_list_pop PySem.F.type_list_pop mt_pop (pv 4)))
      (pss_one (ps_expr (pe_bm PySem.F.plainAttrs_list PySem.F.slot_list_append PySem.F.type_list_append mt_append (pv 4) (pa_cons (a_of_two (pa_cons (pv 6) (pa_cons (pv 8) (pa_cons (pv 9) pa_nil))) (by rfl) (by rfl)) pa_nil)))))))))))))
      (pss_one (ps_ret (pe_bm0 PySem.F.plainAttrs_list PySem.F.slot_list_pop PySem.F.type_list_pop mt_pop (pv 4)))))), ?_⟩
  refine q_asgL (el_lst ea_nil (by decide)) fun d H1 hd e1 h1 => ?_
  refine ⟨_, rfl, aP, qs.map V.ref, rfl, sq_of (e1 _ _ hA), for_it (walk_rev (K := K) (a := aP) (xs := qs.map V.ref)) (fun i σ' H' => ∃ ys st u5 u6 u7 u8 u9, σ' = [some (.ref aP), some (.ref fP), some (.ref fO), some (.ref fT), some (.ref d), u5, u6, u7, u8, u9] ∧ Ex H H' ∧ H' d = some (.lst ys) ∧ ys.length ≤ i ∧ (st.map wt).sum ≤ i ∧ F2 (fun a y => R d a y H') st.reverse ys ∧ runF plain one two (ls.reverse.drop i) st = some [fin]) ?_ ?_ ?_ ?_⟩
  · exact ⟨[], [], none, none, none, none, none, rfl, e1, h1, Nat.le_refl _, Nat.le_refl _, .nil, run⟩
  · rintro i σ' H' hi ⟨ys, st, u5, u6, u7, u8, u9, rfl, eH, _⟩
    exact sq_of (eH _ _ hA)
  · rintro i x σ' H' H'' hi ⟨ys, st, u5, u6, u7, u8, u9, rfl, eH, hD, hlen, hwt, hS, hrun⟩ ⟨rfl, hx⟩
    obtain ⟨q, l, rfl, hq, hl, hql⟩ := f2_ref hL hx
    have hi' : i < ls.length := by rw [List.length_map, hL.len] at hi; exact hi
    have hrev : ls.reverse[i]? = some l := by
      rw [List.getElem?_reverse hi', ← hl, List.length_map, hL.len]
    have hdrop : ls.reverse.drop i = l :: ls.reverse.drop (i + 1) := by
      obtain ⟨h1, h2⟩ := List.getElem?_eq_some_iff.mp hrev
      rw [(List.drop_eq_getElem_cons h1), h2]
    rw [hdrop] at hrun
    have hst : (stepF plain one two l st).bind (runF plain one two (ls.reverse.drop (i + 1))) = some [fin] := hrun
    have hlm : l ∈ ls := List.mem_of_getElem? hl
    cases l with
    | nil => cases hst
    | cons z r =>
    have hzz : (z :: r : List Int)[0]? = some z := rfl
    refine q_asg (ev_op (ev_var rfl) ev_c (rv_ixL (K := K) (sq_of (eH _ _ hql)) (atI_nat (j := 0) (nums_at hzz)))) fun H2 e2 => ?_
    refine q_asg (ev_call (ea_cons (ev_var rfl) ea_nil) spI1_v) fun H3 e3 => ?_
    have e23 := e2.trans e3
    have hD3 := e23 _ _ hD
    have eH3 := eH.trans e23
    have hS3 : F2 (fun a y => R d a y H3) st.reverse ys := hS.imp fun a y _ r => hm d a y _ _ e23 r
    refine s_if (et_test (ev_op (ev_var rfl) ev_c (rv_eq rfl))) (fun hb H4 e4 => ?_) (fun hb H4 e4 => ?_)
    · have hb : cw z = 0 := V.int.inj (of_decide_eq_true hb)
      have hs1 : stepF plain one two (z :: r) st = some (plain (z :: r) :: st) := if_pos hb
      rw [hs1] at hst
      have eH4 := eH3.trans e4
      have hD4 := e4 _ _ hD3
      refine ⟨_, rfl, Or.inl ⟨rfl, ys, sq_of hD4⟩, rfl, _, rfl, hP d ys H4 (z :: r) q hd eH4 hD4 hql (List.mem_of_getElem? hq) (hok _ hlm z r rfl hb) _ fun v H5 e5 r5 => ?_⟩
      have hD5 := e5 _ _ hD4
      refine ⟨d, ys, v, rfl, rfl, hD5, sz_lt (by omega), ?_⟩
      refine ⟨ys ++ [v], plain (z :: r) :: st, _, _, _, _, _, rfl, (eH4.trans e5).mut hd, upd_same, by simp; omega, by have := w1 (z :: r); simp at hwt ⊢; omega, ?_, hst⟩
      rw [List.reverse_cons]
      exact F2.snoc (hS3.imp fun a y _ r => hu d a y _ _ _ (hm d a y _ _ (e4.trans e5) r) hD5) (hu d _ v _ _ _ r5 hD5)
    · have hb0 : ¬ cw z = 0 := fun q => of_decide_eq_false hb (by rw [q])
      refine s_if (et_test (ev_op (ev_var rfl) ev_c (rv_eq rfl))) (fun hb H5 e5 => ?_) (fun hb H5 e5 => ?_)
      · have hb1 : cw z = 1 := V.int.inj (of_decide_eq_true hb)
        have e35 := e4.trans e5
        have eH5 := eH3.trans e35
        have hD5 := e35 _ _ hD3
        have hs1 : stepF plain one two (z :: r) st = (match st with | a :: st => some (one z a :: st) | [] => none) := (if_neg hb0).trans (if_pos hb1)
        rw [hs1] at hst
        cases st with
        | nil => cases hst
        | cons a st =>
        obtain ⟨zs, y, rfl, ry, hS'⟩ := last_rev hS3
        have hD6 : (upd H5 d (.lst zs)) d = some (.lst zs) := upd_same
        have eH6 : Ex H (upd H5 d (.lst zs)) := eH5.mut hd
        have r6 : R d a y (upd H5 d (.lst zs)) := hu d a y _ _ _ (hm d a y _ _ e35 ry) hD5
        have hS6 : F2 (fun a y => R d a y (upd H5 d (.lst zs))) st.reverse zs := hS'.imp fun a y _ r => hu d a y _ _ _ (hm d a y _ _ e35 r) hD5
        refine ⟨_, rfl, Or.inl ⟨rfl, _, sq_of hD5⟩, rfl, _, rfl, _, rfl, Or.inl ⟨rfl, _, sq_of hD5⟩, d, zs ++ [y], y, rfl, rfl, hD5, pop_last, ?_⟩
        rw [List.dropLast_concat]
        refine hO d zs _ z a y hd eH6 hD6 hb1 (by simp at hwt; omega) r6 _ fun v H7 e7 r7 => ?_
        have hD7 := e7 _ _ hD6
        refine ⟨d, zs, v, rfl, rfl, hD7, sz_lt (by simp at hlen; omega), ?_⟩
        refine ⟨zs ++ [v], one z a :: st, _, _, _, _, _, rfl, (eH6.trans e7).mut hd, upd_same, by simp at hlen ⊢; omega, by have := w2 z a; simp at hwt ⊢; omega, ?_, hst⟩
        rw [List.reverse_cons]
        exact F2.snoc (hS6.imp fun a y _ r => hu d a y _ _ _ (hm d a y _ _ e7 r) hD7) (hu d _ v _ _ _ r7 hD7)
      · have hb1 : ¬ cw z = 1 := fun q => of_decide_eq_false hb (by rw [q])
        have e35 := e4.trans e5
        have eH5 := eH3.trans e35
        have hD5 := e35 _ _ hD3
        have hs1 : stepF plain one two (z :: r) st = (match st with | a :: b :: st => some (two z a b :: st) | _ => none) := (if_neg hb0).trans (if_neg hb1)
        rw [hs1] at hst
        cases st with
        | nil => cases hst
        | cons a st =>
        cases st with
        | nil => cases hst
        | cons b st =>
        obtain ⟨zs, y, rfl, ry, hS'⟩ := last_rev hS3
        obtain ⟨zs, y2, rfl, ry2, hS''⟩ := last_rev hS'
        have hD6 : (upd H5 d (.lst (zs ++ [y2]))) d = some (.lst (zs ++ [y2])) := upd_same
        refine ⟨_, rfl, Or.inl ⟨rfl, _, sq_of hD5⟩, d, zs ++ [y2] ++ [y], y, rfl, rfl, hD5, pop_last, ?_⟩
        rw [List.dropLast_concat]
        refine ⟨_, rfl, Or.inl ⟨rfl, _, sq_of hD6⟩, d, zs ++ [y2], y2, rfl, rfl, hD6, pop_last, ?_⟩
        rw [List.dropLast_concat, upd_upd]
        have hD7 : (upd H5 d (.lst zs)) d = some (.lst zs) := upd_same
        have eH7 : Ex H (upd H5 d (.lst zs)) := eH5.mut hd
        have up : ∀ a y, R d a y H3 → R d a y (upd H5 d (.lst zs)) := fun a y r => hu d a y _ _ _ (hm d a y _ _ e35 r) hD5
        refine ⟨_, rfl, Or.inl ⟨rfl, _, sq_of hD7⟩, rfl, _, rfl, _, rfl, _, rfl, hT d zs _ z a b y y2 hd eH7 hD7 hb0 hb1 (by simp at hwt; omega) (up a y ry) (up b y2 ry2) _ fun v H8 e8 r8 => ?_⟩
        have hD8 := e8 _ _ hD7
        refine ⟨d, zs, v, rfl, rfl, hD8, sz_lt (by simp at hlen; omega), ?_⟩
        refine ⟨zs ++ [v], two z a b :: st, _, _, _, _, _, rfl, (eH7.trans e8).mut hd, upd_same, by simp at hlen ⊢; omega, by have := w3 z a b; simp at hwt ⊢; omega, ?_, hst⟩
        rw [List.reverse_cons]
        exact F2.snoc (hS''.imp fun a y _ r => hu d a y _ _ _ (hm d a y _ _ e8 (up a y r)) hD8) (hu d _ v _ _ _ r8 hD8)
  · rintro σ' H' ⟨ys, st, u5, u6, u7, u8, u9, rfl, eH, hD, hlen, hwt, hS, hrun⟩
    rw [List.drop_eq_nil_of_le (by rw [List.length_reverse, List.length_map, hL.len]; omega)] at hrun
    have hst : st = [fin] := Option.some.inj hrun
    subst hst
    obtain ⟨zs, y, rfl, ry, hS'⟩ := last_rev hS
    refine ⟨_, rfl, Or.inl ⟨rfl, _, sq_of hD⟩, d, zs ++ [y], y, rfl, rfl, hD, pop_last, ?_⟩
    exact k d y _ hd (eH.mut hd) (hu d fin y _ _ _ ry hD)
end
end WG
namespace WG
open PySem PySem.Spec
open PyProof.Rows
open L2 hiding CX0 E0 pass0 Fun
open C8 Evl WM
/-! ### an expression's parts -/
def eparts : Gq01.E → List (List Int)
  | .stay => [[0]]
  | .fwd a => [[1, (a : Int)]]
  | .back a => [[2, (a : Int)]]
  | .kind k => [[3, (k : Int)]]
  | .seq e f => [4] :: (eparts e ++ eparts f)
  | .alt e f => [5] :: (eparts e ++ eparts f)
  | .star e => [6] :: eparts e
  | .has e => [7] :: eparts e
section
variable {α : Type} (plain : List Int → α) (one : Int → α → α) (two : Int → α → α → α)
def foldE : Gq01.E → α
  | .stay => plain [0]
  | .fwd a => plain [1, (a : Int)]
  | .back a => plain [2, (a : Int)]
  | .kind k => plain [3, (k : Int)]
  | .seq e f => two 4 (foldE e) (foldE f)
  | .alt e f => two 5 (foldE e) (foldE f)
  | .star e => one 6 (foldE e)
  | .has e => one 7 (foldE e)
theorem run_parts : ∀ (e : Gq01.E) (ps : List (List Int)) (st : List α), runF plain one two ((eparts e).reverse ++ ps) st = runF plain one two ps (foldE plain one two e :: st)
  | .stay, ps, st => rfl
  | .fwd a, ps, st => rfl
  | .back a, ps, st => rfl
  | .kind k, ps, st => rfl
  | .seq e f, ps, st => by
    show runF plain one two (([4] :: (eparts e ++ eparts f)).reverse ++ ps) st = _
    rw [List.reverse_cons, List.reverse_append, List.append_assoc, List.append_assoc, run_parts f, run_parts e]
    rfl
  | .alt e f, ps, st => by
    show runF plain one two (([5] :: (eparts e ++ eparts f)).reverse ++ ps) st = _
    rw [List.reverse_cons, List.reverse_append, List.append_assoc, List.append_assoc, run_parts f, run_parts e]
    rfl
  | .star e, ps, st => by
    show runF plain one two (([6] :: eparts e).reverse ++ ps) st = _
    rw [List.reverse_cons, List.append_assoc, run_parts e]
    rfl
  | .has e, ps, st => by
    show runF plain one two (([7] :: eparts e).reverse ++ ps) st = _
    rw [List.reverse_cons, List.append_assoc, run_parts e]
    rfl
theorem run_all (e : Gq01.E) : runF plain one two (eparts e).reverse [] = some [foldE plain one two e] := by
  have h := run_parts plain one two e [] []
  rw [List.append_nil] at h
  exact h
end
theorem eparts_ok : ∀ (e : Gq01.E), ∀ l ∈ eparts e, ∀ z r, l = z :: r → cw z = 0 → isPl l
  | .stay, l, h, z, r, e1, e2 => .inl (by simpa [eparts] using h)
  | .fwd a, l, h, z, r, e1, e2 => .inr (.inl ⟨a, by simpa [eparts] using h⟩)
  | .back a, l, h, z, r, e1, e2 => .inr (.inr (.inl ⟨a, by simpa [eparts] using h⟩))
  | .kind a, l, h, z, r, e1, e2 => .inr (.inr (.inr ⟨a, by simpa [eparts] using h⟩))
  | .seq e f, l, h, z, r, e1, e2 => by
    rcases List.mem_cons.mp h with h | h
    · rw [h] at e1
      cases e1
      cases e2
    · rcases (List.mem_append.mp h) with h | h
      · exact eparts_ok e l h z r e1 e2
      · exact eparts_ok f l h z r e1 e2
  | .alt e f, l, h, z, r, e1, e2 => by
    rcases List.mem_cons.mp h with h | h
    · rw [h] at e1
      cases e1
      cases e2
    · rcases (List.mem_append.mp h) with h | h
      · exact eparts_ok e l h z r e1 e2
      · exact eparts_ok f l h z r e1 e2
  | .star e, l, h, z, r, e1, e2 => by
    rcases List.mem_cons.mp h with h | h
    · rw [h] at e1
      cases e1
      cases e2
    · exact eparts_ok e l h z r e1 e2
  | .has e, l, h, z, r, e1, e2 => by
    rcases List.mem_cons.mp h with h | h
    · rw [h] at e1
      cases e1
      cases e2
    · exact eparts_ok e l h z r e1 e2
theorem eparts_flat : ∀ e : Gq01.E, (eparts e).flatten = ofN (Gq01.row e)
  | .stay => rfl
  | .fwd a => rfl
  | .back a => rfl
  | .kind k => rfl
  | .seq e f => by
    show ([4] :: (eparts e ++ eparts f)).flatten = ofN (4 :: Gq01.row e ++ Gq01.row f)
    rw [List.flatten_cons, List.flatten_append, eparts_flat e, eparts_flat f]
    unfold ofN
    simp
  | .alt e f => by
    show ([5] :: (eparts e ++ eparts f)).flatten = ofN (5 :: Gq01.row e ++ Gq01.row f)
    rw [List.flatten_cons, List.flatten_append, eparts_flat e, eparts_flat f]
    unfold ofN
    simp
  | .star e => by
    show ([6] :: eparts e).flatten = ofN (6 :: Gq01.row e)
    rw [List.flatten_cons, eparts_flat e]
    rfl
  | .has e => by
    show ([7] :: eparts e).flatten = ofN (7 :: Gq01.row e)
    rw [List.flatten_cons, eparts_flat e]
    rfl
/-! ### turned round -/
def tpart : List Int → List Int
  | [1, a] => [2, a]
  | [2, a] => [1, a]
  | p => p
abbrev PP := List (List Int) × List (List Int)
def pPlain (p : List Int) : PP := ([p], [tpart p])
def pOne (s : Int) (w : PP) : PP := ([s] :: w.1, if s = 7 then [s] :: w.1 else [s] :: w.2)
def pTwo (s : Int) (a b : PP) : PP := ([s] :: (a.1 ++ b.1), if s = 4 then [s] :: (b.2 ++ a.2) else [s] :: (a.2 ++ b.2))
theorem fold_pairs : ∀ e : Gq01.E, foldE pPlain pOne pTwo e = (eparts e, eparts (Gq01.turned e))
  | .stay => rfl
  | .fwd a => rfl
  | .back a => rfl
  | .kind k => rfl
  | .seq e f => by show pTwo 4 _ _ = _; rw [fold_pairs e, fold_pairs f]; rfl
  | .alt e f => by show pTwo 5 _ _ = _; rw [fold_pairs e, fold_pairs f]; rfl
  | .star e => by show pOne 6 _ = _; rw [fold_pairs e]; rfl
  | .has e => by show pOne 7 _ = _; rw [fold_pairs e]; rfl
/-- a list of lists of numbers, none of them among M -/
def LLm (M : List Addr) (H : Hp) (a : Addr) (ls : List (List Int)) : Prop := a ∉ M ∧ ∃ qs : List Addr, H a = some (.lst (qs.map V.ref)) ∧ F2 (fun q l => q ∉ M ∧ H q = some (.lst (nums l))) qs ls
/-- the objects of M are known -/
def Kn (M : List Addr) (H : Hp) : Prop := ∀ m ∈ M, H m ≠ none
theorem Kn.ex {M : List Addr} {H H' : Hp} (h : Kn M H) (e : Ex H H') : Kn M H' := fun m hm q => h m hm (fresh_back e q)
theorem Kn.new {M : List Addr} {H : Hp} (h : Kn M H) {p : Addr} (hp : H p = none) : p ∉ M := fun q => h p q hp
theorem LLm.mono {L : Hp → Hp → Prop} [Pre L] {M : List Addr} {H H' : Hp} {a : Addr} {ls : List (List Int)} (h : LLm M H a ls) (e : L H H') : LLm M H' a ls := by
  obtain ⟨h0, qs, h1, h2⟩ := h
  exact ⟨h0, qs, Pre.lst e h1, h2.imp fun _ _ _ r => ⟨r.1, Pre.lst e r.2⟩⟩
theorem LLm.keep {M N : List Addr} {H H' : Hp} {a : Addr} {ls : List (List Int)} (h : LLm M H a ls) (e : Keep N H H') (s : ∀ b ∈ N, b ∈ M ∨ ∀ xs, H b ≠ some (.lst xs)) : LLm M H' a ls := by
  obtain ⟨h0, qs, h1, h2⟩ := h
  exact ⟨h0, qs, e _ _ h1 fun z => (s _ z).elim h0 fun q => q _ h1, h2.imp fun _ _ _ r => ⟨r.1, e _ _ r.2 fun z => (s _ z).elim r.1 fun q => q _ r.2⟩⟩
theorem LLm.write {M : List Addr} {H : Hp} {a d : Addr} {ls : List (List Int)} {o : HO} (h : LLm M H a ls) (hd : d ∈ M) : LLm M (upd H d o) a ls := by
  obtain ⟨h0, qs, h1, h2⟩ := h
  exact ⟨h0, qs, (upd_ne (fun z => h0 (by rw [z]; exact hd))).trans h1, h2.imp fun _ _ _ r => ⟨r.1, (upd_ne (fun z => r.1 (by rw [z]; exact hd))).trans r.2⟩⟩
theorem LLm.sub {M N : List Addr} {H : Hp} {a : Addr} {ls : List (List Int)} (h : LLm M H a ls) (s : ∀ b ∈ N, b ∈ M) : LLm N H a ls := by
  obtain ⟨h0, qs, h1, h2⟩ := h
  exact ⟨fun z => h0 (s _ z), qs, h1, h2.imp fun _ _ _ r => ⟨fun z => r.1 (s _ z), r.2⟩⟩
theorem LLm.cons {M : List Addr} {H : Hp} {a d : Addr} {ls : List (List Int)} (h : LLm M H a ls) (hd : H d = none) : LLm (d :: M) H a ls := by
  obtain ⟨h0, qs, h1, h2⟩ := h
  have nd : ∀ b o, H b = some o → b ∉ M → b ∉ d :: M := fun b o hb hm hz => (List.mem_cons.mp hz).elim (fun z => by rw [z, hd] at hb; cases hb) hm
  exact ⟨nd _ _ h1 h0, qs, h1, h2.imp fun _ _ _ r => ⟨nd _ _ r.2 r.1, r.2⟩⟩
def PairR (M : List Addr) (w : PP) : Rp := fun v H => ∃ t p q, v = .ref t ∧ H t = some (.tup [.ref p, .ref q]) ∧ LLm M H p w.1 ∧ LLm M H q w.2
theorem pairR_mo {L : Hp → Hp → Prop} [Pre L] {M : List Addr} {w : PP} : Mo L (PairR M w) := fun v H H' e ⟨t, p, q, h1, h2, h3, h4⟩ => ⟨t, p, q, h1, Pre.tup e h2, h3.mono e, h4.mono e⟩
section
variable {P : Program} {w : World} {K : PySem.W.Frag} {mg : Str → Option Value} {base : Heap} {C_Graph C_Line C_Reader a_CALLS : Addr}
def spTPart : Sp := fun vs H Q _ => ∃ (q : Addr) (p : List Int) (M : List Addr), vs = [.ref q] ∧ isPl p ∧ H q = some (.lst (nums p)) ∧ q ∉ M ∧ Kn M H ∧ ∀ r H', Ex H H' → r ∉ M → H' r = some (.lst (nums (tpart p))) → Q (.ref r) H'
theorem cal_turned_part (T : Tx K mg C_Graph C_Line C_Reader a_CALLS) : Cal P w K mg base 1 "turned_part" spTPart [] := by
  refine T.d_turned_part.cal sc_turned_part (fun vs H Q E h => by obtain ⟨q, p, M, rfl, _⟩ := h; rfl) (fun f cdv A outer s H vs Q E hr h => ⟨_, (pss_cons (ps_if (pt_cmpR op_eq (pe_ix ix_list (pv 0) pe_int (fun _ _ => rfl)) (pe_gc rfl T.g_FORWARD) (nomark _)) (pss_one (ps_ret (pe_lst (pa_cons (pe_gc rfl T.g_BACKWARD) (pa_cons (pe_ix ix_list (pv 0) pe_int (fun _ _ => rfl)) pa_nil))))) pss_nil)
      (pss_cons (ps_if (pt_cmpR op_eq (pe_ix ix_list (pv 0) pe_int (fun _ _ => rfl)) (pe_gc rfl T.g_BACKWARD) (nomark _)) (pss_one (ps_ret (pe_lst (pa_cons (pe_gc rfl T.g_FORWARD) (pa_cons (pe_ix ix_list (pv 0) pe_int (fun _ _ => rfl)) pa_nil))))) pss_nil)
      (pss_one (ps_ret (pv 0))))), ?_⟩)
  obtain ⟨q, p, M, rfl, hp, hq, hM, hK, k⟩ := h
  obtain ⟨s', r, hp0⟩ : ∃ s' r, p = s' :: r := by
    rcases hp with rfl | ⟨a, rfl⟩ | ⟨a, rfl⟩ | ⟨a, rfl⟩ <;> exact ⟨_, _, rfl⟩
  have ev0 : ∀ {H1 : Hp}, Ex H H1 → Ev (tOp (rIxL K) (tVar 0) (tC (.int 0))) (L2.start N_turned_part [.ref q]) H1 (.int s') := fun e => ev_op (ev_var rfl) ev_c (rv_ixL (sq_of (e _ _ hq)) (by rw [hp0]; exact atI_nat (j := 0) rfl))
  refine q_when (et_test (ev_op (ev0 (Ex.refl _)) ev_c (rv_eq rfl))) (fun hb H1 e1 => ?_) (fun hb H1 e1 => ?_)
  · have hb : s' = 1 := V.int.inj (of_decide_eq_true hb)
    obtain ⟨a, rfl⟩ : ∃ a : Nat, p = [1, (a : Int)] := by
      rcases hp with rfl | ⟨a, rfl⟩ | ⟨a, rfl⟩ | ⟨a, rfl⟩
      · cases hp0; cases hb
      · exact ⟨a, rfl⟩
      · cases hp0; cases hb
      · cases hp0; cases hb
    exact s_retL (el_lst (ea_cons ev_c (ea_cons (ev_op (ev_var rfl) ev_c (rv_ixL (K := K) (sq_of (e1 _ _ hq)) (show atI (nums [1, (a : Int)]) 1 = some (.int (a : Int)) from rfl))) ea_nil)) (by show 2 ≤ 100000; decide)) fun r H2 hr e2 h2 => k r H2 (e1.trans e2) ((hK.ex e1).new hr) h2
  have hb0 : ¬ s' = 1 := fun z => of_decide_eq_false hb (by rw [z])
  refine q_when (et_test (ev_op (ev0 e1) ev_c (rv_eq rfl))) (fun hb H2 e2 => ?_) (fun hb H2 e2 => ?_)
  · have hb : s' = 2 := V.int.inj (of_decide_eq_true hb)
    have e12 := e1.trans e2
    obtain ⟨a, rfl⟩ : ∃ a : Nat, p = [2, (a : Int)] := by
      rcases hp with rfl | ⟨a, rfl⟩ | ⟨a, rfl⟩ | ⟨a, rfl⟩
      · cases hp0; cases hb
      · cases hp0; cases hb
      · exact ⟨a, rfl⟩
      · cases hp0; cases hb
    exact s_retL (el_lst (ea_cons ev_c (ea_cons (ev_op (ev_var rfl) ev_c (rv_ixL (K := K) (sq_of (e12 _ _ hq)) (show atI (nums [2, (a : Int)]) 1 = some (.int (a : Int)) from rfl))) ea_nil)) (by show 2 ≤ 100000; decide)) fun r H3 hr e3 h3 => k r H3 (e12.trans e3) ((hK.ex e12).new hr) h3
  · have hb2 : ¬ s' = 2 := fun z => of_decide_eq_false hb (by rw [z])
    have ht : tpart p = p := by
      rcases hp with rfl | ⟨a, rfl⟩ | ⟨a, rfl⟩ | ⟨a, rfl⟩
      · rfl
      · cases hp0; exact absurd rfl hb0
      · cases hp0; exact absurd rfl hb2
      · rfl
    rw [ht] at k
    exact s_ret (ev_var rfl) fun H3 e3 => k q H3 ((e1.trans e2).trans e3) hM (((e1.trans e2).trans e3) _ _ hq)
def spPPlain : Sp := fun vs H Q _ => ∃ (q : Addr) (p : List Int) (M : List Addr), vs = [.ref q] ∧ isPl p ∧ H q = some (.lst (nums p)) ∧ q ∉ M ∧ Kn M H ∧ ∀ v H', Ex H H' → PairR M (pPlain p) v H' → Q v H'
theorem sz1 {x : V} : [x].length ≤ sizeLine := by show 1 ≤ sizeLine; decide
theorem sz2 {x y : V} : [x, y].length ≤ sizeLine := by show 2 ≤ sizeLine; decide
theorem ll_one {M : List Addr} {H : Hp} {p q : Addr} {l : List Int} (hp : H p = some (.lst [.ref q])) (n : p ∉ M) (hq : H q = some (.lst (nums l))) (nq : q ∉ M) : LLm M H p [l] := ⟨n, [q], hp, .cons ⟨nq, hq⟩ .nil⟩
theorem cal_pair_of_plain (T : Tx K mg C_Graph C_Line C_Reader a_CALLS) : Cal P w K mg base 2 "pair_of_plain" spPPlain [] := by
  refine T.d_pair_of_plain.cal sc_pair_of_plain (fun vs H Q E h => by obtain ⟨q, p, M, rfl, _⟩ := h; rfl) (fun f cdv A outer s H vs Q E hr h => ⟨_, (pss_one (ps_ret (pe_tup (pa_cons (pe_lst (pa_cons (pv 0) pa_nil)) (pa_cons (pe_lst (pa_cons (pe_c (cal_turned_part T) hr (by decide) rfl (pa_cons (pv 0) pa_nil)) pa_nil)) pa_nil))))), ?_⟩)
  obtain ⟨q, p, M, rfl, hp, hq, hM, hK, k⟩ := h
  refine ⟨_, rfl, sz1, fun a ha => ?_⟩
  have e1 : Ex H (upd H a (.lst [.ref q])) := Ex.new ha
  refine ⟨_, rfl, q, p, M, rfl, hp, e1 _ _ hq, hM, hK.ex e1, fun r H2 e2 hr2 h2 => ⟨sz1, fun b hb => ⟨sz2, fun t ht => ?_⟩⟩⟩
  have e3 : Ex H2 (upd H2 b (.lst [.ref r])) := Ex.new hb
  have e4 : Ex (upd H2 b (.lst [.ref r])) (upd (upd H2 b (.lst [.ref r])) t (.tup [.ref a, .ref b])) := Ex.new ht
  refine k _ _ (((e1.trans e2).trans e3).trans e4) ⟨t, a, b, rfl, upd_same, ?_, ?_⟩
  · exact ll_one (e4 _ _ (e3 _ _ (e2 _ _ upd_same))) (hK.new ha) (e4 _ _ (e3 _ _ (e2 _ _ (e1 _ _ hq)))) hM
  · exact ll_one (e4 _ _ upd_same) ((hK.ex (e1.trans e2)).new hb) (e4 _ _ (e3 _ _ h2)) hr2
/-- [[s]] + .. -/
theorem ll_cons {M : List Addr} {H H' : Hp} {a b c p : Addr} {s : Int} {qs : List Addr} {ls : List (List Int)} (ha : H a = some (.lst (nums [s]))) (na : a ∉ M) (h2 : F2 (fun q l => q ∉ M ∧ H q = some (.lst (nums l))) qs ls) : F2 (fun q l => q ∉ M ∧ H q = some (.lst (nums l))) (a :: qs) ([s] :: ls) := .cons ⟨na, ha⟩ h2
/-- [[s]] + x, x a list of lists -/
theorem er_ss {K : PySem.W.Frag} {M : List Addr} {σ : L2.St} {H : Hp} {t1 t2 : TE} {s : Int} {q : Addr} {ls : List (List Int)} (hK : Kn M H) (h1 : Ev t1 σ H (.int s)) (h2 : Ev t2 σ H (.ref q)) (hq : LLm M H q ls) (hn : ls.length ≤ 2000) :
    EvR Ex (tOp rCat (tLst (tCons (tLst (tCons t1 tNil)) tNil)) t2) σ H (fun v H' => ∃ p, v = .ref p ∧ LLm M H' p ([s] :: ls)) := fun H1 e1 Q k => by
  refine h1 H1 e1 _ fun H2 e2 => ⟨sz1, fun a ha => ⟨sz1, fun b hb => ?_⟩⟩
  have ea : Ex H2 (upd H2 a (.lst [.int s])) := Ex.new ha
  have eb : Ex (upd H2 a (.lst [.int s])) (upd (upd H2 a (.lst [.int s])) b (.lst [.ref a])) := Ex.new hb
  have e12 := e1.trans e2
  refine h2 _ ((e12.trans ea).trans eb) _ fun H3 e3 => ?_
  obtain ⟨nq, qs, hqs, hF⟩ := hq.mono (((e12.trans ea).trans eb).trans e3)
  have hlen := hF.len
  refine ⟨b, q, [.ref a], qs.map V.ref, rfl, rfl, e3 _ _ upd_same, hqs, sz_of (by simp; omega), fun p hp => ?_⟩
  have ep : Ex H3 (upd H3 p (.lst ([.ref a] ++ qs.map V.ref))) := Ex.new hp
  refine k _ _ ((((e2.trans ea).trans eb).trans e3).trans ep) ⟨p, rfl, (hK.ex (((e12.trans ea).trans eb).trans e3)).new hp, a :: qs, upd_same, .cons ⟨(hK.ex e12).new ha, ep _ _ (e3 _ _ (eb _ _ upd_same))⟩ (hF.imp fun _ _ _ r => ⟨r.1, ep _ _ r.2⟩)⟩
/-- x + y, lists of lists -/
theorem er_cc {K : PySem.W.Frag} {M : List Addr} {σ : L2.St} {H : Hp} {t1 t2 : TE} {q : Addr} {ls ms : List (List Int)} (hK : Kn M H) (h1 : EvR Ex t1 σ H (fun v H' => ∃ p, v = .ref p ∧ LLm M H' p ls)) (h2 : Ev t2 σ H (.ref q)) (hq : LLm M H q ms) (hn : ls.length ≤ 2000) (hm : ms.length ≤ 2000) :
    EvR Ex (tOp rCat t1 t2) σ H (fun v H' => ∃ p, v = .ref p ∧ LLm M H' p (ls ++ ms)) := fun H1 e1 Q k => by
  refine h1 H1 e1 _ fun v H2 e2 ⟨p, hv, hp⟩ => h2 H2 (e1.trans e2) _ fun H3 e3 => ?_
  subst hv
  obtain ⟨np, ps, hps, hF⟩ := hp.mono e3
  obtain ⟨nq, qs, hqs, hG⟩ := hq.mono ((e1.trans e2).trans e3)
  have l1 := hF.len
  have l2 := hG.len
  refine ⟨p, q, ps.map V.ref, qs.map V.ref, rfl, rfl, hps, hqs, sz_of (by simp; omega), fun r hr => ?_⟩
  have er : Ex H3 (upd H3 r (.lst (ps.map V.ref ++ qs.map V.ref))) := Ex.new hr
  exact k _ _ ((e2.trans e3).trans er) ⟨r, rfl, (hK.ex ((e1.trans e2).trans e3)).new hr, ps ++ qs, by rw [upd_same, List.map_append], (hF.imp fun _ _ _ r => ⟨r.1, er _ _ r.2⟩).app (hG.imp fun _ _ _ r => ⟨r.1, er _ _ r.2⟩)⟩
def ppLen (w : PP) : Prop := w.1.length ≤ 1000 ∧ w.2.length ≤ 1000
def ppW (w : PP) : Nat := max w.1.length w.2.length
def spPOne : Sp := fun vs H Q _ => ∃ (s : Int) (v : V) (a : PP) (M : List Addr), vs = [.int s, v] ∧ PairR M a v H ∧ ppLen a ∧ Kn M H ∧ ∀ v H', Ex H H' → PairR M (pOne s a) v H' → Q v H'
theorem cal_pair_of_one (T : Tx K mg C_Graph C_Line C_Reader a_CALLS) : Cal P w K mg base 2 "pair_of_one" spPOne [] := by
  refine T.d_pair_of_one.cal sc_pair_of_one (fun vs H Q E h => by obtain ⟨s, v, a, M, rfl, _⟩ := h; rfl) (fun f cdv A outer s H vs Q E hr h => ⟨_, (pss_cons (ps_set (i := 2) sc_pair_of_one.nd rfl (Or.inl rfl) (pe_op op_cat (pe_lst (pa_cons (pe_lst (pa_cons (pv 0) pa_nil)) pa_nil)) (pe_ix ix_tup (pv 1) pe_int (fun _ _ => rfl))))
      (pss_cons (ps_if (pt_cmpR op_eq (pv 0) (pe_gc rfl T.g_HAS) (nomark _)) (pss_one (ps_ret (pe_tup (pa_cons (pv 2) (pa_cons (pv 2) pa_nil))))) pss_nil)
      (pss_one (ps_ret (pe_tup (pa_cons (pv 2) (pa_cons (pe_op op_cat (pe_lst (pa_cons (pe_lst (pa_cons (pv 0) pa_nil)) pa_nil)) (pe_ix ix_tup (pv 1) pe_int (fun _ _ => rfl))) pa_nil))))))), ?_⟩)
  obtain ⟨s', v, a, M, rfl, ⟨t, p, q, rfl, ht, hp, hq⟩, hl, hK, k⟩ := h
  refine er_ss (K := K) hK (ev_var rfl) (ev_op (ev_var rfl) ev_c (rv_ixT (K := K) (st_of ht) (show atI [V.ref p, V.ref q] 0 = some (.ref p) from rfl))) hp (Nat.le_trans hl.1 (by decide)) H (Ex.refl _) _ fun v1 H1 e1 ⟨r, hv, hr1⟩ => ?_
  subst hv
  refine q_when (et_test (ev_op (ev_var rfl) ev_c (rv_eq rfl))) (fun hb H2 e2 => ?_) (fun hb H2 e2 => ?_)
  · have hb : s' = 7 := V.int.inj (of_decide_eq_true hb)
    refine s_retU (eu_tup (ea_cons (ev_var rfl) (ea_cons (ev_var rfl) ea_nil)) (by show 2 ≤ 100000; decide)) fun u H3 _ e3 h3 => k _ H3 ((e1.trans e2).trans e3) ⟨u, r, r, rfl, h3, hr1.mono (e2.trans e3), ?_⟩
    show LLm M H3 r (if s' = 7 then [s'] :: a.1 else [s'] :: a.2)
    rw [if_pos hb]
    exact hr1.mono (e2.trans e3)
  · have hb : ¬ s' = 7 := fun z => of_decide_eq_false hb (by rw [z])
    have e12 := e1.trans e2
    refine ⟨_, rfl, er_ss (K := K) (hK.ex e12) (ev_var rfl) (ev_op (ev_var rfl) ev_c (rv_ixT (K := K) (st_of (e12 _ _ ht)) (show atI [V.ref p, V.ref q] 1 = some (.ref q) from rfl))) (hq.mono e12) (Nat.le_trans hl.2 (by decide)) H2 (Ex.refl _) _ fun v2 H3 e3 ⟨r2, hv2, hr2⟩ => ?_⟩
    subst hv2
    refine ⟨sz2, fun u hu => ?_⟩
    have eu : Ex H3 (upd H3 u (.tup [.ref r, .ref r2])) := Ex.new hu
    refine k _ _ ((e12.trans e3).trans eu) ⟨u, r, r2, rfl, upd_same, hr1.mono ((e2.trans e3).trans eu), ?_⟩
    show LLm M _ r2 (if s' = 7 then [s'] :: a.1 else [s'] :: a.2)
    rw [if_neg hb]
    exact hr2.mono eu
def spPTwo : Sp := fun vs H Q _ => ∃ (s : Int) (v u : V) (a b : PP) (M : List Addr), vs = [.int s, v, u] ∧ PairR M a v H ∧ PairR M b u H ∧ ppW a + ppW b ≤ 1000 ∧ Kn M H ∧ ∀ v H', Ex H H' → PairR M (pTwo s a b) v H' → Q v H'
theorem cal_pair_of_two (T : Tx K mg C_Graph C_Line C_Reader a_CALLS) : Cal P w K mg base 2 "pair_of_two" spPTwo [] := by
  refine T.d_pair_of_two.cal sc_pair_of_two (fun vs H Q E h => by obtain ⟨s, v, u, a, b, M, rfl, _⟩ := h; rfl) (fun f cdv A outer s H vs Q E hr h => ⟨_, (pss_cons (ps_set (i := 3) sc_pair_of_two.nd rfl (Or.inl rfl) (pe_op op_cat (pe_op op_cat (pe_lst (pa_cons (pe_lst (pa_cons (pv 0) pa_nil)) pa_nil)) (pe_ix ix_tup (pv 1) pe_int (fun _ _ => rfl))) (pe_ix ix_tup (pv 2) pe_int (fun _ _ => rfl))))
      (pss_cons (ps_if (pt_cmpR op_eq (pv 0) (pe_gc rfl T.g_IN_ORDER) (nomark _)) (pss_one (ps_ret (pe_tup (pa_cons (pv 3) (pa_cons (pe_op op_cat (pe_op op_cat (pe_lst (pa_cons (pe_lst (pa_cons (pv 0) pa_nil)) pa_nil)) (pe_ix ix_tup (pv 2) pe_int (fun _ _ => rfl))) (pe_ix ix_tup (pv 1) pe_int (fun _ _ => rfl))) pa_nil))))) pss_nil)
      (pss_one (ps_ret (pe_tup (pa_cons (pv 3) (pa_cons (pe_op op_cat (pe_op op_cat (pe_lst (pa_cons (pe_lst (pa_cons (pv 0) pa_nil)) pa_nil)) (pe_ix ix_tup (pv 1) pe_int (fun _ _ => rfl))) (pe_ix ix_tup (pv 2) pe_int (fun _ _ => rfl))) pa_nil))))))), ?_⟩)
  obtain ⟨s', v, u, a, b, M, rfl, ⟨t, p, q, rfl, ht, hp, hq⟩, ⟨t', p', q', rfl, ht', hp', hq'⟩, hl, hK, k⟩ := h
  have l1 : a.1.length + b.1.length ≤ 1000 := by unfold ppW at hl; omega
  have l2 : a.2.length + b.2.length ≤ 1000 := by unfold ppW at hl; omega
  refine er_cc (K := K) hK (er_ss (K := K) hK (ev_var rfl) (ev_op (ev_var rfl) ev_c (rv_ixT (K := K) (st_of ht) (show atI [V.ref p, V.ref q] 0 = some (.ref p) from rfl))) hp (by omega)) (ev_op (ev_var rfl) ev_c (rv_ixT (K := K) (st_of ht') (show atI [V.ref p', V.ref q'] 0 = some (.ref p') from rfl))) hp' (by simp; omega) (by omega) H (Ex.refl _) _ fun v1 H1 e1 ⟨r, hv, hr1⟩ => ?_
  subst hv
  refine q_when (et_test (ev_op (ev_var rfl) ev_c (rv_eq rfl))) (fun hb H2 e2 => ?_) (fun hb H2 e2 => ?_)
  · have hb : s' = 4 := V.int.inj (of_decide_eq_true hb)
    have e12 := e1.trans e2
    refine ⟨_, rfl, er_cc (K := K) (hK.ex e12) (er_ss (K := K) (hK.ex e12) (ev_var rfl) (ev_op (ev_var rfl) ev_c (rv_ixT (K := K) (st_of (e12 _ _ ht')) (show atI [V.ref p', V.ref q'] 1 = some (.ref q') from rfl))) (hq'.mono e12) (by omega)) (ev_op (ev_var rfl) ev_c (rv_ixT (K := K) (st_of (e12 _ _ ht)) (show atI [V.ref p, V.ref q] 1 = some (.ref q) from rfl))) (hq.mono e12) (by simp; omega) (by omega) H2 (Ex.refl _) _ fun v2 H3 e3 ⟨r2, hv2, hr2⟩ => ?_⟩
    subst hv2
    refine ⟨sz2, fun u hu => ?_⟩
    have eu : Ex H3 (upd H3 u (.tup [.ref r, .ref r2])) := Ex.new hu
    refine k _ _ ((e12.trans e3).trans eu) ⟨u, r, r2, rfl, upd_same, hr1.mono ((e2.trans e3).trans eu), ?_⟩
    show LLm M _ r2 (if s' = 4 then [s'] :: (b.2 ++ a.2) else [s'] :: (a.2 ++ b.2))
    rw [if_pos hb]
    exact hr2.mono eu
  · have hb : ¬ s' = 4 := fun z => of_decide_eq_false hb (by rw [z])
    have e12 := e1.trans e2
    refine ⟨_, rfl, er_cc (K := K) (hK.ex e12) (er_ss (K := K) (hK.ex e12) (ev_var rfl) (ev_op (ev_var rfl) ev_c (rv_ixT (K := K) (st_of (e12 _ _ ht)) (show atI [V.ref p, V.ref q] 1 = some (.ref q) from rfl))) (hq.mono e12) (by omega)) (ev_op (ev_var rfl) ev_c (rv_ixT (K := K) (st_of (e12 _ _ ht')) (show atI [V.ref p', V.ref q'] 1 = some (.ref q') from rfl))) (hq'.mono e12) (by simp; omega) (by omega) H2 (Ex.refl _) _ fun v2 H3 e3 ⟨r2, hv2, hr2⟩ => ?_⟩
    subst hv2
    refine ⟨sz2, fun u hu => ?_⟩
    have eu : Ex H3 (upd H3 u (.tup [.ref r, .ref r2])) := Ex.new hu
    refine k _ _ ((e12.trans e3).trans eu) ⟨u, r, r2, rfl, upd_same, hr1.mono ((e2.trans e3).trans eu), ?_⟩
    show LLm M _ r2 (if s' = 4 then [s'] :: (b.2 ++ a.2) else [s'] :: (a.2 ++ b.2))
    rw [if_neg hb]
    exact hr2.mono eu
/-! ### turned -/
theorem held_def {x : Str} {k : Nat} {sp : Sp} (c : Cal P w K mg base k x sp []) : ∃ f, mg x = some (.ref f) ∧ Held P w K mg base k f sp := by
  obtain ⟨f, fd, ps, ds, F, hm, kp, b, d⟩ := (c.ex)
  cases d
  exact ⟨f, hm, fd, ps, F, kp, b⟩
theorem acts_of {X : Cx} {k j i : Nat} {x : Str} {f : Addr} {sp : Sp} (h : Held X.prog X.w X.K X.mg X.base k f sp) (hr : Room j X.A) (hk : k ≤ j) (hN : X.N[i]? = some x) (hv : Vis X.env.scope x) (hdb : (x == ("__debug__" : Str)) = false) (hcd : (x == ("__classdict__" : Str)) = false) : Acts X i x f sp := by
  obtain ⟨fd, ps, F, kp, b⟩ := h.ex
  intro p pos e es t ha he hpl
  exact pe_callL (dvs := []) F (hr.mono hk) hN hv kp b .nil (fun _ _ _ _ _ _ _ z => z.elim) ha hdb hcd he hpl
def spFoldP (fP fO fT : Addr) : Sp := fun vs H Q _ => ∃ (a : Addr) (M : List Addr) (e : Gq01.E), vs = [.ref a, .ref fP, .ref fO, .ref fT] ∧ LLm M H a (eparts e) ∧ Kn M H ∧ (eparts e).length ≤ 60 ∧ ∀ v H', Ex H H' → PairR M (eparts e, eparts (Gq01.turned e)) v H' → Q v H'
theorem cal_folded_pairs (T : Tx K mg C_Graph C_Line C_Reader a_CALLS) {fP fO fT : Addr} (hP : Held P w K mg base 2 fP spPPlain) (hO : Held P w K mg base 2 fO spPOne) (hT : Held P w K mg base 2 fT spPTwo) : Cal P w K mg base 6 "folded" (spFoldP fP fO fT) [] := by
  refine T.d_folded.cal sc_folded (fun vs H Q E h => by obtain ⟨a, M, e, rfl, _⟩ := h; rfl) (fun f cdv A outer s H vs Q E hr h => ?_)
  obtain ⟨a, M, e, rfl, hL, hK, hn, k⟩ := h
  obtain ⟨na, qs, hqs, hF⟩ := hL
  have kn : ∀ {d xs H1}, Ex H H1 → H1 d = some (HO.lst xs) → Kn (d :: M) H1 := fun {d xs H1} e1 hd m hm => by
    rcases (List.mem_cons.mp hm) with rfl | hm
    · rw [hd]
      exact fun z => nomatch z
    · exact (hK.ex e1) m hm
  refine folded_ok T hr (plain := pPlain) (one := pOne) (two := pTwo) (R := fun d w => PairR (d :: M) w) (okp := isPl) (wt := ppW) (fun p => by show max 1 1 ≤ 1; decide) (fun z a => ?_) (fun z a b => ?_) (fun d w => pairR_mo) (fun d w v H xs ys r hd => ?_)
    (acts_of hP hr (by decide) rfl (Or.inl rfl) (by decide) (by decide)) (acts_of hO hr (by decide) rfl (Or.inl rfl) (by decide) (by decide)) (acts_of hT hr (by decide) rfl (Or.inl rfl) (by decide) (by decide))
    (fun d xs H1 p q hd e1 h1 hq hm hp Q k1 => ?_) (fun d xs H1 z a v hd e1 h1 hz hw r Q k1 => ⟨z, v, a, d :: M, rfl, r, by unfold ppW at hw; unfold ppLen; omega, kn e1 h1, k1⟩) (fun d xs H1 z a b v u hd e1 h1 hz hz1 hw r1 r2 Q k1 => ⟨z, v, u, a, b, d :: M, rfl, r1, r2, by omega, kn e1 h1, k1⟩)
    hqs (hF.imp fun _ _ _ r => r.2) hn (eparts_ok e) (run_all pPlain pOne pTwo e) (fun d v H' hd eH r => ?_)
  · unfold ppW pOne
    by_cases c : z = 7
    · simp only [if_pos c, List.length_cons]
      omega
    · simp only [if_neg c, List.length_cons]
      omega
  · unfold ppW pTwo
    by_cases c : z = 4
    · simp only [if_pos c, List.length_cons, List.length_append]
      omega
    · simp only [if_neg c, List.length_cons, List.length_append]
      omega
  · obtain ⟨t, p, q, e1, h2, h3, h4⟩ := r
    exact ⟨t, p, q, e1, (upd_ne (ne_of h2 hd (fun z => nomatch z))).trans h2, h3.write (List.mem_cons_self ..), h4.write (List.mem_cons_self ..)⟩
  · obtain ⟨i, hi⟩ := List.getElem?_of_mem hm
    obtain ⟨l, _, hl, _⟩ := hF.get hi
    refine ⟨q, p, d :: M, rfl, hp, e1 _ _ hq, fun z => ?_, kn e1 h1, k1⟩
    rcases (List.mem_cons.mp z) with z | z
    · rw [z, hd] at hq
      cases hq
    · exact hl z
  · rw [fold_pairs] at r
    obtain ⟨t, p, q, e1, h2, h3, h4⟩ := r
    have sb : ∀ b ∈ M, b ∈ d :: M := fun b hb => List.mem_cons_of_mem _ hb
    exact k v H' eH ⟨t, p, q, e1, h2, h3.sub sb, h4.sub sb⟩
def spTurned : Sp := fun vs H Q _ => ∃ (a : Addr) (M : List Addr) (e : Gq01.E), vs = [.ref a] ∧ LLm M H a (eparts e) ∧ Kn M H ∧ (eparts e).length ≤ 60 ∧ ∀ p H', Ex H H' → LLm M H' p (eparts (Gq01.turned e)) → Q (.ref p) H'
theorem cal_turned (T : Tx K mg C_Graph C_Line C_Reader a_CALLS) : Cal P w K mg base 7 "turned" spTurned [] := by
  obtain ⟨fP, mP, hP⟩ := held_def (P := P) (w := w) (base := base) (cal_pair_of_plain T)
  obtain ⟨fO, mO, hO⟩ := held_def (P := P) (w := w) (base := base) (cal_pair_of_one T)
  obtain ⟨fT, mT, hT⟩ := held_def (P := P) (w := w) (base := base) (cal_pair_of_two T)
  refine T.d_turned.cal sc_turned (fun vs H Q E h => by obtain ⟨a, M, e, rfl, _⟩ := h; rfl) (fun f cdv A outer s H vs Q E hr h => ⟨_, (pss_one (ps_ret (pe_ix ix_tup (pe_c (cal_folded_pairs T hP hO hT) hr (by decide) rfl (pa_cons (pv 0) (pa_cons (pe_gc rfl ⟨_, mP, rel_ref fP⟩) (pa_cons (pe_gc rfl ⟨_, mO, rel_ref fO⟩) (pa_cons (pe_gc rfl ⟨_, mT, rel_ref fT⟩) pa_nil))))) pe_int (fun _ _ => rfl)))), ?_⟩)
  obtain ⟨a, M, e, rfl, hL, hK, hn, k⟩ := h
  refine ⟨_, rfl, a, M, e, rfl, hL, hK, hn, fun v H1 e1 ⟨t, p, q, hv, ht, h3, h4⟩ => ?_⟩
  subst hv
  exact ⟨t, _, 1, .ref q, rfl, rfl, st_of ht, rfl, k q H1 e1 h4⟩
/-! ### code_of -/
def spCodeOf : Sp := fun vs H Q _ => ∃ (a : Addr) (ls : List (List Int)), vs = [.ref a] ∧ LLm [] H a ls ∧ ls.flatten.length ≤ 10000 ∧ RetL (nums ls.flatten) H Q
theorem cal_code_of (T : Tx K mg C_Graph C_Line C_Reader a_CALLS) : Cal P w K mg base 1 "code_of" spCodeOf [] := by
  refine T.d_code_of.cal sc_code_of (fun vs H Q E h => by obtain ⟨a, ls, rfl, _⟩ := h; rfl) (fun f cdv A outer s H vs Q E hr h => ⟨_, (pss_cons (ps_set (i := 1) sc_code_of.nd rfl (Or.inl rfl) (pe_lst pa_nil))
      (pss_cons (ps_for PassesOwn.never rfl (pi_list (pv 0)) (pg_name (i := 2) sc_code_of.nd rfl (Or.inl rfl)) (pss_one (ps_expr (pe_bm PySem.F.plainAttrs_list PySem.F.slot_list_extend PySem.F.type_list_extend mt_extend (pv 1) (pa_cons (pv 2) pa_nil)))))
      (pss_one (ps_ret (pv 1))))), ?_⟩)
  obtain ⟨a, ls, rfl, ⟨_, qs, hqs, hF⟩, hn, k⟩ := h
  refine q_asgL (el_lst ea_nil (by decide)) fun l H1 hl e1 h1 => ?_
  refine q_forLn (K := K) (ev_var rfl) (sq_of (e1 _ _ hqs)) (fun i σ' H' => ∃ v, σ' = [some (.ref a), some (.ref l), v] ∧ Ex H H' ∧ H' l = some (.lst (nums (ls.take i).flatten))) (fun H2 e2 => ⟨none, rfl, e1.trans e2, e2 _ _ h1⟩) (fun i σ' H' _ ⟨_, _, e, _⟩ => sq_of (e _ _ hqs)) ?_ ?_
  · rintro i x σ' H' hi ⟨v, rfl, eH, hL⟩
    obtain ⟨q, p, rfl, hq, hp, _, hqp⟩ := f2_ref hF hi
    have hle : (ls.take i).flatten.length + p.length ≤ ls.flatten.length := by
      have e : ls = ls.take i ++ p :: ls.drop (i + 1) := by
        obtain ⟨h1, h2⟩ := List.getElem?_eq_some_iff.mp hp
        rw [← h2, ← List.drop_eq_getElem_cons h1, List.take_append_drop]
      have e2 := congrArg (fun z => z.flatten.length) e
      simp only [List.flatten_append, List.flatten_cons, List.length_append] at e2
      omega
    refine ⟨_, rfl, Or.inl ⟨rfl, _, sq_of hL⟩, _, rfl, l, q, _, _, rfl, rfl, hL, eH _ _ hqp, sz_of (by rw [nums_len, nums_len]; omega), ?_⟩
    refine ⟨some (.ref q), rfl, eH.mut hl, ?_⟩
    rw [upd_same, List.take_add_one, hp]
    simp
  · rintro σ' H' ⟨v, rfl, eH, hL⟩
    refine s_ret (ev_var rfl) fun H2 e2 => k l H2 hl (eH.trans e2) ?_
    rw [List.length_map, hF.len, List.take_length] at hL
    exact e2 _ _ hL
end
end WG
namespace WG
open PySem PySem.Spec
open PyProof.Rows
open L2 hiding CX0 E0 pass0 Fun
open C8 Evl WM
open Gq01 (Way pick joined earlier better)
/-! ### ways as tuples -/
def flatW (w : Way) : List Int := w.flatMap fun s => [(s.1 : Int), (s.2 : Int)]
theorem flatW_cons (s : Gq01.Step) (w : Way) : flatW (s :: w) = (s.1 : Int) :: (s.2 : Int) :: flatW w := rfl
theorem flatW_len : ∀ w : Way, (flatW w).length = 2 * w.length
  | [] => rfl
  | s :: w => by rw [flatW_cons, List.length_cons, List.length_cons, flatW_len w, List.length_cons]; omega
theorem flatW_app (v w : Way) : flatW (v ++ w) = flatW v ++ flatW w := List.flatMap_append
theorem lex_eq : ∀ (ns ms : List Int), ns.length = ms.length → ∀ (k i : Nat), i + k = ns.length → Ob.lexAt (fun j => decide (ns.getD j 0 = ms.getD j 0)) (fun j => decide (ns.getD j 0 ≤ ms.getD j 0)) true i k = lexLeI (ns.drop i) (ms.drop i) := by
  intro ns ms hl k
  induction k with
  | zero =>
    intro i hi
    rw [List.drop_eq_nil_of_le (by omega)]
    rfl
  | succ k ih =>
    intro i hi
    have h1 : i < ns.length := by omega
    have h2 : i < ms.length := by omega
    rw [Ob.lexAt_succ, ih (i + 1) (by omega), List.drop_eq_getElem_cons h1, List.drop_eq_getElem_cons h2]
    have g1 : ns.getD i 0 = ns[i] := by simp [List.getD_eq_getElem?_getD, h1]
    have g2 : ms.getD i 0 = ms[i] := by simp [List.getD_eq_getElem?_getD, h2]
    rw [g1, g2]
    show _ = if ns[i] = ms[i] then lexLeI (ns.drop (i + 1)) (ms.drop (i + 1)) else decide (ns[i] ≤ ms[i])
    by_cases c : ns[i] = ms[i]
    · rw [if_pos (decide_eq_true c), if_pos c]
    · rw [if_neg (by simp [c]), if_neg c]
theorem lex_ways : ∀ (v w : Way), v.length = w.length → lexLeI (flatW v) (flatW w) = !earlier w v
  | [], [], _ => rfl
  | [], _ :: _, hl => by simp at hl
  | _ :: _, [], hl => by simp at hl
  | (a1, a2) :: l, (b1, b2) :: m, h => by
    have hl : l.length = m.length := by simpa using h
    have ih := lex_ways l m hl
    rw [flatW_cons, flatW_cons]
    show (if (a1 : Int) = (b1 : Int) then (if (a2 : Int) = (b2 : Int) then lexLeI (flatW l) (flatW m) else decide ((a2 : Int) ≤ (b2 : Int))) else decide ((a1 : Int) ≤ (b1 : Int))) = !(if ((b1, b2) : Gq01.Step) = (a1, a2) then earlier m l else decide (b1 < a1) || (b1 == a1 && decide (b2 < a2)))
    by_cases c1 : a1 = b1
    · subst c1
      rw [if_pos rfl]
      by_cases c2 : a2 = b2
      · subst c2
        rw [if_pos rfl, if_pos rfl, ih]
      · rw [if_neg (by omega), if_neg (fun z => c2 (Prod.mk.inj z).2.symm), Bool.eq_iff_iff, decide_eq_true_eq, Bool.not_eq_true', Bool.or_eq_false_iff, Bool.and_eq_false_iff, decide_eq_false_iff_not, decide_eq_false_iff_not]
        constructor
        · intro z
          exact ⟨by omega, .inr (by omega)⟩
        · rintro ⟨z1, z2 | z2⟩
          · simp at z2
          · omega
    · rw [if_neg (by omega), if_neg (fun z => c1 (Prod.mk.inj z).1.symm), Bool.eq_iff_iff, decide_eq_true_eq, Bool.not_eq_true', Bool.or_eq_false_iff, Bool.and_eq_false_iff, decide_eq_false_iff_not, decide_eq_false_iff_not]
      constructor
      · intro z
        exact ⟨by omega, .inl (beq_eq_false_iff_ne.mpr fun z => c1 z.symm)⟩
      · rintro ⟨z1, _⟩
        omega
theorem nums_app (a b : List Int) : nums (a ++ b) = nums a ++ nums b := List.map_append
/-- a way, or none -/
def WayR : Option Way → Rp
  | none => fun v _ => v = .non
  | some w => TupR (nums (flatW w))
theorem wayR_mo {L : Hp → Hp → Prop} [Pre L] : ∀ {o : Option Way}, Mo L (WayR o)
  | none => fun v H H' _ h => h
  | some w => tupR_mo
theorem wayR_st : ∀ {o : Option Way}, Stb (WayR o)
  | none => fun v H p xs ys h _ => h
  | some w => tupR_st
/-- at most so many steps -/
def WB (b : Nat) (o : Option Way) : Prop := ∀ w, o = some w → w.length ≤ b
theorem WB.mono {a b : Nat} {o : Option Way} (h : WB a o) (k : a ≤ b) : WB b o := fun w e => Nat.le_trans (h w e) k
theorem WB.pick {b : Nat} {o p : Option Way} (h : WB b o) (k : WB b p) : WB b (pick o p) := fun w e => (pick_some e).elim (h w) (k w)
theorem WB.joined {a b : Nat} {o p : Option Way} (h : WB a o) (k : WB b p) : WB (a + b) (joined o p) := fun w e => by
  obtain ⟨v, u, h1, h2, rfl⟩ := joined_some e
  have := h v h1
  have := k u h2
  rw [List.length_append]
  omega
section
variable {P : Program} {w : World} {K : PySem.W.Frag} {mg : Str → Option Value} {base : Heap} {C_Graph C_Line C_Reader a_CALLS : Addr}
def spShort : Sp := fun vs H Q _ => ∃ (a b : Option Way) (v u : V), vs = [v, u] ∧ WayR a v H ∧ WayR b u H ∧ ∀ z H', Ex H H' → WayR (pick a b) z H' → Q z H'
theorem isN_some {x : V} {t : Addr} (h : x = .ref t) : decide (x = V.non) = false := by subst h; rfl
theorem ev_lenT {K : PySem.W.Frag} {σ : L2.St} {H : Hp} {ta : TE} {p : Addr} {xs : List V} (ha : Ev ta σ H (.ref p)) (h : H p = some (.tup xs)) : Ev (tCB (rLenS K) (tCons ta tNil)) σ H (.int (xs.length : Int)) := fun H1 e Q q =>
  ha H1 e _ fun H2 e2 => ⟨p, xs, rfl, Or.inr (st_of ((e.trans e2) _ _ h)), q H2 e2⟩
theorem rv_leT {K : PySem.W.Frag} {H : Hp} {a b : Addr} {v w : Way} (ha : H a = some (.tup (nums (flatW v)))) (hb : H b = some (.tup (nums (flatW w)))) (hl : v.length = w.length) : RV (rLeT K) (.ref a) (.ref b) H (.bl (!earlier w v)) := fun H1 e Q q => by
  have hll : (flatW v).length = (flatW w).length := by rw [flatW_len, flatW_len, hl]
  refine ⟨a, b, flatW v, flatW w, rfl, rfl, st_of (e _ _ ha), st_of (e _ _ hb), ?_⟩
  rw [decide_eq_true (Nat.le_of_eq hll), hll, Nat.min_self, lex_eq _ _ hll _ 0 (by omega), List.drop_zero, List.drop_zero, lex_ways v w hl]
  exact q H1 (Ex.refl _)
theorem rv_isNb {x : V} {H : Hp} {b : Bool} (h : decide (x = V.non) = b) : RV (fun x y H Q => y = .non ∧ Q (.bl (decide (x = .non))) H) x .non H (.bl b) := fun H1 _ _ q => ⟨rfl, by rw [h]; exact q H1 (Ex.refl H1)⟩
theorem rv_notNb {x : V} {H : Hp} {b : Bool} (h : decide (x = V.non) = !b) : RV (fun x y H Q => y = .non ∧ Q (.bl (!decide (x = .non))) H) x .non H (.bl b) := fun H1 _ _ q => ⟨rfl, by rw [h, Bool.not_not]; exact q H1 (Ex.refl H1)⟩
theorem cal_shortest (T : Tx K mg C_Graph C_Line C_Reader a_CALLS) : Cal P w K mg base 1 "shortest" spShort [] := by
  refine T.d_shortest.cal sc_shortest (fun vs H Q E h => by obtain ⟨a, b, v, u, rfl, _⟩ := h; rfl) (fun f cdv A outer s H vs Q E hr h => ⟨_, (pss_cons (ps_if (pt_cmpR op_isN (pv 0) pe_non (nomark _)) (pss_one (ps_ret (pv 1))) pss_nil)
      (pss_cons (ps_if (pt_cmpR op_isN (pv 1) pe_non (nomark _)) (pss_one (ps_ret (pv 0))) pss_nil)
      (pss_cons (ps_if (pt_cmpR op_ne (pe_callB call_len_seq (by rfl) T.b_len PySem.boot_len (pa_cons (pv 0) pa_nil)) (pe_callB call_len_seq (by rfl) T.b_len PySem.boot_len (pa_cons (pv 1) pa_nil)) (nomark _)) (pss_one (ps_ret (pe_ifExp (pt_cmpR op_lt (pe_callB call_len_seq (by rfl) T.b_len PySem.boot_len (pa_cons (pv 0) pa_nil)) (pe_callB call_len_seq (by rfl) T.b_len PySem.boot_len (pa_cons (pv 1) pa_nil)) (nomark _)) (pv 0) (pv 1)))) pss_nil)
      (pss_one (ps_ret (pe_ifExp (pt_cmpR (op_leT hr.units0) (pv 0) (pv 1) (nomark _)) (pv 0) (pv 1))))))), ?_⟩)
  obtain ⟨a, b, v, u, rfl, ha, hb, k⟩ := h
  cases a with
  | none =>
    obtain rfl : v = .non := ha
    have e : pick none b = b := by cases b <;> rfl
    rw [e] at k
    refine q_when (et_test (ev_op (ev_var rfl) ev_c (rv_isNb (b := true) rfl))) (fun hb H1 e1 => ?_) (fun hb _ _ => by cases hb)
    exact s_ret (ev_var rfl) fun H2 e2 => k _ H2 (e1.trans e2) (wayR_mo _ _ _ (e1.trans e2) ‹_›)
  | some v1 =>
    obtain ⟨t, rfl, ht⟩ := ha
    refine q_when (et_test (ev_op (ev_var rfl) ev_c (rv_isNb (b := false) rfl))) (fun hb _ _ => by cases hb) (fun _ H1 e1 => ?_)
    cases b with
    | none =>
      obtain rfl : u = .non := hb
      refine q_when (et_test (ev_op (ev_var rfl) ev_c (rv_isNb (b := true) rfl))) (fun hb H2 e2 => ?_) (fun hb _ _ => by cases hb)
      exact s_ret (ev_var rfl) fun H3 e3 => k _ H3 ((e1.trans e2).trans e3) ⟨t, rfl, ((e1.trans e2).trans e3) _ _ ht⟩
    | some v2 =>
      obtain ⟨t', rfl, ht'⟩ := hb
      refine q_when (et_test (ev_op (ev_var rfl) ev_c (rv_isNb (b := false) rfl))) (fun hb _ _ => by cases hb) (fun _ H2 e2 => ?_)
      have e12 := e1.trans e2
      have k : ∀ z H', Ex H H' → WayR (if better v2 v1 = true then some v2 else some v1) z H' → Q z H' := k
      have l1 : ∀ {H3 : Hp}, Ex H H3 → Ev (tCB (rLenS K) (tCons (tVar 0) tNil)) (L2.start N_shortest [.ref t, .ref t']) H3 (.int ((2 * v1.length : Nat) : Int)) := fun e => ev_is (ev_lenT (ev_var rfl) (e _ _ ht)) (by rw [nums_len, flatW_len])
      have l2 : ∀ {H3 : Hp}, Ex H H3 → Ev (tCB (rLenS K) (tCons (tVar 1) tNil)) (L2.start N_shortest [.ref t, .ref t']) H3 (.int ((2 * v2.length : Nat) : Int)) := fun e => ev_is (ev_lenT (ev_var rfl) (e _ _ ht')) (by rw [nums_len, flatW_len])
      refine q_when (et_test (ev_op (l1 e12) (l2 e12) (rv_ne rfl))) (fun hb H3 e3 => ?_) (fun hb H3 e3 => ?_)
      · have e13 := e12.trans e3
        have hne : v1.length ≠ v2.length := fun z => by rw [z] at hb; simp at hb
        refine s_ret (ev_if (b := decide (v1.length < v2.length)) (v := if v1.length < v2.length then .ref t else .ref t') (et_test (ev_is (ev_op (l1 e13) (l2 e13) rv_I0) (congrArg V.bl (decide_eq_decide.mpr (by omega))))) (fun hb => ev_is (ev_var rfl) (if_pos (of_decide_eq_true hb)).symm) fun hb => ev_is (ev_var rfl) (if_neg (of_decide_eq_false hb)).symm) fun H4 e4 => ?_
        have e14 := e13.trans e4
        refine k _ H4 e14 ?_
        by_cases c : v1.length < v2.length
        · rw [if_pos c, if_neg (by rw [better_iff]; omega)]
          exact ⟨t, rfl, e14 _ _ ht⟩
        · rw [if_neg c, if_pos (better_iff.mpr (.inl (by omega)))]
          exact ⟨t', rfl, e14 _ _ ht'⟩
      · have e13 := e12.trans e3
        have heq : v1.length = v2.length := by
          rw [Bool.not_eq_false', decide_eq_true_eq] at hb
          have := V.int.inj hb
          omega
        refine s_ret (ev_if (b := !earlier v2 v1) (v := if earlier v2 v1 = true then .ref t' else .ref t) (et_test (ev_op (ev_var rfl) (ev_var rfl) (rv_leT (K := K) (e13 _ _ ht) (e13 _ _ ht') heq))) (fun hb => ev_is (ev_var rfl) ?_) fun hb => ev_is (ev_var rfl) ?_) fun H4 e4 => ?_
        · rw [Bool.not_eq_true'] at hb
          rw [hb]
          rfl
        · rw [Bool.not_eq_false'] at hb
          rw [hb]
          rfl
        have e14 := e13.trans e4
        refine k _ H4 e14 ?_
        have hbe : better v2 v1 = earlier v2 v1 := by
          unfold Gq01.better
          rw [decide_eq_false (by omega), heq]
          simp
        rw [hbe]
        cases c : earlier v2 v1 with
        | true => exact ⟨t', rfl, e14 _ _ ht'⟩
        | false => exact ⟨t, rfl, e14 _ _ ht⟩
def spOver : Sp := fun vs H Q _ => ∃ (o a b : Option Way) (v u z : V), vs = [v, u, z] ∧ WayR o v H ∧ WayR a u H ∧ WayR b z H ∧ WB 4000000 a ∧ WB 4000000 b ∧ ∀ y H', Ex H H' → WayR (pick o (joined a b)) y H' → Q y H'
theorem pick_none (o : Option Way) : pick o none = o := by cases o <;> rfl
theorem cal_shortest_over (T : Tx K mg C_Graph C_Line C_Reader a_CALLS) : Cal P w K mg base 2 "shortest_over" spOver [] := by
  refine T.d_shortest_over.cal sc_shortest_over (fun vs H Q E h => by obtain ⟨o, a, b, v, u, z, rfl, _⟩ := h; rfl) (fun f cdv A outer s H vs Q E hr h => ⟨_, (pss_cons (ps_if (PW.pt (pw_or (pt_cmpR op_isN (pv 1) pe_non (nomark _)) (pw_or1 (pt_cmpR op_isN (pv 2) pe_non (nomark _))))) (pss_one (ps_ret (pv 0))) pss_nil)
      (pss_cons (ps_if (PW.pt (pw_and (pt_cmpR op_notN (pv 0) pe_non (nomark _)) (pw_and1 (pt_cmpR op_lt (pe_callB call_len_seq (by rfl) T.b_len PySem.boot_len (pa_cons (pv 0) pa_nil)) (pe_op op_add (pe_callB call_len_seq (by rfl) T.b_len PySem.boot_len (pa_cons (pv 1) pa_nil)) (pe_callB call_len_seq (by rfl) T.b_len PySem.boot_len (pa_cons (pv 2) pa_nil))) (nomark _))))) (pss_one (ps_ret (pv 0))) pss_nil)
      (pss_one (ps_ret (pe_c (cal_shortest T) hr (by decide) rfl (pa_cons (pv 0) (pa_cons (pe_op op_catA (pv 1) (pv 2)) pa_nil))))))), ?_⟩)
  obtain ⟨o, a, b, v, u, z, rfl, ho, ha, hb, wa, wb, k⟩ := h
  cases a with
  | none =>
    obtain rfl : u = .non := ha
    have e : pick o (joined none b) = o := pick_none o
    rw [e] at k
    refine q_when (et_is (et_or (b := true) (et_test (ev_op (ev_var rfl) ev_c (rv_isNb (b := true) rfl))) (fun q => by cases q)) rfl) (fun hb H1 e1 => ?_) (fun hb _ _ => by cases hb)
    exact s_ret (ev_var rfl) fun H2 e2 => k _ H2 (e1.trans e2) (wayR_mo _ _ _ (e1.trans e2) ho)
  | some v1 =>
    obtain ⟨t, rfl, ht⟩ := ha
    cases b with
    | none =>
      obtain rfl : z = .non := hb
      have e : pick o (joined (some v1) none) = o := pick_none o
      rw [e] at k
      refine q_when (et_or (et_test (ev_op (ev_var rfl) ev_c (rv_isNb (b := false) rfl))) (fun q => et_test (ev_op (ev_var rfl) ev_c (rv_isNb (b := true) rfl)))) (fun hb H1 e1 => ?_) (fun hb _ _ => by cases hb)
      exact s_ret (ev_var rfl) fun H2 e2 => k _ H2 (e1.trans e2) (wayR_mo _ _ _ (e1.trans e2) ho)
    | some v2 =>
      obtain ⟨t', rfl, ht'⟩ := hb
      have b1 := wa v1 rfl
      have b2 := wb v2 rfl
      refine q_when (et_or (et_test (ev_op (ev_var rfl) ev_c (rv_isNb (b := false) rfl))) (fun q => et_test (ev_op (ev_var rfl) ev_c (rv_isNb (b := false) rfl)))) (fun hb _ _ => by cases hb) (fun _ H1 e1 => ?_)
      have l1 : ∀ {H3 : Hp}, Ex H H3 → Ev (tCB (rLenS K) (tCons (tVar 1) tNil)) (L2.start N_shortest_over [v, .ref t, .ref t']) H3 (.int ((2 * v1.length : Nat) : Int)) := fun e => ev_is (ev_lenT (ev_var rfl) (e _ _ ht)) (by rw [nums_len, flatW_len])
      have l2 : ∀ {H3 : Hp}, Ex H H3 → Ev (tCB (rLenS K) (tCons (tVar 2) tNil)) (L2.start N_shortest_over [v, .ref t, .ref t']) H3 (.int ((2 * v2.length : Nat) : Int)) := fun e => ev_is (ev_lenT (ev_var rfl) (e _ _ ht')) (by rw [nums_len, flatW_len])
      have fin : ∀ H2, Ex H H2 → tRet (tCall spShort [] E0 (tCons (tVar 0) (tCons (tOp (rCatA K) (tVar 1) (tVar 2)) tNil))) { nx := fun _ H' => Q .non H', rt := Q } (L2.start N_shortest_over [v, .ref t, .ref t']) H2 := fun H2 e2 => by
        have go : ∀ (r : Addr) (H3 : Hp), Ex H2 H3 → H3 r = some (.tup (nums (flatW (v1 ++ v2)))) → spShort ([v, .ref r] ++ []) H3 Q E0 := fun r H3 e3 h3 => ⟨o, some (v1 ++ v2), v, .ref r, rfl, wayR_mo _ _ _ (e2.trans e3) ho, ⟨r, rfl, h3⟩, fun z H4 e4 r4 => k z H4 ((e2.trans e3).trans e4) r4⟩
        refine ⟨_, rfl, _, rfl, _, rfl, t, t', nums (flatW v1), nums (flatW v2), rfl, rfl, st_of (e2 _ _ ht), st_of (e2 _ _ ht'), ?_, fun hx => ?_, fun hx hy => ?_, fun hx hy p hp => ?_⟩
        · rw [nums_len, nums_len, flatW_len, flatW_len]
          show _ ≤ 2 ^ 24
          omega
        · refine go t' H2 (Ex.refl _) ?_
          rw [flatW_app, nums_app, hx, List.nil_append]
          exact e2 _ _ ht'
        · refine go t H2 (Ex.refl _) ?_
          rw [flatW_app, nums_app, hy, List.append_nil]
          exact e2 _ _ ht
        · refine go p _ (Ex.new hp) ?_
          rw [upd_same, flatW_app, nums_app]
      cases o with
      | none =>
        obtain rfl : v = .non := ho
        refine q_when (et_is (et_and (b := false) (et_test (ev_op (ev_var rfl) ev_c (rv_notNb (b := false) rfl))) (fun q => by cases q)) rfl) (fun hb _ _ => by cases hb) (fun _ H2 e2 => fin H2 (e1.trans e2))
      | some v0 =>
        obtain ⟨t0, rfl, ht0⟩ := ho
        have l0 : Ev (tCB (rLenS K) (tCons (tVar 0) tNil)) (L2.start N_shortest_over [.ref t0, .ref t, .ref t']) H1 (.int ((2 * v0.length : Nat) : Int)) := ev_is (ev_lenT (ev_var rfl) (e1 _ _ ht0)) (by rw [nums_len, flatW_len])
        refine q_when (et_and (et_test (ev_op (ev_var rfl) ev_c (rv_notNb (b := true) rfl))) (fun _ => et_test (ev_op l0 (ev_op (l1 e1) (l2 e1) rv_I0) rv_I0))) (fun hb H2 e2 => ?_) (fun hb H2 e2 => fin H2 (e1.trans e2))
        rw [Bool.true_and, decide_eq_true_eq] at hb
        have hlt : v0.length < (v1 ++ v2).length := by rw [List.length_append]; omega
        have e : pick (some v0) (joined (some v1) (some v2)) = some v0 := by
          show (if better (v1 ++ v2) v0 = true then some (v1 ++ v2) else some v0) = some v0
          rw [if_neg (by rw [better_iff]; omega)]
        rw [e] at k
        exact s_ret (ev_var rfl) fun H3 e3 => k _ H3 ((e1.trans e2).trans e3) ⟨t0, rfl, ((e1.trans e2).trans e3) _ _ ht0⟩
end
end WG
namespace WG
open PySem PySem.Spec
open PyProof.Rows
open L2 hiding CX0 E0 pass0 Fun
open C8 Evl WM
open Gq01 (Way pick joined earlier better)
/-! ### rows and tables of ways -/
def RowP (row : List (Option Way)) : List V → Hp → Prop := fun ys H => F2 (fun o y => WayR o y H) row ys
theorem rowP_mo {L : Hp → Hp → Prop} [Pre L] {row : List (Option Way)} : PMo L (RowP row) := fun ys H H' e h => h.imp fun o y _ r => wayR_mo y H H' e r
theorem rowP_st {row : List (Option Way)} : PSt (RowP row) := fun ys H p xs zs h hp => h.imp fun o y _ r => wayR_st y H p xs zs r hp
def rowL (n : Nat) (r : Nat → Option Way) : List (Option Way) := (List.range n).map fun j => r (j + 1)
def tabL (n : Nat) (t : T2) : List (List (Option Way)) := (List.range n).map fun i => rowL n (t (i + 1))
theorem rowL_len (n : Nat) (r : Nat → Option Way) : (rowL n r).length = n := by simp [rowL]
theorem tabL_len (n : Nat) (t : T2) : (tabL n t).length = n := by simp [tabL]
theorem rowL_at {n j : Nat} {r : Nat → Option Way} (h : j < n) : (rowL n r)[j]? = some (r (j + 1)) := by
  unfold rowL
  rw [List.getElem?_map, List.getElem?_range h]
  rfl
theorem tabL_at {n i : Nat} {t : T2} (h : i < n) : (tabL n t)[i]? = some (rowL n (t (i + 1))) := by
  unfold tabL
  rw [List.getElem?_map, List.getElem?_range h]
  rfl
theorem rowL_of {n j : Nat} {r : Nat → Option Way} {o : Option Way} (h : (rowL n r)[j]? = some o) : j < n ∧ o = r (j + 1) := by
  have hj : j < n := by have := (List.getElem?_eq_some_iff.mp h).1; rw [rowL_len] at this; exact this
  rw [rowL_at hj] at h
  exact ⟨hj, (Option.some.inj h).symm⟩
theorem tabL_of {n i : Nat} {t : T2} {row : List (Option Way)} (h : (tabL n t)[i]? = some row) : i < n ∧ row = rowL n (t (i + 1)) := by
  have hj : i < n := by have := (List.getElem?_eq_some_iff.mp h).1; rw [tabL_len] at this; exact this
  rw [tabL_at hj] at h
  exact ⟨hj, (Option.some.inj h).symm⟩
theorem rowL_congr {n : Nat} {r s : Nat → Option Way} (h : ∀ j, j < n → r (j + 1) = s (j + 1)) : rowL n r = rowL n s := List.map_congr_left fun j hj => h j (List.mem_range.mp hj)
theorem tabL_congr {n : Nat} {t u : T2} (h : ∀ i j, i < n → j < n → t (i + 1) (j + 1) = u (i + 1) (j + 1)) : tabL n t = tabL n u := List.map_congr_left fun i hi => rowL_congr fun j hj => h i j (List.mem_range.mp hi) hj
def put2 (t : T2) (x y : Nat) (o : Option Way) : T2 := fun a b => if a = x ∧ b = y then o else t a b
theorem tabL_set {n x y : Nat} {t : T2} {o : Option Way} (hx : x < n) (hy : y < n) : (tabL n t).set x ((rowL n (t (x + 1))).set y o) = tabL n (put2 t (x + 1) (y + 1) o) := by
  refine List.ext_getElem? fun i => ?_
  by_cases hi : i < n
  · rw [tabL_at hi]
    by_cases c : x = i
    · subst c
      rw [List.getElem?_set_self (by rw [tabL_len]; exact hi)]
      refine congrArg some (List.ext_getElem? fun j => ?_)
      by_cases hj : j < n
      · rw [rowL_at hj]
        by_cases c2 : y = j
        · subst c2
          rw [List.getElem?_set_self (by rw [rowL_len]; exact hj)]
          exact congrArg some (if_pos ⟨rfl, rfl⟩).symm
        · rw [List.getElem?_set_ne c2, rowL_at hj]
          exact congrArg some (if_neg (by omega)).symm
      · rw [List.getElem?_eq_none (by rw [List.length_set, rowL_len]; omega), List.getElem?_eq_none (by rw [rowL_len]; omega)]
    · rw [List.getElem?_set_ne c, tabL_at hi]
      exact congrArg some (rowL_congr fun j hj => (if_neg (by omega)).symm)
  · rw [List.getElem?_eq_none (by rw [List.length_set, tabL_len]; omega), List.getElem?_eq_none (by rw [tabL_len]; omega)]
def RowAt (H : Hp) (q : Addr) (row : List (Option Way)) : Prop := ∃ ys, H q = some (.lst ys) ∧ RowP row ys H
def TabAt (H : Hp) (p : Addr) (rows : List (List (Option Way))) : Prop := ∃ qs, H p = some (.lst (qs.map V.ref)) ∧ F2 (fun q row => RowAt H q row) qs rows
/-- a new table: H0 doesn't know it nor its rows -/
def TabN (H0 H : Hp) (p : Addr) (rows : List (List (Option Way))) : Prop := H0 p = none ∧ ∃ qs, H p = some (.lst (qs.map V.ref)) ∧ F2 (fun q row => H0 q = none ∧ RowAt H q row) qs rows
section
variable {L : Hp → Hp → Prop} [Pre L] {H0 H H' : Hp} {p q : Addr} {rows : List (List (Option Way))} {row : List (Option Way)}
theorem RowAt.mono (h : RowAt H q row) (e : L H H') : RowAt H' q row := by
  obtain ⟨ys, h1, h2⟩ := h
  exact ⟨ys, Pre.lst e h1, rowP_mo ys H H' e h2⟩
theorem TabAt.mono (h : TabAt H p rows) (e : L H H') : TabAt H' p rows := by
  obtain ⟨qs, h1, h2⟩ := h
  exact ⟨qs, Pre.lst e h1, h2.imp fun _ _ _ r => r.mono e⟩
theorem TabN.mono (h : TabN H0 H p rows) (e : L H H') : TabN H0 H' p rows := by
  obtain ⟨h0, qs, h1, h2⟩ := h
  exact ⟨h0, qs, Pre.lst e h1, h2.imp fun _ _ _ r => ⟨r.1, r.2.mono e⟩⟩
theorem TabN.at_ (h : TabN H0 H p rows) : TabAt H p rows := by
  obtain ⟨h0, qs, h1, h2⟩ := h
  exact ⟨qs, h1, h2.imp fun _ _ _ r => r.2⟩
theorem TabN.back {G : Hp} (h : TabN H0 H p rows) (e : Ex G H0) : TabN G H p rows := by
  obtain ⟨h0, qs, h1, h2⟩ := h
  exact ⟨fresh_back e h0, qs, h1, h2.imp fun _ _ _ r => ⟨fresh_back e r.1, r.2⟩⟩
theorem TabAt.rowAt {n i : Nat} {t : T2} (h : TabAt H p (tabL n t)) (hi : i < n) : ∃ (xs : List V) (q : Addr), H p = some (.lst xs) ∧ xs[i]? = some (.ref q) ∧ RowAt H q (rowL n (t (i + 1))) := by
  obtain ⟨qs, h1, h2⟩ := h
  obtain ⟨q, hq, hr⟩ := h2.get' (tabL_at hi)
  exact ⟨_, q, h1, by rw [List.getElem?_map, hq]; rfl, hr⟩
theorem TabAt.len {n : Nat} {t : T2} (h : TabAt H p (tabL n t)) : ∃ xs, H p = some (.lst xs) ∧ xs.length = n := by
  obtain ⟨qs, h1, h2⟩ := h
  exact ⟨_, h1, by rw [List.length_map, h2.len, tabL_len]⟩
end
theorem rowP_len {n : Nat} {r : Nat → Option Way} {ys : List V} {H : Hp} (h : RowP (rowL n r) ys H) : ys.length = n := by rw [← F2.len h, rowL_len]
theorem rowP_at {n j : Nat} {r : Nat → Option Way} {ys : List V} {H : Hp} {v : V} (h : RowP (rowL n r) ys H) (hv : ys[j]? = some v) : j < n ∧ WayR (r (j + 1)) v H := by
  obtain ⟨o, h1, h2⟩ := F2.get' h hv
  obtain ⟨h3, rfl⟩ := rowL_of h1
  exact ⟨h3, h2⟩
theorem rowP_rep (n : Nat) (H : Hp) : RowP (rowL n fun _ => none) (List.replicate n .non) H := by
  have e : List.replicate n V.non = (rowL n fun _ => none).map fun _ => V.non := by
    rw [List.map_const', rowL_len]
  rw [e]
  refine F2.same _ fun o ho => ?_
  obtain ⟨j, _, rfl⟩ := List.mem_map.mp ho
  rfl
theorem out_row {n : Nat} {g : Nat → Option Way} {ys : List V} {H : Hp} (h : OutR (fun i => WayR (g (i + 1))) n (fun _ => true) ys H) : RowP (rowL n g) ys H := by
  rw [OutR, rng_all] at h
  exact F2.map h
theorem out_tab {n : Nat} {t : T2} {p : Addr} {ys : List V} {H0 H : Hp} (hp : H0 p = none) (h1 : H p = some (.lst ys)) (h : F2 (fun i y => ∃ q zs, y = V.ref q ∧ H0 q = none ∧ H q = some (.lst zs) ∧ RowP (rowL n (t (i + 1))) zs H) (List.range n) ys) : TabN H0 H p (tabL n t) := by
  have h2 : F2 (fun row y => ∃ q, y = V.ref q ∧ (H0 q = none ∧ RowAt H q row)) (tabL n t) ys := F2.map (h.imp fun i y _ ⟨q, zs, e1, e2, e3, e4⟩ => ⟨q, e1, e2, zs, e3, e4⟩)
  obtain ⟨qs, rfl, h3⟩ := f2_refs h2
  exact ⟨hp, qs, h1, h3⟩
/-- a table that is still written -/
structure TabW (H0 H : Hp) (p : Addr) (qs : List Addr) (rows : List (List (Option Way))) : Prop where
  new : H0 p = none
  news : ∀ q ∈ qs, H0 q = none
  nd : qs.Nodup
  np : p ∉ qs
  at_ : H p = some (.lst (qs.map V.ref))
  rw_ : F2 (fun q row => RowAt H q row) qs rows
theorem TabW.tabN {H0 H : Hp} {p : Addr} {qs : List Addr} {rows : List (List (Option Way))} (h : TabW H0 H p qs rows) : TabN H0 H p rows := by
  refine ⟨h.new, qs, h.at_, ?_⟩
  have := h.news
  have h2 := h.rw_
  clear h
  induction h2 with
  | nil => exact .nil
  | cons r _ ih => exact .cons ⟨this _ (List.mem_cons_self ..), r⟩ (ih fun q hq => this q (List.mem_cons_of_mem _ hq))
theorem TabW.mono {H0 H H' : Hp} {p : Addr} {qs : List Addr} {rows : List (List (Option Way))} (h : TabW H0 H p qs rows) (e : Ex H H') : TabW H0 H' p qs rows := ⟨h.new, h.news, h.nd, h.np, e _ _ h.at_, h.rw_.imp fun _ _ _ r => r.mono e⟩
theorem f2_upd {α β : Type} {R S : α → β → Prop} {qs : List α} {rows : List β} (h : F2 R qs rows) : qs.Nodup → ∀ {i : Nat} {q : α} {row' : β}, qs[i]? = some q → (∀ q' row, q' ≠ q → R q' row → S q' row) → S q row' → F2 S qs (rows.set i row') := by
  induction h with
  | nil => intro _ i q row' hi; simp at hi
  | cons r t ih =>
    intro nd i q row' hi k1 k2
    obtain ⟨n1, n2⟩ := (List.nodup_cons.mp nd)
    cases i with
    | zero =>
      simp at hi
      subst hi
      exact .cons k2 (t.imp fun a b ha r => k1 a b (fun z => n1 (z ▸ ha)) r)
    | succ i =>
      have hi' : _ := (by simpa using hi : _[i]? = some q)
      refine .cons (k1 _ _ (fun z => n1 (by rw [z]; exact List.mem_of_getElem? hi')) r) (ih n2 hi' k1 k2)
theorem TabW.set {H0 H : Hp} {p q : Addr} {qs : List Addr} {n x y : Nat} {t : T2} {ys : List V} {v : V} {o : Option Way} (h : TabW H0 H p qs (tabL n t)) (hx : x < n) (hy : y < n) (hq : qs[x]? = some q) (hys : H q = some (.lst ys)) (hr : RowP (rowL n (t (x + 1))) ys H) (hv : WayR o v H) :
    TabW H0 (upd H q (.lst (ys.set y v))) p qs (tabL n (put2 t (x + 1) (y + 1) o)) := by
  have hqm : q ∈ qs := List.mem_of_getElem? hq
  refine ⟨h.new, h.news, h.nd, h.np, (upd_ne (fun z => h.np (by rw [z]; exact hqm))).trans h.at_, ?_⟩
  rw [← tabL_set hx hy]
  refine f2_upd h.rw_ h.nd hq (fun q' row ne ⟨zs, h1, h2⟩ => ⟨zs, (upd_ne ne).trans h1, rowP_st zs H q ys _ h2 hys⟩) ⟨_, upd_same, ?_⟩
  exact rowP_st _ H q ys _ (F2.set hr hv) hys
abbrev RetT (n : Nat) (t : T2) (H : Hp) (Q : VK) : Prop := ∀ p H', Ex H H' → TabN H H' p (tabL n t) → Q (.ref p) H'
section
variable {P : Program} {w : World} {K : PySem.W.Frag} {mg : Str → Option Value} {base : Heap} {C_Graph C_Line C_Reader a_CALLS : Addr}
/-! ### no_ways, staying, stay, steps -/
def spNoWays : Sp := fun vs H Q _ => ∃ n : Nat, vs = [.int (n : Int)] ∧ n ≤ 100 ∧ ∀ p qs H', Ex H H' → TabW H H' p qs (tabL n fun _ _ => none) → Q (.ref p) H'
theorem cal_no_ways (T : Tx K mg C_Graph C_Line C_Reader a_CALLS) : Cal P w K mg base 1 "no_ways" spNoWays [] := by
  refine T.d_no_ways.cal sc_no_ways (fun vs H Q E h => by obtain ⟨n, rfl, _⟩ := h; rfl) (fun f cdv A outer s H vs Q E hr h => ⟨_, (pss_one (ps_ret (pe_lc (own := [("node", 1)]) (g := (gName 1)) rfl sc_no_ways.nd (pi_range1 rfl T.b_range (pa_cons (pv 0) pa_nil)) (blkOk_by (own := [("node", 1)]) (N := N_no_ways) (sc := fnScope s_no_ways) (by decide +kernel)) (fun _ _ _ _ _ => (pg_name (i := 1) sc_no_ways.nd rfl (Or.inl rfl))) (fun _ _ _ _ _ => pts_nil) (fun _ _ _ _ _ => (pe_op op_rep (pe_lst (pa_cons pe_non pa_nil)) (pv 0)))))), ?_⟩)
  obtain ⟨n, rfl, hn, k⟩ := h
  refine ⟨_, rfl, (n : Int), rfl, by omega, by omega, fun D hD => ?_⟩
  refine lc_it (walk_range (lo := 0) (n := (n : Int).toNat)) (fun i H' => Ex H H' ∧ ∃ qs : List Addr, H' D = some (.lst (qs.map V.ref)) ∧ qs.length = i ∧ qs.Nodup ∧ D ∉ qs ∧ ∀ q ∈ qs, H q = none ∧ H' q = some (.lst (List.replicate n .non))) ⟨Ex.new hD, [], upd_same, rfl, List.nodup_nil, by simp, fun q hq => by cases hq⟩ (fun _ _ _ _ => trivial) (fun i x H' H'' hi p y => ?_) fun H' p => ?_
  · obtain ⟨rfl, rfl⟩ := y
    obtain ⟨p1, qs, p2, p3, p4, p5, p6⟩ := p
    rw [Int.toNat_natCast] at hi
    refine ⟨rfl, ?_⟩
    show (tOp rRep (tLst (tCons (tC .non) tNil)) (tVar 0)) _ H'' _
    refine el_rep (K := K) (n := n) (el_lst (ea_cons ev_c ea_nil) (by show 1 ≤ 100000; decide)) (ev_var rfl) (by omega) H'' (Ex.refl _) _ fun q H2 hq e2 h2 => ?_
    have hDq : q ≠ D := fun z => by rw [z, p2] at hq; cases hq
    refine ⟨_, e2 _ _ p2, sz_lt (by rw [List.length_map]; omega), (p1.trans e2).mut hD, qs ++ [q], by rw [upd_same, List.map_append]; rfl, by simp [p3], ?_, ?_, fun r hr => ?_⟩
    · rw [List.nodup_append]
      refine ⟨p4, by simp, fun a ha b hb => ?_⟩
      have : b = q := by simpa using hb
      subst this
      intro z
      subst z
      rw [(p6 a ha).2] at hq
      cases hq
    · intro z
      rcases List.mem_append.mp z with z | z
      · exact p5 z
      · have z' : D = q := by simpa using z
        exact hDq z'.symm
    · rcases (List.mem_append.mp hr) with hr | hr
      · refine ⟨(p6 r hr).1, ?_⟩
        rw [upd_ne (fun z => p5 (by rw [← z]; exact hr))]
        exact e2 _ _ (p6 r hr).2
      · have : r = q := by simpa using hr
        subst this
        exact ⟨fresh_back p1 hq, (upd_ne hDq).trans h2⟩
  · obtain ⟨p1, qs, p2, p3, p4, p5, p6⟩ := p
    rw [Int.toNat_natCast] at p3
    refine k D qs H' p1 ⟨hD, fun q hq => (p6 q hq).1, p4, p5, p2, ?_⟩
    have e : tabL n (fun _ _ => none) = qs.map fun _ => rowL n fun _ => none := by
      unfold tabL
      rw [List.map_const', List.map_const', p3, List.length_range]
    rw [e]
    exact F2.same _ fun q hq => ⟨_, (p6 q hq).2, rowP_rep n H'⟩
def stB (bs : List Bool) : T2 := fun x y => if x = y ∧ bs.getD (x - 1) false = true then some [] else none
def spStaying : Sp := fun vs H Q _ => ∃ (a : Addr) (bs : List Bool), vs = [.ref a] ∧ H a = some (.lst (bs.map V.bl)) ∧ bs.length ≤ 100 ∧ RetT bs.length (stB bs) H Q
theorem cal_staying (T : Tx K mg C_Graph C_Line C_Reader a_CALLS) : Cal P w K mg base 2 "staying" spStaying [] := by
  refine T.d_staying.cal sc_staying (fun vs H Q E h => by obtain ⟨a, bs, rfl, _⟩ := h; rfl) (fun f cdv A outer s H vs Q E hr h => ⟨_, (pss_cons (ps_set (i := 1) sc_staying.nd rfl (Or.inl rfl) (pe_c (cal_no_ways T) hr (by decide) rfl (pa_cons (pe_callB call_len_seq (by rfl) T.b_len PySem.boot_len (pa_cons (pv 0) pa_nil)) pa_nil)))
      (pss_cons (ps_for PassesOwn.never rfl (pi_enum rfl T.b_enumerate (pa_cons (pv 0) pa_nil)) (pg_tup rfl (pgs_cons (pg_name (i := 2) sc_staying.nd rfl (Or.inl rfl)) (pgs_cons (pg_name (i := 3) sc_staying.nd rfl (Or.inl rfl)) pgs_nil))) (pss_one (ps_if (pt_val (pv 3)) (pss_one (ps_asg (pe_tup pa_nil) (pg_sub (pe_ix ix_list (pv 1) (pv 2) (fun _ _ => rfl)) (pv 2) set_list))) pss_nil)))
      (pss_one (ps_ret (pv 1))))), ?_⟩)
  obtain ⟨a, bs, rfl, ha, hn, k⟩ := h
  have hlb : (bs.map V.bl).length = bs.length := List.length_map ..
  refine ⟨_, rfl, a, _, rfl, Or.inl (sq_of ha), bs.length, by rw [hlb]; rfl, hn, fun p qs H1 e1 w1 => ?_⟩
  refine ⟨_, rfl, a, bs.map V.bl, rfl, sq_of (e1 _ _ ha), for_it (walk_enum (K := K) (a := a) (xs := bs.map V.bl)) (fun i σ' H' => ∃ u v, σ' = [some (.ref a), some (.ref p), u, v] ∧ Ex H H' ∧ TabW H H' p qs (tabL bs.length fun x y => if x ≤ i then stB bs x y else none)) ?_ ?_ ?_ ?_⟩
  · refine ⟨none, none, rfl, e1, ?_⟩
    have e : tabL bs.length (fun x y => if x ≤ 0 then stB bs x y else none) = tabL bs.length fun _ _ => none := tabL_congr fun i j _ _ => if_neg (by omega)
    rw [e]
    exact w1
  · rintro i σ' H' _ ⟨u, v, rfl, eH, _⟩
    exact sq_of (eH _ _ ha)
  · rintro i x σ' H' H'' hi ⟨u, v, rfl, eH, wH⟩ ⟨Tt, x', y', rfl, hT, rfl, hx', hy'⟩
    cases hx'
    rw [hlb] at hi
    have hb : bs[i]? = some (bs.getD i false) ∧ y' = .bl (bs.getD i false) := by
      have hy' : (bs.map V.bl)[i]? = some y' := hy'
      rw [List.getElem?_map] at hy'
      cases q : bs[i]? with
      | none => rw [q] at hy'; cases hy'
      | some b =>
        rw [q] at hy'
        rw [getD_at q]
        exact ⟨rfl, (Option.some.inj hy').symm⟩
    obtain ⟨hb1, rfl⟩ := hb
    have eT : Ex H' (upd H' Tt (.tup [.int ((i : Nat) : Int), .bl (bs.getD i false)])) := Ex.new hT
    refine g_two (st_of upd_same) ?_
    refine s_when (et_B (ev_var rfl)) (fun hc H2 e2 => ?_) (fun hc H2 e2 => ?_)
    · have w2 := (wH.mono eT).mono e2
      obtain ⟨q, hq, ys, hys, hrow⟩ := w2.rw_.get' (tabL_at hi)
      refine ⟨by show 0 ≤ sizeLine; decide, fun t ht => ?_⟩
      have et : Ex H2 (upd H2 t (.tup [])) := Ex.new ht
      have w3 := w2.mono et
      refine ⟨_, rfl, _, rfl, p, _, (i : Int), .ref q, rfl, rfl, sq_of w3.at_, atI_nat (by rw [List.getElem?_map, hq]; rfl), ⟨_, rfl, q, ys, (i : Int), i, rfl, rfl, et _ _ hys, ixN_nat (by rw [rowP_len hrow]; exact hi), ?_⟩⟩
      have hyq : H q = none := w2.news q (List.mem_of_getElem? hq)
      refine ⟨_, _, rfl, (((eH.trans eT).trans e2).trans et).mut hyq, ?_⟩
      have w4 := w3.set (v := .ref t) (o := some []) hi hi hq (et _ _ hys) (rowP_mo ys _ _ et hrow) ⟨t, rfl, upd_same⟩
      have e : tabL bs.length (put2 (fun x y => if x ≤ i then stB bs x y else none) (i + 1) (i + 1) (some [])) = tabL bs.length fun x y => if x ≤ i + 1 then stB bs x y else none := tabL_congr fun a b ha hb => by
        show (if a + 1 = i + 1 ∧ b + 1 = i + 1 then some [] else if a + 1 ≤ i then stB bs (a + 1) (b + 1) else none) = if a + 1 ≤ i + 1 then stB bs (a + 1) (b + 1) else none
        by_cases c : a = i
        · subst c
          rw [if_neg (show ¬ a + 1 ≤ a by omega), if_pos (show a + 1 ≤ a + 1 by omega)]
          unfold stB
          rw [show a + 1 - 1 = a by omega]
          by_cases c2 : a = b
          · subst c2
            rw [if_pos ⟨rfl, rfl⟩, if_pos ⟨rfl, hc⟩]
          · rw [if_neg (by omega), if_neg (by omega)]
        · rw [if_neg (by omega)]
          by_cases c2 : a + 1 ≤ i
          · rw [if_pos c2, if_pos (by omega)]
          · rw [if_neg c2, if_neg (by omega)]
      rw [← e]
      exact w4
    · refine ⟨_, _, rfl, (eH.trans eT).trans e2, ?_⟩
      have e : tabL bs.length (fun x y => if x ≤ i then stB bs x y else none) = tabL bs.length fun x y => if x ≤ i + 1 then stB bs x y else none := tabL_congr fun a b ha hb => by
        by_cases c : a = i
        · subst c
          rw [if_neg (show ¬ a + 1 ≤ a by omega), if_pos (show a + 1 ≤ a + 1 by omega)]
          unfold stB
          rw [show a + 1 - 1 = a by omega, hc]
          exact (if_neg (by simp)).symm
        · by_cases c2 : a + 1 ≤ i
          · rw [if_pos c2, if_pos (by omega)]
          · rw [if_neg c2, if_neg (by omega)]
      rw [← e]
      exact (wH.mono eT).mono e2
  · rintro σ' H' ⟨u, v, rfl, eH, wH⟩
    refine s_ret (ev_var rfl) fun H2 e2 => k p H2 (eH.trans e2) ?_
    have e : tabL bs.length (fun x y => if x ≤ (bs.map V.bl).length then stB bs x y else none) = tabL bs.length (stB bs) := tabL_congr fun a b ha hb => if_pos (by rw [hlb]; omega)
    rw [e] at wH
    exact (wH.mono e2).tabN
def spStayW : Sp := fun vs H Q _ => ∃ n : Nat, vs = [.int (n : Int)] ∧ n ≤ 100 ∧ RetT n tStay H Q
theorem cal_stay_ways (T : Tx K mg C_Graph C_Line C_Reader a_CALLS) : Cal P w K mg base 3 "stay_ways" spStayW [] := by
  refine T.d_stay_ways.cal sc_stay_ways (fun vs H Q E h => by obtain ⟨n, rfl, _⟩ := h; rfl) (fun f cdv A outer s H vs Q E hr h => ⟨_, (pss_one (ps_ret (pe_c (cal_staying T) hr (by decide) rfl (pa_cons (pe_op op_rep (pe_lst (pa_cons pe_bl pa_nil)) (pv 0)) pa_nil)))), ?_⟩)
  obtain ⟨n, rfl, hn, k⟩ := h
  have hrep : List.replicate n (V.bl true) = (List.replicate n true).map V.bl := by rw [List.map_replicate]
  refine el_rep (K := K) (n := n) (el_lst (ea_cons ev_c ea_nil) (by show 1 ≤ 100000; decide)) (ev_var rfl) (by omega) H (Ex.refl _) _ fun a H1 ha e1 h1 => ?_
  rw [hrep] at h1
  refine ⟨a, List.replicate n true, rfl, h1, by simpa using hn, fun p H2 e2 t2 => k p H2 (e1.trans e2) ?_⟩
  rw [List.length_replicate] at t2
  have e : tabL n (stB (List.replicate n true)) = tabL n tStay := tabL_congr fun i j hi hj => by
    unfold stB tStay
    rw [show i + 1 - 1 = i by omega, List.getD_eq_getElem?_getD, List.getElem?_replicate, if_pos hi]
    by_cases c : i + 1 = j + 1
    · rw [if_pos ⟨c, rfl⟩, if_pos c]
    · rw [if_neg (fun z => c z.1), if_neg c]
  rw [e] at t2
  exact t2.back e1
def stP (num : Nat) (ps : List (Nat × Nat)) : T2 := fun x y => if ps.contains (x, y) = true then some [(num, y)] else none
def spStepsW : Sp := fun vs H Q _ => ∃ (a : Addr) (n num : Nat) (ps : List (Nat × Nat)), vs = [.int (n : Int), .int (num : Int), .ref a] ∧ PrAt H a ps ∧ n ≤ 100 ∧ ps.length ≤ 100 ∧ (∀ p ∈ ps, 1 ≤ p.1 ∧ p.1 ≤ n ∧ 1 ≤ p.2 ∧ p.2 ≤ n) ∧ RetT n (stP num ps) H Q
theorem cal_steps_ways (T : Tx K mg C_Graph C_Line C_Reader a_CALLS) : Cal P w K mg base 2 "steps_ways" spStepsW [] := by
  refine T.d_steps_ways.cal sc_steps_ways (fun vs H Q E h => by obtain ⟨a, n, num, ps, rfl, _⟩ := h; rfl) (fun f cdv A outer s H vs Q E hr h => ⟨_, (pss_cons (ps_set (i := 3) sc_steps_ways.nd rfl (Or.inl rfl) (pe_c (cal_no_ways T) hr (by decide) rfl (pa_cons (pv 0) pa_nil)))
      (pss_cons (ps_for PassesOwn.never rfl (pi_list (pv 2)) (pg_tup rfl (pgs_cons (pg_name (i := 4) sc_steps_ways.nd rfl (Or.inl rfl)) (pgs_cons (pg_name (i := 5) sc_steps_ways.nd rfl (Or.inl rfl)) pgs_nil))) (pss_one (ps_asg (pe_tup (pa_cons (pv 1) (pa_cons (pv 5) pa_nil))) (pg_sub (pe_ix ix_list (pv 3) (pe_op op_sub (pv 4) pe_int) (fun _ _ => rfl)) (pe_op op_sub (pv 5) pe_int) set_list))))
      (pss_one (ps_ret (pv 3))))), ?_⟩)
  obtain ⟨a, n, num, ps, rfl, ⟨ts, h1, h2⟩, hn, hm, hv, k⟩ := h
  refine ⟨_, rfl, n, rfl, hn, fun p qs H1 e1 w1 => ?_⟩
  refine q_forL (K := K) (ev_var rfl) (sq_of (e1 _ _ h1)) (fun i σ' H' => ∃ u v, σ' = [some (.int (n : Int)), some (.int (num : Int)), some (.ref a), some (.ref p), u, v] ∧ Ex H H' ∧ TabW H H' p qs (tabL n (stP num (ps.take i)))) (fun H2 e2 => ⟨none, none, rfl, e1.trans e2, ?_⟩) (fun i σ' H' _ ⟨_, _, _, e, _⟩ => sq_of (e _ _ h1)) ?_ ?_
  · have e : tabL n (stP num (ps.take 0)) = tabL n fun _ _ => none := tabL_congr fun i j _ _ => rfl
    rw [e]
    exact w1.mono e2
  · rintro i x σ' H' hi ⟨u, v, rfl, eH, wH⟩
    obtain ⟨t, pr, rfl, ht, hpi, hT⟩ := f2_ref h2 hi
    obtain ⟨px, py⟩ := pr
    have hb := hv (px, py) (List.mem_of_getElem? hpi)
    obtain ⟨x', rfl⟩ : ∃ x', px = x' + 1 := ⟨px - 1, by have := hb.1; simp at this; omega⟩
    obtain ⟨y', rfl⟩ : ∃ y', py = y' + 1 := ⟨py - 1, by have := hb.2.2.1; simp at this; omega⟩
    have hx' : x' < n := by have := hb.2.1; simp at this; omega
    have hy' : y' < n := by have := hb.2.2.2; simp at this; omega
    refine g_two (st_of (eH _ _ hT)) ?_
    obtain ⟨q, hq, ys, hys, hrow⟩ := wH.rw_.get' (tabL_at hx')
    refine ⟨_, rfl, _, rfl, sz2, fun t ht => ?_⟩
    have et : Ex H' (upd H' t (.tup [.int (num : Int), .int ((y' + 1 : Nat) : Int)])) := Ex.new ht
    have w3 := wH.mono et
    have hxi : ((x' + 1 : Nat) : Int) - 1 = (x' : Int) := by omega
    have hyi : ((y' + 1 : Nat) : Int) - 1 = (y' : Int) := by omega
    refine ⟨_, rfl, _, rfl, _, _, rfl, rfl, p, _, _, .ref q, rfl, rfl, sq_of w3.at_, ?_, ⟨_, rfl, _, _, rfl, rfl, q, ys, _, y', rfl, rfl, et _ _ hys, ?_, ?_⟩⟩
    · rw [hxi]
      exact atI_nat (by rw [List.getElem?_map, hq]; rfl)
    · rw [hyi]
      exact ixN_nat (by rw [rowP_len hrow]; exact hy')
    · refine ⟨_, _, rfl, (eH.trans et).mut (wH.news q (List.mem_of_getElem? hq)), ?_⟩
      have w4 := w3.set (v := .ref t) (o := some [(num, y' + 1)]) hx' hy' hq (et _ _ hys) (rowP_mo ys _ _ et hrow) ⟨t, rfl, upd_same⟩
      have e : tabL n (put2 (stP num (ps.take i)) (x' + 1) (y' + 1) (some [(num, y' + 1)])) = tabL n (stP num (ps.take (i + 1))) := tabL_congr fun a b ha hb => by
        unfold put2 stP
        rw [List.take_add_one, hpi]
        by_cases c : a + 1 = x' + 1 ∧ b + 1 = y' + 1
        · rw [if_pos c, c.1, c.2, if_pos (by rw [List.contains_iff_mem]; simp)]
        · rw [if_neg c]
          have : (ps.take i ++ (some (x' + 1, y' + 1)).toList).contains (a + 1, b + 1) = (ps.take i).contains (a + 1, b + 1) := by
            rw [Bool.eq_iff_iff, List.contains_iff_mem, List.contains_iff_mem, List.mem_append]
            simp
            omega
          rw [this]
      rw [← e]
      exact w4
  · rintro σ' H' ⟨u, v, rfl, eH, wH⟩
    refine s_ret (ev_var rfl) fun H2 e2 => k p H2 (eH.trans e2) ?_
    rw [List.length_map, h2.len, List.take_length] at wH
    exact (wH.mono e2).tabN
end
end WG
namespace WG
open PySem PySem.Spec
open PyProof.Rows
open L2 hiding CX0 E0 pass0 Fun
open C8 Evl WM
open Gq01 (Way pick joined earlier better)
/-! ### peeling a reading -/
section
variable {σ : L2.St} {H : Hp} {te : TE} {tz : TS} {D : Ends} {i : Nat} {Q : VK} {E : XK} {sp : Sp} {r : List V → Hp → VK → Prop}
theorem x_asg (h : te σ H fun v H1 => tz D (σ.set i (some v)) H1) : tSeq (tAsg te (gName i)) tz D σ H := h
theorem x_ret (h : te σ H D.rt) : tRet te D σ H := h
theorem x_call1 (h : te σ H fun v H1 => sp [v] H1 Q E) : tCall sp [] E (tCons te tNil) σ H Q := h
theorem x_cb1 (h : te σ H fun v H1 => r [v] H1 Q) : tCB r (tCons te tNil) σ H Q := h
end
def TB (b : Nat) (t : T2) : Prop := ∀ x y, WB b (t x y)
section
variable {P : Program} {w : World} {K : PySem.W.Frag} {mg : Str → Option Value} {base : Heap} {C_Graph C_Line C_Reader a_CALLS : Addr}
/-- what row_in_order has found behind i nodes -/
def sqUp (r : Nat → Option Way) (t : T2) (i y : Nat) : Option Way := ((List.range i).map fun z => joined (r (z + 1)) (t (z + 1) y)).foldl pick none
theorem sqUp_succ (r : Nat → Option Way) (t : T2) (i y : Nat) : sqUp r t (i + 1) y = pick (sqUp r t i y) (joined (r (i + 1)) (t (i + 1) y)) := by
  unfold sqUp
  rw [List.range_succ, List.map_append, List.foldl_append]
  rfl
def spRowSq : Sp := fun vs H Q _ => ∃ (a b : Addr) (n : Nat) (r : Nat → Option Way) (t : T2), vs = [.ref a, .ref b] ∧ n ≤ 100 ∧ RowAt H a (rowL n r) ∧ TabAt H b (tabL n t) ∧ (∀ z, WB 4000000 (r z)) ∧ TB 4000000 t ∧ ∀ p ys H', H p = none → Ex H H' → H' p = some (.lst ys) → RowP (rowL n (sqUp r t n)) ys H' → Q (.ref p) H'
theorem cal_row_in_order (T : Tx K mg C_Graph C_Line C_Reader a_CALLS) : Cal P w K mg base 3 "row_in_order" spRowSq [] := by
  refine T.d_row_in_order.cal sc_row_in_order (fun vs H Q E h => by obtain ⟨a, b, n, r, t, rfl, _⟩ := h; rfl) (fun f cdv A outer s H vs Q E hr h => ⟨_, (pss_cons (ps_set (i := 2) sc_row_in_order.nd rfl (Or.inl rfl) (pe_op op_rep (pe_lst (pa_cons pe_non pa_nil)) (pe_callB call_len_seq (by rfl) T.b_len PySem.boot_len (pa_cons (pv 0) pa_nil))))
      (pss_cons (ps_for PassesOwn.never rfl (pi_zip rfl T.b_zip (pa_cons (pv 0) (pa_cons (pv 1) pa_nil))) (pg_tup rfl (pgs_cons (pg_name (i := 3) sc_row_in_order.nd rfl (Or.inr rfl)) (pgs_cons (pg_name (i := 4) sc_row_in_order.nd rfl (Or.inl rfl)) pgs_nil))) (pss_one (ps_if (pt_cmpR op_notN (pv 3) pe_non (nomark _)) (pss_one (ps_setLc (i := 2) (own := [("known", 5), ("second", 6)]) (g := (gTup K 2 (gCons (gName 5) (gCons (gName 6) gNil)))) rfl sc_row_in_order.nd rfl rfl (sw_true rfl rfl rfl (by decide +kernel)) (pi_zip rfl T.b_zip (pa_cons (pv 2) (pa_cons (pv 4) pa_nil))) (blkOk_by (own := [("known", 5), ("second", 6)]) (N := N_row_in_order) (sc := fnScope s_row_in_order) (by decide +kernel)) (fun _ _ _ _ _ => (pg_tup rfl (pgs_cons (pg_name (i := 5) sc_row_in_order.nd rfl (Or.inl rfl)) (pgs_cons (pg_name (i := 6) sc_row_in_order.nd rfl (Or.inl rfl)) pgs_nil)))) (fun _ _ _ _ _ => pts_nil) (fun _ _ _ _ _ => (pe_c (cal_shortest_over T) hr (by decide) rfl (pa_cons (pv 5) (pa_cons (pv 3) (pa_cons (pv 6) pa_nil))))))) pss_nil)))
      (pss_one (ps_ret (pv 2))))), ?_⟩)
  obtain ⟨a, b, n, r, t, rfl, hn, ⟨ys, hys, hrow⟩, ⟨qs, hqs, hF⟩, wr, wt, k⟩ := h
  have hly := rowP_len hrow
  have hlq : (qs.map V.ref).length = n := by rw [List.length_map, hF.len, tabL_len]
  refine q_asgL (el_rep (K := K) (n := n) (el_lst (ea_cons ev_c ea_nil) (by show 1 ≤ 100000; decide)) (ev_lenI (K := K) (ev_var rfl) hys hly) (by omega)) fun p0 H1 hp0 e1 h1 => ?_
  refine ⟨_, rfl, _, rfl, a, b, ys, qs.map V.ref, rfl, sq_of (e1 _ _ hys), sq_of (e1 _ _ hqs), for_it (walk_zip (K := K) (a := a) (b := b) (xs := ys) (ys := qs.map V.ref) (n := n) (by rw [hly, hlq, Nat.min_self])) (fun i σ' H' => ∃ (p : Addr) (zs : List V) (u3 u4 u5 u6 : Option V), σ' = [some (.ref a), some (.ref b), some (.ref p), u3, u4, u5, u6] ∧ Ex H H' ∧ H p = none ∧ H' p = some (.lst zs) ∧ RowP (rowL n (sqUp r t i)) zs H') ?_ ?_ ?_ ?_⟩
  · exact ⟨p0, _, none, none, none, none, rfl, e1, hp0, h1, rowP_rep n H1⟩
  · rintro i σ' H' _ ⟨p, zs, u3, u4, u5, u6, rfl, eH, _⟩
    exact ⟨sq_of (eH _ _ hys), sq_of (eH _ _ hqs)⟩
  · rintro i x σ' H' H'' hi ⟨p, zs, u3, u4, u5, u6, rfl, eH, hp, hzs, hz⟩ ⟨Tt, x', y', rfl, hT, rfl, hx', hy'⟩
    have hx' : ys[i]? = some x' := hx'
    have hy' : (qs.map V.ref)[i]? = some y' := hy'
    obtain ⟨q, row, rfl, hq, hrw, hqr⟩ := f2_ref hF hy'
    obtain ⟨_, rfl⟩ := tabL_of hrw
    obtain ⟨_, hway⟩ := rowP_at hrow hx'
    have eT : Ex H' (upd H' Tt (.tup [x', .ref q])) := Ex.new hT
    refine g_two (st_of upd_same) ?_
    have eHT := eH.trans eT
    cases hr1 : r (i + 1) with
    | none =>
      rw [hr1] at hway
      obtain rfl : x' = .non := hway
      refine s_when (et_test (ev_op (ev_var rfl) ev_c (rv_notNb (b := false) rfl))) (fun hc _ _ => by cases hc) (fun _ H2 e2 => ?_)
      refine ⟨p, zs, _, _, _, _, rfl, eHT.trans e2, hp, e2 _ _ (eT _ _ hzs), ?_⟩
      have e : rowL n (sqUp r t (i + 1)) = rowL n (sqUp r t i) := rowL_congr fun j hj => by
        rw [sqUp_succ, hr1]
        exact pick_none _
      rw [e]
      exact rowP_mo zs _ _ (eT.trans e2) hz
    | some v1 =>
      have hway' := hway
      rw [hr1] at hway'
      obtain ⟨tt, rfl, htt⟩ := hway'
      refine s_when (et_test (ev_op (ev_var rfl) ev_c (rv_notNb (b := true) rfl))) (fun hc H2 e2 => ?_) (fun hc _ _ => by cases hc)
      have eH2 := eHT.trans e2
      have e02 := eT.trans e2
      obtain ⟨qy, hqy, hqrow⟩ := hqr.mono eH2
      have hz2 := rowP_mo zs _ _ e02 hz
      refine er_lcZ (K := K) (a := p) (b := q) (xs := zs) (ys := qy) (fun _ => true) (fun j => WayR (sqUp r t (i + 1) (j + 1))) (fun j => wayR_mo) (fun j => wayR_st) (fun H3 e3 Q q => ⟨_, rfl, _, rfl, q H3 (Ex.refl _)⟩) (fun H3 e3 => ⟨sq_of (e3 _ _ (e02 _ _ hzs)), sq_of (e3 _ _ hqy)⟩) (by rw [rowP_len hz2]; omega) (fun x y => rfl) (fun j x y H3 e3 hxj hyj => ⟨eb_yes, fun _ H4 e4 Q4 k4 => ?_⟩) H2 (Ex.refl _) _ fun p' ys' H5 hp' e5 h5 out => ?_
      · obtain ⟨hj, wx⟩ := rowP_at hz2 hxj
        obtain ⟨_, wy⟩ := rowP_at hqrow hyj
        have e34 := e3.trans e4
        refine ⟨_, rfl, _, rfl, _, rfl, sqUp r t i (j + 1), r (i + 1), t (i + 1) (j + 1), x, .ref tt, y, rfl, wayR_mo _ _ _ e34 wx, wayR_mo _ _ _ (eH2.trans e34) hway, wayR_mo _ _ _ e34 wy, wr _, wt _ _, fun z H6 e6 r6 => k4 z H6 e6 ?_⟩
        rw [sqUp_succ]
        exact r6
      · rw [rowP_len hz2, rowP_len hqrow, Nat.min_self] at out
        exact ⟨p', ys', _, _, _, _, rfl, eH2.trans e5, fresh_back eH2 hp', h5, out_row out⟩
  · rintro σ' H' ⟨p, zs, u3, u4, u5, u6, rfl, eH, hp, hzs, hz⟩
    exact s_ret (ev_var rfl) fun H2 e2 => k p zs H2 hp (eH.trans e2) (e2 _ _ hzs) (rowP_mo zs _ _ e2 hz)
def spTT (b : Nat) (g : Nat → T2 → T2 → T2) : Sp := fun vs H Q _ => ∃ (p q : Addr) (n : Nat) (t u : T2), vs = [.ref p, .ref q] ∧ n ≤ 100 ∧ TabAt H p (tabL n t) ∧ TabAt H q (tabL n u) ∧ TB b t ∧ TB b u ∧ RetT n (g n t u) H Q
/-- a row of new rows -/
theorem outL_tab {n : Nat} {t : T2} {p : Addr} {ys : List V} {H0 H : Hp} (hp : H0 p = none) (h1 : H p = some (.lst ys)) (h : OutL (fun i zs H => RowP (rowL n (t (i + 1))) zs H) n ys H) (hn : ∀ y ∈ ys, ∀ q, y = V.ref q → H0 q = none) : TabN H0 H p (tabL n t) := by
  have h2 : F2 (fun i y => y ∈ ys ∧ ∃ q zs, y = V.ref q ∧ H q = some (.lst zs) ∧ RowP (rowL n (t (i + 1))) zs H) (List.range n) ys := by
    have aux : ∀ (l : List Nat) (zs : List V), (∀ y ∈ zs, y ∈ ys) → F2 (fun i y => ∃ q zs, y = V.ref q ∧ H q = some (.lst zs) ∧ RowP (rowL n (t (i + 1))) zs H) l zs → F2 (fun i y => y ∈ ys ∧ ∃ q zs, y = V.ref q ∧ H q = some (.lst zs) ∧ RowP (rowL n (t (i + 1))) zs H) l zs := fun l zs hs hf => by
      induction hf with
      | nil => exact .nil
      | cons r _ ih => exact .cons ⟨hs _ (List.mem_cons_self ..), r⟩ (ih fun y hy => hs y (List.mem_cons_of_mem _ hy))
    exact aux _ _ (fun y hy => hy) h
  exact out_tab hp h1 (h2.imp fun i y _ ⟨hm, q, zs, e1, e2, e3⟩ => ⟨q, zs, e1, hn y hm q e1, e2, e3⟩)
/-- a new row that H0 doesn't know -/
def RowF (H0 : Hp) (D : Addr) (row : List (Option Way)) : Rp := fun v H => ∃ q zs, v = .ref q ∧ q ≠ D ∧ H0 q = none ∧ H q = some (.lst zs) ∧ RowP row zs H
theorem rowF_mo {H0 : Hp} {D : Addr} {row : List (Option Way)} : Mo Ex (RowF H0 D row) := fun v H H' e ⟨q, zs, e1, e2, e3, e4, e5⟩ => ⟨q, zs, e1, e2, e3, e _ _ e4, rowP_mo zs H H' e e5⟩
theorem rowF_st {H0 : Hp} {D : Addr} {row : List (Option Way)} {v : V} {H : Hp} {xs ys : List V} (r : RowF H0 D row v H) (hD : H D = some (.lst xs)) : RowF H0 D row v (upd H D (.lst ys)) := by
  obtain ⟨q, zs, e1, e2, e3, e4, e5⟩ := r
  exact ⟨q, zs, e1, e2, e3, (upd_ne e2).trans e4, rowP_st zs H D xs ys e5 hD⟩
theorem rowF_tab {n : Nat} {t : T2} {p D : Addr} {ys : List V} {H0 H : Hp} (hp : H0 p = none) (h1 : H p = some (.lst ys)) (h : F2 (fun i y => RowF H0 D (rowL n (t (i + 1))) y H) (List.range n) ys) : TabN H0 H p (tabL n t) := out_tab hp h1 (h.imp fun i y _ ⟨q, zs, e1, _, e3, e4, e5⟩ => ⟨q, zs, e1, e3, e4, e5⟩)
theorem cal_in_order_ways (T : Tx K mg C_Graph C_Line C_Reader a_CALLS) : Cal P w K mg base 4 "in_order_ways" (spTT 4000000 tSq) [] := by
  refine T.d_in_order_ways.cal sc_in_order_ways (fun vs H Q E h => by obtain ⟨p, q, n, t, u, rfl, _⟩ := h; rfl) (fun f cdv A outer s H vs Q E hr h => ⟨_, (pss_one (ps_ret (pe_lc (own := [("row", 2)]) (g := (gName 2)) rfl sc_in_order_ways.nd (pi_list (pv 0)) (blkOk_by (own := [("row", 2)]) (N := N_in_order_ways) (sc := fnScope s_in_order_ways) (by decide +kernel)) (fun _ _ _ _ _ => (pg_name (i := 2) sc_in_order_ways.nd rfl (Or.inl rfl))) (fun _ _ _ _ _ => pts_nil) (fun _ _ _ _ _ => (pe_c (cal_row_in_order T) hr (by decide) rfl (pa_cons (pv 2) (pa_cons (pv 1) pa_nil))))))), ?_⟩)
  obtain ⟨p, q, n, t, u, rfl, hn, ⟨qs, hqs, hF⟩, hu, bt, bu, k⟩ := h
  have hlq : (qs.map V.ref).length = n := by rw [List.length_map, hF.len, tabL_len]
  refine ⟨_, rfl, p, rfl, ⟨_, sq_of hqs⟩, fun D hD => lc_gen (walk_list (K := K) (xs := qs.map V.ref)) hD (fun _ => true) (fun i => RowF H D (rowL n (tSq n t u (i + 1)))) (fun i => rowF_mo) (fun i y H xs ys r hd => rowF_st r hd) (by omega) (fun H' e' => sq_of (e' _ _ hqs)) (fun i x H' H'' hi e' hDl y Q1 k1 => ?_) fun H' ys e' h' out => ?_⟩
  · obtain ⟨rfl, hy⟩ := y
    obtain ⟨q', row, rfl, hq', hrw, hqr⟩ := f2_ref hF hy
    obtain ⟨hin, rfl⟩ := tabL_of hrw
    refine k1 _ _ rfl (Ex.refl _) eb_yes fun _ H4 e4 Q4 k4 => ?_
    have e04 := e'.trans e4
    refine ⟨_, rfl, _, rfl, q', q, n, t (i + 1), u, rfl, hn, hqr.mono e04, hu.mono e04, fun z => bt _ z, bu, fun p' ys' H5 hp' e5 h5 r5 => k4 _ H5 e5 ⟨p', ys', rfl, fun z => ?_, fresh_back e04 hp', h5, r5⟩⟩
    obtain ⟨xs, hDl⟩ := hDl
    rw [z, e4 _ _ hDl] at hp'
    cases hp'
  · rw [hlq, rng_all] at out
    exact k D H' e' (rowF_tab hD h' out)
def spRowAlt : Sp := fun vs H Q _ => ∃ (a b : Addr) (n : Nat) (r s : Nat → Option Way), vs = [.ref a, .ref b] ∧ n ≤ 100 ∧ RowAt H a (rowL n r) ∧ RowAt H b (rowL n s) ∧ ∀ p ys H', H p = none → Ex H H' → H' p = some (.lst ys) → RowP (rowL n fun y => pick (r y) (s y)) ys H' → Q (.ref p) H'
theorem cal_row_either (T : Tx K mg C_Graph C_Line C_Reader a_CALLS) : Cal P w K mg base 2 "row_either" spRowAlt [] := by
  refine T.d_row_either.cal sc_row_either (fun vs H Q E h => by obtain ⟨a, b, n, r, s, rfl, _⟩ := h; rfl) (fun f cdv A outer s H vs Q E hr h => ⟨_, (pss_one (ps_ret (pe_lc (own := [("one", 2), ("other", 3)]) (g := (gTup K 2 (gCons (gName 2) (gCons (gName 3) gNil)))) rfl sc_row_either.nd (pi_zip rfl T.b_zip (pa_cons (pv 0) (pa_cons (pv 1) pa_nil))) (blkOk_by (own := [("one", 2), ("other", 3)]) (N := N_row_either) (sc := fnScope s_row_either) (by decide +kernel)) (fun _ _ _ _ _ => (pg_tup rfl (pgs_cons (pg_name (i := 2) sc_row_either.nd rfl (Or.inl rfl)) (pgs_cons (pg_name (i := 3) sc_row_either.nd rfl (Or.inl rfl)) pgs_nil)))) (fun _ _ _ _ _ => pts_nil) (fun _ _ _ _ _ => (pe_c (cal_shortest T) hr (by decide) rfl (pa_cons (pv 2) (pa_cons (pv 3) pa_nil))))))), ?_⟩)
  obtain ⟨a, b, n, r, s', rfl, hn, ⟨ys, hys, hr1⟩, ⟨zs, hzs, hr2⟩, k⟩ := h
  refine er_lcZ (K := K) (a := a) (b := b) (xs := ys) (ys := zs) (fun _ => true) (fun j => WayR (pick (r (j + 1)) (s' (j + 1)))) (fun j => wayR_mo) (fun j => wayR_st) (fun H3 e3 Q q => ⟨_, rfl, _, rfl, q H3 (Ex.refl _)⟩) (fun H3 e3 => ⟨sq_of (e3 _ _ hys), sq_of (e3 _ _ hzs)⟩) (by rw [rowP_len hr1]; omega) (fun x y => rfl) (fun j x y H3 e3 hxj hyj => ⟨eb_yes, fun _ H4 e4 Q4 k4 => ?_⟩) H (Ex.refl _) _ fun p' ys' H5 hp' e5 h5 out => ?_
  · obtain ⟨hj, wx⟩ := rowP_at hr1 hxj
    obtain ⟨_, wy⟩ := rowP_at hr2 hyj
    have e34 := e3.trans e4
    exact ⟨_, rfl, _, rfl, r (j + 1), s' (j + 1), x, y, rfl, wayR_mo _ _ _ e34 wx, wayR_mo _ _ _ e34 wy, k4⟩
  · rw [rowP_len hr1, rowP_len hr2, Nat.min_self] at out
    exact k p' ys' H5 hp' e5 h5 (out_row (g := fun y => pick (r y) (s' y)) out)
theorem cal_either_ways (T : Tx K mg C_Graph C_Line C_Reader a_CALLS) : Cal P w K mg base 3 "either_ways" (spTT 4000000 fun _ => tAlt) [] := by
  refine T.d_either_ways.cal sc_either_ways (fun vs H Q E h => by obtain ⟨p, q, n, t, u, rfl, _⟩ := h; rfl) (fun f cdv A outer s H vs Q E hr h => ⟨_, (pss_one (ps_ret (pe_lc (own := [("row", 2), ("other_row", 3)]) (g := (gTup K 2 (gCons (gName 2) (gCons (gName 3) gNil)))) rfl sc_either_ways.nd (pi_zip rfl T.b_zip (pa_cons (pv 0) (pa_cons (pv 1) pa_nil))) (blkOk_by (own := [("row", 2), ("other_row", 3)]) (N := N_either_ways) (sc := fnScope s_either_ways) (by decide +kernel)) (fun _ _ _ _ _ => (pg_tup rfl (pgs_cons (pg_name (i := 2) sc_either_ways.nd rfl (Or.inl rfl)) (pgs_cons (pg_name (i := 3) sc_either_ways.nd rfl (Or.inl rfl)) pgs_nil)))) (fun _ _ _ _ _ => pts_nil) (fun _ _ _ _ _ => (pe_c (cal_row_either T) hr (by decide) rfl (pa_cons (pv 2) (pa_cons (pv 3) pa_nil))))))), ?_⟩)
  obtain ⟨p, q, n, t, u, rfl, hn, ⟨qs, hqs, hF⟩, ⟨rs, hrs, hG⟩, bt, bu, k⟩ := h
  have hlq : (qs.map V.ref).length = n := by rw [List.length_map, hF.len, tabL_len]
  have hlr : (rs.map V.ref).length = n := by rw [List.length_map, hG.len, tabL_len]
  refine ⟨_, rfl, _, rfl, p, q, _, _, rfl, sq_of hqs, sq_of hrs, fun D hD => lc_gen (walk_zip (K := K) (xs := qs.map V.ref) (ys := rs.map V.ref) (n := n) (by rw [hlq, hlr, Nat.min_self])) hD (fun _ => true) (fun i => RowF H D (rowL n (tAlt t u (i + 1)))) (fun i => rowF_mo) (fun i y H xs ys r hd => rowF_st r hd) (by omega) (fun H' e' => ⟨sq_of (e' _ _ hqs), sq_of (e' _ _ hrs)⟩) (fun i x H' H'' hi e' hDl y Q1 k1 => ?_) fun H' ys e' h' out => ?_⟩
  · obtain ⟨Tt, x', y', rfl, hT, rfl, hx', hy'⟩ := y
    have hx' : (qs.map V.ref)[i]? = some x' := hx'
    have hy' : (rs.map V.ref)[i]? = some y' := hy'
    obtain ⟨q1, row, rfl, _, hrw, hq1⟩ := f2_ref hF hx'
    obtain ⟨hin, rfl⟩ := tabL_of hrw
    obtain ⟨q2, row, rfl, _, hrw, hq2⟩ := f2_ref hG hy'
    obtain ⟨_, rfl⟩ := tabL_of hrw
    have eT : Ex H' (upd H' Tt (.tup [.ref q1, .ref q2])) := Ex.new hT
    refine g_two (st_of upd_same) (k1 _ _ rfl eT eb_yes fun _ H4 e4 Q4 k4 => ?_)
    have e04 := (e'.trans eT).trans e4
    refine ⟨_, rfl, _, rfl, q1, q2, n, t (i + 1), u (i + 1), rfl, hn, hq1.mono e04, hq2.mono e04, fun p' ys' H5 hp' e5 h5 r5 => k4 _ H5 e5 ⟨p', ys', rfl, fun z => ?_, fresh_back e04 hp', h5, r5⟩⟩
    obtain ⟨xs, hDl⟩ := hDl
    rw [z, e4 _ _ (eT _ _ hDl)] at hp'
    cases hp'
  · rw [rng_all] at out
    exact k D H' e' (rowF_tab hD h' out)
def spJoinW : Sp := fun vs H Q _ => ∃ (p : Addr) (n m : Nat) (t : T2), vs = [.int (m : Int), .ref p] ∧ n ≤ 100 ∧ m < n ∧ TabAt H p (tabL n t) ∧ TB 4000000 t ∧ RetT n (tJoin (m + 1) t) H Q
theorem cal_joined_at_ways (T : Tx K mg C_Graph C_Line C_Reader a_CALLS) : Cal P w K mg base 3 "joined_at_ways" spJoinW [] := by
  refine T.d_joined_at_ways.cal sc_joined_at_ways (fun vs H Q E h => by obtain ⟨p, n, m, t, rfl, _⟩ := h; rfl) (fun f cdv A outer s H vs Q E hr h => ⟨_, (pss_cons (ps_set (i := 2) sc_joined_at_ways.nd rfl (Or.inl rfl) (pe_ix ix_list (pv 1) (pv 0) (fun _ _ => rfl)))
      (pss_cons (ps_set (i := 3) sc_joined_at_ways.nd rfl (Or.inl rfl) (pe_lst pa_nil))
      (pss_cons (ps_for PassesOwn.never rfl (pi_list (pv 1)) (pg_name (i := 4) sc_joined_at_ways.nd rfl (Or.inl rfl)) (pss_cons (ps_set (i := 5) sc_joined_at_ways.nd rfl (Or.inr rfl) (pe_ix ix_list (pv 4) (pv 0) (fun _ _ => rfl)))
      (pss_one (ps_expr (pe_bm PySem.F.plainAttrs_list PySem.F.slot_list_append PySem.F.type_list_append mt_append (pv 3) (pa_cons (pe_lc (own := [("known", 6), ("second", 7)]) (g := (gTup K 2 (gCons (gName 6) (gCons (gName 7) gNil)))) rfl sc_joined_at_ways.nd (pi_zip rfl T.b_zip (pa_cons (pv 4) (pa_cons (pv 2) pa_nil))) (blkOk_by (own := [("known", 6), ("second", 7)]) (N := N_joined_at_ways) (sc := fnScope s_joined_at_ways) (by decide +kernel)) (fun _ _ _ _ _ => (pg_tup rfl (pgs_cons (pg_name (i := 6) sc_joined_at_ways.nd rfl (Or.inl rfl)) (pgs_cons (pg_name (i := 7) sc_joined_at_ways.nd rfl (Or.inl rfl)) pgs_nil)))) (fun _ _ _ _ _ => pts_nil) (fun _ _ _ _ _ => (pe_c (cal_shortest_over T) hr (by decide) rfl (pa_cons (pv 6) (pa_cons (pv 5) (pa_cons (pv 7) pa_nil)))))) pa_nil))))))
      (pss_one (ps_ret (pv 3)))))), ?_⟩)
  obtain ⟨p, n, m, t, rfl, hn, hm, hT0, bt, k⟩ := h
  obtain ⟨xs, qb, hxs, hqb, hrowb⟩ := hT0.rowAt hm
  obtain ⟨qs, hqs, hF⟩ := hT0
  rw [hqs] at hxs
  obtain rfl : qs.map V.ref = xs := by cases hxs; rfl
  have hlq : (qs.map V.ref).length = n := by rw [List.length_map, hF.len, tabL_len]
  obtain ⟨zb, hzb, hrb⟩ := hrowb
  refine q_asg (ev_op (ev_var rfl) (ev_var rfl) (rv_ixL (K := K) (sq_of hqs) (atI_nat hqb))) fun H1 e1 => ?_
  refine q_asgL (el_lst ea_nil (by decide)) fun l H2 hl e2 h2 => ?_
  have hlH : H l = none := fresh_back e1 hl
  have e12 := e1.trans e2
  refine q_forLn (K := K) (ev_var rfl) (sq_of (e12 _ _ hqs)) (fun i σ' H' => ∃ (ys : List V) (u4 u5 u6 u7 : Option V), σ' = [some (.int (m : Int)), some (.ref p), some (.ref qb), some (.ref l), u4, u5, u6, u7] ∧ Ex H H' ∧ H' l = some (.lst ys) ∧ F2 (fun i y => RowF H l (rowL n (tJoin (m + 1) t (i + 1))) y H') (List.range i) ys) (fun H3 e3 => ⟨[], none, none, none, none, rfl, e12.trans e3, e3 _ _ h2, .nil⟩) (fun i σ' H' _ ⟨_, _, _, _, _, _, e, _⟩ => sq_of (e _ _ hqs)) ?_ ?_
  · rintro i x σ' H' hi ⟨ys, u4, u5, u6, u7, rfl, eH, hl', hout⟩
    obtain ⟨q, row, rfl, hq, hrw, ⟨zq, hzq, hrq⟩⟩ := f2_ref hF hi
    obtain ⟨hin, rfl⟩ := tabL_of hrw
    have hyl : ys.length = i := by rw [← hout.len, List.length_range]
    obtain ⟨vm, hvm, wvm⟩ := F2.get hrq (rowL_at hm)
    refine q_asg (ev_op (ev_var rfl) (ev_var rfl) (rv_ixL (K := K) (sq_of (eH _ _ hzq)) (atI_nat hvm))) fun H3 e3 => ?_
    have eH3 := eH.trans e3
    have hl3 := e3 _ _ hl'
    refine ⟨_, rfl, Or.inl ⟨rfl, ys, sq_of hl3⟩, er_lcZ (K := K) (a := q) (b := qb) (xs := zq) (ys := zb) (fun _ => true) (fun j => WayR (tJoin (m + 1) t (i + 1) (j + 1))) (fun j => wayR_mo) (fun j => wayR_st) (fun H4 e4 Q q => ⟨_, rfl, _, rfl, q H4 (Ex.refl _)⟩) (fun H4 e4 => ⟨sq_of (e4 _ _ (eH3 _ _ hzq)), sq_of (e4 _ _ (eH3 _ _ hzb))⟩) (by rw [rowP_len hrq]; omega) (fun x y => rfl) (fun j x y H4 e4 hxj hyj => ⟨eb_yes, fun _ H5 e5 Q5 k5 => ?_⟩) H3 (Ex.refl _) _ fun p' ys' H6 hp' e6 h6 out => ?_⟩
    · obtain ⟨hj, wx⟩ := rowP_at hrq hxj
      obtain ⟨_, wy⟩ := rowP_at hrb hyj
      have e05 := eH3.trans (e4.trans e5)
      exact ⟨_, rfl, _, rfl, _, rfl, t (i + 1) (j + 1), t (i + 1) (m + 1), t (m + 1) (j + 1), x, vm, y, rfl, wayR_mo _ _ _ e05 wx, wayR_mo _ _ _ e05 wvm, wayR_mo _ _ _ e05 wy, bt _ _, bt _ _, k5⟩
    · rw [rowP_len hrq, rowP_len hrb, Nat.min_self] at out
      have hl6 := e6 _ _ hl3
      have hne : p' ≠ l := fun z => by rw [z, hl3] at hp'; cases hp'
      have r6 : RowF H l (rowL n (tJoin (m + 1) t (i + 1))) (.ref p') H6 := ⟨p', ys', rfl, hne, fresh_back eH3 hp', h6, out_row out⟩
      refine ⟨l, ys, .ref p', rfl, rfl, hl6, sz_lt (by omega), ys ++ [.ref p'], _, _, _, _, rfl, (eH3.trans e6).mut hlH, upd_same, ?_⟩
      rw [List.range_succ]
      exact F2.snoc (hout.imp fun j y _ r => rowF_st (rowF_mo _ _ _ (e3.trans e6) r) hl6) (rowF_st r6 hl6)
  · rintro σ' H' ⟨ys, u4, u5, u6, u7, rfl, eH, hl', hout⟩
    rw [hlq] at hout
    exact s_ret (ev_var rfl) fun H3 e3 => k l H3 (eH.trans e3) ((rowF_tab hlH hl' hout).mono e3)
def spT1 (b : Nat) (g : Nat → T2 → T2) : Sp := fun vs H Q _ => ∃ (p : Addr) (n : Nat) (t : T2), vs = [.ref p] ∧ n ≤ 12 ∧ TabAt H p (tabL n t) ∧ TB b t ∧ RetT n (g n t) H Q
theorem TB.up {b : Nat} {t : T2} (h : TB b t) : ∀ k, TB (b * 2 ^ k) (tUp t k)
  | 0 => fun x y => by
    rw [Nat.pow_zero, Nat.mul_one]
    refine WB.pick (fun w e => ?_) (h x y)
    have e : (if x = y then some ([] : Way) else none) = some w := e
    by_cases c : x = y
    · rw [if_pos c] at e
      cases e
      exact Nat.zero_le _
    · rw [if_neg c] at e
      cases e
  | k + 1 => fun x y => by
    have ih := TB.up h k
    have e : b * 2 ^ (k + 1) = b * 2 ^ k + b * 2 ^ k := by rw [Nat.pow_succ, ← Nat.mul_assoc, Nat.mul_two]
    rw [e]
    exact WB.pick ((ih x y).mono (by omega)) (WB.joined (ih x _) (ih _ y))
theorem TB.mono {a b : Nat} {t : T2} (h : TB a t) (k : a ≤ b) : TB b t := fun x y => (h x y).mono k
theorem tb_stay : TB 0 tStay := fun x y w e => by
  have e : (if x = y then some ([] : Way) else none) = some w := e
  by_cases c : x = y
  · rw [if_pos c] at e
    cases e
    exact Nat.zero_le _
  · rw [if_neg c] at e
    cases e
theorem cal_again_ways (T : Tx K mg C_Graph C_Line C_Reader a_CALLS) : Cal P w K mg base 4 "again_ways" (spT1 800 fun n t => tUp t n) [] := by
  refine T.d_again_ways.cal sc_again_ways (fun vs H Q E h => by obtain ⟨p, n, t, rfl, _⟩ := h; rfl) (fun f cdv A outer s H vs Q E hr h => ⟨_, (pss_cons (ps_set (i := 1) sc_again_ways.nd rfl (Or.inl rfl) (pe_c (cal_either_ways T) hr (by decide) rfl (pa_cons (pe_c (cal_stay_ways T) hr (by decide) rfl (pa_cons (pe_callB call_len_seq (by rfl) T.b_len PySem.boot_len (pa_cons (pv 0) pa_nil)) pa_nil)) (pa_cons (pv 0) pa_nil))))
      (pss_cons (ps_for PassesOwn.never rfl (pi_range1 rfl T.b_range (pa_cons (pe_callB call_len_seq (by rfl) T.b_len PySem.boot_len (pa_cons (pv 0) pa_nil)) pa_nil)) (pg_name (i := 2) sc_again_ways.nd rfl (Or.inl rfl)) (pss_one (ps_set (i := 1) sc_again_ways.nd rfl (Or.inl rfl) (pe_c (cal_joined_at_ways T) hr (by decide) rfl (pa_cons (pv 2) (pa_cons (pv 1) pa_nil))))))
      (pss_one (ps_ret (pv 1))))), ?_⟩)
  obtain ⟨p, n, t, rfl, hn, hT0, bt, k⟩ := h
  obtain ⟨xs, hxs, hlx⟩ := hT0.len
  have hb : ∀ i, i ≤ n → TB 4000000 (tUp t i) := fun i hi => (bt.up i).mono (by
    have h1 : 2 ^ i ≤ 2 ^ 12 := Nat.pow_le_pow_right (by decide) (by omega)
    have h2 : 800 * 2 ^ i ≤ 800 * 2 ^ 12 := Nat.mul_le_mul_left _ h1
    omega)
  refine x_asg ?_
  refine ⟨_, rfl, p, xs, rfl, Or.inl (sq_of hxs), n, by rw [hlx]; rfl, by omega, fun p1 H1 e1 t1 => ⟨_, rfl, p1, p, n, tStay, t, rfl, by omega, t1.at_, hT0.mono e1, tb_stay.mono (by decide), bt.mono (by decide), fun p2 H2 e2 t2 => ?_⟩⟩
  have t2' := t2.back e1
  refine q_forR1 (n := (n : Int)) (fun H3 e3 Q q => ⟨_, rfl, p, xs, rfl, Or.inl (sq_of (e3 _ _ ((e1.trans e2) _ _ hxs))), by rw [hlx]; exact q H3 (Ex.refl _)⟩) ⟨by omega, by omega⟩ (fun i σ' H' => ∃ r v, σ' = [some (.ref p), some (.ref r), v] ∧ Ex H H' ∧ TabN H H' r (tabL n (tUp t i))) (fun H3 e3 => ⟨p2, none, rfl, (e1.trans e2).trans e3, t2'.mono e3⟩) ?_ ?_
  · rintro i σ' H' hi ⟨r, v, rfl, eH, hR⟩
    refine ⟨_, rfl, _, rfl, r, n, i, tUp t i, rfl, by omega, by omega, hR.at_, hb i (by omega), fun p' H3 e3 t3 => ⟨p', _, rfl, eH.trans e3, t3.back eH⟩⟩
  · rintro σ' H' ⟨r, v, rfl, eH, hR⟩
    rw [Int.toNat_natCast] at hR
    exact s_ret (ev_var rfl) fun H3 e3 => k r H3 (eH.trans e3) (hR.mono e3)
def spHasWay : Sp := fun vs H Q _ => ∃ (a : Addr) (n : Nat) (r : Nat → Option Way), vs = [.ref a] ∧ n ≤ 100 ∧ RowAt H a (rowL n r) ∧ ∀ H', Ex H H' → Q (.bl ((List.range n).any fun z => (r (z + 1)).isSome)) H'
theorem wayR_non {o : Option Way} {v : V} {H : Hp} (h : WayR o v H) : decide (v = V.non) = !o.isSome := by
  cases o with
  | none =>
    obtain rfl : v = .non := h
    rfl
  | some w =>
    obtain ⟨t, rfl, _⟩ := h
    rfl
theorem cal_has_way (T : Tx K mg C_Graph C_Line C_Reader a_CALLS) : Cal P w K mg base 1 "has_way" spHasWay [] := by
  refine T.d_has_way.cal sc_has_way (fun vs H Q E h => by obtain ⟨a, n, r, rfl, _⟩ := h; rfl) (fun f cdv A outer s H vs Q E hr h => ⟨_, (pss_one (ps_ret (pe_callB (cr_any rfl) (by rfl) T.b_any (by decide +kernel) (pa_cons (pe_lc (own := [("way", 1)]) (g := (gName 1)) rfl sc_has_way.nd (pi_list (pv 0)) (blkOk_by (own := [("way", 1)]) (N := N_has_way) (sc := fnScope s_has_way) (by decide +kernel)) (fun _ _ _ _ _ => (pg_name (i := 1) sc_has_way.nd rfl (Or.inl rfl))) (fun _ _ _ _ _ => pts_nil) (fun _ _ _ _ _ => (pe_cmpR op_notN (pv 1) pe_non (nomark _)))) pa_nil)))), ?_⟩)
  obtain ⟨a, n, r, rfl, hn, ⟨ys, hys, hrow⟩, k⟩ := h
  refine x_ret (x_cb1 ?_)
  refine er_lcL (K := K) (a := a) (xs := ys) (fun _ => true) (fun i v _ => v = .bl (r (i + 1)).isSome) (fun i v H H' _ r => r) (fun i v H p xs ys r _ => r) (ev_var rfl) (fun H1 e1 => sq_of (e1 _ _ hys)) (by rw [rowP_len hrow]; omega) (fun x => rfl) (fun i x H1 e1 hi => ⟨eb_yes, fun _ => EvR.of (ev_op (ev_var rfl) ev_c (rv_notNb (wayR_non (rowP_at hrow hi).2))) fun _ _ => rfl⟩) H (Ex.refl _) _ fun p zs H1 hp e1 h1 out => ?_
  rw [OutR, rng_all, rowP_len hrow] at out
  have hz := F2.eq out
  refine ⟨p, (List.range n).map fun i => (r (i + 1)).isSome, rfl, ?_, ?_⟩
  · rw [hz] at h1
    rw [List.map_map]
    exact sq_of h1
  · rw [List.any_map]
    exact k H1 e1
theorem cal_has_ways (T : Tx K mg C_Graph C_Line C_Reader a_CALLS) : Cal P w K mg base 3 "has_ways" (spT1 4000000 tHas) [] := by
  refine T.d_has_ways.cal sc_has_ways (fun vs H Q E h => by obtain ⟨p, n, t, rfl, _⟩ := h; rfl) (fun f cdv A outer s H vs Q E hr h => ⟨_, (pss_one (ps_ret (pe_c (cal_staying T) hr (by decide) rfl (pa_cons (pe_lc (own := [("row", 1)]) (g := (gName 1)) rfl sc_has_ways.nd (pi_list (pv 0)) (blkOk_by (own := [("row", 1)]) (N := N_has_ways) (sc := fnScope s_has_ways) (by decide +kernel)) (fun _ _ _ _ _ => (pg_name (i := 1) sc_has_ways.nd rfl (Or.inl rfl))) (fun _ _ _ _ _ => pts_nil) (fun _ _ _ _ _ => (pe_c (cal_has_way T) hr (by decide) rfl (pa_cons (pv 1) pa_nil)))) pa_nil)))), ?_⟩)
  obtain ⟨p, n, t, rfl, hn, ⟨qs, hqs, hF⟩, bt, k⟩ := h
  have hlq : (qs.map V.ref).length = n := by rw [List.length_map, hF.len, tabL_len]
  refine x_ret (x_call1 ?_)
  refine er_lcL (K := K) (a := p) (xs := qs.map V.ref) (fun _ => true) (fun i v _ => v = .bl ((List.range n).any fun z => (t (i + 1) (z + 1)).isSome)) (fun i v H H' _ r => r) (fun i v H p xs ys r _ => r) (ev_var rfl) (fun H1 e1 => sq_of (e1 _ _ hqs)) (by omega) (fun x => rfl) (fun i x H1 e1 hi => ⟨eb_yes, fun _ H4 e4 Q4 k4 => ?_⟩) H (Ex.refl _) _ fun p' zs H1 hp e1 h1 out => ?_
  · obtain ⟨q, row, rfl, _, hrw, hq⟩ := f2_ref hF hi
    obtain ⟨hin, rfl⟩ := tabL_of hrw
    exact ⟨_, rfl, q, n, t (i + 1), rfl, by omega, hq.mono (e1.trans e4), fun H5 e5 => k4 _ H5 e5 rfl⟩
  · rw [OutR, rng_all, hlq] at out
    have hz := F2.eq out
    have hl : ((List.range n).map fun i => (List.range n).any fun z => (t (i + 1) (z + 1)).isSome).length = n := by simp
    refine ⟨p', (List.range n).map fun i => (List.range n).any fun z => (t (i + 1) (z + 1)).isSome, rfl, ?_, by rw [hl]; omega, fun p2 H2 e2 t2 => ?_⟩
    · rw [hz] at h1
      rw [List.map_map]
      exact h1
    · rw [hl] at t2
      have e : tabL n (stB ((List.range n).map fun i => (List.range n).any fun z => (t (i + 1) (z + 1)).isSome)) = tabL n (tHas n t) := tabL_congr fun i j hi hj => by
        unfold stB tHas
        rw [show i + 1 - 1 = i by omega, List.getD_eq_getElem?_getD, List.getElem?_map, List.getElem?_range hi]
        rfl
      rw [e] at t2
      exact k p2 H2 (e1.trans e2) (t2.back e1)
end
end WG
namespace WG
open PySem PySem.Spec
open PyProof.Rows
open L2 hiding CX0 E0 pass0 Fun
open C8 Evl WM
open Gq01 (Way pick joined earlier better)
section
variable {P : Program} {w : World} {K : PySem.W.Frag} {mg : Str → Option Value} {base : Heap} {C_Graph C_Line C_Reader a_CALLS : Addr}
def numOf (s : Int) (a : Nat) : Nat := if s = 1 then 2 * a else 2 * a + 1
def spNumOf : Sp := fun vs H Q _ => ∃ (q : Addr) (s : Int) (a : Nat), vs = [.ref q] ∧ H q = some (.lst (nums [s, (a : Int)])) ∧ ∀ H', Ex H H' → Q (.int (numOf s a : Int)) H'
theorem cal_number_of (T : Tx K mg C_Graph C_Line C_Reader a_CALLS) : Cal P w K mg base 1 "number_of" spNumOf [] := by
  refine T.d_number_of.cal sc_number_of (fun vs H Q E h => by obtain ⟨q, s, a, rfl, _⟩ := h; rfl) (fun f cdv A outer s H vs Q E hr h => ⟨_, (pss_cons (ps_if (pt_cmpR op_eq (pe_ix ix_list (pv 0) pe_int (fun _ _ => rfl)) (pe_gc rfl T.g_FORWARD) (nomark _)) (pss_one (ps_ret (pe_op op_mul pe_int (pe_ix ix_list (pv 0) pe_int (fun _ _ => rfl))))) pss_nil)
      (pss_one (ps_ret (pe_op op_add (pe_op op_mul pe_int (pe_ix ix_list (pv 0) pe_int (fun _ _ => rfl))) pe_int)))), ?_⟩)
  obtain ⟨q, s', a, rfl, hq, k⟩ := h
  refine q_when (et_test (ev_op (ev_op (ev_var rfl) ev_c (rv_ixL (sq_of hq) (show atI (nums [s', (a : Int)]) 0 = some (.int s') from rfl))) ev_c (rv_eq rfl))) (fun hb H1 e1 => ?_) (fun hb H1 e1 => ?_)
  · have hb : s' = 1 := V.int.inj (of_decide_eq_true hb)
    refine s_ret (ev_op ev_c (ev_op (ev_var rfl) ev_c (rv_ixL (K := K) (sq_of (e1 _ _ hq)) (show atI (nums [s', (a : Int)]) 1 = some (.int (a : Int)) from rfl))) (rv_I (.inl ⟨by decide, by decide⟩))) fun H2 e2 => ?_
    have q := k H2 (e1.trans e2)
    have e : ((numOf s' a : Nat) : Int) = 2 * (a : Int) := by unfold numOf; rw [if_pos hb]; omega
    rw [e] at q
    exact q
  · have hb : ¬ s' = 1 := fun z => of_decide_eq_false hb (by rw [z])
    refine s_ret (ev_op (ev_op ev_c (ev_op (ev_var rfl) ev_c (rv_ixL (K := K) (sq_of (e1 _ _ hq)) (show atI (nums [s', (a : Int)]) 1 = some (.int (a : Int)) from rfl))) (rv_I (.inl ⟨by decide, by decide⟩))) ev_c rv_I0) fun H2 e2 => ?_
    have q := k H2 (e1.trans e2)
    have e : ((numOf s' a : Nat) : Int) = 2 * (a : Int) + 1 := by unfold numOf; rw [if_neg hb]; omega
    rw [e] at q
    exact q
def spPlainW : Sp := fun vs H Q _ => ∃ (q aN aE : Addr) (p : List Int) (ks : List (List Nat)) (es : List Gq01.Edge), vs = [.ref q, .ref aN, .ref aE] ∧ isPl p ∧ H q = some (.lst (nums p)) ∧ LLAt H aN ks ∧ EdAt H aE es ∧ ks.length ≤ 100 ∧ es.length ≤ 100 ∧ Vld ks.length es ∧ RetT ks.length (tOf ⟨ks, es⟩ (plainE p)) H Q
theorem stP_of {s : Int} {a : Nat} {es : List Gq01.Edge} {ks : List (List Nat)} (h : s = 1 ∨ s = 2) (p : List Int) (hp : p = [s, (a : Int)]) : ∀ x y, stP (numOf s a) (pairsOf s es a) x y = tOf ⟨ks, es⟩ (plainE p) x y := fun x y => by
  subst hp
  rcases h with rfl | rfl
  · show (if (pairsF es a).contains (x, y) = true then some [(2 * a, y)] else none) = if es.contains ⟨x, a, y⟩ = true then some [(2 * a, y)] else none
    rw [contains_iff mem_pairsF]
  · show (if (pairsB es a).contains (x, y) = true then some [(2 * a + 1, y)] else none) = if es.contains ⟨y, a, x⟩ = true then some [(2 * a + 1, y)] else none
    rw [contains_iff mem_pairsB]
theorem cal_ways_of_plain (T : Tx K mg C_Graph C_Line C_Reader a_CALLS) : Cal P w K mg base 4 "ways_of_plain" spPlainW [] := by
  refine T.d_ways_of_plain.cal sc_ways_of_plain (fun vs H Q E h => by obtain ⟨q, aN, aE, p, ks, es, rfl, _⟩ := h; rfl) (fun f cdv A outer s H vs Q E hr h => ⟨_, (pss_cons (ps_if (pt_cmpR op_eq (pe_ix ix_list (pv 0) pe_int (fun _ _ => rfl)) (pe_gc rfl T.g_STAY) (nomark _)) (pss_one (ps_ret (pe_c (cal_stay_ways T) hr (by decide) rfl (pa_cons (pe_callB call_len_seq (by rfl) T.b_len PySem.boot_len (pa_cons (pv 1) pa_nil)) pa_nil)))) pss_nil)
      (pss_cons (ps_if (pt_cmpR op_eq (pe_ix ix_list (pv 0) pe_int (fun _ _ => rfl)) (pe_gc rfl T.g_KIND) (nomark _)) (pss_one (ps_ret (pe_c (cal_staying T) hr (by decide) rfl (pa_cons (pe_lc (own := [("kinds", 3)]) (g := (gName 3)) (te := (tOp (rIn K false) (tOp (rIxL K) _ _) _)) rfl sc_ways_of_plain.nd (pi_list (pv 1)) (blkOk_by (own := [("kinds", 3)]) (N := N_ways_of_plain) (sc := fnScope s_ways_of_plain) (by decide +kernel)) (fun _ _ _ _ _ => (pg_name (i := 3) sc_ways_of_plain.nd rfl (Or.inl rfl))) (fun _ _ _ _ _ => pts_nil) (fun _ _ _ _ _ => (pe_cmpR op_in_seq (pe_ix ix_list (pv 0) pe_int (fun _ _ => rfl)) (pv 3) (by rfl)))) pa_nil)))) pss_nil)
      (pss_one (ps_ret (pe_c (cal_steps_ways T) hr (by decide) rfl (pa_cons (pe_callB call_len_seq (by rfl) T.b_len PySem.boot_len (pa_cons (pv 1) pa_nil)) (pa_cons (pe_c (cal_number_of T) hr (by decide) rfl (pa_cons (pv 0) pa_nil)) (pa_cons (pe_c (cal_pairs_by T) hr (by decide) rfl (pa_cons (pv 0) (pa_cons (pv 2) pa_nil))) pa_nil)))))))), ?_⟩)
  obtain ⟨q, aN, aE, p, ks, es, rfl, hp, hq, hN, hE, hn, hm, hv, k⟩ := h
  obtain ⟨xs, hx1, hx2⟩ := hN.len (K := K)
  obtain ⟨s', r, hp0⟩ : ∃ s' r, p = s' :: r := by
    rcases hp with rfl | ⟨a, rfl⟩ | ⟨a, rfl⟩ | ⟨a, rfl⟩ <;> exact ⟨_, _, rfl⟩
  have ev0 : ∀ {H1 : Hp}, Ex H H1 → Ev (tOp (rIxL K) (tVar 0) (tC (.int 0))) (L2.start N_ways_of_plain [.ref q, .ref aN, .ref aE]) H1 (.int s') := fun e => ev_op (ev_var rfl) ev_c (rv_ixL (sq_of (e _ _ hq)) (by rw [hp0]; exact atI_nat (j := 0) rfl))
  refine q_when (et_test (ev_op (ev0 (Ex.refl _)) ev_c (rv_eq rfl))) (fun hb H1 e1 => ?_) (fun hb H1 e1 => ?_)
  · have hb : s' = 0 := V.int.inj (of_decide_eq_true hb)
    have hE' : plainE p = .stay := by
      rcases hp with rfl | ⟨a, rfl⟩ | ⟨a, rfl⟩ | ⟨a, rfl⟩
      · rfl
      all_goals (cases hp0; cases hb)
    rw [hE'] at k
    exact ⟨_, rfl, aN, xs, rfl, Or.inl (sq_of (e1 _ _ hx1)), ks.length, by rw [hx2]; rfl, hn, fun p H2 e2 t2 => k p H2 (e1.trans e2) (t2.back e1)⟩
  have hb0 : ¬ s' = 0 := fun z => of_decide_eq_false hb (by rw [z])
  refine q_when (et_test (ev_op (ev0 e1) ev_c (rv_eq rfl))) (fun hb H2 e2 => ?_) (fun hb H2 e2 => ?_)
  · have hb : s' = 3 := V.int.inj (of_decide_eq_true hb)
    have e12 := e1.trans e2
    obtain ⟨a, rfl⟩ : ∃ a : Nat, p = [3, (a : Int)] := by
      rcases hp with rfl | ⟨a, rfl⟩ | ⟨a, rfl⟩ | ⟨a, rfl⟩
      · cases hp0; cases hb
      · cases hp0; cases hb
      · cases hp0; cases hb
      · exact ⟨a, rfl⟩
    obtain ⟨qs, hqs, hF⟩ := hN
    have hlq : (qs.map V.ref).length = ks.length := by rw [List.length_map]; exact hF.len
    refine x_ret (x_call1 ?_)
    refine er_lcL (K := K) (a := aN) (xs := qs.map V.ref) (fun _ => true) (fun i v _ => v = .bl ((ks.getD i []).contains a)) (fun i v H H' _ r => r) (fun i v H p xs ys r _ => r) (ev_var rfl) (fun H1 e1 => sq_of (e1 _ _ (e12 _ _ hqs))) (by omega) (fun x => rfl) (fun i x H3 e3 hi => ⟨eb_yes, fun _ => ?_⟩) H2 (Ex.refl _) _ fun p' zs H3 hp e3 h3 out => ?_
    · obtain ⟨q', l, rfl, _, hl, hql⟩ := f2_ref hF hi
      have hin2 : inV (.int (a : Int)) (nn l) = (ks.getD i []).contains a := by rw [getD_at hl]; exact inV_nn a l
      exact EvR.of (ev_is (ev_op (ev_op (ev_var rfl) ev_c (rv_ixL (K := K) (sq_of (e3 _ _ (e12 _ _ hq))) (show atI (nums [3, (a : Int)]) 1 = some (.int (a : Int)) from rfl))) (ev_var rfl) (rv_isL (K := K) (sq_of (e3 _ _ (e12 _ _ hql))) rfl (flat_nums _))) (congrArg V.bl hin2)) fun _ _ => rfl
    · rw [OutR, rng_all, hlq] at out
      have hz := F2.eq out
      have hl : ((List.range ks.length).map fun i => (ks.getD i []).contains a).length = ks.length := by simp
      refine ⟨p', (List.range ks.length).map fun i => (ks.getD i []).contains a, rfl, ?_, by rw [hl]; omega, fun p2 H4 e4 t4 => ?_⟩
      · rw [hz] at h3
        rw [List.map_map]
        exact h3
      · rw [hl] at t4
        have e : tabL ks.length (stB ((List.range ks.length).map fun i => (ks.getD i []).contains a)) = tabL ks.length (tOf ⟨ks, es⟩ (plainE [3, (a : Int)])) := tabL_congr fun i j hi hj => by
          show (if i + 1 = j + 1 ∧ ((List.range ks.length).map fun i => (ks.getD i []).contains a).getD (i + 1 - 1) false = true then some ([] : Way) else none) = if i + 1 = j + 1 ∧ (ks.getD (i + 1 - 1) []).contains a = true then some [] else none
          rw [show i + 1 - 1 = i by omega, List.getD_eq_getElem?_getD (l := List.map _ _), List.getElem?_map, List.getElem?_range hi]
          rfl
        rw [e] at t4
        exact k p2 H4 ((e12.trans e3).trans e4) (t4.back (e12.trans e3))
  · have hb3 : ¬ s' = 3 := fun z => of_decide_eq_false hb (by rw [z])
    have e12 := e1.trans e2
    obtain ⟨a, hpa, hs⟩ : ∃ a : Nat, p = [s', (a : Int)] ∧ (s' = 1 ∨ s' = 2) := by
      rcases hp with rfl | ⟨a, rfl⟩ | ⟨a, rfl⟩ | ⟨a, rfl⟩
      · cases hp0; exact absurd rfl hb0
      · cases hp0; exact ⟨a, rfl, .inl rfl⟩
      · cases hp0; exact ⟨a, rfl, .inr rfl⟩
      · cases hp0; exact absurd rfl hb3
    have hE' := stP_of (es := es) (ks := ks) hs p hpa
    have hq2 := hq
    rw [hpa] at hq2
    refine ⟨_, rfl, aN, xs, rfl, Or.inl (sq_of (e12 _ _ hx1)), _, rfl, q, s', a, rfl, e12 _ _ hq2, fun H3 e3 => ⟨_, rfl, _, rfl, q, aE, s', a, es, rfl, e3 _ _ (e12 _ _ hq2), hE.mono (e12.trans e3), hm, fun p' H4 hp' e4 h4 => ?_⟩⟩
    refine ⟨p', ks.length, numOf s' a, pairsOf s' es a, by rw [hx2]; rfl, h4, hn, Nat.le_trans pairsOf_len hm, pairsOf_in hv, fun r H5 e5 t5 => ?_⟩
    have e : tabL ks.length (stP (numOf s' a) (pairsOf s' es a)) = tabL ks.length (tOf ⟨ks, es⟩ (plainE p)) := tabL_congr fun i j _ _ => hE' _ _
    rw [e] at t5
    exact k r H5 (((e12.trans e3).trans e4).trans e5) (t5.back ((e12.trans e3).trans e4))
def oneW (n : Nat) (s : Int) (t : T2) : T2 := if s = 6 then tUp t n else tHas n t
def twoW (n : Nat) (s : Int) (t u : T2) : T2 := if s = 4 then tSq n t u else tAlt t u
def spOneW : Sp := fun vs H Q _ => ∃ (s : Int) (p : Addr) (n : Nat) (t : T2), vs = [.int s, .ref p] ∧ n ≤ 12 ∧ TabAt H p (tabL n t) ∧ TB 800 t ∧ RetT n (oneW n s t) H Q
theorem cal_ways_of_one (T : Tx K mg C_Graph C_Line C_Reader a_CALLS) : Cal P w K mg base 5 "ways_of_one" spOneW [] := by
  refine T.d_ways_of_one.cal sc_ways_of_one (fun vs H Q E h => by obtain ⟨s, p, n, t, rfl, _⟩ := h; rfl) (fun f cdv A outer s H vs Q E hr h => ⟨_, (pss_cons (ps_if (pt_cmpR op_eq (pv 0) (pe_gc rfl T.g_AGAIN) (nomark _)) (pss_one (ps_ret (pe_c (cal_again_ways T) hr (by decide) rfl (pa_cons (pv 1) pa_nil)))) pss_nil)
      (pss_one (ps_ret (pe_c (cal_has_ways T) hr (by decide) rfl (pa_cons (pv 1) pa_nil))))), ?_⟩)
  obtain ⟨s', p, n, t, rfl, hn, hT0, bt, k⟩ := h
  refine q_when (et_test (ev_op (ev_var rfl) ev_c (rv_eq rfl))) (fun hb H1 e1 => ?_) (fun hb H1 e1 => ?_)
  · have hb : s' = 6 := V.int.inj (of_decide_eq_true hb)
    have e : oneW n s' t = tUp t n := if_pos hb
    rw [e] at k
    exact ⟨_, rfl, p, n, t, rfl, hn, hT0.mono e1, bt, fun p H2 e2 t2 => k p H2 (e1.trans e2) (t2.back e1)⟩
  · have hb : ¬ s' = 6 := fun z => of_decide_eq_false hb (by rw [z])
    have e : oneW n s' t = tHas n t := if_neg hb
    rw [e] at k
    exact ⟨_, rfl, p, n, t, rfl, hn, hT0.mono e1, bt.mono (by decide), fun p H2 e2 t2 => k p H2 (e1.trans e2) (t2.back e1)⟩
def spTwoW : Sp := fun vs H Q _ => ∃ (s : Int) (p q : Addr) (n : Nat) (t u : T2), vs = [.int s, .ref p, .ref q] ∧ n ≤ 12 ∧ TabAt H p (tabL n t) ∧ TabAt H q (tabL n u) ∧ TB 800 t ∧ TB 800 u ∧ RetT n (twoW n s t u) H Q
theorem cal_ways_of_two (T : Tx K mg C_Graph C_Line C_Reader a_CALLS) : Cal P w K mg base 5 "ways_of_two" spTwoW [] := by
  refine T.d_ways_of_two.cal sc_ways_of_two (fun vs H Q E h => by obtain ⟨s, p, q, n, t, u, rfl, _⟩ := h; rfl) (fun f cdv A outer s H vs Q E hr h => ⟨_, (pss_cons (ps_if (pt_cmpR op_eq (pv 0) (pe_gc rfl T.g_IN_ORDER) (nomark _)) (pss_one (ps_ret (pe_c (cal_in_order_ways T) hr (by decide) rfl (pa_cons (pv 1) (pa_cons (pv 2) pa_nil))))) pss_nil)
      (pss_one (ps_ret (pe_c (cal_either_ways T) hr (by decide) rfl (pa_cons (pv 1) (pa_cons (pv 2) pa_nil)))))), ?_⟩)
  obtain ⟨s', p, q, n, t, u, rfl, hn, hT0, hU0, bt, bu, k⟩ := h
  refine q_when (et_test (ev_op (ev_var rfl) ev_c (rv_eq rfl))) (fun hb H1 e1 => ?_) (fun hb H1 e1 => ?_)
  · have hb : s' = 4 := V.int.inj (of_decide_eq_true hb)
    have e : twoW n s' t u = tSq n t u := if_pos hb
    rw [e] at k
    exact ⟨_, rfl, _, rfl, p, q, n, t, u, rfl, by omega, hT0.mono e1, hU0.mono e1, bt.mono (by decide), bu.mono (by decide), fun p H2 e2 t2 => k p H2 (e1.trans e2) (t2.back e1)⟩
  · have hb : ¬ s' = 4 := fun z => of_decide_eq_false hb (by rw [z])
    have e : twoW n s' t u = tAlt t u := if_neg hb
    rw [e] at k
    exact ⟨_, rfl, _, rfl, p, q, n, t, u, rfl, by omega, hT0.mono e1, hU0.mono e1, bt.mono (by decide), bu.mono (by decide), fun p H2 e2 t2 => k p H2 (e1.trans e2) (t2.back e1)⟩
end
end WG
namespace WG
open PySem PySem.Spec
open PyProof.Rows
open L2 hiding CX0 E0 pass0 Fun
open C8 Evl WM
open LamX (CodeO Tabs TabS ExtN TabB)
open NdefX (NF NScope CellsAt ncx startF slotAt Caps)
/-! ### a lambda with parameters and captured names, handed to folded -/
section
variable {K : PySem.W.Frag} {mg : Str → Option Value} {P : Program} {w : World} {base : Heap}
/-- the function's run, by its body -/
theorem lam_run {CX : CXT} {N ps fr : List Str} {F : NF} {f : Addr} {body : Expr} {pm ctv : Value} {k : Nat} {A : Around} {outer : List Env} {s : Shared} {H : Hp} {us : List Value} {vs : List V} {ws : List (Option V)} {Q : VK} {E : XK} (S : NScope N ps fr F.scope)
    (hf : s.heap.get? f = some (PySem.W.kla_obj F.name F.qual F.params body F.scope F.cl pm F.c ctv)) (hc : H F.c = some (CodeO F.c F.qual)) (hb : bindArgs (PySem.W.kla_fn F.name F.qual F.params body F.scope F.cl pm (.ref F.c) ctv) ⟨us, []⟩ = pure (ps.zip us))
    (hl : vs.length = ps.length) (r : Vals vs us) (hr : Room (k + 1) A) (e0 : Env0 P w K mg base A outer s H) (C : CellsAt F.cl fr ws s.heap H)
    (hbody : Room k (A.deeper (NdefX.envF F f s.heap.objs.size)) → ∃ t, PE (ncx CX P w K mg base N F f A outer s H E) body t ∧ t (startF N vs ws) H Q) : codeAny (model P w) A (.call (.ref f) ⟨us, []⟩) (CR CX outer P w H s Q E) s := by
  have nolim : s.heap.NoLimit := e0.mod.nolimit.keeps fun x y z => (e0.bs x y z).1
  refine PySem.W.kla_callFunE hr.depth hf rfl S.co S.gen rfl (NdefX.codeO_at e0.hok hc) ?_
  rw [hb]
  refine wpAny_pure (wpAny_newFunctionEnv S.nocell (fun ⟨n, _⟩ hy => S.par n (List.of_mem_zip hy).1) (fun h1 hns hsb => ⟨nolim.fresh _ hsb, ?_⟩) S.kind)
  show codeAny _ _ (.expr body (NdefX.envF F f s.heap.objs.size)) _ _
  obtain ⟨tb, ht, hq⟩ := hbody (hr.deeper _)
  have kp : ∀ b o, s.heap.get? b = some o → h1.get? b = some o := fun b o e => hsb.extBut b o (Nat.ne_of_lt (Heap.lt_size e)) (Heap.get?_push_of_some _ e)
  have I : Inv (ncx CX P w K mg base N F f A outer s H E) [] (startF N vs ws) H { s with heap := h1, toks := s.toks + (ps.zip us).length } := NdefX.inv_startN S hr.hd e0 hl r C hns kp
  refine PySem.W.kla_codeExpr (wpAny_mono (ht.run [] _ _ H Q I hq) (fun v s' hv => ?_) fun e s' he => he)
  obtain ⟨w', H', J, rv, q⟩ := hv
  exact ⟨w', H', J.os, J.bare, J.base, J.hok, rv, q⟩
/-- cells that are nobody's to change stay -/
theorem cells_keep {cl : List (Str × Addr)} {fr : List Str} {ws : List (Option V)} {h h' : Heap} {H H' : Hp} {fs : List Addr} (C : CellsAt cl fr ws h H) (un : Un fs [] H H' h h') : CellsAt cl fr ws h' H' := by
  have kp : ∀ y c, cl.lookup y = some c → ∀ v, h.IsCell c v → h'.IsCell c v := fun y c e v ⟨o, ho, hd⟩ => by
    obtain ⟨sl, q⟩ := un.any ho (C.all y c e).1 (by simp)
    exact ⟨_, q, hd⟩
  refine ⟨C.len, fun y cc e => ?_, C.inj, fun i y e => ?_⟩
  · obtain ⟨n, v, hv⟩ := C.all y cc e
    refine ⟨?_, v, kp y cc e v hv⟩
    obtain ⟨o, ho, _⟩ := hv
    exact un.free cc o ho n (by simp)
  · obtain ⟨cc, lc, hv⟩ := C.has i y e
    refine ⟨cc, lc, fun v0 ev => ?_⟩
    obtain ⟨u, ru, hu⟩ := hv v0 ev
    exact ⟨u, ru, kp y cc lc _ hu⟩
/-- a call of the local name that holds it, in the def that got it at s -/
theorem acts_lam {k : Nat} {Ng N ps fr : List Str} {qg x : Str} {sg : Scope} {g f : Addr} {cdg pm ctv : Value} {A : Around} {outer : List Env} {s : Shared} {H : Hp} {Eg : XK} {F : NF} {body : Expr} {ws : List (Option V)} {sp : Sp} {i : Nat}
    (S : NScope N ps fr F.scope) (hf : s.heap.get? f = some (PySem.W.kla_obj F.name F.qual F.params body F.scope F.cl pm F.c ctv)) (hfn : H f = none) (hfr : f ∉ frs outer) (hb : ∀ us : List Value, us.length = ps.length → bindArgs (PySem.W.kla_fn F.name F.qual F.params body F.scope F.cl pm (.ref F.c) ctv) ⟨us, []⟩ = pure (ps.zip us))
    (C : CellsAt F.cl fr ws s.heap H) (hr : Room (k + 1) (A.deeper (envOfC qg sg s.heap.objs.size g cdg)))
    (hsp : ∀ (A : Around) (outer : List Env) (s : Shared) (H : Hp) (vs : List V) (Q : VK) (E : XK), sp vs H Q E → vs.length = ps.length ∧ H F.c = some (CodeO F.c F.qual) ∧ (Room k (A.deeper (NdefX.envF F f s.heap.objs.size)) → ∃ t, PE (ncx CX0 P w K mg base N F f A outer s H E) body t ∧ t (startF N vs ws) H Q))
    (hN : Ng[i]? = some x) (hv : Vis sg x) (hdb : (x == ("__debug__" : Str)) = false) (hcd : (x == ("__classdict__" : Str)) = false) :
    Acts (cxOf CX0 P w K mg base Ng qg sg g cdg A outer s H Eg).nox i x f sp := by
  intro p pos e es t ha he hpl
  refine ⟨fun pins sZ σ HZ Q I h => ?_⟩
  obtain ⟨hs, ht⟩ := h
  have at_ : ∀ {pn σ' H' s'}, Inv (cxOf CX0 P w K mg base Ng qg sg g cdg A outer s H Eg).nox pn σ' H' s' → s'.heap.get? f = some (PySem.W.kla_obj F.name F.qual F.params body F.scope F.cl pm F.c ctv) := fun J => J.base.keep f _ hf hfn hfr (by intro z; cases z)
  refine wpAny_Call_Name_kw (thn ((pe_var (pos := p) (i := i) (X := (cxOf CX0 P w K mg base Ng qg sg g cdg A outer s H Eg).nox) hN hv hdb hcd).run pins sZ σ HZ (fun v H1 => v = .ref f ∧ H1 = HZ) I ⟨.ref f, hs, rfl, rfl⟩) fun u s1 ⟨v, H1, I1, r1, q1⟩ => ?_)
  obtain ⟨ev, eH⟩ := q1
  subst ev
  rw [eH] at I1
  obtain rfl : u = .ref f := r1
  refine PySem.W.callWith_F (first := []) ⟨_, _, _, _, at_ I1⟩ (thn (ha.run pos pins s1 σ HZ _ I1 ht) fun us s2 ⟨vs, H2, I2, r, q⟩ => ⟨⟨_, _, _, _, at_ I2⟩, ?_⟩) he hpl
  have q : sp (vs ++ []) H2 Q C8.E0 := q
  rw [List.append_nil] at q
  have q' := hsp (A.deeper (envOfC qg sg s.heap.objs.size g cdg)) (envOfC qg sg s.heap.objs.size g cdg :: outer) s2 H2 vs Q C8.E0 q
  show wpAny _ _ (call (.ref f) us []) _ _ _
  have un : Un (frs outer) [] H H2 s.heap s2.heap := I2.base
  have hlen : us.length = ps.length := by rw [← r.length]; exact q'.1
  have rc := lam_run (CX := CX0) (P := P) (w := w) (K := K) (mg := mg) (base := base) (E := C8.E0) (Q := Q) S (at_ I2) q'.2.1 (hb us hlen) q'.1 r hr I2.env0 (cells_keep C un) q'.2.2
  refine wpAny_call (codeAny_mono rc fun res s' hq => ?_)
  cases res with
  | error e => exact False.elim (show False from hq)
  | ok fl =>
    cases fl with
    | ret u => exact I2.after hq
    | next => exact False.elim hq
    | brk => exact False.elim hq
    | cont => exact False.elim hq
end
/-- folded(parts, lambda part: .., one, two) -/
def tFL (T : List (Addr × Str)) (q : Str) (js : List Nat) (GG : Addr → Addr → List (Option V) → V → Hp → VK → Prop) : TE := fun σ H Q => ∃ v, σ[0]? = some (some v) ∧ Tabs T H ∧ ∀ H1 f c', ExtN H H1 → Tabs T H1 → H1 c' = some (CodeO c' q) → GG c' f (js.map (slotAt σ)) v H1 Q
theorem pe_foldlam {X : Cx} {c Pt fO fT : Addr} {T : List (Addr × Str)} {k : Nat} {Nl fr : List Str} {js : List Nat} {params : Arguments} {body : Expr} {scope : Scope} {xO xT : Str} {p p1 p3 p4 lpos pos : Pos} {spP : List (Option V) → Sp} {GG : Addr → Addr → List (Option V) → V → Hp → VK → Prop}
    (Df : DefAt X.K X.mg "folded" "folded" s_folded ["parts", "of_plain", "of_one", "of_two"]) (hg : Gl X "folded") (TB : TabB X.base X.mg c Pt) (hcode : X.env.code = .ref c) (hmT : (Pt, X.env.qual ++ "<lambda>") ∈ T) (hu : ∀ p ∈ T, p.1 = Pt → p.2 = X.env.qual ++ "<lambda>") (hr : Room 6 X.A)
    (hN0 : X.N[0]? = some ("parts" : Str)) (hv0 : Vis X.env.scope "parts") (S : NScope Nl ["part"] fr scope) (hfree : ∀ y ∈ scope.names, y.2 = .free → X.env.scope.names.lookup y.1 = some .cell ∨ X.env.scope.names.lookup y.1 = some .free) (hfr : ∀ y ∈ fr, (y, NameKind.free) ∈ scope.names) (hjs : js.map (fun j => X.N[j]?) = fr.map some)
    (hdef : defaultsOf params X.env = ([], [])) (hbind : ∀ (q : Str) (cl : List (Str × Addr)) (pm cv ctv u : Value), bindArgs (PySem.W.kla_fn "<lambda>" q params body scope cl pm cv ctv) ⟨[u], []⟩ = pure [(("part" : Str), u)])
    (hgO : Gl X xO) (hmO : X.mg xO = some (.ref fO)) (hgT : Gl X xT) (hmT2 : X.mg xT = some (.ref fT)) (hdO : (xO == ("__debug__" : Str)) = false) (hdT : (xT == ("__debug__" : Str)) = false)
    (hk : k ≤ 4) (hbody : ∀ (cl : List (Str × Addr)) (f c' : Addr) (ws : List (Option V)) (A : Around) (outer : List Env) (s : Shared) (H : Hp) (vs : List V) (Q : VK) (E : XK), spP ws vs H Q E → vs.length = 1 ∧ (Room k (A.deeper (NdefX.envF ⟨"<lambda>", X.env.qual ++ "<lambda>", params, [], scope, cl, c'⟩ f s.heap.objs.size)) →
      ∃ t, PE (ncx CX0 X.prog X.w X.K X.mg X.base Nl ⟨"<lambda>", X.env.qual ++ "<lambda>", params, [], scope, cl, c'⟩ f A outer s H E) body t ∧ t (startF Nl vs ws) H Q))
    (hGG : ∀ (fa : Addr) (cdv : Value) (s : Shared) (H : Hp) (Q : VK) (c' f : Addr) (ws : List (Option V)) (v : V), Room 5 (X.A.deeper (envOfC "folded" (fnScope s_folded) s.heap.objs.size fa cdv)) →
      Acts (cxOf CX0 X.prog X.w X.K X.mg X.base N_folded "folded" (fnScope s_folded) fa cdv X.A X.stack s H C8.E0).nox 1 "of_plain" f (fun vs H Q E => H c' = some (CodeO c' (X.env.qual ++ "<lambda>")) ∧ spP ws vs H Q E) → GG c' f ws v H Q →
      ∃ t, PSs (cxOf CX0 X.prog X.w X.K X.mg X.base N_folded "folded" (fnScope s_folded) fa cdv X.A X.stack s H C8.E0).nox (fnBody s_folded) t ∧ t { nx := fun _ H' => Q .non H', rt := Q } (L2.start N_folded [v, .ref f, .ref fO, .ref fT]) H) :
    PE X (.Call (.Name "folded" p) [.Name "parts" p1, .Lambda params body scope lpos, .Name xO p3, .Name xT p4] [] pos) (tFL T (X.env.qual ++ "<lambda>") js GG) := by
  obtain ⟨fa, fd, D, hm, kp, b⟩ := Df.ex
  obtain ⟨oc, od, dV, kV, doc, pmm, an, cdv, ct, osl, rfl, lk, hcd⟩ := D.ex
  refine ⟨fun pins s σ H Q I hh => ?_⟩
  obtain ⟨v, hv, hT, h⟩ := hh
  refine wpAny_Call_Name_kw (ld_glob I hg hm ?_ (by decide))
  refine PySem.W.callWith_K (h₀ := X.base) I.ok.mod.kin kp ?_ (by rfl) (by rfl)
  show wpAny _ _ (spliced ((false, eval (.Name "parts" p1) X.env) :: backTo pos (starEach [.Lambda params body scope lpos, .Name xO p3, .Name xT p4] X.env))) _ _ s
  refine Calls.spliced_cons (thn ((pe_var (pos := p1) hN0 hv0 (by decide) (by decide)).run pins s σ H (fun v' H1 => v' = v ∧ H1 = H) I ⟨v, hv, rfl, rfl⟩) fun u1 s1 ⟨v', H', I1, r1, q1⟩ => ?_)
  obtain ⟨ev, eH⟩ := q1
  subst ev eH
  have hfr2 : ∀ y ∈ scope.names, y.2 = .free → ∃ c, X.env.cells.lookup y.1 = some c := fun y hy e => (hfree y hy e).elim (fun z => I1.ok.has _ (.inl z)) fun z => I1.ok.has _ (.inr z)
  show wpAny _ _ (spliced ((false, eval (.Lambda params body scope lpos) X.env) :: backTo pos (starEach [.Name xO p3, .Name xT p4] X.env))) _ _ s1
  refine Calls.spliced_cons (LamX.lam_make2 I1 TB hcode hmT hu hT hdef hfr2 fun f c' pm' ctv H1 s' I2 eN T1 hf hfn hff hco => ?_)
  show wpAny _ _ (spliced ((false, eval (.Name xO p3) X.env) :: backTo pos (starEach [.Name xT p4] X.env))) _ _ s'
  refine Calls.spliced_cons (ld_glob I2 hgO hmO ?_ hdO)
  show wpAny _ _ (spliced ((false, eval (.Name xT p4) X.env) :: backTo pos (starEach [] X.env))) _ _ s'
  refine Calls.spliced_cons (ld_glob I2 hgT hmT2 ?_ hdT)
  refine Calls.spliced_nil ⟨I2.kIn, ?_⟩
  have C := NdefX.cells_of I2 (NdefX.Caps.made (X := X) (scope := scope) I2.ok hfree hfr hjs)
  have rc : codeAny (model X.prog X.w) X.A (.call (.ref fa) ⟨[u1, .ref f, .ref fO, .ref fT], []⟩) (CR CX0 X.stack X.prog X.w H1 s' Q C8.E0) s' := by
    refine LamX.run_ofS (N := N_folded) (ps := ["parts", "of_plain", "of_one", "of_two"]) (us := [u1, .ref f, .ref fO, .ref fT]) (vs := [v', .ref f, .ref fO, .ref fT]) lk hcd sc_folded hr I2.env0 (b s' [u1, .ref f, .ref fO, .ref fT] I2.kIn rfl) (.cons r1 (.cons rfl (.cons rfl (.cons rfl .nil)))) rfl fun hr' => ?_
    obtain ⟨t', ht', hq'⟩ := hGG fa cdv s' H1 Q c' f _ v' hr' (acts_lam (k := k) (F := ⟨"<lambda>", X.env.qual ++ "<lambda>", params, [], scope, cloFrom X.env.cells scope.names [], c'⟩) S hf hfn hff (fun us hus => by
        cases us with
        | nil => cases hus
        | cons u us =>
          cases us with
          | nil => exact hbind _ _ _ _ _ u
          | cons _ _ => cases hus) C (hr'.mono (by omega)) (fun A outer s H vs Q E ⟨h1, h2⟩ => ⟨(hbody (cloFrom X.env.cells scope.names []) f c' _ A outer s H vs Q E h2).1, h1, (hbody (cloFrom X.env.cells scope.names []) f c' _ A outer s H vs Q E h2).2⟩) rfl (Or.inl rfl) (by decide) (by decide)) (h H1 f c' eN T1 hco)
    exact ⟨t', ht'.nox, hq'⟩
  refine wpAny_call (codeAny_mono rc fun res s2 hq => ?_)
  cases res with
  | error e => exact False.elim (show False from hq)
  | ok fl =>
    cases fl with
    | ret u => exact I2.after hq
    | next => exact False.elim hq
    | brk => exact False.elim hq
    | cont => exact False.elim hq
end WG
namespace WG
open PySem PySem.Spec
open PyProof.Rows
open L2 hiding CX0 E0 pass0 Fun
open C8 Evl WM
open LamX (CodeO Tabs TabS ExtN TabB)
open NdefX (NF NScope CellsAt ncx startF slotAt Caps)
open Gq01 (Way pick joined earlier better)
/-! ### all but the tables of code objects stays -/
def LT (T : List (Addr × Str)) (H H' : Hp) : Prop := (∀ b o, H b = some o → noTbl o → H' b = some o) ∧ (Tabs T H → Tabs T H')
theorem tabs_write {T : List (Addr × Str)} {H : Hp} {p : Addr} {xs : List V} {o : HO} (h : Tabs T H) (hp : H p = some (.lst xs)) : Tabs T (upd H p o) := fun q hq => by
  obtain ⟨ps, h1, h2, h3⟩ := h q hq
  refine ⟨ps, (upd_ne (ne_of h1 hp (fun z => nomatch z))).trans h1, h2, fun pos cv hc => ?_⟩
  obtain ⟨c, e1, e2⟩ := (h3 pos cv hc)
  exact ⟨c, e1, (upd_ne (ne_of e2 hp (fun z => by unfold CodeO at z; cases z))).trans e2⟩
instance (T : List (Addr × Str)) : Pre (LT T) where
  refl := fun H => ⟨fun _ _ h _ => h, id⟩
  trans := fun a b => ⟨fun x o h n => b.1 x o (a.1 x o h n) n, fun h => b.2 (a.2 h)⟩
  ex := fun e => ⟨fun b o h _ => e b o h, fun h => h.ext e⟩
  wr := fun {H H' p xs ys} e h h' => ⟨fun b o hb n => by
    rw [upd_ne (ne_of_none hb h)]
    exact e.1 b o hb n, fun t => tabs_write (e.2 t) h'⟩
  keep := fun e h n => e.1 _ _ h n
/-! ### the expression itself, from its parts -/
def oneE (z : Int) (e : Gq01.E) : Gq01.E := if z = 6 then .star e else .has e
def twoE (z : Int) (e f : Gq01.E) : Gq01.E := if z = 4 then .seq e f else .alt e f
theorem fold_id : ∀ e : Gq01.E, foldE plainE oneE twoE e = e
  | .stay => rfl
  | .fwd a => by show Gq01.E.fwd (a : Int).toNat = _; rw [Int.toNat_natCast]
  | .back a => by show Gq01.E.back (a : Int).toNat = _; rw [Int.toNat_natCast]
  | .kind a => by show Gq01.E.kind (a : Int).toNat = _; rw [Int.toNat_natCast]
  | .seq e f => by show twoE 4 _ _ = _; rw [fold_id e, fold_id f]; rfl
  | .alt e f => by show twoE 5 _ _ = _; rw [fold_id e, fold_id f]; rfl
  | .star e => by show oneE 6 _ = _; rw [fold_id e]; rfl
  | .has e => by show oneE 7 _ = _; rw [fold_id e]; rfl
theorem eparts_sz : ∀ e : Gq01.E, (eparts e).length = szE e
  | .stay => rfl
  | .fwd _ => rfl
  | .back _ => rfl
  | .kind _ => rfl
  | .seq e f => by simp only [eparts, szE, List.length_cons, List.length_append, eparts_sz e, eparts_sz f]
  | .alt e f => by simp only [eparts, szE, List.length_cons, List.length_append, eparts_sz e, eparts_sz f]
  | .star e => by simp only [eparts, szE, List.length_cons, eparts_sz e]
  | .has e => by simp only [eparts, szE, List.length_cons, eparts_sz e]
theorem sz_plain (p : List Int) : szE (plainE p) ≤ 1 := by
  unfold plainE
  split <;> exact Nat.le_refl 1
theorem sz_one (z : Int) (e : Gq01.E) : szE (oneE z e) ≤ szE e + 1 := by
  unfold oneE
  split <;> exact Nat.le_refl _
theorem sz_two (z : Int) (e f : Gq01.E) : szE (twoE z e f) ≤ szE e + szE f + 1 := by
  unfold twoE
  split <;> exact Nat.le_refl _
theorem vld_valid {ks : List (List Nat)} {es : List Gq01.Edge} (v : Vld ks.length es) : Valid ⟨ks, es⟩ := fun d hd => by
  obtain ⟨h1, h2, h3, h4⟩ := v d hd
  exact ⟨mem_nodes.mpr ⟨h1, h2⟩, mem_nodes.mpr ⟨h3, h4⟩⟩
/-! ### tables within their range -/
def res (n : Nat) (t : T2) : T2 := fun x y => if 1 ≤ x ∧ x ≤ n ∧ 1 ≤ y ∧ y ≤ n then t x y else none
def EqOn (n : Nat) (t u : T2) : Prop := ∀ i j, i < n → j < n → t (i + 1) (j + 1) = u (i + 1) (j + 1)
theorem res_on (n : Nat) (t : T2) : EqOn n (res n t) t := fun i j hi hj => if_pos ⟨by omega, by omega, by omega, by omega⟩
theorem EqOn.up {n : Nat} {t u : T2} (h : EqOn n t u) : ∀ k, k ≤ n → EqOn n (tUp t k) (tUp u k)
  | 0, _, i, j, hi, hj => by
    show pick (tStay (i + 1) (j + 1)) (t (i + 1) (j + 1)) = pick (tStay (i + 1) (j + 1)) (u (i + 1) (j + 1))
    rw [h i j hi hj]
  | k + 1, hk, i, j, hi, hj => by
    have ih := EqOn.up h k (by omega)
    show pick (tUp t k (i + 1) (j + 1)) (joined (tUp t k (i + 1) (k + 1)) (tUp t k (k + 1) (j + 1))) = pick (tUp u k (i + 1) (j + 1)) (joined (tUp u k (i + 1) (k + 1)) (tUp u k (k + 1) (j + 1)))
    rw [ih i j hi hj, ih i k hi (by omega), ih k j (by omega) hj]
theorem EqOn.has {n : Nat} {t u : T2} (h : EqOn n t u) : EqOn n (tHas n t) (tHas n u) := fun i j hi hj => by
  have e : ((List.range n).any fun z => (t (i + 1) (z + 1)).isSome) = (List.range n).any fun z => (u (i + 1) (z + 1)).isSome := by
    rw [Bool.eq_iff_iff, (List.any_eq_true), List.any_eq_true]
    constructor
    · rintro ⟨z, hz, q⟩
      exact ⟨z, hz, by rw [← h i z hi (List.mem_range.mp hz)]; exact q⟩
    · rintro ⟨z, hz, q⟩
      exact ⟨z, hz, by rw [h i z hi (List.mem_range.mp hz)]; exact q⟩
  unfold tHas
  rw [e]
theorem EqOn.sq {n : Nat} {t t' u u' : T2} (h : EqOn n t t') (k : EqOn n u u') : EqOn n (tSq n t u) (tSq n t' u') := fun i j hi hj => by
  unfold tSq
  congr 1
  refine List.map_congr_left fun z hz => ?_
  rw [h i z hi (List.mem_range.mp hz), k z j (List.mem_range.mp hz) hj]
theorem EqOn.alt {n : Nat} {t t' u u' : T2} (h : EqOn n t t') (k : EqOn n u u') : EqOn n (tAlt t u) (tAlt t' u') := fun i j hi hj => by
  unfold tAlt
  rw [h i j hi hj, k i j hi hj]
theorem res_tb {ks : List (List Nat)} {es : List Gq01.Edge} (v : Vld ks.length es) {e : Gq01.E} (hn : ks.length ≤ 12) (he : szE e ≤ 60) : TB 800 (res ks.length (tOf ⟨ks, es⟩ e)) := fun x y w hw => by
  unfold res at hw
  by_cases c : 1 ≤ x ∧ x ≤ ks.length ∧ 1 ≤ y ∧ y ≤ ks.length
  · rw [if_pos c] at hw
    have h := tOf_short (vld_valid v) (mem_nodes.mpr ⟨c.1, c.2.1⟩) (mem_nodes.mpr ⟨c.2.2.1, c.2.2.2⟩) hw
    have h2 : szE e * ks.length ≤ 60 * 12 := Nat.mul_le_mul he hn
    have h : w.length ≤ szE e * ks.length := h
    omega
  · rw [if_neg c] at hw
    cases hw
/-- a table none of whose lists is d -/
def TabD (d : Addr) (H : Hp) (p : Addr) (rows : List (List (Option Way))) : Prop := p ≠ d ∧ ∃ qs, H p = some (.lst (qs.map V.ref)) ∧ F2 (fun q row => q ≠ d ∧ RowAt H q row) qs rows
theorem TabD.at_ {d : Addr} {H : Hp} {p : Addr} {rows : List (List (Option Way))} (h : TabD d H p rows) : TabAt H p rows := by
  obtain ⟨_, qs, h1, h2⟩ := h
  exact ⟨qs, h1, h2.imp fun _ _ _ r => r.2⟩
theorem TabD.of {d : Addr} {H0 H : Hp} {p : Addr} {xs : List V} {rows : List (List (Option Way))} (h : TabN H0 H p rows) (hd : H0 d = some (.lst xs)) : TabD d H p rows := by
  obtain ⟨h0, qs, h1, h2⟩ := h
  have nd : ∀ q, H0 q = none → q ≠ d := fun q hq z => by
    rw [z, hd] at hq
    cases hq
  exact ⟨nd p h0, qs, h1, h2.imp fun q row _ r => ⟨nd q r.1, r.2⟩⟩
theorem TabD.mono {d : Addr} {H H' : Hp} {p : Addr} {rows : List (List (Option Way))} (h : TabD d H p rows) (e : Ex H H') : TabD d H' p rows := by
  obtain ⟨h0, qs, h1, h2⟩ := h
  exact ⟨h0, qs, e _ _ h1, h2.imp fun _ _ _ r => ⟨r.1, r.2.mono e⟩⟩
theorem TabD.write {d : Addr} {H : Hp} {p : Addr} {xs ys : List V} {rows : List (List (Option Way))} (h : TabD d H p rows) (hd : H d = some (.lst xs)) : TabD d (upd H d (.lst ys)) p rows := by
  obtain ⟨h0, qs, h1, h2⟩ := h
  exact ⟨h0, qs, (upd_ne h0).trans h1, h2.imp fun q row _ ⟨r1, zs, r2, r3⟩ => ⟨r1, zs, (upd_ne r1).trans r2, rowP_st zs H d xs ys r3 hd⟩⟩
/-! ### relation_of, ways_of -/
abbrev qn (x : Str) : Str := (envOfC x ⟨.function, [], false, false, []⟩ 0 0 .none).qual ++ ("<lambda>" : Str)
abbrev TBL (P1 P2 : Addr) : List (Addr × Str) := [(P1, qn "relation_of"), (P2, qn "ways_of")]
structure Tz (K : PySem.W.Frag) (mg : Str → Option Value) (base : Heap) (C_Graph C_Line C_Reader a_CALLS c1 P1 c2 P2 : Addr) : Prop where
  T : Tx K mg C_Graph C_Line C_Reader a_CALLS
  r : DefC K mg "relation_of" s_relation_of ["parts", "node_kinds", "edges"] c1
  w : DefC K mg "ways_of" s_ways_of ["parts", "node_kinds", "edges"] c2
  t1 : TabB base mg c1 P1
  t2 : TabB base mg c2 P2
  ne : P1 ≠ P2
/-- what relation_of and ways_of are asked with -/
structure Asked (H : Hp) (a aN aE : Addr) (e : Gq01.E) (ks : List (List Nat)) (es : List Gq01.Edge) : Prop where
  pt : LLm [] H a (eparts e)
  sz : (eparts e).length ≤ 60
  kn : LLAt H aN ks
  ed : EdAt H aE es
  nk : ks.length ≤ 12
  ne : es.length ≤ 100
  ok : Vld ks.length es
theorem Asked.mono {L : Hp → Hp → Prop} [Pre L] {H H' : Hp} {a aN aE : Addr} {e : Gq01.E} {ks : List (List Nat)} {es : List Gq01.Edge} (h : Asked H a aN aE e ks es) (l : L H H') : Asked H' a aN aE e ks es := ⟨h.pt.mono l, h.sz, h.kn.mono l, h.ed.mono l, h.nk, h.ne, h.ok⟩
section
variable {P : Program} {w : World} {K : PySem.W.Frag} {mg : Str → Option Value} {base : Heap} {C_Graph C_Line C_Reader a_CALLS c1 P1 c2 P2 : Addr}
theorem new_ne {H : Hp} {d r : Addr} {o : HO} (h1 : H d = some o) (h2 : H r = none) : r ≠ d := fun z => by rw [z, h1] at h2; cases h2
/-- the lambda's promise, by what the def within it promises -/
def spLam (sp : Sp) : List (Option V) → Sp := fun ws vs H Q E => ∃ q aN aE : Addr, vs = [.ref q] ∧ ws = [some (.ref aE), some (.ref aN)] ∧ sp [.ref q, .ref aN, .ref aE] H Q E
def GGr (sp : Sp) (q : Str) (RR : Gq01.E → List (List Nat) → List Gq01.Edge → Addr → Hp → Prop) : Addr → Addr → List (Option V) → V → Hp → VK → Prop := fun c' _ ws v H Q =>
  ∃ (a aN aE : Addr) (e : Gq01.E) (ks : List (List Nat)) (es : List Gq01.Edge), v = .ref a ∧ ws = [some (.ref aE), some (.ref aN)] ∧ Asked H a aN aE e ks es ∧ H c' = some (CodeO c' q) ∧ ∀ p H', Ex H H' → RR e ks es p H' → Q (.ref p) H'
def RRr (e : Gq01.E) (ks : List (List Nat)) (es : List Gq01.Edge) (p : Addr) (H : Hp) : Prop := H p = some (.lst (nn (relN ks.length (rOf ⟨ks, es⟩ e))))
def RRw (e : Gq01.E) (ks : List (List Nat)) (es : List Gq01.Edge) (p : Addr) (H : Hp) : Prop := TabAt H p (tabL ks.length (tOf ⟨ks, es⟩ e))
def spOf (T : List (Addr × Str)) (RR : Gq01.E → List (List Nat) → List Gq01.Edge → Addr → Hp → Prop) : Sp := fun vs H Q _ => ∃ (a aN aE : Addr) (e : Gq01.E) (ks : List (List Nat)) (es : List Gq01.Edge), vs = [.ref a, .ref aN, .ref aE] ∧ Asked H a aN aE e ks es ∧ Tabs T H ∧ ∀ p H', LT T H H' → RR e ks es p H' → Q (.ref p) H'
theorem fold_rel (T : Tx K mg C_Graph C_Line C_Reader a_CALLS) {fO fT : Addr} (hO : Held P w K mg base 4 fO spOneR) (hT : Held P w K mg base 5 fT spTwoR) {q : Str} {fa : Addr} {cdv : Value} {A : Around} {outer : List Env} {s : Shared} {H : Hp} {Q : VK} {c' f : Addr} {ws : List (Option V)} {v : V}
    (hr : Room 5 (A.deeper (envOfC "folded" (fnScope s_folded) s.heap.objs.size fa cdv))) (a1 : Acts (cxOf CX0 P w K mg base N_folded "folded" (fnScope s_folded) fa cdv A outer s H C8.E0).nox 1 "of_plain" f (fun vs H Q E => H c' = some (CodeO c' q) ∧ spLam spPlainR ws vs H Q E)) (h : GGr spPlainR q RRr c' f ws v H Q) :
    ∃ t, PSs (cxOf CX0 P w K mg base N_folded "folded" (fnScope s_folded) fa cdv A outer s H C8.E0).nox (fnBody s_folded) t ∧ t { nx := fun _ H' => Q .non H', rt := Q } (L2.start N_folded [v, .ref f, .ref fO, .ref fT]) H := by
  obtain ⟨a, aN, aE, e, ks, es, rfl, rfl, ha, hc, k⟩ := h
  obtain ⟨_, qs, hqs, hF⟩ := ha.pt
  have hn : ks.length ≤ 100 := Nat.le_trans ha.nk (by decide)
  refine folded_ok T hr (plain := plainE) (one := oneE) (two := twoE) (R := fun d e v H => ∃ p, v = .ref p ∧ p ≠ d ∧ RRr e ks es p H) (okp := isPl) (wt := szE) sz_plain sz_one sz_two (fun d e v H H' l ⟨p, h1, h2, h3⟩ => ⟨p, h1, h2, l _ _ h3⟩) (fun d e v H xs ys ⟨p, h1, h2, h3⟩ hd => ⟨p, h1, h2, (upd_ne h2).trans h3⟩)
    a1 (acts_of hO hr (by decide) rfl (Or.inl rfl) (by decide) (by decide)) (acts_of hT hr (by decide) rfl (Or.inl rfl) (by decide) (by decide))
    (fun d xs H1 p q hd e1 h1 hq hm hp Q k1 => ⟨e1 _ _ hc, q, aN, aE, rfl, rfl, q, aN, aE, p, ks, es, rfl, hp, e1 _ _ hq, ha.kn.mono e1, ha.ed.mono e1, hn, ha.ne, ha.ok, fun r H2 hr2 e2 h2 => k1 _ H2 e2 ⟨r, rfl, new_ne h1 hr2, h2⟩⟩)
    (fun d xs H1 z a v hd e1 h1 hz hw ⟨p, hv, hpd, hp⟩ Q k1 => ⟨z, p, ks.length, rOf ⟨ks, es⟩ a, by rw [hv], hn, hp, fun r H2 hr2 e2 h2 => k1 _ H2 e2 ⟨r, rfl, new_ne h1 hr2, ?g1⟩⟩)
    (fun d xs H1 z a b v u hd e1 h1 hz hz1 hw ⟨p, hv, hpd, hp⟩ ⟨p', hv', hpd', hp'⟩ Q k1 => ⟨z, p, p', ks.length, rOf ⟨ks, es⟩ a, rOf ⟨ks, es⟩ b, by rw [hv, hv'], hn, hp, hp', fun r H2 hr2 e2 h2 => k1 _ H2 e2 ⟨r, rfl, new_ne h1 hr2, ?g2⟩⟩)
    hqs (hF.imp fun _ _ _ r => r.2) ha.sz (eparts_ok e) (run_all plainE oneE twoE e) (fun d v H' hd eH ⟨p, hv, hpd, hp⟩ => ?g3)
  case g1 =>
    show H2 r = some (.lst (nn (relN ks.length (rOf ⟨ks, es⟩ (oneE z a)))))
    have e : rOf ⟨ks, es⟩ (oneE z a) = oneR ks.length z (rOf ⟨ks, es⟩ a) := by
      unfold oneE oneR
      split <;> rfl
    rw [e]
    exact h2
  case g2 =>
    show H2 r = some (.lst (nn (relN ks.length (rOf ⟨ks, es⟩ (twoE z a b)))))
    have e : rOf ⟨ks, es⟩ (twoE z a b) = twoR ks.length z (rOf ⟨ks, es⟩ a) (rOf ⟨ks, es⟩ b) := by
      unfold twoE twoR
      split <;> rfl
    rw [e]
    exact h2
  case g3 =>
    rw [fold_id] at hp
    rw [hv]
    exact k p H' eH hp
theorem fold_ways (T : Tx K mg C_Graph C_Line C_Reader a_CALLS) {fO fT : Addr} (hO : Held P w K mg base 5 fO spOneW) (hT : Held P w K mg base 5 fT spTwoW) {q : Str} {fa : Addr} {cdv : Value} {A : Around} {outer : List Env} {s : Shared} {H : Hp} {Q : VK} {c' f : Addr} {ws : List (Option V)} {v : V}
    (hr : Room 5 (A.deeper (envOfC "folded" (fnScope s_folded) s.heap.objs.size fa cdv))) (a1 : Acts (cxOf CX0 P w K mg base N_folded "folded" (fnScope s_folded) fa cdv A outer s H C8.E0).nox 1 "of_plain" f (fun vs H Q E => H c' = some (CodeO c' q) ∧ spLam spPlainW ws vs H Q E)) (h : GGr spPlainW q RRw c' f ws v H Q) :
    ∃ t, PSs (cxOf CX0 P w K mg base N_folded "folded" (fnScope s_folded) fa cdv A outer s H C8.E0).nox (fnBody s_folded) t ∧ t { nx := fun _ H' => Q .non H', rt := Q } (L2.start N_folded [v, .ref f, .ref fO, .ref fT]) H := by
  obtain ⟨a, aN, aE, e, ks, es, rfl, rfl, ha, hc, k⟩ := h
  obtain ⟨_, qs, hqs, hF⟩ := ha.pt
  have hn : ks.length ≤ 100 := Nat.le_trans ha.nk (by decide)
  have rs : ∀ e, tabL ks.length (tOf ⟨ks, es⟩ e) = tabL ks.length (res ks.length (tOf ⟨ks, es⟩ e)) := fun e => tabL_congr fun i j hi hj => (res_on ks.length _ i j hi hj).symm
  refine folded_ok T hr (plain := plainE) (one := oneE) (two := twoE) (R := fun d e v H => ∃ p, v = .ref p ∧ TabD d H p (tabL ks.length (tOf ⟨ks, es⟩ e))) (okp := isPl) (wt := szE) sz_plain sz_one sz_two (fun d e v H H' l ⟨p, h1, h2⟩ => ⟨p, h1, h2.mono l⟩) (fun d e v H xs ys ⟨p, h1, h2⟩ hd => ⟨p, h1, h2.write hd⟩)
    a1 (acts_of hO hr (by decide) rfl (Or.inl rfl) (by decide) (by decide)) (acts_of hT hr (by decide) rfl (Or.inl rfl) (by decide) (by decide))
    (fun d xs H1 p q hd e1 h1 hq hm hp Q k1 => ⟨e1 _ _ hc, q, aN, aE, rfl, rfl, q, aN, aE, p, ks, es, rfl, hp, e1 _ _ hq, ha.kn.mono e1, ha.ed.mono e1, hn, ha.ne, ha.ok, fun r H2 e2 t2 => k1 _ H2 e2 ⟨r, rfl, TabD.of t2 h1⟩⟩)
    (fun d xs H1 z a v hd e1 h1 hz hw ⟨p, hv, hp⟩ Q k1 => ⟨z, p, ks.length, res ks.length (tOf ⟨ks, es⟩ a), by rw [hv], ha.nk, by rw [← rs]; exact hp.at_, res_tb ha.ok ha.nk hw, fun r H2 e2 t2 => k1 _ H2 e2 ⟨r, rfl, ?g1⟩⟩)
    (fun d xs H1 z a b v u hd e1 h1 hz hz1 hw ⟨p, hv, hp⟩ ⟨p', hv', hp'⟩ Q k1 => ⟨z, p, p', ks.length, res ks.length (tOf ⟨ks, es⟩ a), res ks.length (tOf ⟨ks, es⟩ b), by rw [hv, hv'], ha.nk, by rw [← rs]; exact hp.at_, by rw [← rs]; exact hp'.at_, res_tb ha.ok ha.nk (by omega), res_tb ha.ok ha.nk (by omega), fun r H2 e2 t2 => k1 _ H2 e2 ⟨r, rfl, ?g2⟩⟩)
    hqs (hF.imp fun _ _ _ r => r.2) ha.sz (eparts_ok e) (run_all plainE oneE twoE e) (fun d v H' hd eH ⟨p, hv, hp⟩ => ?g3)
  case g1 =>
    have e : tabL ks.length (oneW ks.length z (res ks.length (tOf ⟨ks, es⟩ a))) = tabL ks.length (tOf ⟨ks, es⟩ (oneE z a)) := by
      unfold oneW oneE
      by_cases c : z = 6
      · rw [if_pos c, if_pos c]
        exact tabL_congr ((res_on _ _).up _ (Nat.le_refl _))
      · rw [if_neg c, if_neg c]
        exact tabL_congr (res_on _ _).has
    rw [e] at t2
    exact TabD.of t2 h1
  case g2 =>
    have e : tabL ks.length (twoW ks.length z (res ks.length (tOf ⟨ks, es⟩ a)) (res ks.length (tOf ⟨ks, es⟩ b))) = tabL ks.length (tOf ⟨ks, es⟩ (twoE z a b)) := by
      unfold twoW twoE
      by_cases c : z = 4
      · rw [if_pos c, if_pos c]
        exact tabL_congr ((res_on _ _).sq (res_on _ _))
      · rw [if_neg c, if_neg c]
        exact tabL_congr ((res_on _ _).alt (res_on _ _))
    rw [e] at t2
    exact TabD.of t2 h1
  case g3 =>
    rw [fold_id] at hp
    rw [hv]
    exact k p H' eH hp.at_
theorem cal_relation_of (Z : Tz K mg base C_Graph C_Line C_Reader a_CALLS c1 P1 c2 P2) : Cal P w K mg base 7 "relation_of" (spOf (TBL P1 P2) RRr) [] := by
  have T := Z.T
  obtain ⟨fO, mO, hO⟩ := held_def (P := P) (w := w) (base := base) (cal_relation_of_one T)
  obtain ⟨fT, mT, hT⟩ := held_def (P := P) (w := w) (base := base) (cal_relation_of_two T)
  refine Z.r.cal sc_relation_of (fun vs H Q E h => by obtain ⟨a, aN, aE, e, ks, es, rfl, _⟩ := h; rfl) (fun f A outer s H vs Q E hr h => ⟨_, (pss_one (ps_ret (pe_foldlam (T := TBL P1 P2) (Nl := ["part", "edges", "node_kinds"]) (fr := ["edges", "node_kinds"]) (js := [2, 1]) (k := 4) (spP := spLam spPlainR) (GG := GGr spPlainR (qn "relation_of") RRr) T.d_folded rfl Z.t1 rfl (List.mem_cons_self ..) (fun p hp e => ?g1) hr rfl (Or.inl rfl) (NdefX.nscope_by (by decide +kernel)) (NdefX.ndef_free (sc := fnScope s_relation_of) (fr := ["edges", "node_kinds"]) (by decide +kernel)) (NdefX.ndef_fr (sc := fnScope s_relation_of) (by decide +kernel)) rfl rfl (fun q cl pm cv ctv u => rfl) rfl mO rfl mT (by decide) (by decide) (by decide) (fun cl f c' ws A outer s H vs Q E h => ?g2) (fun fa cdv s H Q c' f ws v hr' a1 h => fold_rel T hO hT hr' a1 h)))), ?g3⟩)
  case g1 =>
    rcases List.mem_cons.mp hp with h | h
    · rw [h]; rfl
    · have h : p = (P2, qn "ways_of") := by simpa using h
      rw [h] at e; exact absurd e.symm Z.ne
  case g2 =>
    obtain ⟨q, aN, aE, rfl, rfl, h⟩ := h
    exact ⟨rfl, fun hr => ⟨_, pe_c (cal_relation_of_plain T) hr (by decide) rfl (pa_cons (pv 0) (pa_cons (pv 2) (pa_cons (pv 1) pa_nil))), _, rfl, _, rfl, _, rfl, h⟩⟩
  case g3 =>
    obtain ⟨a, aN, aE, e, ks, es, rfl, ha, ht, k⟩ := h
    refine ⟨_, rfl, ht, fun H1 f' c' eN t1 hc => ?_⟩
    have l : LT (TBL P1 P2) H H1 := ⟨eN, fun _ => t1⟩
    exact ⟨a, aN, aE, e, ks, es, rfl, rfl, ha.mono l, hc, fun p H2 e2 r2 => k p H2 (Pre.trans l (Pre.ex e2)) r2⟩
theorem cal_ways_of (Z : Tz K mg base C_Graph C_Line C_Reader a_CALLS c1 P1 c2 P2) : Cal P w K mg base 7 "ways_of" (spOf (TBL P1 P2) RRw) [] := by
  have T := Z.T
  obtain ⟨fO, mO, hO⟩ := held_def (P := P) (w := w) (base := base) (cal_ways_of_one T)
  obtain ⟨fT, mT, hT⟩ := held_def (P := P) (w := w) (base := base) (cal_ways_of_two T)
  refine Z.w.cal sc_ways_of (fun vs H Q E h => by obtain ⟨a, aN, aE, e, ks, es, rfl, _⟩ := h; rfl) (fun f A outer s H vs Q E hr h => ⟨_, (pss_one (ps_ret (pe_foldlam (T := TBL P1 P2) (Nl := ["part", "edges", "node_kinds"]) (fr := ["edges", "node_kinds"]) (js := [2, 1]) (k := 4) (spP := spLam spPlainW) (GG := GGr spPlainW (qn "ways_of") RRw) T.d_folded rfl Z.t2 rfl (List.mem_cons_of_mem _ (List.mem_cons_self ..)) (fun p hp e => ?g1) hr rfl (Or.inl rfl) (NdefX.nscope_by (by decide +kernel)) (NdefX.ndef_free (sc := fnScope s_ways_of) (fr := ["edges", "node_kinds"]) (by decide +kernel)) (NdefX.ndef_fr (sc := fnScope s_ways_of) (by decide +kernel)) rfl rfl (fun q cl pm cv ctv u => rfl) rfl mO rfl mT (by decide) (by decide) (by decide) (fun cl f c' ws A outer s H vs Q E h => ?g2) (fun fa cdv s H Q c' f ws v hr' a1 h => fold_ways T hO hT hr' a1 h)))), ?g3⟩)
  case g1 =>
    rcases List.mem_cons.mp hp with h | h
    · rw [h] at e; exact absurd e Z.ne
    · have h : p = (P2, qn "ways_of") := by simpa using h
      rw [h]; rfl
  case g2 =>
    obtain ⟨q, aN, aE, rfl, rfl, h⟩ := h
    exact ⟨rfl, fun hr => ⟨_, pe_c (cal_ways_of_plain T) hr (by decide) rfl (pa_cons (pv 0) (pa_cons (pv 2) (pa_cons (pv 1) pa_nil))), _, rfl, _, rfl, _, rfl, h⟩⟩
  case g3 =>
    obtain ⟨a, aN, aE, e, ks, es, rfl, ha, ht, k⟩ := h
    refine ⟨_, rfl, ht, fun H1 f' c' eN t1 hc => ?_⟩
    have l : LT (TBL P1 P2) H H1 := ⟨eN, fun _ => t1⟩
    exact ⟨a, aN, aE, e, ks, es, rfl, rfl, ha.mono l, hc, fun p H2 e2 r2 => k p H2 (Pre.trans l (Pre.ex e2)) r2⟩
end
end WG
namespace WG
open PySem PySem.Spec
open PyProof.Rows
open L2 hiding CX0 E0 pass0 Fun
open C8 Evl WM
open LamX (CodeO Tabs TabS ExtN TabB)
/-! ### counted, counted_edges -/
def edR (es : List Gq01.Edge) : List Int := es.flatMap fun e => [(e.src : Int), (e.label : Int), (e.dst : Int)]
theorem edR_app (a b : List Gq01.Edge) : edR (a ++ b) = edR a ++ edR b := List.flatMap_append
theorem edR_len : ∀ es : List Gq01.Edge, (edR es).length = 3 * es.length
  | [] => rfl
  | e :: es => by
    show (_ :: _ :: _ :: edR es).length = _
    rw [List.length_cons, List.length_cons, List.length_cons, edR_len es, List.length_cons]
    omega
section
variable {P : Program} {w : World} {K : PySem.W.Frag} {mg : Str → Option Value} {base : Heap} {C_Graph C_Line C_Reader a_CALLS c1 P1 c2 P2 : Addr}
def spCounted : Sp := fun vs H Q _ => ∃ (a : Addr) (ns : List Int), vs = [.ref a] ∧ H a = some (.lst (nums ns)) ∧ ns.length ≤ 10000 ∧ RetL (nums ((ns.length : Int) :: ns)) H Q
theorem cal_counted (T : Tx K mg C_Graph C_Line C_Reader a_CALLS) : Cal P w K mg base 1 "counted" spCounted [] := by
  refine T.d_counted.cal sc_counted (fun vs H Q E h => by obtain ⟨a, ns, rfl, _⟩ := h; rfl) (fun f cdv A outer s H vs Q E hr h => ⟨_, (pss_one (ps_ret (pe_op op_cat (pe_lst (pa_cons (pe_callB call_len_seq (by rfl) T.b_len PySem.boot_len (pa_cons (pv 0) pa_nil)) pa_nil)) (pv 0)))), ?_⟩)
  obtain ⟨a, ns, rfl, ha, hn, k⟩ := h
  refine ⟨_, rfl, a, _, rfl, Or.inl (sq_of ha), sz1, fun l hl => ⟨_, rfl, l, a, _, _, rfl, rfl, upd_same, (upd_ne (ne_of_none ha hl)).trans ha, sz_of (by simp; omega), fun p hp => ?_⟩⟩
  refine k p _ (fresh_back (Ex.new hl) hp) ((Ex.new hl).trans (Ex.new hp)) ?_
  rw [upd_same, nums_len]
  rfl
def spCountedE : Sp := fun vs H Q _ => ∃ (a : Addr) (es : List Gq01.Edge), vs = [.ref a] ∧ EdAt H a es ∧ es.length ≤ 1000 ∧ RetL (nums ((es.length : Int) :: edR es)) H Q
theorem cal_counted_edges (T : Tx K mg C_Graph C_Line C_Reader a_CALLS) : Cal P w K mg base 1 "counted_edges" spCountedE [] := by
  refine T.d_counted_edges.cal sc_counted_edges (fun vs H Q E h => by obtain ⟨a, es, rfl, _⟩ := h; rfl) (fun f cdv A outer s H vs Q E hr h => ⟨_, (pss_cons (ps_set (i := 1) sc_counted_edges.nd rfl (Or.inl rfl) (pe_lst (pa_cons (pe_callB call_len_seq (by rfl) T.b_len PySem.boot_len (pa_cons (pv 0) pa_nil)) pa_nil)))
      (pss_cons (ps_for PassesOwn.never rfl (pi_list (pv 0)) (pg_name (i := 2) sc_counted_edges.nd rfl (Or.inl rfl)) (pss_one (ps_expr (pe_bm PySem.F.plainAttrs_list PySem.F.slot_list_extend PySem.F.type_list_extend mt_extendT (pv 1) (pa_cons (pv 2) pa_nil)))))
      (pss_one (ps_ret (pv 1))))), ?_⟩)
  obtain ⟨a, es, rfl, ⟨ts, h1, h2⟩, hn, k⟩ := h
  have hlt : (ts.map V.ref).length = es.length := by rw [List.length_map]; exact h2.len
  refine q_asgL (el_lst (ea_cons (ev_lenI (K := K) (ev_var rfl) h1 hlt) ea_nil) (by show 1 ≤ 100000; decide)) fun l H1 hl e1 hL => ?_
  refine q_forLn (K := K) (ev_var rfl) (sq_of (e1 _ _ h1)) (fun i σ' H' => ∃ v, σ' = [some (.ref a), some (.ref l), v] ∧ Ex H H' ∧ H' l = some (.lst (nums ((es.length : Int) :: edR (es.take i))))) (fun H2 e2 => ⟨none, rfl, e1.trans e2, e2 _ _ hL⟩) (fun i σ' H' _ ⟨_, _, e, _⟩ => sq_of (e _ _ h1)) ?_ ?_
  · rintro i x σ' H' hi ⟨v, rfl, eH, hL'⟩
    obtain ⟨t, e, rfl, ht, he, hte⟩ := f2_ref h2 hi
    have hlen : (edR (es.take i)).length ≤ 3 * es.length := by
      rw [edR_len, List.length_take]
      omega
    refine ⟨_, rfl, Or.inl ⟨rfl, _, sq_of hL'⟩, _, rfl, l, t, _, edV e, rfl, rfl, hL', st_of (eH _ _ hte), sz_of (by rw [nums_len, List.length_cons]; show _ + 3 ≤ 100000; omega), ?_⟩
    refine ⟨some (.ref t), rfl, eH.mut hl, ?_⟩
    rw [upd_same, List.take_add_one, he]
    show some (HO.lst (nums ((es.length : Int) :: edR (es.take i)) ++ edV e)) = some (HO.lst (nums ((es.length : Int) :: edR (es.take i ++ [e]))))
    rw [edR_app]
    congr 2
    show _ = nums (((es.length : Int) :: edR (es.take i)) ++ [(e.src : Int), (e.label : Int), (e.dst : Int)])
    rw [nums_app]
    rfl
  · rintro σ' H' ⟨v, rfl, eH, hL'⟩
    refine s_ret (ev_var rfl) fun H2 e2 => k l H2 hl (eH.trans e2) ?_
    rw [hlt, List.take_length] at hL'
    exact e2 _ _ hL'
/-! ### the line in the heap -/
abbrev lF (aG aQ : Addr) : List (Str × V) := [("graph", .ref aG), ("question", .ref aQ)]
theorem lF_g {aG aQ : Addr} : (lF aG aQ).lookup ("graph" : Str) = some (.ref aG) := lk_here
theorem lF_q {aG aQ : Addr} : (lF aG aQ).lookup ("question" : Str) = some (.ref aQ) := (lk_past (by decide +kernel)).trans lk_here
theorem lF_no {aG aQ : Addr} {m : Str} (h1 : (m == ("graph" : Str)) = false) (h2 : (m == ("question" : Str)) = false) : (lF aG aQ).lookup m = none := (lk_past h1).trans ((lk_past h2).trans rfl)
theorem lF_put {aG aQ q : Addr} : putF "question" (.ref q) (lF aG aQ) = lF aG q := (put_past (by decide +kernel)).trans (congrArg _ put_here)
/-- M is known as long as its objects are lists -/
def KnL (M : List Addr) (H : Hp) : Prop := ∀ m ∈ M, ∃ xs, H m = some (.lst xs)
theorem KnL.kn {M : List Addr} {H : Hp} (h : KnL M H) : Kn M H := fun m hm z => by
  obtain ⟨xs, q⟩ := h m hm
  rw [q] at z
  cases z
theorem KnL.mono {L : Hp → Hp → Prop} [Pre L] {M : List Addr} {H H' : Hp} (h : KnL M H) (e : L H H') : KnL M H' := fun m hm => (h m hm).imp fun xs q => Pre.lst e q
structure LnAt (CG CL : Addr) (M : List Addr) (H : Hp) (aL aG aN aE aQ : Addr) (d : Gq01.Desk) : Prop where
  obj : ∃ dx, H aL = some (.ins CL dx (lF aG aQ))
  gr : GrAt CG M H aG aN aE d.graph
  qu : LLm (aN :: aE :: M) H aQ (eparts d.ask)
  sz : (eparts d.ask).length ≤ 60
  vd : Vld d.graph.kinds.length d.graph.edges
  kn : KnL M H
  nm : aN ∉ M ∧ aE ∉ M
theorem f2_of {α β : Type} {R : α → β → Prop} : ∀ {l : List α} {m : List β}, l.length = m.length → (∀ (i : Nat) (a : α) (b : β), l[i]? = some a → m[i]? = some b → R a b) → F2 R l m
  | [], [], _, _ => .nil
  | [], _ :: _, len0, _ => by simp at len0
  | _ :: _, [], len0, _ => by simp at len0
  | a :: l, b :: m, h, k => .cons (k 0 a b rfl rfl) (f2_of (by simpa using h) fun i a b h1 h2 => k (i + 1) a b h1 h2)
section
variable {L : Hp → Hp → Prop} [Pre L] {CG CL : Addr} {M : List Addr} {H H' : Hp} {aL aG aN aE aQ : Addr} {d : Gq01.Desk} {g : Gq01.Graph}
theorem GrAt.ll (h : GrAt CG M H aG aN aE g) : LLAt H aN g.kinds := by
  obtain ⟨qs, h1, h2, h3⟩ := h.nl
  exact ⟨qs, h1, f2_of h2 fun i q k a b => (h3 i q k a b).1⟩
theorem GrAt.eda (h : GrAt CG M H aG aN aE g) : EdAt H aE g.edges := by
  obtain ⟨ts, h1, h2, h3⟩ := h.el
  exact ⟨ts, h1, f2_of h2 h3⟩
theorem GrAt.monoL (h : GrAt CG M H aG aN aE g) (e : L H H') : GrAt CG M H' aG aN aE g := by
  obtain ⟨dx, h1⟩ := h.obj
  obtain ⟨qs, h2, h3, h4⟩ := h.nl
  obtain ⟨ts, h5, h6, h7⟩ := h.el
  exact ⟨⟨dx, Pre.keep e h1 nt_ins⟩, ⟨qs, Pre.lst e h2, h3, fun i q k a b => let ⟨k1, k2⟩ := h4 i q k a b; ⟨Pre.lst e k1, k2⟩⟩, ⟨ts, Pre.lst e h5, h6, fun i t d a b => Pre.tup e (h7 i t d a b)⟩, h.ne, h.few, h.nd⟩
theorem LnAt.asked (h : LnAt CG CL M H aL aG aN aE aQ d) : Asked H aQ aN aE d.ask d.graph.kinds d.graph.edges := ⟨h.qu.sub (fun b hb => by cases hb), h.sz, h.gr.ll, h.gr.eda, h.gr.few.1, Nat.le_trans h.gr.few.2 (by decide), h.vd⟩
end
theorem LnAt.monoL {L : Hp → Hp → Prop} [Pre L] {CG CL : Addr} {M : List Addr} {H H' : Hp} {aL aG aN aE aQ : Addr} {d : Gq01.Desk} (h : LnAt CG CL M H aL aG aN aE aQ d) (e : L H H') : LnAt CG CL M H' aL aG aN aE aQ d :=
  ⟨h.obj.imp fun dx q => Pre.keep e q nt_ins, h.gr.monoL e, h.qu.mono e, h.sz, h.vd, h.kn.mono e, h.nm⟩
/-! ### calls whose arguments are known -/
section
variable {σ : L2.St} {H : Hp} {ta : TE} {t : TA} {sp : Sp} {E : XK} {Q : VK} {vs : List V} {a C dx : Addr} {m : Str} {fs : List (Str × V)}
theorem x_callA (h : EvA t σ H vs) (k : ∀ H1, Ex H H1 → sp (vs ++ []) H1 Q E) : tCall sp [] E t σ H Q := h H (Ex.refl H) _ k
theorem x_methA (ha : Ev ta σ H (.ref a)) (h : H a = some (.ins C dx fs)) (l : fs.lookup m = none) (hA : EvA t σ H vs) (k : ∀ H1, Ex H H1 → sp (.ref a :: (vs ++ [])) H1 Q E) : tMeth C m sp [] E ta t σ H Q :=
  ha H (Ex.refl H) _ fun H1 e1 => ⟨a, dx, fs, rfl, e1 _ _ h, l, hA H1 e1 _ fun H2 e2 => k H2 (e1.trans e2)⟩
end
/-! ### has_nodes, relation_by, relation -/
def spHasNodes (CG CL : Addr) : Sp := fun vs H Q _ => ∃ (M : List Addr) (aL aG aN aE aQ : Addr) (d : Gq01.Desk) (x y : Nat), vs = [.ref aL, .int (x : Int), .int (y : Int)] ∧ LnAt CG CL M H aL aG aN aE aQ d ∧ ∀ H', Ex H H' → Q (.bl (Gq01.isNode d.graph x && Gq01.isNode d.graph y)) H'
theorem met_Line_has_nodes (T : Tx K mg C_Graph C_Line C_Reader a_CALLS) : Met P w K mg base 2 C_Line "has_nodes" (spHasNodes C_Graph C_Line) [] := by
  refine T.m_Line_has_nodes.met sc_Line_has_nodes (fun vs H Q E h => by obtain ⟨M, aL, aG, aN, aE, aQ, d, x, y, rfl, _⟩ := h; rfl) (fun f cdv A outer s H vs Q E hr h => ⟨_, (pss_one (ps_ret (pe_and (pe_mt (met_Graph_has_node T) hr (by decide) (pe_fld (pv 0) rfl) (pa_cons (pv 1) pa_nil)) (pe_one (pe_mt (met_Graph_has_node T) hr (by decide) (pe_fld (pv 0) rfl) (pa_cons (pv 2) pa_nil)))))), ?_⟩)
  obtain ⟨M, aL, aG, aN, aE, aQ, d, x, y, rfl, hL, k⟩ := h
  obtain ⟨dx, h1⟩ := hL.obj
  obtain ⟨dg, h2⟩ := hL.gr.obj
  have evG : Ev (tFld K (tVar 0) "graph") (L2.start N_Line_has_nodes [.ref aL, .int (x : Int), .int (y : Int)]) H (.ref aG) := ev_fld (ev_var rfl) h1 T.c_Line T.n_Line_graph lF_g
  exact s_ret (ev_andV (ev_meth evG h2 (gF_no (by decide +kernel) (by decide +kernel)) (ea_cons (ev_var rfl) ea_nil) (spHasNode_v hL.gr)) fun _ => ev_meth evG h2 (gF_no (by decide +kernel) (by decide +kernel)) (ea_cons (ev_var rfl) ea_nil) (spHasNode_v hL.gr)) k
def spRelBy (CG CL : Addr) (T : List (Addr × Str)) : Sp := fun vs H Q _ => ∃ (M : List Addr) (aL aG aN aE aQ aX : Addr) (d : Gq01.Desk) (es : List Gq01.Edge), vs = [.ref aL, .ref aX] ∧ LnAt CG CL M H aL aG aN aE aQ d ∧ EdAt H aX es ∧ es.length ≤ 100 ∧ Vld d.graph.kinds.length es ∧ Tabs T H ∧
  ∀ p H', LT T H H' → RRr d.ask d.graph.kinds es p H' → Q (.ref p) H'
theorem met_Line_relation_by (Z : Tz K mg base C_Graph C_Line C_Reader a_CALLS c1 P1 c2 P2) : Met P w K mg base 8 C_Line "relation_by" (spRelBy C_Graph C_Line (TBL P1 P2)) [] := by
  have T := Z.T
  refine T.m_Line_relation_by.met sc_Line_relation_by (fun vs H Q E h => by obtain ⟨M, aL, aG, aN, aE, aQ, aX, d, es, rfl, _⟩ := h; rfl) (fun f cdv A outer s H vs Q E hr h => ⟨_, (pss_one (ps_ret (pe_c (cal_relation_of Z) hr (by decide) rfl (pa_cons (pe_fld (pv 0) rfl) (pa_cons (pe_fld (pe_fld (pv 0) rfl) rfl) (pa_cons (pv 1) pa_nil)))))), ?_⟩)
  obtain ⟨M, aL, aG, aN, aE, aQ, aX, d, es, rfl, hL, hX, hn, hv, ht, k⟩ := h
  obtain ⟨dx, h1⟩ := hL.obj
  obtain ⟨dg, h2⟩ := hL.gr.obj
  have evG : Ev (tFld K (tVar 0) "graph") (L2.start N_Line_relation_by [.ref aL, .ref aX]) H (.ref aG) := ev_fld (ev_var rfl) h1 T.c_Line T.n_Line_graph lF_g
  refine x_ret (x_callA (vs := [.ref aQ, .ref aN, .ref aX]) (ea_cons (ev_fld (ev_var rfl) h1 T.c_Line T.n_Line_question lF_q) (ea_cons (ev_fld evG h2 T.c_Graph T.n_Graph_node_kinds gF_n) (ea_cons (ev_var rfl) ea_nil))) fun H1 e1 => ?_)
  have a1 := hL.asked.mono e1
  exact ⟨aQ, aN, aX, d.ask, d.graph.kinds, es, rfl, ⟨a1.pt, a1.sz, a1.kn, hX.mono e1, a1.nk, hn, hv⟩, ht.ext e1, fun p H2 l2 r2 => k p H2 (Pre.trans (Pre.ex e1) l2) r2⟩
def spRel (CG CL : Addr) (T : List (Addr × Str)) : Sp := fun vs H Q _ => ∃ (M : List Addr) (aL aG aN aE aQ : Addr) (d : Gq01.Desk), vs = [.ref aL] ∧ LnAt CG CL M H aL aG aN aE aQ d ∧ Tabs T H ∧ ∀ p H', LT T H H' → RRr d.ask d.graph.kinds d.graph.edges p H' → Q (.ref p) H'
theorem met_Line_relation (Z : Tz K mg base C_Graph C_Line C_Reader a_CALLS c1 P1 c2 P2) : Met P w K mg base 9 C_Line "relation" (spRel C_Graph C_Line (TBL P1 P2)) [] := by
  have T := Z.T
  refine T.m_Line_relation.met sc_Line_relation (fun vs H Q E h => by obtain ⟨M, aL, aG, aN, aE, aQ, d, rfl, _⟩ := h; rfl) (fun f cdv A outer s H vs Q E hr h => ⟨_, (pss_one (ps_ret (pe_mt (met_Line_relation_by Z) hr (by decide) (pv 0) (pa_cons (pe_fld (pe_fld (pv 0) rfl) rfl) pa_nil)))), ?_⟩)
  obtain ⟨M, aL, aG, aN, aE, aQ, d, rfl, hL, ht, k⟩ := h
  obtain ⟨dx, h1⟩ := hL.obj
  obtain ⟨dg, h2⟩ := hL.gr.obj
  have evG : Ev (tFld K (tVar 0) "graph") (L2.start N_Line_relation [.ref aL]) H (.ref aG) := ev_fld (ev_var rfl) h1 T.c_Line T.n_Line_graph lF_g
  refine x_ret (x_methA (vs := [.ref aE]) (ev_var rfl) h1 (lF_no (by decide +kernel) (by decide +kernel)) (ea_cons (ev_fld evG h2 T.c_Graph T.n_Graph_edge_list gF_e) ea_nil) fun H1 e1 => ?_)
  have a1 := hL.asked.mono e1
  exact ⟨M, aL, aG, aN, aE, aQ, aE, d, d.graph.edges, rfl, hL.monoL e1, a1.ed, a1.ne, a1.ok, ht.ext e1, fun p H2 l2 r2 => k p H2 (Pre.trans (Pre.ex e1) l2) r2⟩
/-! ### is_needed -/
def relW (d : Gq01.Desk) (e : Gq01.Edge) (x y : Nat) : Bool := rOf (Gq01.without d.graph e) d.ask x y
theorem vld_filter {n : Nat} {es : List Gq01.Edge} (h : Vld n es) (p : Gq01.Edge → Bool) : Vld n (es.filter p) := fun e he => h e (List.mem_filter.mp he).1
def spNeeded1 (CG CL : Addr) (T : List (Addr × Str)) : Sp := fun vs H Q _ => ∃ (M : List Addr) (aL aG aN aE aQ t : Addr) (d : Gq01.Desk) (e : Gq01.Edge) (x y : Nat), vs = [.ref aL, .ref t, .int (x : Int), .int (y : Int)] ∧ LnAt CG CL M H aL aG aN aE aQ d ∧ H t = some (.tup (edV e)) ∧
  (1 ≤ x ∧ x ≤ d.graph.kinds.length) ∧ (1 ≤ y ∧ y ≤ d.graph.kinds.length) ∧ Tabs T H ∧ ∀ H', LT T H H' → Q (.bl (!relW d e x y)) H'
theorem met_Line_is_needed (Z : Tz K mg base C_Graph C_Line C_Reader a_CALLS c1 P1 c2 P2) : Met P w K mg base 9 C_Line "is_needed" (spNeeded1 C_Graph C_Line (TBL P1 P2)) [] := by
  have T := Z.T
  refine T.m_Line_is_needed.met sc_Line_is_needed (fun vs H Q E h => by obtain ⟨M, aL, aG, aN, aE, aQ, t, d, e, x, y, rfl, _⟩ := h; rfl) (fun f cdv A outer s H vs Q E hr h => ⟨_, (pss_cons (ps_setLc (i := 4) (own := [("other", 5)]) (g := (gName 5)) (tt := (tTest (tOp (rNeD K) _ _))) rfl sc_Line_is_needed.nd rfl rfl (sw_true rfl rfl rfl (by decide +kernel)) (pi_list (pe_fld (pe_fld (pv 0) rfl) rfl)) (blkOk_by (own := [("other", 5)]) (N := N_Line_is_needed) (sc := fnScope s_Line_is_needed) (by decide +kernel)) (fun _ _ _ _ _ => (pg_name (i := 5) sc_Line_is_needed.nd rfl (Or.inl rfl))) (fun _ _ _ _ _ => (pts_one (pt_cmpR (op_neD hr.units) (pv 5) (pv 1) (nomark _)))) (fun _ _ _ _ _ => (pv 5)))
      (pss_one (ps_ret (pe_not (pe_c (cal_has_pair T) hr (by decide) rfl (pa_cons (pe_mt (met_Line_relation_by Z) hr (by decide) (pv 0) (pa_cons (pv 4) pa_nil)) (pa_cons (pv 2) (pa_cons (pv 3) pa_nil)))))))), ?_⟩)
  obtain ⟨M, aL, aG, aN, aE, aQ, t, d, e, x, y, rfl, hL, hte, hx, hy, ht, k⟩ := h
  obtain ⟨dx, h1⟩ := hL.obj
  obtain ⟨dg, h2⟩ := hL.gr.obj
  obtain ⟨ts, h3, h4⟩ := hL.gr.eda
  have evG : Ev (tFld K (tVar 0) "graph") (L2.start N_Line_is_needed [.ref aL, .ref t, .int (x : Int), .int (y : Int)]) H (.ref aG) := ev_fld (ev_var rfl) h1 T.c_Line T.n_Line_graph lF_g
  refine x_asg (er_lcL (L := Ex) (K := K) (a := aE) (xs := ts.map V.ref) (fun i => d.graph.edges.getD i e00 != e) (fun i => TupR (edV (d.graph.edges.getD i e00))) (fun i => tupR_mo) (fun i => tupR_st) (ev_fld evG h2 T.c_Graph T.n_Graph_edge_list gF_e) (fun H1 e1 => sq_of (e1 _ _ h3)) (by rw [List.length_map, h4.len]; exact Nat.le_trans hL.gr.few.2 (by decide)) (fun x => rfl) (fun i v H1 e1 hi => ?_) H (Ex.refl _) _ fun p ys H1 hp e1 hy1 out => ?_)
  · obtain ⟨q, d', rfl, hq, hd', hqd⟩ := f2_ref h4 hi
    rw [getD_at hd']
    refine ⟨?_, fun _ => EvR.of (ev_var rfl) fun H2 e2 => ⟨q, rfl, (e1.trans e2) _ _ hqd⟩⟩
    have rv : RV (rNeD K) (.ref q) (.ref t) H1 (.bl (d' != e)) := fun H2 e2 Q qq => ⟨eD d', eD e, dp_tup ((e1.trans e2) _ _ hqd), dp_tup ((e1.trans e2) _ _ hte), eD_shaped _, eD_shaped _, by
      have ee : (!PyData.eqv (eD d') (eD e)) = (d' != e) := by
        rw [eD_eqv]
        by_cases c : d' = e
        · subst c
          simp
        · rw [decide_eq_false c]
          exact (bne_iff_ne.mpr c).symm
      rw [ee]
      exact qq H2 (Ex.refl _)⟩
    exact et_test (ev_op (ev_var rfl) (ev_var rfl) rv)
  · rw [OutR, List.length_map, h4.len] at out
    have out2 : F2 (fun (d' : Gq01.Edge) y => ∃ t, y = V.ref t ∧ H1 t = some (.tup (edV d'))) (((List.range d.graph.edges.length).filter fun i => d.graph.edges.getD i e00 != e).map fun i => d.graph.edges.getD i e00) ys := F2.map out
    rw [range_filter d.graph.edges e00 (fun d' => d' != e)] at out2
    obtain ⟨us, rfl, hus⟩ := f2_refs out2
    have hX : EdAt H1 p (d.graph.edges.filter fun d' => d' != e) := ⟨us, hy1, hus⟩
    refine x_ret ?_
    refine x_methA (vs := [.ref p]) (ev_var rfl) (e1 _ _ h1) (lF_no (by decide +kernel) (by decide +kernel)) (ea_cons (ev_var rfl) ea_nil) fun H2 e2 => ⟨M, aL, aG, aN, aE, aQ, p, d, _, rfl, hL.monoL (e1.trans e2), hX.mono e2, Nat.le_trans (List.length_filter_le ..) (Nat.le_trans hL.gr.few.2 (by decide)), vld_filter hL.vd _, ht.ext (e1.trans e2), fun r H3 l3 r3 => ?_⟩
    refine ⟨_, rfl, _, rfl, r, d.graph.kinds.length, x, y, rOf (Gq01.without d.graph e) d.ask, rfl, Nat.le_trans hL.gr.few.1 (by decide), hx.1, hx.2, hy.1, hy.2, r3, fun H4 e4 => ⟨_, rfl, ?_⟩⟩
    exact k H4 (Pre.trans (Pre.ex (e1.trans e2)) (Pre.trans l3 (Pre.ex e4)))
end
end WG
namespace WG
open PySem PySem.Spec
open PyProof.Rows
open L2 hiding CX0 E0 pass0 Fun
open C8 Evl WM
open LamX (CodeO Tabs TabS ExtN TabB)
/-! ### the answers, as the document tells them -/
theorem isNode_of {g : Gq01.Graph} {x : Nat} : Gq01.isNode g x = true ↔ x ∈ Gq01.nodes g := by
  unfold Gq01.isNode
  rw [Bool.and_eq_true, decide_eq_true_eq, decide_eq_true_eq, mem_nodes]
theorem nodes_filter (g : Gq01.Graph) (p : Nat → Bool) : (Gq01.nodes g).filter p = nodesP g.kinds.length p := by
  unfold Gq01.nodes nodesP
  rw [List.filter_map]
  rfl
theorem nodesP_congr {n : Nat} {p q : Nat → Bool} (h : ∀ i, i < n → p (i + 1) = q (i + 1)) : nodesP n p = nodesP n q := by
  unfold nodesP
  congr 1
  exact List.filter_congr fun i hi => h i (List.mem_range.mp hi)
section
variable {d : Gq01.Desk}
theorem valid_of (v : Vld d.graph.kinds.length d.graph.edges) : Valid d.graph := vld_valid (ks := d.graph.kinds) (es := d.graph.edges) v
theorem to_eq (v : Vld d.graph.kinds.length d.graph.edges) {x : Nat} (hx : x ∈ Gq01.nodes d.graph) : Gq01.to_ d.graph (Gq01.best d.graph d.ask) x = nodesP d.graph.kinds.length (rOf d.graph d.ask x) := by
  unfold Gq01.to_
  rw [nodes_filter]
  exact nodesP_congr fun i hi => (rOf_best (valid_of v) d.ask hx (mem_nodes.mpr ⟨by omega, by omega⟩)).symm
theorem from_eq (v : Vld d.graph.kinds.length d.graph.edges) {y : Nat} (hy : y ∈ Gq01.nodes d.graph) : Gq01.from_ d.graph (Gq01.best d.graph d.ask) y = nodesP d.graph.kinds.length fun x => rOf d.graph d.ask x y := by
  unfold Gq01.from_
  rw [nodes_filter]
  exact nodesP_congr fun i hi => (rOf_best (valid_of v) d.ask (mem_nodes.mpr ⟨by omega, by omega⟩) hy).symm
theorem round_eq (v : Vld d.graph.kinds.length d.graph.edges) : ((Gq01.nodes d.graph).filter fun x => (Gq01.get (Gq01.best d.graph d.ask) x x).isSome) = nodesP d.graph.kinds.length fun x => rOf d.graph d.ask x x := by
  rw [nodes_filter]
  exact nodesP_congr fun i hi => (rOf_best (valid_of v) d.ask (mem_nodes.mpr ⟨by omega, by omega⟩) (mem_nodes.mpr ⟨by omega, by omega⟩)).symm
theorem needed_eq (v : Vld d.graph.kinds.length d.graph.edges) {x y : Nat} (hx : x ∈ Gq01.nodes d.graph) (hy : y ∈ Gq01.nodes d.graph) : Gq01.needed d.graph d.ask x y = d.graph.edges.filter fun e => !relW d e x y := by
  unfold Gq01.needed
  refine List.filter_congr fun e he => ?_
  have vw : Valid (Gq01.without d.graph e) := vld_valid (ks := d.graph.kinds) (es := d.graph.edges.filter fun d' => d' != e) (vld_filter v _)
  unfold relW
  rw [rOf_best vw d.ask (x := x) (y := y) hx hy]
  cases Gq01.get (Gq01.best (Gq01.without d.graph e) d.ask) x y <;> rfl
end
theorem told_eq (l : List Nat) : Gq01.told l = ((ofN l).length : Int) :: ofN l := by
  unfold Gq01.told Gq01.ints
  rw [List.map_cons, List.length_map]
theorem edgeRow_eq (es : List Gq01.Edge) : Gq01.edgeRow es = (es.length : Int) :: edR es := by
  unfold Gq01.edgeRow Gq01.ints edR
  congr 1
  induction es with
  | nil => rfl
  | cons e es ih =>
    rw [List.flatMap_cons, List.flatMap_cons, List.map_append, ih]
    rfl
theorem wayRow_eq (w : Gq01.Way) : Gq01.wayRow w = (w.length : Int) :: flatW w := by
  unfold Gq01.wayRow Gq01.ints flatW
  congr 1
  induction w with
  | nil => rfl
  | cons e es ih =>
    rw [List.flatMap_cons, List.flatMap_cons, List.map_append, ih]
    rfl
section
variable {P : Program} {w : World} {K : PySem.W.Frag} {mg : Str → Option Value} {base : Heap} {C_Graph C_Line C_Reader a_CALLS c1 P1 c2 P2 : Addr}
/-- a question that changes nothing: its arguments, its answer -/
def spAsk1 (CG CL : Addr) (T : List (Addr × Str)) (n : Nat) (ans : Gq01.Desk → List Nat → List Int) : Sp := fun vs H Q _ => ∃ (M : List Addr) (aL aG aN aE aQ : Addr) (d : Gq01.Desk) (xs : List Nat), vs = .ref aL :: nn xs ∧ xs.length = n ∧ LnAt CG CL M H aL aG aN aE aQ d ∧ Tabs T H ∧ ∀ p H', p ∉ M → LT T H H' → H' p = some (.lst (nums (ans d xs))) → Q (.ref p) H'
theorem nM {L : Hp → Hp → Prop} [Pre L] {CG CL : Addr} {M : List Addr} {H H' : Hp} {aL aG aN aE aQ p : Addr} {d : Gq01.Desk} (h : LnAt CG CL M H aL aG aN aE aQ d) (e : L H H') (hp : H' p = none) : p ∉ M := (h.kn.mono e).kn.new hp
theorem sp1_len {CG CL : Addr} {T : List (Addr × Str)} {n : Nat} {ans : Gq01.Desk → List Nat → List Int} {vs : List V} {H : Hp} {Q : VK} {E : XK} (h : spAsk1 CG CL T n ans vs H Q E) : vs.length = n + 1 := by
  obtain ⟨M, aL, aG, aN, aE, aQ, d, xs, rfl, hl, _⟩ := h
  rw [List.length_cons, nn_len, hl]
theorem one_of {xs : List Nat} (h : xs.length = 1) : ∃ x, xs = [x] := by
  cases xs with
  | nil => cases h
  | cons x r =>
    cases r with
    | nil => exact ⟨x, rfl⟩
    | cons _ _ => cases h
theorem two_of {xs : List Nat} (h : xs.length = 2) : ∃ x y, xs = [x, y] := by
  cases xs with
  | nil => cases h
  | cons x r =>
    cases r with
    | nil => cases h
    | cons y r =>
      cases r with
      | nil => exact ⟨x, y, rfl⟩
      | cons _ _ => cases h
theorem nil_of {xs : List Nat} (h : xs.length = 0) : xs = [] := List.eq_nil_of_length_eq_zero h
def ansTo (d : Gq01.Desk) : List Nat → List Int
  | [x] => (Gq01.step d (.to_ x)).2
  | _ => []
def ansFrom (d : Gq01.Desk) : List Nat → List Int
  | [x] => (Gq01.step d (.from_ x)).2
  | _ => []
def ansWay (d : Gq01.Desk) : List Nat → List Int
  | [x, y] => (Gq01.step d (.way x y)).2
  | _ => []
def ansNeeded (d : Gq01.Desk) : List Nat → List Int
  | [x, y] => (Gq01.step d (.needed x y)).2
  | _ => []
def ansRound (d : Gq01.Desk) : List Nat → List Int := fun _ => (Gq01.step d .round).2
def ansEdges (d : Gq01.Desk) : List Nat → List Int := fun _ => (Gq01.step d .edges).2
theorem met_Line_led_to (Z : Tz K mg base C_Graph C_Line C_Reader a_CALLS c1 P1 c2 P2) : Met P w K mg base 10 C_Line "led_to" (spAsk1 C_Graph C_Line (TBL P1 P2) 1 ansTo) [] := by
  have T := Z.T
  refine T.m_Line_led_to.met sc_Line_led_to (fun vs H Q E h => sp1_len h) (fun f cdv A outer s H vs Q E hr h => ⟨_, (pss_cons (ps_if (pt_not (pt_val (pe_mt (met_Graph_has_node T) hr (by decide) (pe_fld (pv 0) rfl) (pa_cons (pv 1) pa_nil)))) (pss_one (ps_ret (pe_lst (pa_cons (pe_gc rfl T.g_WRONG) pa_nil)))) pss_nil)
      (pss_one (ps_ret (pe_c (cal_counted T) hr (by decide) rfl (pa_cons (pe_c (cal_nodes_of T) hr (by decide) rfl (pa_cons (pe_ix ix_list (pe_mt0 (met_Line_relation Z) hr (by decide) (pv 0)) (pe_op op_sub (pv 1) pe_int) (fun _ _ => rfl)) pa_nil)) pa_nil))))), ?_⟩)
  obtain ⟨M, aL, aG, aN, aE, aQ, d, xs, rfl, hl, hL, ht, k⟩ := h
  obtain ⟨x, rfl⟩ := one_of hl
  obtain ⟨dx, h1⟩ := hL.obj
  obtain ⟨dg, h2⟩ := hL.gr.obj
  have evG : Ev (tFld K (tVar 0) "graph") (L2.start N_Line_led_to (.ref aL :: nn [x])) H (.ref aG) := ev_fld (ev_var rfl) h1 T.c_Line T.n_Line_graph lF_g
  refine q_when (et_not (et_B (ev_meth evG h2 (gF_no (by decide +kernel) (by decide +kernel)) (ea_cons (ev_var rfl) ea_nil) (spHasNode_v (x := x) hL.gr)))) (fun hb H1 e1 => s_retL (el_lst (ea_cons ev_c ea_nil) (by show 1 ≤ 100000; decide)) fun p H2 hp e2 h2' => k p H2 (nM hL e1 hp) (Pre.ex (e1.trans e2)) ?_) (fun hb H1 e1 => ?_)
  · have hb : Gq01.isNode d.graph x = false := by rwa [Bool.not_eq_true'] at hb
    have e : ansTo d [x] = [-1] := if_pos hb
    rw [e]
    exact h2'
  have hb : Gq01.isNode d.graph x = true := by rwa [Bool.not_eq_false'] at hb
  have hx := isNode_of.mp hb
  have e : ansTo d [x] = Gq01.told (nodesP d.graph.kinds.length (rOf d.graph d.ask x)) := by
    rw [← to_eq hL.vd hx]
    exact if_neg (by rw [hb]; exact Bool.noConfusion)
  rw [e, told_eq] at k
  obtain ⟨hx1, hx2⟩ := mem_nodes.mp hx
  obtain ⟨x, rfl⟩ : ∃ x', x = x' + 1 := ⟨x - 1, by omega⟩
  have hn : d.graph.kinds.length ≤ 100 := Nat.le_trans hL.gr.few.1 (by decide)
  refine x_ret (x_call1 (x_call1 ?_))
  refine x_methA (vs := []) (ev_var rfl) (e1 _ _ h1) (lF_no (by decide +kernel) (by decide +kernel)) ea_nil fun H2 e2 => ⟨M, aL, aG, aN, aE, aQ, d, rfl, hL.monoL (e1.trans e2), ht.ext (e1.trans e2), fun r H3 l3 r3 => ?_⟩
  have hix : ((x + 1 : Nat) : Int) - 1 = (x : Int) := by omega
  refine ⟨_, rfl, _, _, rfl, rfl, r, _, _, .int ((mask (rOf d.graph d.ask (x + 1)) d.graph.kinds.length : Nat) : Int), rfl, rfl, sq_of r3, by rw [hix]; exact atI_nat (nn_at (relN_at (by omega))), d.graph.kinds.length, rOf d.graph d.ask (x + 1), rfl, hn, fun l H4 hl e4 h4 => ⟨l, _, rfl, h4, by rw [List.length_map]; exact Nat.le_trans (nodesP_len ..) (by omega), fun p H5 hp e5 h5 => k p H5 (nM (L := LT (TBL P1 P2)) hL (Pre.trans (Pre.ex (e1.trans e2)) (Pre.trans l3 (Pre.ex e4))) hp) (Pre.trans (Pre.ex (e1.trans e2)) (Pre.trans l3 (Pre.ex (e4.trans e5)))) h5⟩⟩
theorem met_Line_led_from (Z : Tz K mg base C_Graph C_Line C_Reader a_CALLS c1 P1 c2 P2) : Met P w K mg base 10 C_Line "led_from" (spAsk1 C_Graph C_Line (TBL P1 P2) 1 ansFrom) [] := by
  have T := Z.T
  refine T.m_Line_led_from.met sc_Line_led_from (fun vs H Q E h => sp1_len h) (fun f cdv A outer s H vs Q E hr h => ⟨_, (pss_cons (ps_if (pt_not (pt_val (pe_mt (met_Graph_has_node T) hr (by decide) (pe_fld (pv 0) rfl) (pa_cons (pv 1) pa_nil)))) (pss_one (ps_ret (pe_lst (pa_cons (pe_gc rfl T.g_WRONG) pa_nil)))) pss_nil)
      (pss_cons (ps_set (i := 2) sc_Line_led_from.nd rfl (Or.inr rfl) (pe_mt0 (met_Line_relation Z) hr (by decide) (pv 0)))
      (pss_one (ps_ret (pe_c (cal_counted T) hr (by decide) rfl (pa_cons (pe_lc (own := [("x", 3)]) (g := (gName 3)) rfl sc_Line_led_from.nd (pi_range2 rfl T.b_range (pa_cons pe_int (pa_cons (pe_op op_add (pe_callB call_len_seq (by rfl) T.b_len PySem.boot_len (pa_cons (pv 2) pa_nil)) pe_int) pa_nil))) (blkOk_by (own := [("x", 3)]) (N := N_Line_led_from) (sc := fnScope s_Line_led_from) (by decide +kernel)) (fun _ _ _ _ _ => (pg_name (i := 3) sc_Line_led_from.nd rfl (Or.inl rfl))) (fun _ _ _ _ _ => (pts_one (pt_val (pe_c (cal_has_pair T) hr (by decide) rfl (pa_cons (pv 2) (pa_cons (pv 3) (pa_cons (pv 1) pa_nil))))))) (fun _ _ _ _ _ => (pv 3))) pa_nil)))))), ?_⟩)
  obtain ⟨M, aL, aG, aN, aE, aQ, d, xs, rfl, hl, hL, ht, k⟩ := h
  obtain ⟨y, rfl⟩ := one_of hl
  obtain ⟨dx, h1⟩ := hL.obj
  obtain ⟨dg, h2⟩ := hL.gr.obj
  have evG : Ev (tFld K (tVar 0) "graph") (L2.start N_Line_led_from (.ref aL :: nn [y])) H (.ref aG) := ev_fld (ev_var rfl) h1 T.c_Line T.n_Line_graph lF_g
  refine q_when (et_not (et_B (ev_meth evG h2 (gF_no (by decide +kernel) (by decide +kernel)) (ea_cons (ev_var rfl) ea_nil) (spHasNode_v (x := y) hL.gr)))) (fun hb H1 e1 => s_retL (el_lst (ea_cons ev_c ea_nil) (by show 1 ≤ 100000; decide)) fun p H2 hp e2 h2' => k p H2 (nM hL e1 hp) (Pre.ex (e1.trans e2)) ?_) (fun hb H1 e1 => ?_)
  · have hb : Gq01.isNode d.graph y = false := by rwa [Bool.not_eq_true'] at hb
    have e : ansFrom d [y] = [-1] := if_pos hb
    rw [e]
    exact h2'
  have hb : Gq01.isNode d.graph y = true := by rwa [Bool.not_eq_false'] at hb
  have hy := isNode_of.mp hb
  have e : ansFrom d [y] = Gq01.told (nodesP d.graph.kinds.length fun x => rOf d.graph d.ask x y) := by
    rw [← from_eq hL.vd hy]
    exact if_neg (by rw [hb]; exact Bool.noConfusion)
  rw [e, told_eq] at k
  obtain ⟨hy1, hy2⟩ := mem_nodes.mp hy
  have hn : d.graph.kinds.length ≤ 100 := Nat.le_trans hL.gr.few.1 (by decide)
  refine x_asg ?_
  refine x_methA (vs := []) (ev_var rfl) (e1 _ _ h1) (lF_no (by decide +kernel) (by decide +kernel)) ea_nil fun H2 e2 => ⟨M, aL, aG, aN, aE, aQ, d, rfl, hL.monoL (e1.trans e2), ht.ext (e1.trans e2), fun r H3 l3 r3 => ?_⟩
  have r3 : H3 r = some (.lst (nn (relN d.graph.kinds.length (rOf d.graph d.ask)))) := r3
  refine x_ret (x_call1 ?_)
  refine er_lcR (L := Ex) (lo := 1) (hi := ((d.graph.kinds.length : Nat) : Int) + 1) (fun i => rOf d.graph d.ask (i + 1) y) (fun i v _ => v = .int (1 + (i : Int))) (fun i v H H' _ r => r) (fun i v H p xs ys r _ => r) (fun H4 e4 Q q => ⟨_, rfl, r, _, rfl, Or.inl (sq_of (e4 _ _ r3)), _, _, rfl, rfl, by rw [nn_len, relN_len]; exact q H4 (Ex.refl _)⟩) ⟨by decide, by decide, by omega, by omega⟩ (fun x => rfl) (fun i H4 e4 hi => ⟨?_, fun _ => EvR.of (ev_var rfl) fun _ _ => rfl⟩) H3 (Ex.refl _) _ fun l ys H4 hl e4 h4 out => ?_
  · refine et_B (ev_call (vs := [.ref r, .int ((i + 1 : Nat) : Int), .int (y : Int)]) (ea_cons (ev_var rfl) (ea_cons (ev_is (ev_var rfl) (show V.int (1 + (i : Int)) = V.int ((i + 1 : Nat) : Int) by congr 1; omega)) (ea_cons (ev_var rfl) ea_nil))) fun H5 e5 Q q E => ⟨r, d.graph.kinds.length, i + 1, y, _, rfl, hn, by omega, by omega, hy1, hy2, e5 _ _ (e4 _ _ r3), q⟩)
  · rw [OutR, show (((d.graph.kinds.length : Nat) : Int) + 1 - 1).toNat = d.graph.kinds.length by omega] at out
    have hys : ys = nn (nodesP d.graph.kinds.length fun x => rOf d.graph d.ask x y) := by
      rw [F2.eq out]
      unfold nodesP nn nums ofN
      rw [(List.map_map), List.map_map]
      refine (List.map_congr_left fun i _ => ?_)
      show V.int (1 + (i : Int)) = V.int (((i + 1 : Nat) : Nat) : Int)
      congr 1
      omega
    rw [hys] at h4
    exact ⟨l, _, rfl, h4, by rw [List.length_map]; exact Nat.le_trans (nodesP_len ..) (by omega), fun p H5 hp e5 h5 => k p H5 (nM (L := LT (TBL P1 P2)) hL (Pre.trans (Pre.ex (e1.trans e2)) (Pre.trans l3 (Pre.ex e4))) hp) (Pre.trans (Pre.ex (e1.trans e2)) (Pre.trans l3 (Pre.ex (e4.trans e5)))) h5⟩
theorem met_Line_rounds (Z : Tz K mg base C_Graph C_Line C_Reader a_CALLS c1 P1 c2 P2) : Met P w K mg base 10 C_Line "rounds" (spAsk1 C_Graph C_Line (TBL P1 P2) 0 ansRound) [] := by
  have T := Z.T
  refine T.m_Line_rounds.met sc_Line_rounds (fun vs H Q E h => sp1_len h) (fun f cdv A outer s H vs Q E hr h => ⟨_, (pss_cons (ps_set (i := 1) sc_Line_rounds.nd rfl (Or.inr rfl) (pe_mt0 (met_Line_relation Z) hr (by decide) (pv 0)))
      (pss_one (ps_ret (pe_c (cal_counted T) hr (by decide) rfl (pa_cons (pe_lc (own := [("x", 2)]) (g := (gName 2)) rfl sc_Line_rounds.nd (pi_range2 rfl T.b_range (pa_cons pe_int (pa_cons (pe_op op_add (pe_callB call_len_seq (by rfl) T.b_len PySem.boot_len (pa_cons (pv 1) pa_nil)) pe_int) pa_nil))) (blkOk_by (own := [("x", 2)]) (N := N_Line_rounds) (sc := fnScope s_Line_rounds) (by decide +kernel)) (fun _ _ _ _ _ => (pg_name (i := 2) sc_Line_rounds.nd rfl (Or.inl rfl))) (fun _ _ _ _ _ => (pts_one (pt_val (pe_c (cal_has_pair T) hr (by decide) rfl (pa_cons (pv 1) (pa_cons (pv 2) (pa_cons (pv 2) pa_nil))))))) (fun _ _ _ _ _ => (pv 2))) pa_nil))))), ?_⟩)
  obtain ⟨M, aL, aG, aN, aE, aQ, d, xs, rfl, hl, hL, ht, k⟩ := h
  obtain rfl := nil_of hl
  obtain ⟨dx, h1⟩ := hL.obj
  have e : ansRound d [] = Gq01.told (nodesP d.graph.kinds.length fun x => rOf d.graph d.ask x x) := by
    rw [← round_eq hL.vd]
    rfl
  rw [e, told_eq] at k
  have hn : d.graph.kinds.length ≤ 100 := Nat.le_trans hL.gr.few.1 (by decide)
  refine x_asg ?_
  refine x_methA (vs := []) (ev_var rfl) h1 (lF_no (by decide +kernel) (by decide +kernel)) ea_nil fun H2 e2 => ⟨M, aL, aG, aN, aE, aQ, d, rfl, hL.monoL e2, ht.ext e2, fun r H3 l3 r3 => ?_⟩
  have r3 : H3 r = some (.lst (nn (relN d.graph.kinds.length (rOf d.graph d.ask)))) := r3
  refine x_ret (x_call1 ?_)
  refine er_lcR (L := Ex) (lo := 1) (hi := ((d.graph.kinds.length : Nat) : Int) + 1) (fun i => rOf d.graph d.ask (i + 1) (i + 1)) (fun i v _ => v = .int (1 + (i : Int))) (fun i v H H' _ r => r) (fun i v H p xs ys r _ => r) (fun H4 e4 Q q => ⟨_, rfl, r, _, rfl, Or.inl (sq_of (e4 _ _ r3)), _, _, rfl, rfl, by rw [nn_len, relN_len]; exact q H4 (Ex.refl _)⟩) ⟨by decide, by decide, by omega, by omega⟩ (fun x => rfl) (fun i H4 e4 hi => ⟨?_, fun _ => EvR.of (ev_var rfl) fun _ _ => rfl⟩) H3 (Ex.refl _) _ fun l ys H4 hl e4 h4 out => ?_
  · refine et_B (ev_call (vs := [.ref r, .int ((i + 1 : Nat) : Int), .int ((i + 1 : Nat) : Int)]) (ea_cons (ev_var rfl) (ea_cons (ev_is (ev_var rfl) (show V.int (1 + (i : Int)) = V.int ((i + 1 : Nat) : Int) by congr 1; omega)) (ea_cons (ev_is (ev_var rfl) (show V.int (1 + (i : Int)) = V.int ((i + 1 : Nat) : Int) by congr 1; omega)) ea_nil))) fun H5 e5 Q q E => ⟨r, d.graph.kinds.length, i + 1, i + 1, _, rfl, hn, by omega, by omega, by omega, by omega, e5 _ _ (e4 _ _ r3), q⟩)
  · rw [OutR, show (((d.graph.kinds.length : Nat) : Int) + 1 - 1).toNat = d.graph.kinds.length by omega] at out
    have hys : ys = nn (nodesP d.graph.kinds.length fun x => rOf d.graph d.ask x x) := by
      rw [F2.eq out]
      unfold nodesP nn nums ofN
      rw [(List.map_map), List.map_map]
      refine (List.map_congr_left fun i _ => ?_)
      show V.int (1 + (i : Int)) = V.int (((i + 1 : Nat) : Nat) : Int)
      congr 1
      omega
    rw [hys] at h4
    exact ⟨l, _, rfl, h4, by rw [List.length_map]; exact Nat.le_trans (nodesP_len ..) (by omega), fun p H5 hp e5 h5 => k p H5 (nM (L := LT (TBL P1 P2)) hL (Pre.trans (Pre.ex e2) (Pre.trans l3 (Pre.ex e4))) hp) (Pre.trans (Pre.ex e2) (Pre.trans l3 (Pre.ex (e4.trans e5)))) h5⟩
theorem met_Line_edges (T : Tx K mg C_Graph C_Line C_Reader a_CALLS) : Met P w K mg base 2 C_Line "edges" (spAsk1 C_Graph C_Line (TBL P1 P2) 0 ansEdges) [] := by
  refine T.m_Line_edges.met sc_Line_edges (fun vs H Q E h => sp1_len h) (fun f cdv A outer s H vs Q E hr h => ⟨_, (pss_one (ps_ret (pe_c (cal_counted_edges T) hr (by decide) rfl (pa_cons (pe_fld (pe_fld (pv 0) rfl) rfl) pa_nil)))), ?_⟩)
  obtain ⟨M, aL, aG, aN, aE, aQ, d, xs, rfl, hl, hL, ht, k⟩ := h
  obtain rfl := nil_of hl
  obtain ⟨dx, h1⟩ := hL.obj
  obtain ⟨dg, h2⟩ := hL.gr.obj
  have e : ansEdges d [] = (d.graph.edges.length : Int) :: edR d.graph.edges := edgeRow_eq _
  rw [e] at k
  have evG : Ev (tFld K (tVar 0) "graph") (L2.start N_Line_edges (.ref aL :: nn [])) H (.ref aG) := ev_fld (ev_var rfl) h1 T.c_Line T.n_Line_graph lF_g
  refine x_ret (x_callA (vs := [.ref aE]) (ea_cons (ev_fld evG h2 T.c_Graph T.n_Graph_edge_list gF_e) ea_nil) fun H1 e1 => ⟨aE, d.graph.edges, rfl, hL.gr.eda.mono e1, Nat.le_trans hL.gr.few.2 (by decide), fun p H2 hp e2 h2 => k p H2 (nM hL e1 hp) (Pre.ex (e1.trans e2)) h2⟩)
theorem x_no {A B : Prop} (h : B) : if (!true) = true then A else B := h
theorem x_yes {A B : Prop} (h : A) : if (!false) = true then A else B := h
theorem x_next {t : TS} {D : Ends} {rt : VK} {bk ct : L2.St → Hp → Prop} {σ : L2.St} {H : Hp} (h : t D σ H) : tNext { nx := t D, rt := rt, bk := bk, ct := ct } σ H := h
theorem way_eq {d : Gq01.Desk} (v : Vld d.graph.kinds.length d.graph.edges) {x y : Nat} (hx : x ∈ Gq01.nodes d.graph) (hy : y ∈ Gq01.nodes d.graph) : Gq01.get (Gq01.best d.graph d.ask) x y = tOf d.graph d.ask x y := (tOf_eq (valid_of v) d.ask hx hy).symm
theorem met_Line_way (Z : Tz K mg base C_Graph C_Line C_Reader a_CALLS c1 P1 c2 P2) : Met P w K mg base 8 C_Line "way" (spAsk1 C_Graph C_Line (TBL P1 P2) 2 ansWay) [] := by
  have T := Z.T
  refine T.m_Line_way.met sc_Line_way (fun vs H Q E h => sp1_len h) (fun f cdv A outer s H vs Q E hr h => ⟨_, (pss_cons (ps_if (pt_not (pt_val (pe_mt (met_Line_has_nodes T) hr (by decide) (pv 0) (pa_cons (pv 1) (pa_cons (pv 2) pa_nil))))) (pss_one (ps_ret (pe_lst (pa_cons (pe_gc rfl T.g_WRONG) pa_nil)))) pss_nil)
      (pss_cons (ps_set (i := 3) sc_Line_way.nd rfl (Or.inl rfl) (pe_ix ix_list (pe_ix ix_list (pe_c (cal_ways_of Z) hr (by decide) rfl (pa_cons (pe_fld (pv 0) rfl) (pa_cons (pe_fld (pe_fld (pv 0) rfl) rfl) (pa_cons (pe_fld (pe_fld (pv 0) rfl) rfl) pa_nil)))) (pe_op op_sub (pv 1) pe_int) (fun _ _ => rfl)) (pe_op op_sub (pv 2) pe_int) (fun _ _ => rfl)))
      (pss_cons (ps_if (pt_cmpR op_isN (pv 3) pe_non (nomark _)) (pss_one (ps_ret (pe_lst (pa_cons (pe_gc rfl T.g_ABSENT) pa_nil)))) pss_nil)
      (pss_one (ps_ret (pe_op op_cat (pe_lst (pa_cons (pe_op op_fdiv (pe_callB call_len_seq (by rfl) T.b_len PySem.boot_len (pa_cons (pv 3) pa_nil)) pe_int) pa_nil)) (pe_callTy call_list_of (by rfl) T.b_list (by decide +kernel) (pa_cons (pv 3) pa_nil)))))))), ?_⟩)
  obtain ⟨M, aL, aG, aN, aE, aQ, d, xs, rfl, hl, hL, ht, k⟩ := h
  obtain ⟨x, y, rfl⟩ := two_of hl
  obtain ⟨dx, h1⟩ := hL.obj
  obtain ⟨dg, h2⟩ := hL.gr.obj
  refine q_when (et_not (et_B (ev_meth (ev_var rfl) h1 (lF_no (by decide +kernel) (by decide +kernel)) (ea_cons (ev_var rfl) (ea_cons (ev_var rfl) ea_nil)) fun H1 e1 Q q E => ⟨M, aL, aG, aN, aE, aQ, d, x, y, rfl, hL.monoL e1, q⟩))) (fun hb H1 e1 => s_retL (el_lst (ea_cons ev_c ea_nil) (by show 1 ≤ 100000; decide)) fun p H2 hp e2 h2' => k p H2 (nM hL e1 hp) (Pre.ex (e1.trans e2)) ?_) (fun hb H1 e1 => ?_)
  · have hb : (Gq01.isNode d.graph x && Gq01.isNode d.graph y) = false := by rwa [Bool.not_eq_true'] at hb
    have e : ansWay d [x, y] = [-1] := if_pos (by rw [Bool.and_eq_false_iff] at hb; exact hb)
    rw [e]
    exact h2'
  have hb : (Gq01.isNode d.graph x && Gq01.isNode d.graph y) = true := by rwa [Bool.not_eq_false'] at hb
  rw [Bool.and_eq_true] at hb
  have hx := isNode_of.mp hb.1
  have hy := isNode_of.mp hb.2
  have e : ansWay d [x, y] = (match tOf d.graph d.ask x y with
    | none => [-3]
    | some w => Gq01.wayRow w) := by
    rw [← way_eq hL.vd hx hy]
    exact if_neg (by rw [hb.1, hb.2]; simp)
  rw [e] at k
  obtain ⟨hx1, hx2⟩ := mem_nodes.mp hx
  obtain ⟨hy1, hy2⟩ := mem_nodes.mp hy
  obtain ⟨x, rfl⟩ : ∃ x', x = x' + 1 := ⟨x - 1, by omega⟩
  obtain ⟨y, rfl⟩ : ∃ y', y = y' + 1 := ⟨y - 1, by omega⟩
  have evG : Ev (tFld K (tVar 0) "graph") (L2.start N_Line_way (.ref aL :: nn [x + 1, y + 1])) H1 (.ref aG) := ev_fld (ev_var rfl) (e1 _ _ h1) T.c_Line T.n_Line_graph lF_g
  refine x_asg ?_
  refine x_callA (vs := [.ref aQ, .ref aN, .ref aE]) (ea_cons (ev_fld (ev_var rfl) (e1 _ _ h1) T.c_Line T.n_Line_question lF_q) (ea_cons (ev_fld evG (e1 _ _ h2) T.c_Graph T.n_Graph_node_kinds gF_n) (ea_cons (ev_fld evG (e1 _ _ h2) T.c_Graph T.n_Graph_edge_list gF_e) ea_nil))) fun H2 e2 => ⟨aQ, aN, aE, d.ask, d.graph.kinds, d.graph.edges, rfl, hL.asked.mono (e1.trans e2), ht.ext (e1.trans e2), fun r H3 l3 r3 => ?_⟩
  have r3 : TabAt H3 r (tabL d.graph.kinds.length (tOf d.graph d.ask)) := r3
  have lt3 : LT (TBL P1 P2) H H3 := Pre.trans (Pre.ex (e1.trans e2)) l3
  obtain ⟨xs, q, hxs, hq, ⟨ys, hys, hrow⟩⟩ := r3.rowAt (show x < d.graph.kinds.length by omega)
  obtain ⟨v, hv, wv⟩ := F2.get hrow (rowL_at (show y < d.graph.kinds.length by omega))
  have hix : ((x + 1 : Nat) : Int) - 1 = (x : Int) := by omega
  have hiy : ((y + 1 : Nat) : Int) - 1 = (y : Int) := by omega
  refine ⟨_, rfl, _, _, rfl, rfl, r, _, _, .ref q, rfl, rfl, sq_of hxs, by rw [hix]; exact atI_nat hq, _, rfl, _, _, rfl, rfl, q, _, _, v, rfl, rfl, sq_of hys, by rw [hiy]; exact atI_nat hv, ?_⟩
  cases ho : tOf d.graph d.ask (x + 1) (y + 1) with
  | none =>
    rw [ho] at wv k
    obtain rfl : v = .non := wv
    refine q_when (et_test (ev_op (ev_var rfl) ev_c (rv_isNb (b := true) rfl))) (fun hb H4 e4 => ?_) (fun hb _ _ => by cases hb)
    exact s_retL (el_lst (ea_cons ev_c ea_nil) (by show 1 ≤ 100000; decide)) fun p H5 hp e5 h5 => k p H5 (nM (L := LT (TBL P1 P2)) hL (Pre.trans lt3 (Pre.ex e4)) hp) (Pre.trans lt3 (Pre.ex (e4.trans e5))) h5
  | some wy =>
    rw [ho] at wv k
    obtain ⟨t, rfl, htt⟩ := wv
    have hlen : wy.length ≤ 800 := by
      have h := tOf_short (valid_of hL.vd) hx hy ho
      have h2 : szE d.ask * d.graph.kinds.length ≤ 60 * 12 := Nat.mul_le_mul (by rw [← eparts_sz]; exact hL.sz) hL.gr.few.1
      omega
    refine q_when (et_test (ev_op (ev_var rfl) ev_c (rv_isNb (b := false) rfl))) (fun hb _ _ => by cases hb) (fun _ H4 e4 => ?_)
    have ht4 := e4 _ _ htt
    refine ⟨_, rfl, t, _, rfl, Or.inr (st_of ht4), _, _, rfl, rfl, ⟨by decide, by decide⟩, sz1, fun l hl => ⟨_, rfl, t, _, rfl, Or.inr (st_of ((upd_ne (ne_of_none ht4 hl)).trans ht4)), fun l2 hl2 => ?_⟩⟩
    have eA : Ex H4 (upd H4 l (.lst [.int (((nums (flatW wy)).length : Int) / 2)])) := Ex.new hl
    have eB : Ex (upd H4 l (.lst [.int (((nums (flatW wy)).length : Int) / 2)])) (upd (upd H4 l (.lst [.int (((nums (flatW wy)).length : Int) / 2)])) l2 (.lst (nums (flatW wy)))) := Ex.new hl2
    refine ⟨l, l2, _, _, rfl, rfl, eB _ _ upd_same, upd_same, sz_of (by rw [nums_len, flatW_len]; show 1 + _ ≤ _; omega), fun p hp => ?_⟩
    refine k p _ (nM (L := LT (TBL P1 P2)) hL (Pre.trans lt3 (Pre.ex ((e4.trans eA).trans eB))) hp) (Pre.trans lt3 (Pre.ex (((e4.trans eA).trans eB).trans (Ex.new hp)))) ?_
    rw [upd_same]
    show some (HO.lst (V.int (((nums (flatW wy)).length : Int) / 2) :: nums (flatW wy))) = some (HO.lst (nums (Gq01.wayRow wy)))
    rw [wayRow_eq, nums_len, flatW_len]
    congr 2
    show V.int (((2 * wy.length : Nat) : Int) / 2) :: nums (flatW wy) = V.int (wy.length : Int) :: nums (flatW wy)
    congr 2
    omega
theorem met_Line_needed (Z : Tz K mg base C_Graph C_Line C_Reader a_CALLS c1 P1 c2 P2) : Met P w K mg base 10 C_Line "needed" (spAsk1 C_Graph C_Line (TBL P1 P2) 2 ansNeeded) [] := by
  have T := Z.T
  refine T.m_Line_needed.met sc_Line_needed (fun vs H Q E h => sp1_len h) (fun f cdv A outer s H vs Q E hr h => ⟨_, (pss_cons (ps_if (pt_not (pt_val (pe_mt (met_Line_has_nodes T) hr (by decide) (pv 0) (pa_cons (pv 1) (pa_cons (pv 2) pa_nil))))) (pss_one (ps_ret (pe_lst (pa_cons (pe_gc rfl T.g_WRONG) pa_nil)))) pss_nil)
      (pss_cons (ps_if (pt_not (pt_val (pe_c (cal_has_pair T) hr (by decide) rfl (pa_cons (pe_mt0 (met_Line_relation Z) hr (by decide) (pv 0)) (pa_cons (pv 1) (pa_cons (pv 2) pa_nil)))))) (pss_one (ps_ret (pe_lst (pa_cons (pe_gc rfl T.g_ABSENT) pa_nil)))) pss_nil)
      (pss_one (ps_ret (pe_c (cal_counted_edges T) hr (by decide) rfl (pa_cons (pe_lc (own := [("edge", 3)]) (g := (gName 3)) rfl sc_Line_needed.nd (pi_list (pe_fld (pe_fld (pv 0) rfl) rfl)) (blkOk_by (own := [("edge", 3)]) (N := N_Line_needed) (sc := fnScope s_Line_needed) (by decide +kernel)) (fun _ _ _ _ _ => (pg_name (i := 3) sc_Line_needed.nd rfl (Or.inl rfl))) (fun _ _ _ _ _ => (pts_one (pt_val (pe_mt (met_Line_is_needed Z) hr (by decide) (pv 0) (pa_cons (pv 3) (pa_cons (pv 1) (pa_cons (pv 2) pa_nil))))))) (fun _ _ _ _ _ => (pv 3))) pa_nil)))))), ?_⟩)
  obtain ⟨M, aL, aG, aN, aE, aQ, d, xs, rfl, hl, hL, ht, k⟩ := h
  obtain ⟨x, y, rfl⟩ := two_of hl
  obtain ⟨dx, h1⟩ := hL.obj
  obtain ⟨dg, h2⟩ := hL.gr.obj
  refine q_when (et_not (et_B (ev_meth (ev_var rfl) h1 (lF_no (by decide +kernel) (by decide +kernel)) (ea_cons (ev_var rfl) (ea_cons (ev_var rfl) ea_nil)) fun H1 e1 Q q E => ⟨M, aL, aG, aN, aE, aQ, d, x, y, rfl, hL.monoL e1, q⟩))) (fun hb H1 e1 => s_retL (el_lst (ea_cons ev_c ea_nil) (by show 1 ≤ 100000; decide)) fun p H2 hp e2 h2' => k p H2 (nM hL e1 hp) (Pre.ex (e1.trans e2)) ?_) (fun hb H1 e1 => ?_)
  · have hb : (Gq01.isNode d.graph x && Gq01.isNode d.graph y) = false := by rwa [Bool.not_eq_true'] at hb
    have e : ansNeeded d [x, y] = [-1] := if_pos (by rw [Bool.and_eq_false_iff] at hb; exact hb)
    rw [e]
    exact h2'
  have hb : (Gq01.isNode d.graph x && Gq01.isNode d.graph y) = true := by rwa [Bool.not_eq_false'] at hb
  rw [Bool.and_eq_true] at hb
  have hx := isNode_of.mp hb.1
  have hy := isNode_of.mp hb.2
  have e : ansNeeded d [x, y] = if rOf d.graph d.ask x y = false then [-3] else (((d.graph.edges.filter fun e => !relW d e x y).length : Int) :: edR (d.graph.edges.filter fun e => !relW d e x y)) := by
    rw [← edgeRow_eq, ← needed_eq hL.vd hx hy, rOf_best (valid_of hL.vd) d.ask hx hy]
    show (if Gq01.isNode d.graph x = false ∨ Gq01.isNode d.graph y = false then [-1] else if (Gq01.get (Gq01.best d.graph d.ask) x y).isNone = true then [-3] else Gq01.edgeRow (Gq01.needed d.graph d.ask x y)) = _
    rw [if_neg (by rw [hb.1, hb.2]; simp)]
    cases Gq01.get (Gq01.best d.graph d.ask) x y <;> rfl
  rw [e] at k
  have hxn := mem_nodes.mp hx
  have hyn := mem_nodes.mp hy
  have hn : d.graph.kinds.length ≤ 100 := Nat.le_trans hL.gr.few.1 (by decide)
  -- not has_pair(self.relation(), x, y)
  refine x_methA (vs := []) (ev_var rfl) (e1 _ _ h1) (lF_no (by decide +kernel) (by decide +kernel)) ea_nil fun H2 e2 => ⟨M, aL, aG, aN, aE, aQ, d, rfl, hL.monoL (e1.trans e2), ht.ext (e1.trans e2), fun r H3 l3 r3 => ?_⟩
  have lt3 : LT (TBL P1 P2) H H3 := Pre.trans (Pre.ex (e1.trans e2)) l3
  refine ⟨_, rfl, _, rfl, r, d.graph.kinds.length, x, y, rOf d.graph d.ask, rfl, hn, hxn.1, hxn.2, hyn.1, hyn.2, r3, fun H4 e4 => ⟨_, rfl, ?_⟩⟩
  have lt4 : LT (TBL P1 P2) H H4 := Pre.trans lt3 (Pre.ex e4)
  cases hf : rOf d.graph d.ask x y with
  | false =>
    rw [hf] at k
    exact s_retL (el_lst (ea_cons ev_c ea_nil) (by show 1 ≤ 100000; decide)) fun p H5 hp e5 h5 => k p H5 (nM (L := LT (TBL P1 P2)) hL lt4 hp) (Pre.trans lt4 (Pre.ex e5)) h5
  | true =>
    rw [hf] at k
    have k : ∀ p H', p ∉ M → LT (TBL P1 P2) H H' → H' p = some (.lst (nums (((d.graph.edges.filter fun e => !relW d e x y).length : Int) :: edR (d.graph.edges.filter fun e => !relW d e x y)))) → Q (.ref p) H' := k
    have hL4 := hL.monoL lt4
    have ht4 := lt4.2 ht
    obtain ⟨dx4, h14⟩ := hL4.obj
    obtain ⟨dg4, h24⟩ := hL4.gr.obj
    obtain ⟨ts, h3, h4⟩ := hL4.gr.eda
    have hlt : (ts.map V.ref).length = d.graph.edges.length := by rw [List.length_map]; exact h4.len
    have evG : Ev (tFld K (tVar 0) "graph") (L2.start N_Line_needed (.ref aL :: nn [x, y])) H4 (.ref aG) := ev_fld (ev_var rfl) h14 T.c_Line T.n_Line_graph lF_g
    refine x_no (x_next ?_)
    refine x_ret (x_call1 ?_)
    refine (ev_fld evG h24 T.c_Graph T.n_Graph_edge_list gF_e) H4 (Ex.refl _) _ fun H5 e5 => ⟨aE, rfl, ⟨_, sq_of (e5 _ _ h3)⟩, fun D hD => ?_⟩
    refine lc_gen (L := LT (TBL P1 P2)) (walk_list (K := K) (xs := ts.map V.ref)) hD (fun i => !relW d (d.graph.edges.getD i e00) x y) (fun i => TupR (edV (d.graph.edges.getD i e00))) (fun i => tupR_mo) (fun i v H xs ys r hd => tupR_st v H D xs ys r hd) (by rw [hlt]; exact Nat.le_trans hL.gr.few.2 (by decide)) (fun H' l' => sq_of (Pre.lst l' (e5 _ _ h3))) (fun i v H' H'' hi l' hDl yy Q1 k1 => ?_) fun H' ys l' hD' out => ?_
    · obtain ⟨rfl, hyy⟩ := yy
      obtain ⟨q, d', rfl, hq, hd', hqd⟩ := f2_ref h4 hyy
      rw [getD_at hd'] at k1
      have l5 : LT (TBL P1 P2) H4 H'' := Pre.trans (Pre.ex e5) l'
      refine k1 _ _ rfl (Pre.refl _) (fun H6 l6 Q6 k6 => ?_) fun _ H6 l6 Q6 k6 => ⟨_, rfl, k6 _ H6 (Pre.refl _) ⟨q, rfl, Pre.tup (Pre.trans l5 l6) hqd⟩⟩
      have l7 : LT (TBL P1 P2) H4 H6 := Pre.trans l5 l6
      obtain ⟨dx6, h16⟩ := (hL4.monoL l7).obj
      refine x_methA (vs := [.ref q, .int (x : Int), .int (y : Int)]) (ev_var rfl) h16 (lF_no (by decide +kernel) (by decide +kernel)) (ea_cons (ev_var rfl) (ea_cons (ev_var rfl) (ea_cons (ev_var rfl) ea_nil))) fun H8 e8 => ⟨M, aL, aG, aN, aE, aQ, q, d, d', x, y, rfl, (hL4.monoL l7).monoL e8, e8 _ _ (Pre.tup l7 hqd), hxn, hyn, (l7.2 ht4).ext e8, fun H9 l9 => ⟨_, rfl, k6 H9 (Pre.trans (Pre.ex e8) l9)⟩⟩
    · rw [hlt] at out
      have out2 : F2 (fun (d' : Gq01.Edge) y => ∃ t, y = V.ref t ∧ H' t = some (.tup (edV d'))) (((List.range d.graph.edges.length).filter fun i => !relW d (d.graph.edges.getD i e00) x y).map fun i => d.graph.edges.getD i e00) ys := F2.map out
      rw [range_filter d.graph.edges e00 (fun d' => !relW d d' x y)] at out2
      obtain ⟨us, rfl, hus⟩ := f2_refs out2
      exact ⟨D, _, rfl, ⟨us, hD', hus⟩, Nat.le_trans (List.length_filter_le ..) (Nat.le_trans hL.gr.few.2 (by decide)), fun p H6 hp e6 h6 => k p H6 (nM (L := LT (TBL P1 P2)) hL (Pre.trans lt4 (Pre.trans (Pre.ex e5) l')) hp) (Pre.trans lt4 (Pre.trans (Pre.ex e5) (Pre.trans l' (Pre.ex e6)))) h6⟩
end
end WG
namespace WG
open PySem PySem.Spec
open PyProof.Rows
open L2 hiding CX0 E0 pass0 Fun
open C8 Evl WM
open LamX (CodeO Tabs TabS ExtN TabB)
/-! ### a code's parts are its expression's -/
theorem loop_fuel : ∀ (f f' : Nat) (l : List Int) (w : Nat), l.length ≤ f → l.length ≤ f' → loopP f l w = loopP f' l w
  | f, f', [], 0, _, _ => by rw [loopP_done, loopP_done]
  | f, f', [], w + 1, _, _ => by rw [loopP_short f _ (by omega), loopP_short f' _ (by omega)]
  | f, f', s :: r, 0, _, _ => by rw [loopP_long f (by simp), loopP_long f' (by simp)]
  | 0, _, s :: r, w + 1, h, _ => by simp at h
  | _ + 1, 0, s :: r, w + 1, _, h => by simp at h
  | f + 1, f' + 1, s :: r, w + 1, h, h' => by
    show (match partOf (s :: r) with
      | none => none
      | some p => (loopP f ((s :: r).drop p.length) (w + (cw s).toNat)).map (p :: ·)) = (match partOf (s :: r) with
      | none => none
      | some p => (loopP f' ((s :: r).drop p.length) (w + (cw s).toNat)).map (p :: ·))
    cases hp : partOf (s :: r) with
    | none => rfl
    | some p =>
      obtain ⟨s', r', t, e1, e2, e3⟩ := partOf_cons hp
      have hl : ((s :: r).drop p.length).length ≤ r.length := by
        rw [List.length_drop, e2]
        simp
      simp only [List.length_cons] at h h'
      show (loopP f ((s :: r).drop p.length) (w + (cw s).toNat)).map (p :: ·) = (loopP f' ((s :: r).drop p.length) (w + (cw s).toNat)).map (p :: ·)
      rw [loop_fuel f f' _ _ (by omega) (by omega)]
theorem loop_step {l p : List Int} {s : Int} {t : List Int} {w : Nat} (h : partOf l = some p) (hp : p = s :: t) : loopP l.length l (w + 1) = (loopP (l.drop p.length).length (l.drop p.length) (w + (cw s).toNat)).map (p :: ·) := by
  obtain ⟨f', h1, h2⟩ := loopP_yes (w := w + 1) (Nat.le_refl _) (by omega) h hp
  rw [h2, loop_fuel f' _ _ _ h1 (Nat.le_refl _)]
  rfl
theorem loop_stop {l : List Int} {w : Nat} (h : partOf l = none) : loopP l.length l (w + 1) = none := loopP_no (Nat.le_refl _) (by omega) h
def told2 (w : Nat) : Option (Gq01.E × List Nat) → Option (List (List Int))
  | none => none
  | some (e, r) => (loopP (ofN r).length (ofN r) w).map (eparts e ++ ·)
theorem map_map2 {o : Option (List (List Int))} {a b : List (List Int)} : (o.map (b ++ ·)).map (a ++ ·) = o.map (a ++ b ++ ·) := by cases o <;> simp
def argE (k : Nat) (e : Nat → Gq01.E) : List Nat → Option (Gq01.E × List Nat)
  | [] => none
  | a :: r => if 1 ≤ a ∧ a ≤ k then some (e a, r) else none
theorem plain1 {s k : Nat} {l : List Nat} {e : Nat → Gq01.E} {w : Nat} (hs : hn (s : Int) = (k : Int)) (hk : k ≠ 0) (h7 : ¬ 7 < (s : Int)) (hc : cw (s : Int) = 0) (he : ∀ a, eparts (e a) = [[(s : Int), (a : Int)]]) :
    loopP (ofN (s :: l)).length (ofN (s :: l)) (w + 1) = told2 w (argE k e l) := by
  have hn0 : ¬ hn (s : Int) = 0 := by rw [hs]; omega
  cases l with
  | nil =>
    have hp : partOf (ofN [s]) = none := by
      show partOf [(s : Int)] = none
      rw [partOf_eq, if_neg h7, if_neg hn0]
    rw [loop_stop hp]
    rfl
  | cons a r =>
    have hp : partOf (ofN (s :: a :: r)) = if 1 ≤ a ∧ a ≤ k then some [(s : Int), (a : Int)] else none := by
      show partOf ((s : Int) :: (a : Int) :: ofN r) = _
      rw [partOf_eq, if_neg h7, if_neg hn0, hs]
      by_cases c : 1 ≤ a ∧ a ≤ k
      · rw [if_pos c]
        exact if_pos ⟨by omega, by omega⟩
      · rw [if_neg c]
        exact if_neg (by omega)
    show _ = told2 w (if 1 ≤ a ∧ a ≤ k then some (e a, r) else none)
    by_cases c : 1 ≤ a ∧ a ≤ k
    · rw [if_pos c] at hp ⊢
      rw [loop_step hp rfl, hc]
      show (loopP (ofN r).length (ofN r) (w + 0)).map ([(s : Int), (a : Int)] :: ·) = (loopP (ofN r).length (ofN r) w).map (eparts (e a) ++ ·)
      rw [he]
      rfl
    · rw [if_neg c] at hp ⊢
      rw [loop_stop hp]
      rfl
theorem part0 {s : Nat} {r : List Nat} (h7 : ¬ 7 < (s : Int)) (h0 : hn (s : Int) = 0) : partOf (ofN (s :: r)) = some [(s : Int)] := by
  show partOf ((s : Int) :: ofN r) = _
  rw [partOf_eq, if_neg h7, if_pos h0]
theorem loop0 {s c : Nat} {r : List Nat} {w : Nat} (h7 : ¬ 7 < (s : Int)) (h0 : hn (s : Int) = 0) (hc : cw (s : Int) = (c : Int)) : loopP (ofN (s :: r)).length (ofN (s :: r)) (w + 1) = (loopP (ofN r).length (ofN r) (w + c)).map ([(s : Int)] :: ·) := by
  rw [loop_step (part0 h7 h0) rfl, hc, Int.toNat_natCast]
  rfl
theorem loop_expr : ∀ (F : Nat) (l : List Nat), l.length < F → (∀ e r, Gq01.expr F l = some (e, r) → r.length < l.length) ∧ ∀ w, loopP (ofN l).length (ofN l) (w + 1) = told2 w (Gq01.expr F l)
  | 0, l, h => by simp at h
  | F + 1, [], _ => ⟨fun e r h => (by cases h), fun w => rfl⟩
  | F + 1, 0 :: l, _ => ⟨fun e r h => (by cases h; simp), fun w => by
      rw [loop0 (c := 0) (by decide) (by decide) (by decide)]
      rfl⟩
  | F + 1, 1 :: l, _ => by
    have hE : Gq01.expr (F + 1) (1 :: l) = argE 5 Gq01.E.fwd l := by
      cases l with
      | nil => rfl
      | cons a r =>
        show (if Gq01.isLabel a = true then some (Gq01.E.fwd a, r) else none) = if 1 ≤ a ∧ a ≤ 5 then some (.fwd a, r) else none
        unfold Gq01.isLabel
        simp
    rw [hE]
    refine ⟨fun e r h => ?_, fun w => plain1 (s := 1) (k := 5) (by decide) (by decide) (by decide) (by decide) fun a => rfl⟩
    cases l with
    | nil => cases h
    | cons a r' =>
      have h : (if 1 ≤ a ∧ a ≤ 5 then some (Gq01.E.fwd a, r') else none) = some (e, r) := h
      split at h
      · cases h; simp; omega
      · cases h
  | F + 1, 2 :: l, _ => by
    have hE : Gq01.expr (F + 1) (2 :: l) = argE 5 Gq01.E.back l := by
      cases l with
      | nil => rfl
      | cons a r =>
        show (if Gq01.isLabel a = true then some (Gq01.E.back a, r) else none) = if 1 ≤ a ∧ a ≤ 5 then some (.back a, r) else none
        unfold Gq01.isLabel
        simp
    rw [hE]
    refine ⟨fun e r h => ?_, fun w => plain1 (s := 2) (k := 5) (by decide) (by decide) (by decide) (by decide) fun a => rfl⟩
    cases l with
    | nil => cases h
    | cons a r' =>
      have h : (if 1 ≤ a ∧ a ≤ 5 then some (Gq01.E.back a, r') else none) = some (e, r) := h
      split at h
      · cases h; simp; omega
      · cases h
  | F + 1, 3 :: l, _ => by
    have hE : Gq01.expr (F + 1) (3 :: l) = argE 8 Gq01.E.kind l := by
      cases l with
      | nil => rfl
      | cons a r => rfl
    rw [hE]
    refine ⟨fun e r h => ?_, fun w => plain1 (s := 3) (k := 8) (by decide) (by decide) (by decide) (by decide) fun a => rfl⟩
    cases l with
    | nil => cases h
    | cons a r' =>
      have h : (if 1 ≤ a ∧ a ≤ 8 then some (Gq01.E.kind a, r') else none) = some (e, r) := h
      split at h
      · cases h; simp; omega
      · cases h
  | F + 1, 4 :: l, hl => by
    have hE : Gq01.expr (F + 1) (4 :: l) = (Gq01.expr F l).bind fun (e : Gq01.E × List Nat) => (Gq01.expr F e.2).map fun (d : Gq01.E × List Nat) => (Gq01.E.seq e.1 d.1, d.2) := rfl
    rw [hE]
    exact two_expr (s := 4) (by decide) (by decide) (by decide) (fun e f => rfl) (fun l h => loop_expr F l h) hl
  | F + 1, 5 :: l, hl => by
    have hE : Gq01.expr (F + 1) (5 :: l) = (Gq01.expr F l).bind fun (e : Gq01.E × List Nat) => (Gq01.expr F e.2).map fun (d : Gq01.E × List Nat) => (Gq01.E.alt e.1 d.1, d.2) := rfl
    rw [hE]
    exact two_expr (s := 5) (by decide) (by decide) (by decide) (fun e f => rfl) (fun l h => loop_expr F l h) hl
  | F + 1, 6 :: l, hl => by
    have hE : Gq01.expr (F + 1) (6 :: l) = (Gq01.expr F l).map fun (e : Gq01.E × List Nat) => (Gq01.E.star e.1, e.2) := rfl
    rw [hE]
    exact one_expr (s := 6) (by decide) (by decide) (by decide) (fun e => rfl) (fun l h => loop_expr F l h) hl
  | F + 1, 7 :: l, hl => by
    have hE : Gq01.expr (F + 1) (7 :: l) = (Gq01.expr F l).map fun (e : Gq01.E × List Nat) => (Gq01.E.has e.1, e.2) := rfl
    rw [hE]
    exact one_expr (s := 7) (by decide) (by decide) (by decide) (fun e => rfl) (fun l h => loop_expr F l h) hl
  | F + 1, (s + 8) :: l, _ => by
    have hE : Gq01.expr (F + 1) ((s + 8) :: l) = none := rfl
    rw [hE]
    refine ⟨fun e r h => (by cases h), fun w => ?_⟩
    have hp : partOf (ofN ((s + 8) :: l)) = none := by
      show partOf (((s + 8 : Nat) : Int) :: ofN l) = none
      rw [partOf_eq, if_pos (by omega)]
    rw [loop_stop hp]
    rfl
where
  two_expr {F s : Nat} {l : List Nat} {c : Gq01.E → Gq01.E → Gq01.E} (h7 : ¬ 7 < (s : Int)) (h0 : hn (s : Int) = 0) (hc : cw (s : Int) = 2) (he : ∀ e f, eparts (c e f) = [(s : Int)] :: (eparts e ++ eparts f))
      (ih : ∀ l : List Nat, l.length < F → (∀ e r, Gq01.expr F l = some (e, r) → r.length < l.length) ∧ ∀ w, loopP (ofN l).length (ofN l) (w + 1) = told2 w (Gq01.expr F l)) (hl : (s :: l).length < F + 1) :
      (∀ e r, ((Gq01.expr F l).bind fun (e : Gq01.E × List Nat) => (Gq01.expr F e.2).map fun (d : Gq01.E × List Nat) => (c e.1 d.1, d.2)) = some (e, r) → r.length < (s :: l).length) ∧
      ∀ w, loopP (ofN (s :: l)).length (ofN (s :: l)) (w + 1) = told2 w ((Gq01.expr F l).bind fun (e : Gq01.E × List Nat) => (Gq01.expr F e.2).map fun (d : Gq01.E × List Nat) => (c e.1 d.1, d.2)) := by
    have hl' : l.length < F := by simpa using hl
    obtain ⟨i1, i2⟩ := ih l hl'
    cases h1 : Gq01.expr F l with
    | none =>
      refine ⟨fun e r h => (by cases h), fun w => ?_⟩
      rw [loop0 (c := 2) h7 h0 hc, show w + 2 = (w + 1) + 1 by omega, i2, h1]
      rfl
    | some er =>
      obtain ⟨e1, r1⟩ := er
      have hr1 := i1 e1 r1 h1
      obtain ⟨j1, j2⟩ := ih r1 (by omega)
      show (∀ e r, ((Gq01.expr F r1).map fun (d : Gq01.E × List Nat) => (c e1 d.1, d.2)) = some (e, r) → r.length < (s :: l).length) ∧ ∀ w, loopP (ofN (s :: l)).length (ofN (s :: l)) (w + 1) = told2 w ((Gq01.expr F r1).map fun (d : Gq01.E × List Nat) => (c e1 d.1, d.2))
      have key : ∀ w, loopP (ofN (s :: l)).length (ofN (s :: l)) (w + 1) = (((told2 w (Gq01.expr F r1)).map (eparts e1 ++ ·)).map ([(s : Int)] :: ·)) := fun w => by
        rw [loop0 (c := 2) h7 h0 hc, show w + 2 = (w + 1) + 1 by omega, i2, h1]
        show ((loopP (ofN r1).length (ofN r1) (w + 1)).map (eparts e1 ++ ·)).map _ = _
        rw [j2]
      cases h2 : Gq01.expr F r1 with
      | none =>
        refine ⟨fun e r h => (by cases h), fun w => ?_⟩
        rw [key, h2]
        rfl
      | some er2 =>
        obtain ⟨e2, r2⟩ := er2
        have hr2 := j1 e2 r2 h2
        refine ⟨fun e r h => ?_, fun w => ?_⟩
        · cases h
          simp
          omega
        · rw [key, h2]
          show (((loopP (ofN r2).length (ofN r2) w).map (eparts e2 ++ ·)).map (eparts e1 ++ ·)).map ([(s : Int)] :: ·) = (loopP (ofN r2).length (ofN r2) w).map (eparts (c e1 e2) ++ ·)
          rw [he]
          cases loopP (ofN r2).length (ofN r2) w <;> simp
  one_expr {F s : Nat} {l : List Nat} {c : Gq01.E → Gq01.E} (h7 : ¬ 7 < (s : Int)) (h0 : hn (s : Int) = 0) (hc : cw (s : Int) = 1) (he : ∀ e, eparts (c e) = [(s : Int)] :: eparts e)
      (ih : ∀ l : List Nat, l.length < F → (∀ e r, Gq01.expr F l = some (e, r) → r.length < l.length) ∧ ∀ w, loopP (ofN l).length (ofN l) (w + 1) = told2 w (Gq01.expr F l)) (hl : (s :: l).length < F + 1) :
      (∀ e r, ((Gq01.expr F l).map fun (e : Gq01.E × List Nat) => (c e.1, e.2)) = some (e, r) → r.length < (s :: l).length) ∧
      ∀ w, loopP (ofN (s :: l)).length (ofN (s :: l)) (w + 1) = told2 w ((Gq01.expr F l).map fun (e : Gq01.E × List Nat) => (c e.1, e.2)) := by
    have hl' : l.length < F := by simpa using hl
    obtain ⟨i1, i2⟩ := ih l hl'
    cases h1 : Gq01.expr F l with
    | none =>
      refine ⟨fun e r h => (by cases h), fun w => ?_⟩
      rw [loop0 (c := 1) h7 h0 hc, i2, h1]
      rfl
    | some er =>
      obtain ⟨e1, r1⟩ := er
      have hr1 := i1 e1 r1 h1
      refine ⟨fun e r h => ?_, fun w => ?_⟩
      · cases h
        simp
        omega
      · rw [loop0 (c := 1) h7 h0 hc, i2, h1]
        show ((loopP (ofN r1).length (ofN r1) w).map (eparts e1 ++ ·)).map ([(s : Int)] :: ·) = (loopP (ofN r1).length (ofN r1) w).map (eparts (c e1) ++ ·)
        rw [he]
        cases loopP (ofN r1).length (ofN r1) w <;> simp
theorem parts_parsed (l : List Nat) : partsOf (ofN l) = if 60 < l.length then none else (Gq01.parsed l).map eparts := by
  unfold partsOf
  rw [List.length_map]
  by_cases c : 60 < l.length
  · rw [if_pos c, if_pos c]
  · rw [if_neg c, if_neg c]
    have h := (loop_expr (l.length + 1) l (by omega)).2 0
    rw [List.length_map] at h
    rw [h]
    unfold Gq01.parsed
    cases hE : Gq01.expr (l.length + 1) l with
    | none => rfl
    | some er =>
      obtain ⟨e, r⟩ := er
      cases r with
      | nil =>
        show (loopP 0 [] 0).map (eparts e ++ ·) = some (eparts e)
        rw [loopP_done]
        simp
      | cons a r =>
        have e1 : told2 0 (some (e, a :: r)) = (loopP (ofN (a :: r)).length (ofN (a :: r)) 0).map (eparts e ++ ·) := rfl
        rw [e1, loopP_long _ (by simp)]
        rfl
theorem loopP_len : ∀ (f : Nat) (l : List Int) (w : Nat) (ps : List (List Int)), loopP f l w = some ps → ps.length ≤ l.length
  | f, [], 0, ps, h => by
    rw [loopP_done] at h
    cases h
    exact Nat.le_refl _
  | f, [], w + 1, ps, h => by
    rw [loopP_short f _ (by omega)] at h
    cases h
  | f, s :: r, 0, ps, h => by
    rw [loopP_long f (by simp)] at h
    cases h
  | 0, s :: r, w + 1, ps, h => by cases h
  | f + 1, s :: r, w + 1, ps, h => by
    have h : (match partOf (s :: r) with
      | none => none
      | some p => (loopP f ((s :: r).drop p.length) (w + (cw s).toNat)).map (p :: ·)) = some ps := h
    cases hp : partOf (s :: r) with
    | none => rw [hp] at h; cases h
    | some p =>
      rw [hp] at h
      obtain ⟨s', r', t, e1, e2, e3⟩ := partOf_cons hp
      have h : (loopP f ((s :: r).drop p.length) (w + (cw s).toNat)).map (p :: ·) = some ps := h
      cases hq : loopP f ((s :: r).drop p.length) (w + (cw s).toNat) with
      | none => rw [hq] at h; exact nomatch h
      | some qs =>
        rw [hq] at h
        cases h
        have := loopP_len f _ _ _ hq
        rw [List.length_drop, e2] at this
        simp at this ⊢
        omega
theorem parsed_sz {l : List Nat} {e : Gq01.E} (h60 : ¬ 60 < l.length) (h : Gq01.parsed l = some e) : (eparts e).length ≤ 60 := by
  have h1 := parts_parsed l
  rw [if_neg h60, h] at h1
  unfold partsOf at h1
  rw [List.length_map, if_neg h60] at h1
  have := loopP_len _ _ _ _ h1
  rw [List.length_map] at this
  omega
theorem sz_turned : ∀ e : Gq01.E, szE (Gq01.turned e) = szE e
  | .stay => rfl
  | .fwd _ => rfl
  | .back _ => rfl
  | .kind _ => rfl
  | .seq e f => by
    show szE (Gq01.turned f) + szE (Gq01.turned e) + 1 = szE e + szE f + 1
    rw [sz_turned e, sz_turned f]
    omega
  | .alt e f => by
    show szE (Gq01.turned e) + szE (Gq01.turned f) + 1 = szE e + szE f + 1
    rw [sz_turned e, sz_turned f]
  | .star e => by
    show szE (Gq01.turned e) + 1 = szE e + 1
    rw [sz_turned e]
  | .has e => rfl
/-! ### changes of the line -/
/-- all but N and the tables stays -/
def KT (T : List (Addr × Str)) (N : List Addr) (H H' : Hp) : Prop := (∀ b o, H b = some o → noTbl o → b ∉ N → H' b = some o) ∧ (Tabs T H → Tabs T H')
theorem KT.of {T : List (Addr × Str)} {N : List Addr} {H H' : Hp} (h : LT T H H') : KT T N H H' := ⟨fun b o hb n _ => h.1 b o hb n, h.2⟩
theorem KT.trans {T : List (Addr × Str)} {N : List Addr} {H H1 H2 : Hp} (a : KT T N H H1) (b : KT T N H1 H2) : KT T N H H2 := ⟨fun x o h n m => b.1 x o (a.1 x o h n m) n m, fun h => b.2 (a.2 h)⟩
theorem KT.mono {T : List (Addr × Str)} {N N' : List Addr} {H H' : Hp} (a : KT T N H H') (s : ∀ b ∈ N, b ∈ N') : KT T N' H H' := ⟨fun x o h n m => a.1 x o h n fun z => m (s x z), a.2⟩
theorem tabs_ins {T : List (Addr × Str)} {H : Hp} {p C dx : Addr} {fs : List (Str × V)} {o : HO} (h : Tabs T H) (hp : H p = some (.ins C dx fs)) : Tabs T (upd H p o) := fun q hq => by
  obtain ⟨ps, h1, h2, h3⟩ := h q hq
  refine ⟨ps, (upd_ne (ne_of h1 hp (fun z => nomatch z))).trans h1, h2, fun pos cv hc => ?_⟩
  obtain ⟨c, e1, e2⟩ := (h3 pos cv hc)
  exact ⟨c, e1, (upd_ne (ne_of e2 hp (fun z => by unfold CodeO at z; cases z))).trans e2⟩
theorem KT.ins {T : List (Addr × Str)} {N : List Addr} {H : Hp} {p C dx : Addr} {fs : List (Str × V)} {o : HO} (hp : H p = some (.ins C dx fs)) (hN : p ∈ N) : KT T N H (upd H p o) := ⟨fun b u hb _ m => (upd_ne (fun z => m (by rw [z]; exact hN))).trans hb, fun h => tabs_ins h hp⟩
/-- an instance is written: lists and tuples stay -/
theorem GrAt.insW {C : Addr} {M : List Addr} {H : Hp} {aG aN aE p C' dx : Addr} {fs : List (Str × V)} {o : HO} {g : Gq01.Graph} (h : GrAt C M H aG aN aE g) (hp : H p = some (.ins C' dx fs)) (hn : p ≠ aG) : GrAt C M (upd H p o) aG aN aE g := by
  obtain ⟨dg, h1⟩ := h.obj
  obtain ⟨qs, h2, h3, h4⟩ := h.nl
  obtain ⟨ts, h5, h6, h7⟩ := h.el
  exact ⟨⟨dg, (upd_ne (Ne.symm hn)).trans h1⟩, ⟨qs, (upd_ne (ne_of h2 hp (fun z => nomatch z))).trans h2, h3, fun i q k a b => let ⟨k1, k2⟩ := h4 i q k a b; ⟨(upd_ne (ne_of k1 hp (fun z => nomatch z))).trans k1, k2⟩⟩, ⟨ts, (upd_ne (ne_of h5 hp (fun z => nomatch z))).trans h5, h6, fun i t d a b => (upd_ne (ne_of (h7 i t d a b) hp (fun z => nomatch z))).trans (h7 i t d a b)⟩, h.ne, h.few, h.nd⟩
theorem LLm.insW {M : List Addr} {H : Hp} {a p C dx : Addr} {fs : List (Str × V)} {o : HO} {ls : List (List Int)} (h : LLm M H a ls) (hp : H p = some (.ins C dx fs)) : LLm M (upd H p o) a ls := by
  obtain ⟨h0, qs, h1, h2⟩ := h
  exact ⟨h0, qs, (upd_ne (ne_of h1 hp (fun z => nomatch z))).trans h1, h2.imp fun _ _ _ r => ⟨r.1, (upd_ne (ne_of r.2 hp (fun z => nomatch z))).trans r.2⟩⟩
theorem KnL.insW {M : List Addr} {H : Hp} {p C dx : Addr} {fs : List (Str × V)} {o : HO} (h : KnL M H) (hp : H p = some (.ins C dx fs)) : KnL M (upd H p o) := fun m hm => by
  obtain ⟨xs, q⟩ := h m hm
  have ne : m ≠ p := ne_of q hp (fun z => nomatch z)
  exact ⟨xs, (upd_ne ne).trans q⟩
theorem x_fld {K : PySem.W.Frag} {σ : L2.St} {H : Hp} {ta tv : TE} {f : Str} {tz : TS} {D : Ends} (h : tv σ H fun y H1 => ta σ H1 fun x H2 => ∃ a C dx fs, x = .ref a ∧ H2 a = some (.ins C dx fs) ∧ Cls K C ∧ NoAttr K C f ∧ fs.length < 1000 ∧ tz D σ (upd H2 a (.ins C dx (putF f y fs)))) : tSeq (sFld K ta tv f) tz D σ H := h
theorem GrAt.obj_ne {CG : Addr} {M : List Addr} {H : Hp} {aG aN aE p C dx : Addr} {fs : List (Str × V)} {g : Gq01.Graph} (h : GrAt CG M H aG aN aE g) (hp : H p = some (.ins C dx fs)) (hC : C ≠ CG) : p ≠ aG := fun z => by
  obtain ⟨dg, h1⟩ := h.obj
  rw [z, h1] at hp
  cases hp
  exact hC rfl
/-- the line's question is another -/
theorem LnAt.ask {CG CL : Addr} {M : List Addr} {H : Hp} {aL aG aN aE aQ q dx : Addr} {d : Gq01.Desk} {e : Gq01.E} (h : LnAt CG CL M H aL aG aN aE aQ d) (h1 : H aL = some (.ins CL dx (lF aG aQ))) (hne : aL ≠ aG) (hq : LLm (aN :: aE :: M) H q (eparts e)) (hs : (eparts e).length ≤ 60) :
    LnAt CG CL M (upd H aL (.ins CL dx (putF "question" (.ref q) (lF aG aQ)))) aL aG aN aE q ⟨d.graph, e⟩ := ⟨⟨dx, by rw [upd_same, lF_put]⟩, h.gr.insW h1 hne, hq.insW h1, hs, h.vd, h.kn.insW h1, h.nm⟩
theorem ls_ll {H0 H : Hp} {l : Addr} {qs : List Addr} {ls : List (List Int)} {M : List Addr} (h : LsAt H0 H l qs ls) (k : Kn M H0) : LLm M H l ls := ⟨k.new h.new, qs, h.at_, f2_of h.len fun i q p a b => let ⟨k1, _, k3⟩ := h.its i q p a b; ⟨k.new k3, k1⟩⟩
theorem kn2 {CG : Addr} {M : List Addr} {H : Hp} {aG aN aE : Addr} {g : Gq01.Graph} (h : GrAt CG M H aG aN aE g) (k : KnL M H) : Kn (aN :: aE :: M) H := fun m hm z => by
  obtain ⟨qs, h2, _⟩ := h.nl
  obtain ⟨ts, h5, _⟩ := h.el
  rcases (List.mem_cons.mp hm) with rfl | hm
  · rw [h2] at z; cases z
  · rcases (List.mem_cons.mp hm) with rfl | hm
    · rw [h5] at z; cases z
    · exact k.kn m hm z
theorem sum_foldr (l : List Nat) : (ofN l).sum = ((l.foldr (fun a n => a + n) 0 : Nat) : Int) := by
  induction l with
  | nil => rfl
  | cons a l ih =>
    show ((a : Int) :: ofN l).sum = _
    rw [List.sum_cons, ih]
    simp
section
variable {P : Program} {w : World} {K : PySem.W.Frag} {mg : Str → Option Value} {base : Heap} {C_Graph C_Line C_Reader a_CALLS c1 P1 c2 P2 : Addr}
def spAsk (CG CL : Addr) (T : List (Addr × Str)) : Sp := fun vs H Q _ => ∃ (M : List Addr) (aL aG aN aE aQ ac : Addr) (d : Gq01.Desk) (l : List Nat), vs = [.ref aL, .ref ac] ∧ LnAt CG CL M H aL aG aN aE aQ d ∧ aL ≠ aG ∧ H ac = some (.lst (nn l)) ∧ l.length ≤ 10000 ∧ Tabs T H ∧
  ∀ p H' aQ', p ∉ M → LnAt CG CL M H' aL aG aN aE aQ' (Gq01.step d (.ask l)).1 → KT T [aL] H H' → H' p = some (.lst (nums (Gq01.step d (.ask l)).2)) → Q (.ref p) H'
theorem met_Line_ask (Z : Tz K mg base C_Graph C_Line C_Reader a_CALLS c1 P1 c2 P2) : Met P w K mg base 10 C_Line "ask" (spAsk C_Graph C_Line (TBL P1 P2)) [] := by
  have T := Z.T
  refine T.m_Line_ask.met sc_Line_ask (fun vs H Q E h => by obtain ⟨M, aL, aG, aN, aE, aQ, ac, d, l, rfl, _⟩ := h; rfl) (fun f cdv A outer s H vs Q E hr h => ⟨_, (pss_cons (ps_set (i := 2) sc_Line_ask.nd rfl (Or.inl rfl) (pe_c (cal_parts_of T) hr (by decide) rfl (pa_cons (pv 1) pa_nil)))
      (pss_cons (ps_if (pt_cmpR op_isN (pv 2) pe_non (nomark _)) (pss_one (ps_ret (pe_lst (pa_cons (pe_gc rfl T.g_WRONG) pa_nil)))) pss_nil)
      (pss_cons (ps_fld (pv 0) (pv 2) rfl)
      (pss_one (ps_ret (pe_lst (pa_cons (pe_callB (cr_sum rfl) (by rfl) T.b_sum (by decide +kernel) (pa_cons (pe_lc (own := [("row", 3)]) (g := (gName 3)) (te := (tCB (rLenS K) _)) rfl sc_Line_ask.nd (pi_list (pe_mt0 (met_Line_relation Z) hr (by decide) (pv 0))) (blkOk_by (own := [("row", 3)]) (N := N_Line_ask) (sc := fnScope s_Line_ask) (by decide +kernel)) (fun _ _ _ _ _ => (pg_name (i := 3) sc_Line_ask.nd rfl (Or.inl rfl))) (fun _ _ _ _ _ => pts_nil) (fun _ _ _ _ _ => (pe_callB call_len_seq (by rfl) T.b_len PySem.boot_len (pa_cons (pe_c (cal_nodes_of T) hr (by decide) rfl (pa_cons (pv 3) pa_nil)) pa_nil)))) pa_nil)) pa_nil))))))), ?_⟩)
  obtain ⟨M, aL, aG, aN, aE, aQ, ac, d, l, rfl, hL, hne, hac, hlen, ht, k⟩ := h
  obtain ⟨dx, h1⟩ := hL.obj
  have hpp := parts_parsed l
  have refused : (60 < l.length ∨ Gq01.parsed l = none) → Gq01.step d (.ask l) = (d, [-1]) := fun c => by
    show (if 60 < l.length then (d, [-1]) else (match Gq01.parsed l with
      | none => (d, [-1])
      | some e => ({ d with ask := e }, _))) = _
    by_cases c1 : 60 < l.length
    · rw [if_pos c1]
    · rw [if_neg c1, c.resolve_left c1]
  refine x_asg ?_
  refine ⟨_, rfl, ac, ofN l, rfl, sq_of hac, by rw [List.length_map]; exact hlen, fun hno H1 e1 => ?_, fun ls hls q qs H1 e1 hls1 => ?_⟩
  · have hst : Gq01.step d (.ask l) = (d, [-1]) := refused (by
      rw [hpp] at hno
      by_cases c : 60 < l.length
      · exact .inl c
      · rw [if_neg c] at hno
        cases hp : Gq01.parsed l with
        | none => exact .inr rfl
        | some e => rw [hp] at hno; cases hno)
    rw [hst] at k
    refine q_when (et_test (ev_op (ev_var rfl) ev_c (rv_isNb (b := true) rfl))) (fun hb H2 e2 => ?_) (fun hb _ _ => by cases hb)
    exact s_retL (el_lst (ea_cons ev_c ea_nil) (by show 1 ≤ 100000; decide)) fun p H3 hp e3 h3 => k p H3 aQ (nM hL (e1.trans e2) hp) (hL.monoL ((e1.trans e2).trans e3)) (KT.of (Pre.ex ((e1.trans e2).trans e3))) h3
  · rw [hpp] at hls
    by_cases c : 60 < l.length
    · rw [if_pos c] at hls
      cases hls
    rw [if_neg c] at hls
    cases hpd : Gq01.parsed l with
    | none => rw [hpd] at hls; cases hls
    | some e =>
    rw [hpd] at hls
    obtain rfl : eparts e = ls := Option.some.inj hls
    have hst : Gq01.step d (.ask l) = (⟨d.graph, e⟩, Gq01.ints [((Gq01.nodes d.graph).map fun x => (Gq01.to_ d.graph (Gq01.best d.graph e) x).length).foldr (fun a n => a + n) 0]) := by
      show (if 60 < l.length then (d, [-1]) else (match Gq01.parsed l with
        | none => (d, [-1])
        | some e => ({ d with ask := e }, _))) = _
      rw [if_neg c, hpd]
    rw [hst] at k
    have hq : LLm (aN :: aE :: M) H1 q (eparts e) := ls_ll hls1 (kn2 hL.gr hL.kn)
    have hsz := parsed_sz c hpd
    refine q_when (et_test (ev_op (ev_var rfl) ev_c (rv_isNb (b := false) rfl))) (fun hb _ _ => by cases hb) (fun _ H2 e2 => ?_)
    have e12 := e1.trans e2
    refine q_fldI (ev_var rfl) (ev_var rfl) (e12 _ _ h1) T.c_Line T.n_Line_question (by show 2 < 1000; decide) fun H3 e3 => ?_
    have e13 := e12.trans e3
    have hL3 := LnAt.ask (hL.monoL e13) (e13 _ _ h1) hne (hq.mono (e2.trans e3)) hsz
    have kt3 : KT (TBL P1 P2) [aL] H (upd H3 aL (.ins C_Line dx (putF "question" (.ref q) (lF aG aQ)))) := (KT.of (Pre.ex e13)).trans (KT.ins (e13 _ _ h1) (by simp))
    have ht3 := kt3.2 ht
    obtain ⟨dx3, h13⟩ := hL3.obj
    -- [sum([len(nodes_of(row)) for row in self.relation()])]
    refine x_ret ?_
    refine x_methA (vs := []) (ev_var rfl) h13 (lF_no (by decide +kernel) (by decide +kernel)) ea_nil fun H4 e4 => ⟨M, aL, aG, aN, aE, q, ⟨d.graph, e⟩, rfl, hL3.monoL e4, ht3.ext e4, fun r H5 l5 r5 => ?_⟩
    have r5 : H5 r = some (.lst (nn (relN d.graph.kinds.length (rOf d.graph e)))) := r5
    have hn : d.graph.kinds.length ≤ 100 := Nat.le_trans hL.gr.few.1 (by decide)
    refine ⟨r, rfl, ⟨_, sq_of r5⟩, fun D hD => lc_gen (L := Ex) (walk_list (K := K) (xs := nn (relN d.graph.kinds.length (rOf d.graph e)))) hD (fun _ => true) (fun i v _ => v = .int ((nodesP d.graph.kinds.length (rOf d.graph e (i + 1))).length : Int)) (fun i v H H' _ r => r) (fun i v H xs ys r _ => r) (by rw [nn_len, relN_len]; omega) (fun H' e' => sq_of (e' _ _ r5)) (fun i v H' H'' hi e' hDl yy Q1 k1 => ?_) fun H' ys e' hD' out => ?_⟩
    · obtain ⟨rfl, hyy⟩ := yy
      obtain ⟨hin, rfl⟩ := relN_of hyy
      refine k1 _ _ rfl (Ex.refl _) eb_yes fun _ => EvR.of (ev_is (ev_lenN (el_call (ea_cons (ev_var rfl) ea_nil) (spNodes_l hn))) (by rw [nn_len])) fun _ _ => rfl
    · rw [rng_all, nn_len, relN_len] at out
      have hys := F2.eq out
      have hys2 : ys = nn ((List.range d.graph.kinds.length).map fun i => (nodesP d.graph.kinds.length (rOf d.graph e (i + 1))).length) := by rw [hys, nn_map]
      rw [hys2] at hD'
      refine ⟨D, _, rfl, sq_of hD', sz1, fun p hp => ?_⟩
      have eF : Ex H' (upd H' p (.lst [.int (ofN ((List.range d.graph.kinds.length).map fun i => (nodesP d.graph.kinds.length (rOf d.graph e (i + 1))).length)).sum])) := Ex.new hp
      have l6 : LT (TBL P1 P2) (upd H3 aL (.ins C_Line dx (putF "question" (.ref q) (lF aG aQ)))) (upd H' p (.lst [.int (ofN ((List.range d.graph.kinds.length).map fun i => (nodesP d.graph.kinds.length (rOf d.graph e (i + 1))).length)).sum])) := Pre.trans (Pre.ex e4) (Pre.trans l5 (Pre.ex (e'.trans eF)))
      refine k p _ q (nM (L := LT (TBL P1 P2)) hL3 (Pre.trans (Pre.ex e4) (Pre.trans l5 (Pre.ex e'))) hp) (hL3.monoL l6) (kt3.trans (KT.of l6)) ?_
      rw [upd_same, sum_foldr]
      have vd' : Vld (Gq01.Desk.graph ⟨d.graph, e⟩).kinds.length (Gq01.Desk.graph ⟨d.graph, e⟩).edges := hL.vd
      have hmap : ((Gq01.nodes d.graph).map fun x => (Gq01.to_ d.graph (Gq01.best d.graph e) x).length) = (List.range d.graph.kinds.length).map fun i => (nodesP d.graph.kinds.length (rOf d.graph e (i + 1))).length := by
        rw [nodes_map]
        refine List.map_congr_left fun i hi => ?_
        have := to_eq (d := ⟨d.graph, e⟩) vd' (mem_range_nodes hi)
        exact congrArg List.length this
      rw [hmap]
      rfl
def spTurn (CG CL : Addr) (T : List (Addr × Str)) : Sp := fun vs H Q _ => ∃ (M : List Addr) (aL aG aN aE aQ : Addr) (d : Gq01.Desk), vs = [.ref aL] ∧ LnAt CG CL M H aL aG aN aE aQ d ∧ aL ≠ aG ∧ Tabs T H ∧
  ∀ p H' aQ', p ∉ M → LnAt CG CL M H' aL aG aN aE aQ' (Gq01.step d .turn).1 → KT T [aL] H H' → H' p = some (.lst (nums (Gq01.step d .turn).2)) → Q (.ref p) H'
theorem row_len : ∀ e : Gq01.E, (Gq01.row e).length ≤ 2 * szE e
  | .stay => by decide
  | .fwd _ => Nat.le_refl _
  | .back _ => Nat.le_refl _
  | .kind _ => Nat.le_refl _
  | .seq e f => by
    have h1 := row_len e
    have h2 := row_len f
    simp only [Gq01.row, szE, List.cons_append, List.length_cons, List.length_append]
    omega
  | .alt e f => by
    have h1 := row_len e
    have h2 := row_len f
    simp only [Gq01.row, szE, List.cons_append, List.length_cons, List.length_append]
    omega
  | .star e => by
    have h1 := row_len e
    simp only [Gq01.row, szE, List.length_cons]
    omega
  | .has e => by
    have h1 := row_len e
    simp only [Gq01.row, szE, List.length_cons]
    omega
theorem met_Line_turn (T : Tx K mg C_Graph C_Line C_Reader a_CALLS) : Met P w K mg base 8 C_Line "turn" (spTurn C_Graph C_Line (TBL P1 P2)) [] := by
  refine T.m_Line_turn.met sc_Line_turn (fun vs H Q E h => by obtain ⟨M, aL, aG, aN, aE, aQ, d, rfl, _⟩ := h; rfl) (fun f cdv A outer s H vs Q E hr h => ⟨_, (pss_cons (ps_fld (pv 0) (pe_c (cal_turned T) hr (by decide) rfl (pa_cons (pe_fld (pv 0) rfl) pa_nil)) rfl)
      (pss_one (ps_ret (pe_c (cal_counted T) hr (by decide) rfl (pa_cons (pe_c (cal_code_of T) hr (by decide) rfl (pa_cons (pe_fld (pv 0) rfl) pa_nil)) pa_nil))))), ?_⟩)
  obtain ⟨M, aL, aG, aN, aE, aQ, d, rfl, hL, hne, ht, k⟩ := h
  obtain ⟨dx, h1⟩ := hL.obj
  have hst : Gq01.step d .turn = (⟨d.graph, Gq01.turned d.ask⟩, Gq01.told (Gq01.row (Gq01.turned d.ask))) := rfl
  rw [hst, told_eq] at k
  have hsz : (eparts (Gq01.turned d.ask)).length ≤ 60 := by
    rw [eparts_sz, sz_turned, ← eparts_sz]
    exact hL.sz
  have hfl : (eparts (Gq01.turned d.ask)).flatten = ofN (Gq01.row (Gq01.turned d.ask)) := eparts_flat _
  have hfn : (eparts (Gq01.turned d.ask)).flatten.length ≤ 120 := by
    rw [hfl, List.length_map]
    have := row_len (Gq01.turned d.ask)
    rw [eparts_sz] at hsz
    omega
  refine x_fld ?_
  refine x_callA (vs := [.ref aQ]) (ea_cons (ev_fld (ev_var rfl) h1 T.c_Line T.n_Line_question lF_q) ea_nil) fun H1 e1 => ⟨aQ, aN :: aE :: M, d.ask, rfl, hL.qu.mono e1, (kn2 hL.gr hL.kn).ex e1, hL.sz, fun q H2 e2 hq => ?_⟩
  have e12 := e1.trans e2
  refine ⟨_, rfl, aL, C_Line, dx, _, rfl, e12 _ _ h1, T.c_Line, T.n_Line_question, by show 2 < 1000; decide, ?_⟩
  have hL3 := LnAt.ask (hL.monoL e12) (e12 _ _ h1) hne hq hsz
  have kt3 : KT (TBL P1 P2) [aL] H (upd H2 aL (.ins C_Line dx (putF "question" (.ref q) (lF aG aQ)))) := (KT.of (Pre.ex e12)).trans (KT.ins (e12 _ _ h1) (by simp))
  obtain ⟨dx3, h13⟩ := hL3.obj
  refine x_ret (x_call1 (x_call1 ?_))
  refine (ev_fld (ev_var rfl) h13 T.c_Line T.n_Line_question lF_q) _ (Ex.refl _) _ fun H4 e4 => ⟨q, _, rfl, (hL3.qu.sub fun b hb => by cases hb).mono e4, Nat.le_trans hfn (by decide), fun l H5 hl e5 h5 => ⟨l, _, rfl, h5, Nat.le_trans hfn (by decide), fun p H6 hp e6 h6 => ?_⟩⟩
  have l6 : LT (TBL P1 P2) (upd H2 aL (.ins C_Line dx (putF "question" (.ref q) (lF aG aQ)))) H6 := Pre.ex ((e4.trans e5).trans e6)
  refine k p H6 q (nM hL3 (e4.trans e5) hp) (hL3.monoL l6) (kt3.trans (KT.of l6)) ?_
  have hfl' : (eparts (Gq01.Desk.ask ⟨d.graph, Gq01.turned d.ask⟩)).flatten = ofN (Gq01.row (Gq01.turned d.ask)) := hfl
  rw [hfl'] at h6
  exact h6
end
end WG
namespace WG
open PySem PySem.Spec
open PyProof.Rows
open L2 hiding CX0 E0 pass0 Fun
open C8 Evl WM
open LamX (CodeO Tabs TabS ExtN TabB)
/-! ### the line and its reader -/
/-- read, never written -/
def FrzL (K : PySem.W.Frag) (H : Hp) (a : Addr) (xs : List V) : Prop := (∃ o, H a = some (.frz o (.lst xs))) ∨ ∀ H', SqL K H' a xs
theorem FrzL.sq {K : PySem.W.Frag} {H : Hp} {a : Addr} {xs : List V} (h : FrzL K H a xs) : SqL K H a xs := h.elim (fun ⟨o, q⟩ => .inl (.inr ⟨o, q⟩)) fun q => q H
/-- what is written is a list or an instance -/
def Wr (N : List Addr) (H : Hp) : Prop := ∀ b ∈ N, (∃ xs, H b = some (.lst xs)) ∨ ∃ C dx fs, H b = some (.ins C dx fs)
theorem wr_ne {N : List Addr} {H : Hp} (h : Wr N H) {b : Addr} {o : HO} (hb : H b = some o) (h1 : ∀ xs, o ≠ .lst xs) (h2 : ∀ C dx fs, o ≠ .ins C dx fs) : b ∉ N := fun z => by
  rcases h b z with ⟨xs, q⟩ | ⟨C, dx, fs, q⟩
  · rw [hb] at q
    exact h1 xs (Option.some.inj q)
  · rw [hb] at q
    exact h2 C dx fs (Option.some.inj q)
theorem keep_kt {T : List (Addr × Str)} {N N' : List Addr} {H H' : Hp} (k : Keep N H H') (w : Wr N H) (s : ∀ b ∈ N, b ∈ N') : KT T N' H H' := by
  refine ⟨fun b o hb _ m => k b o hb fun z => m (s b z), fun t q hq => ?_⟩
  obtain ⟨ps, h1, h2, h3⟩ := t q hq
  refine ⟨ps, k _ _ h1 (wr_ne w h1 (fun _ z => nomatch z) fun _ _ _ z => nomatch z), h2, fun pos cv hc => ?_⟩
  obtain ⟨c, e1, e2⟩ := (h3 pos cv hc)
  exact ⟨c, e1, k _ _ e2 (wr_ne w e2 (fun _ z => by unfold CodeO at z; cases z) fun _ _ _ z => by unfold CodeO at z; cases z)⟩
theorem FrzL.kt {K : PySem.W.Frag} {T : List (Addr × Str)} {N : List Addr} {H H' : Hp} {a : Addr} {xs : List V} (h : FrzL K H a xs) (k : KT T N H H') (w : Wr N H) : FrzL K H' a xs := by
  rcases h with ⟨o, q⟩ | q
  · exact .inl ⟨o, k.1 _ _ q nt_frz (wr_ne w q (fun _ z => nomatch z) fun _ _ _ z => nomatch z)⟩
  · exact .inr q
section
variable {CG CL CR : Addr} {T : List (Addr × Str)} {K : PySem.W.Frag} {M : List Addr} {H H' : Hp} {aL aG aN aE aQ aR a : Addr} {d : Gq01.Desk} {ns : List Nat} {i : Nat}
theorem LnAt.neLG (h : LnAt CG CL M H aL aG aN aE aQ d) : aL ≠ aG := fun z => by
  obtain ⟨dx, h1⟩ := h.obj
  obtain ⟨dg, h2⟩ := h.gr.obj
  rw [z, h2] at h1
  have q : gF aN aE = lF aG aQ := by injection h1 with h1; injection h1
  have q2 : ("node_kinds" : Str) = "graph" := congrArg Prod.fst (List.cons.inj q).1
  exact absurd q2 (by decide +kernel)
structure St2 (CG CL CR : Addr) (T : List (Addr × Str)) (K : PySem.W.Frag) (M : List Addr) (H : Hp) (aL aG aN aE aQ aR a : Addr) (d : Gq01.Desk) (ns : List Nat) (i : Nat) : Prop where
  ln : LnAt CG CL M H aL aG aN aE aQ d
  rd : ∃ dx, H aR = some (.ins CR dx (rF a i))
  fz : FrzL K H a (nn ns)
  tb : Tabs T H
theorem St2.neR (s : St2 CG CL CR T K M H aL aG aN aE aQ aR a d ns i) : aR ≠ aL ∧ aR ≠ aG := by
  obtain ⟨dx, h1⟩ := s.ln.obj
  obtain ⟨dg, h2⟩ := s.ln.gr.obj
  obtain ⟨dr, h3⟩ := s.rd
  constructor
  · intro z
    rw [z, h1] at h3
    have q : lF aG aQ = rF a i := by injection h3 with h3; injection h3
    have q2 : ("graph" : Str) = "numbers" := congrArg Prod.fst (List.cons.inj q).1
    exact absurd q2 (by decide +kernel)
  · intro z
    rw [z, h2] at h3
    have q : gF aN aE = rF a i := by injection h3 with h3; injection h3
    have q2 : ("node_kinds" : Str) = "numbers" := congrArg Prod.fst (List.cons.inj q).1
    exact absurd q2 (by decide +kernel)
/-- the line stays when what is written is none of its own: instances, or lists among M -/
theorem LnAt.kt {N : List Addr} (h : LnAt CG CL M H aL aG aN aE aQ d) (k : KT T N H H') (w : Wr N H) (n1 : aL ∉ N) (n2 : aG ∉ N) (hl : ∀ b ∈ N, ∀ xs, H b = some (.lst xs) → b ∈ M) (hM : ∀ b ∈ N, ∀ xs, H b = some (.lst xs) → ∃ ys, H' b = some (.lst ys)) : LnAt CG CL M H' aL aG aN aE aQ d := by
  obtain ⟨dx, h1⟩ := h.obj
  obtain ⟨dg, h2⟩ := h.gr.obj
  obtain ⟨qs, g1, g2, g3⟩ := h.gr.nl
  obtain ⟨ts, g4, g5, g6⟩ := h.gr.el
  obtain ⟨u0, us, u1, u2⟩ := h.qu
  have lst : ∀ {b xs}, H b = some (.lst xs) → b ∉ M → H' b = some (.lst xs) := fun {b xs} hb m => k.1 _ _ hb nt_lst fun z => m (hl b z xs hb)
  have sub : ∀ {b}, b ∉ aN :: aE :: M → b ∉ M := fun hb z => hb (List.mem_cons_of_mem _ (List.mem_cons_of_mem _ z))
  refine ⟨⟨dx, k.1 _ _ h1 nt_ins n1⟩, ⟨⟨dg, k.1 _ _ h2 nt_ins n2⟩, ⟨qs, lst g1 h.nm.1, g2, fun i q kk a b => ?_⟩, ⟨ts, lst g4 h.nm.2, g5, fun i t e a b => k.1 _ _ (g6 i t e a b) nt_tup (wr_ne w (g6 i t e a b) (fun _ z => nomatch z) fun _ _ _ z => nomatch z)⟩, h.gr.ne, h.gr.few, h.gr.nd⟩, ⟨u0, us, lst u1 (sub u0), u2.imp fun q l _ r => ⟨r.1, lst r.2 (sub r.1)⟩⟩, h.sz, h.vd, fun m hm => ?_, h.nm⟩
  · obtain ⟨k1, k2, k3, k4⟩ := g3 i q kk a b
    exact ⟨lst k1 k4, k2, k3, k4⟩
  · obtain ⟨xs, hx⟩ := h.kn m hm
    by_cases c : m ∈ N
    · exact hM m c xs hx
    · exact ⟨xs, k.1 _ _ hx nt_lst c⟩
/-- the reader is written -/
theorem St2.read {j : Nat} (s : St2 CG CL CR T K M H aL aG aN aE aQ aR a d ns i) (k : Keep [aR] H H') (hr : ∃ dx, H' aR = some (.ins CR dx (rF a j))) : St2 CG CL CR T K M H' aL aG aN aE aQ aR a d ns j ∧ KT T [aR] H H' := by
  obtain ⟨dr, h3⟩ := s.rd
  have w : Wr [aR] H := fun b hb => by
    obtain rfl : b = aR := by simpa using hb
    exact .inr ⟨_, _, _, h3⟩
  have kt : KT T [aR] H H' := keep_kt k w fun b hb => hb
  have nl : ∀ b ∈ [aR], ∀ xs, H b = some (.lst xs) → False := fun b hb xs h => by
    obtain rfl : b = aR := by simpa using hb
    rw [h3] at h
    cases h
  exact ⟨⟨s.ln.kt kt w (by simpa using (s.neR.1).symm) (by simpa using (s.neR.2).symm) (fun b hb xs h => (nl b hb xs h).elim) fun b hb xs h => (nl b hb xs h).elim, hr, s.fz.kt kt w, kt.2 s.tb⟩, kt⟩
theorem St2.rdAt (s : St2 CG CL CR T K M H aL aG aN aE aQ aR a d ns i) : RdAt K CR H aR a ns i := ⟨s.rd, s.fz.sq⟩
theorem St2.lt (s : St2 CG CL CR T K M H aL aG aN aE aQ aR a d ns i) (l : LT T H H') : St2 CG CL CR T K M H' aL aG aN aE aQ aR a d ns i := ⟨s.ln.monoL l, s.rd.imp fun dx q => Pre.keep l q nt_ins, s.fz.kt (N := []) (KT.of l) (fun b hb => by cases hb), l.2 s.tb⟩
variable {σ : L2.St} {Q : VK} {j n : Nat}
theorem x_num (s : St2 CG CL CR T K M H aL aG aN aE aQ aR a d ns i) (hσ : σ[j]? = some (some (.ref aR))) (hn : ns[i]? = some n) (k : ∀ H1, St2 CG CL CR T K M H1 aL aG aN aE aQ aR a d ns (i + 1) → KT T [aR] H H1 → Q (.int (n : Int)) H1) : tMeth CR "number" (spNumber K CR) [] C8.E0 (tVar j) tNil σ H Q := by
  obtain ⟨dr, h3⟩ := s.rd
  exact ⟨_, hσ, aR, dr, _, rfl, h3, rF_no (by decide +kernel) (by decide +kernel), aR, a, ns, i, n, rfl, s.rdAt, hn, fun H1 hr kp => let ⟨s1, kt⟩ := s.read kp hr; k H1 s1 kt⟩
theorem x_row (s : St2 CG CL CR T K M H aL aG aN aE aQ aR a d ns i) (hσ : σ[j]? = some (some (.ref aR))) (hn : ns[i]? = some n) (hle : i + 1 + n ≤ ns.length) (k : ∀ H1 p, St2 CG CL CR T K M H1 aL aG aN aE aQ aR a d ns (i + 1 + n) → KT T [aR] H H1 → H1 p = some (.lst (nn ((ns.drop (i + 1)).take n))) → p ∉ aN :: aE :: M → Q (.ref p) H1) : tMeth CR "row" (spRow K CR) [] C8.E0 (tVar j) tNil σ H Q := by
  obtain ⟨dr, h3⟩ := s.rd
  exact ⟨_, hσ, aR, dr, _, rfl, h3, rF_no (by decide +kernel) (by decide +kernel), aR, a, ns, i, n, rfl, s.rdAt, hn, hle, fun H1 p hp h1 hr kp => let ⟨s1, kt⟩ := s.read kp hr; k H1 p s1 kt h1 ((kn2 s.ln.gr s.ln.kn).new hp)⟩
/-- the graph is another -/
theorem St2.graph {g' : Gq01.Graph} (s : St2 CG CL CR T K M H aL aG aN aE aQ aR a d ns i) (g : GrAt CG M H' aG aN aE g') (k : Keep [aN, aE] H H') (hv : Vld g'.kinds.length g'.edges) : St2 CG CL CR T K M H' aL aG aN aE aQ aR a ⟨g', d.ask⟩ ns i ∧ KT T [aN, aE] H H' := by
  obtain ⟨dx, h1⟩ := s.ln.obj
  obtain ⟨dr, h3⟩ := s.rd
  obtain ⟨qs, g1, g2, g3⟩ := s.ln.gr.nl
  obtain ⟨ts, g4, g5, g6⟩ := s.ln.gr.el
  have w : Wr [aN, aE] H := fun b hb => by
    rcases (List.mem_cons.mp hb) with rfl | hb
    · exact .inl ⟨_, g1⟩
    · obtain rfl : b = aE := by simpa using hb
      exact .inl ⟨_, g4⟩
  have kt : KT T [aN, aE] H H' := keep_kt k w fun b hb => hb
  have ni : ∀ {p C dx fs}, H p = some (.ins C dx fs) → p ∉ [aN, aE] := fun {p C dx fs} hp z => by
    rcases List.mem_cons.mp z with rfl | z
    · rw [g1] at hp; cases hp
    · obtain rfl : p = aE := by simpa using z
      rw [g4] at hp; cases hp
  obtain ⟨u0, us, u1, u2⟩ := s.ln.qu
  have sub : ∀ {b : Addr}, b ∉ aN :: aE :: M → b ∉ [aN, aE] := fun {b} hb z => by
    rcases (List.mem_cons.mp z) with z | z
    · exact hb (by rw [z]; simp)
    · have z : b = aE := by simpa using z
      exact hb (by rw [z]; simp)
  refine ⟨⟨⟨⟨dx, k _ _ h1 (ni h1)⟩, g, ⟨u0, us, k _ _ u1 (sub u0), u2.imp fun q l _ r => ⟨r.1, k _ _ r.2 (sub r.1)⟩⟩, s.ln.sz, hv, fun m hm => ?_, s.ln.nm⟩, ⟨dr, k _ _ h3 (ni h3)⟩, s.fz.kt kt w, kt.2 s.tb⟩, kt⟩
  obtain ⟨xs, hx⟩ := s.ln.kn m hm
  refine ⟨xs, k _ _ hx fun z => ?_⟩
  rcases List.mem_cons.mp z with rfl | z
  · exact s.ln.nm.1 hm
  · obtain rfl : m = aE := by simpa using z
    exact s.ln.nm.2 hm
end
/-! ### edges stay within the graph -/
theorem vld_node {g : Gq01.Graph} (v : Vld g.kinds.length g.edges) (l : List Nat) : Vld (gNode g l).1.kinds.length (gNode g l).1.edges := by
  unfold gNode
  split
  · exact v
  · split
    · exact v
    · intro e he
      obtain ⟨h1, h2, h3, h4⟩ := v e he
      show _ ∧ _ ≤ (g.kinds ++ [l]).length ∧ _ ∧ _ ≤ (g.kinds ++ [l]).length
      rw [List.length_append]
      exact ⟨h1, by omega, h3, by omega⟩
theorem vld_kinds {g : Gq01.Graph} (v : Vld g.kinds.length g.edges) (x : Nat) (l : List Nat) : Vld (gKinds g x l).1.kinds.length (gKinds g x l).1.edges := by
  unfold gKinds
  split
  · exact v
  · intro e he
    show _ ∧ _ ≤ (g.kinds.set (x - 1) l).length ∧ _ ∧ _ ≤ (g.kinds.set (x - 1) l).length
    rw [List.length_set]
    exact v e he
theorem vld_edge {g : Gq01.Graph} (v : Vld g.kinds.length g.edges) (e : Gq01.Edge) : Vld (gEdge g e).1.kinds.length (gEdge g e).1.edges := by
  unfold gEdge
  split
  · exact v
  · rename_i h
    split
    · exact v
    · split
      · exact v
      · intro e' he
        have he : e' ∈ g.edges ++ [e] := he
        rcases (List.mem_append.mp he) with he | he
        · exact v e' he
        · obtain rfl : e' = e := by simpa using he
          have n1 : e'.src ∈ Gq01.nodes g := isNode_of.mp (by cases c : Gq01.isNode g e'.src with
            | true => rfl
            | false => exact absurd (.inl c) h)
          have n2 : e'.dst ∈ Gq01.nodes g := isNode_of.mp (by cases c : Gq01.isNode g e'.dst with
            | true => rfl
            | false => exact absurd (.inr (.inr c)) h)
          exact ⟨(mem_nodes.mp n1).1, (mem_nodes.mp n1).2, (mem_nodes.mp n2).1, (mem_nodes.mp n2).2⟩
theorem vld_cut {g : Gq01.Graph} (v : Vld g.kinds.length g.edges) (e : Gq01.Edge) : Vld (gCut g e).1.kinds.length (gCut g e).1.edges := by
  unfold gCut
  split
  · exact v
  · exact vld_filter v _
/-! ### the calls -/
/-- the call and how many numbers it has taken, from its number and what follows -/
def rdC : Nat → List Nat → Option (Gq01.Call × Nat)
  | 0, n :: r => if n ≤ r.length then some (.node (r.take n), 1 + n) else none
  | 1, x :: n :: r => if n ≤ r.length then some (.kinds x (r.take n), 2 + n) else none
  | 2, x :: a :: y :: _ => some (.edge x a y, 3)
  | 3, x :: a :: y :: _ => some (.cut x a y, 3)
  | 4, n :: r => if n ≤ r.length then some (.ask (r.take n), 1 + n) else none
  | 5, x :: _ => some (.to_ x, 1)
  | 6, x :: _ => some (.from_ x, 1)
  | 7, x :: y :: _ => some (.way x y, 2)
  | 8, x :: y :: _ => some (.needed x y, 2)
  | 9, _ => some (.turn, 0)
  | 10, _ => some (.round, 0)
  | 11, _ => some (.edges, 0)
  | _, _ => none
abbrev NW (aL aN aE aR : Addr) : List Addr := [aL, aN, aE, aR]
def spC (CG CL CR : Addr) (T : List (Addr × Str)) (K : PySem.W.Frag) (p : Nat) : Sp := fun vs H Q _ => ∃ (M : List Addr) (aL aG aN aE aQ aR a : Addr) (d : Gq01.Desk) (ns : List Nat) (i m : Nat) (c : Gq01.Call), vs = [.ref aL, .ref aR] ∧ St2 CG CL CR T K M H aL aG aN aE aQ aR a d ns i ∧ rdC p (ns.drop i) = some (c, m) ∧ (∀ l, c = .ask l → l.length ≤ 10000) ∧
  ∀ q H' aQ', q ∉ M → St2 CG CL CR T K M H' aL aG aN aE aQ' aR a (Gq01.step d c).1 ns (i + m) → KT T (NW aL aN aE aR) H H' → H' q = some (.lst (nums (Gq01.step d c).2)) → Q (.ref q) H'
theorem spC_len {CG CL CR : Addr} {T : List (Addr × Str)} {K : PySem.W.Frag} {p : Nat} {vs : List V} {H : Hp} {Q : VK} {E : XK} (h : spC CG CL CR T K p vs H Q E) : vs.length = 2 := by
  obtain ⟨M, aL, aG, aN, aE, aQ, aR, a, d, ns, i, m, c, rfl, _⟩ := h
  rfl
theorem drop_at {ns : List Nat} {i n : Nat} {r : List Nat} (h : ns.drop i = n :: r) : ns[i]? = some n ∧ ns.drop (i + 1) = r := by
  have h1 : ns[i]? = some n := by
    have := congrArg (fun l => l[0]?) h
    simp at this
    exact this
  refine ⟨h1, ?_⟩
  rw [← List.drop_drop, h]
  rfl
theorem kR {T : List (Addr × Str)} {aL aN aE aR : Addr} {H H' : Hp} (k : KT T [aR] H H') : KT T (NW aL aN aE aR) H H' := k.mono fun b hb => by
  obtain rfl : b = aR := by simpa using hb
  simp
theorem kG {T : List (Addr × Str)} {aL aN aE aR : Addr} {H H' : Hp} (k : KT T [aN, aE] H H') : KT T (NW aL aN aE aR) H H' := k.mono fun b hb => by
  rcases (List.mem_cons.mp hb) with rfl | hb
  · simp
  · obtain rfl : b = aE := by simpa using hb
    simp
theorem kL {T : List (Addr × Str)} {aL aN aE aR : Addr} {H H' : Hp} (k : KT T [aL] H H') : KT T (NW aL aN aE aR) H H' := k.mono fun b hb => by
  obtain rfl : b = aL := by simpa using hb
  simp
section
variable {P : Program} {w : World} {K : PySem.W.Frag} {mg : Str → Option Value} {base : Heap} {C_Graph C_Line C_Reader a_CALLS c1 P1 c2 P2 : Addr}
/-- line.graph.m(..) gives a number: what follows [that number] -/
theorem fin_lst {T : List (Addr × Str)} {M : List Addr} {H H' : Hp} {aL aG aN aE aQ aR a : Addr} {d : Gq01.Desk} {ns : List Nat} {i : Nat} {z : Int} {Q : VK} (s : St2 C_Graph C_Line C_Reader T K M H' aL aG aN aE aQ aR a d ns i) (kt : KT T (NW aL aN aE aR) H H')
    (k : ∀ q H2 aQ', q ∉ M → St2 C_Graph C_Line C_Reader T K M H2 aL aG aN aE aQ' aR a d ns i → KT T (NW aL aN aE aR) H H2 → H2 q = some (.lst (nums [z])) → Q (.ref q) H2) : [V.int z].length ≤ sizeLine ∧ ∀ p, H' p = none → Q (.ref p) (upd H' p (.lst [.int z])) :=
  ⟨sz1, fun p hp => k p _ aQ (nM s.ln (Ex.refl _) hp) (s.lt (Pre.new hp)) (kt.trans (KT.of (Pre.new hp))) upd_same⟩
theorem cal_answer_node (T : Tx K mg C_Graph C_Line C_Reader a_CALLS) : Cal P w K mg base 3 "answer_node" (spC C_Graph C_Line C_Reader (TBL P1 P2) K 0) [] := by
  refine T.d_answer_node.cal sc_answer_node (fun vs H Q E h => spC_len h) (fun f cdv A outer s H vs Q E hr h => ⟨_, (pss_one (ps_ret (pe_lst (pa_cons (pe_mt (met_Graph_add_node T) hr (by decide) (pe_fld (pv 0) rfl) (pa_cons (pe_mt0 (met_Reader_row T) hr (by decide) (pv 1)) pa_nil)) pa_nil)))), ?_⟩)
  obtain ⟨M, aL, aG, aN, aE, aQ, aR, a, d, ns, i, m, c, rfl, st, hc, hask, k⟩ := h
  cases hd : ns.drop i with
  | nil => rw [hd] at hc; cases hc
  | cons n r =>
    rw [hd] at hc
    have hc : (if n ≤ r.length then some (Gq01.Call.node (r.take n), 1 + n) else none) = some (c, m) := hc
    by_cases c0 : n ≤ r.length
    · rw [if_pos c0] at hc
      obtain ⟨rfl, rfl⟩ := Prod.mk.inj (Option.some.inj hc)
      obtain ⟨hn, hdr⟩ := drop_at hd
      obtain ⟨dx, h1⟩ := st.ln.obj
      obtain ⟨dg, h2⟩ := st.ln.gr.obj
      have hle : i + 1 + n ≤ ns.length := by
        have := congrArg List.length hdr
        rw [List.length_drop] at this
        have := (List.getElem?_eq_some_iff.mp hn).1
        omega
      refine ⟨_, rfl, aL, C_Line, dx, _, _, rfl, h1, T.c_Line, T.n_Line_graph, lF_g, aG, dg, _, rfl, h2, gF_no (by decide +kernel) (by decide +kernel), x_row st rfl hn hle fun H1 p s1 kt1 hp np => ?_⟩
      rw [hdr] at hp
      refine ⟨aG, aN, aE, M, d.graph, p, r.take n, rfl, s1.ln.gr, hp, fun z => np (by rw [z]; simp), fun z => np (by rw [z]; simp), fun z => np (by simp [z]), fun H2 g2 kp2 => ?_⟩
      obtain ⟨s2, kt2⟩ := s1.graph g2 kp2 (vld_node s1.ln.vd _)
      have hst : Gq01.step d (.node (r.take n)) = (⟨(gNode d.graph (r.take n)).1, d.ask⟩, [(gNode d.graph (r.take n)).2]) := by
        show (if Gq01.isKinds (r.take n) = false then (d, [-1]) else if 12 ≤ d.graph.kinds.length then (d, [-5]) else ({ d with graph := { d.graph with kinds := d.graph.kinds ++ [r.take n] } }, Gq01.ints [d.graph.kinds.length + 1])) = _
        unfold gNode
        split
        · rfl
        · split <;> rfl
      rw [hst, show i + (1 + n) = i + 1 + n by omega] at k
      exact fin_lst s2 ((kR kt1).trans (kG kt2)) k
    · rw [if_neg c0] at hc
      cases hc
theorem cal_answer_kinds (T : Tx K mg C_Graph C_Line C_Reader a_CALLS) : Cal P w K mg base 3 "answer_kinds" (spC C_Graph C_Line C_Reader (TBL P1 P2) K 1) [] := by
  refine T.d_answer_kinds.cal sc_answer_kinds (fun vs H Q E h => spC_len h) (fun f cdv A outer s H vs Q E hr h => ⟨_, (pss_cons (ps_set (i := 2) sc_answer_kinds.nd rfl (Or.inl rfl) (pe_mt0 (met_Reader_number T) hr (by decide) (pv 1)))
      (pss_cons (ps_set (i := 3) sc_answer_kinds.nd rfl (Or.inl rfl) (pe_mt0 (met_Reader_row T) hr (by decide) (pv 1)))
      (pss_one (ps_ret (pe_lst (pa_cons (pe_mt (met_Graph_put_kinds T) hr (by decide) (pe_fld (pv 0) rfl) (pa_cons (pv 2) (pa_cons (pv 3) pa_nil))) pa_nil)))))), ?_⟩)
  obtain ⟨M, aL, aG, aN, aE, aQ, aR, a, d, ns, i, m, c, rfl, st, hc, hask, k⟩ := h
  cases hd : ns.drop i with
  | nil => rw [hd] at hc; cases hc
  | cons x r0 =>
  cases hd0 : r0 with
  | nil => rw [hd, hd0] at hc; cases hc
  | cons n r =>
    rw [hd, hd0] at hc
    have hc : (if n ≤ r.length then some (Gq01.Call.kinds x (r.take n), 2 + n) else none) = some (c, m) := hc
    by_cases c0 : n ≤ r.length
    · rw [if_pos c0] at hc
      obtain ⟨rfl, rfl⟩ := Prod.mk.inj (Option.some.inj hc)
      obtain ⟨hx, hdx⟩ := drop_at hd
      rw [hd0] at hdx
      obtain ⟨hn, hdr⟩ := drop_at hdx
      have hle : i + 1 + 1 + n ≤ ns.length := by
        have := congrArg List.length hdr
        rw [List.length_drop] at this
        have := (List.getElem?_eq_some_iff.mp hn).1
        omega
      refine x_asg (x_num st rfl hx fun H1 s1 kt1 => x_asg (x_row s1 rfl hn hle fun H2 p s2 kt2 hp np => ?_))
      rw [hdr] at hp
      obtain ⟨dx, h1⟩ := s2.ln.obj
      obtain ⟨dg, h2⟩ := s2.ln.gr.obj
      refine ⟨_, rfl, aL, C_Line, dx, _, _, rfl, h1, T.c_Line, T.n_Line_graph, lF_g, aG, dg, _, rfl, h2, gF_no (by decide +kernel) (by decide +kernel), _, rfl, _, rfl, aG, aN, aE, M, d.graph, x, p, r.take n, rfl, s2.ln.gr, hp, fun z => np (by rw [z]; simp), fun z => np (by rw [z]; simp), fun z => np (by simp [z]), fun H3 g3 kp3 => ?_⟩
      obtain ⟨s3, kt3⟩ := s2.graph g3 kp3 (vld_kinds s2.ln.vd _ _)
      have hst : Gq01.step d (.kinds x (r.take n)) = (⟨(gKinds d.graph x (r.take n)).1, d.ask⟩, [(gKinds d.graph x (r.take n)).2]) := by
        show (if Gq01.isNode d.graph x = false ∨ Gq01.isKinds (r.take n) = false then (d, [-1]) else ({ d with graph := { d.graph with kinds := d.graph.kinds.set (x - 1) (r.take n) } }, [0])) = _
        unfold gKinds
        split <;> rfl
      rw [hst, show i + (2 + n) = i + 1 + 1 + n by omega] at k
      exact fin_lst s3 (((kR kt1).trans (kR kt2)).trans (kG kt3)) k
    · rw [if_neg c0] at hc
      cases hc
theorem three_of {p : Nat} {l : List Nat} {C : Nat → Nat → Nat → Gq01.Call} {c : Gq01.Call} {m : Nat} (hp : ∀ x a y r, rdC p (x :: a :: y :: r) = some (C x a y, 3)) (h0 : rdC p [] = none) (h1 : ∀ x, rdC p [x] = none) (h2 : ∀ x a, rdC p [x, a] = none) (h : rdC p l = some (c, m)) : ∃ x a y r, l = x :: a :: y :: r ∧ c = C x a y ∧ m = 3 := by
  cases l with
  | nil => rw [h0] at h; cases h
  | cons x l =>
    cases l with
    | nil => rw [h1] at h; cases h
    | cons a l =>
      cases l with
      | nil => rw [h2] at h; cases h
      | cons y r =>
        rw [hp] at h
        obtain ⟨rfl, rfl⟩ := Prod.mk.inj (Option.some.inj h)
        exact ⟨x, a, y, r, rfl, rfl, rfl⟩
theorem cal_answer_edge (T : Tx K mg C_Graph C_Line C_Reader a_CALLS) : Cal P w K mg base 3 "answer_edge" (spC C_Graph C_Line C_Reader (TBL P1 P2) K 2) [] := by
  refine T.d_answer_edge.cal sc_answer_edge (fun vs H Q E h => spC_len h) (fun f cdv A outer s H vs Q E hr h => ⟨_, (pss_cons (ps_set (i := 2) sc_answer_edge.nd rfl (Or.inl rfl) (pe_mt0 (met_Reader_number T) hr (by decide) (pv 1)))
      (pss_cons (ps_set (i := 3) sc_answer_edge.nd rfl (Or.inl rfl) (pe_mt0 (met_Reader_number T) hr (by decide) (pv 1)))
      (pss_cons (ps_set (i := 4) sc_answer_edge.nd rfl (Or.inl rfl) (pe_mt0 (met_Reader_number T) hr (by decide) (pv 1)))
      (pss_one (ps_ret (pe_lst (pa_cons (pe_mt (met_Graph_add_edge T) hr (by decide) (pe_fld (pv 0) rfl) (pa_cons (pv 2) (pa_cons (pv 3) (pa_cons (pv 4) pa_nil)))) pa_nil))))))), ?_⟩)
  obtain ⟨M, aL, aG, aN, aE, aQ, aR, a, d, ns, i, m, c, rfl, st, hc, hask, k⟩ := h
  obtain ⟨x, b, y, r, hd, rfl, rfl⟩ := three_of (p := 2) (C := .edge) (fun _ _ _ _ => rfl) rfl (fun _ => rfl) (fun _ _ => rfl) hc
  obtain ⟨hx, hd1⟩ := drop_at hd
  obtain ⟨hb, hd2⟩ := drop_at hd1
  obtain ⟨hy, _⟩ := drop_at hd2
  refine x_asg (x_num st rfl hx fun H1 s1 kt1 => x_asg (x_num s1 rfl hb fun H2 s2 kt2 => x_asg (x_num s2 rfl hy fun H3 s3 kt3 => ?_)))
  obtain ⟨dx, h1⟩ := s3.ln.obj
  obtain ⟨dg, h2⟩ := s3.ln.gr.obj
  refine ⟨_, rfl, aL, C_Line, dx, _, _, rfl, h1, T.c_Line, T.n_Line_graph, lF_g, aG, dg, _, rfl, h2, gF_no (by decide +kernel) (by decide +kernel), _, rfl, _, rfl, _, rfl, aG, aN, aE, M, d.graph, ⟨x, b, y⟩, rfl, s3.ln.gr, fun H4 g4 kp4 => ?_⟩
  obtain ⟨s4, kt4⟩ := s3.graph g4 kp4 (vld_edge s3.ln.vd _)
  have hst : Gq01.step d (.edge x b y) = (⟨(gEdge d.graph ⟨x, b, y⟩).1, d.ask⟩, [(gEdge d.graph ⟨x, b, y⟩).2]) := by
    show (if Gq01.isNode d.graph x = false ∨ Gq01.isLabel b = false ∨ Gq01.isNode d.graph y = false then (d, [-1]) else if d.graph.edges.contains ⟨x, b, y⟩ = true then (d, [-4]) else if 40 ≤ d.graph.edges.length then (d, [-5]) else ({ d with graph := { d.graph with edges := d.graph.edges ++ [⟨x, b, y⟩] } }, Gq01.ints [d.graph.edges.length + 1])) = _
    unfold gEdge
    split
    · rfl
    · split
      · rfl
      · split <;> rfl
  rw [hst] at k
  exact fin_lst s4 ((((kR kt1).trans (kR kt2)).trans (kR kt3)).trans (kG kt4)) k
theorem cal_answer_cut (T : Tx K mg C_Graph C_Line C_Reader a_CALLS) : Cal P w K mg base 3 "answer_cut" (spC C_Graph C_Line C_Reader (TBL P1 P2) K 3) [] := by
  refine T.d_answer_cut.cal sc_answer_cut (fun vs H Q E h => spC_len h) (fun f cdv A outer s H vs Q E hr h => ⟨_, (pss_cons (ps_set (i := 2) sc_answer_cut.nd rfl (Or.inl rfl) (pe_mt0 (met_Reader_number T) hr (by decide) (pv 1)))
      (pss_cons (ps_set (i := 3) sc_answer_cut.nd rfl (Or.inl rfl) (pe_mt0 (met_Reader_number T) hr (by decide) (pv 1)))
      (pss_cons (ps_set (i := 4) sc_answer_cut.nd rfl (Or.inl rfl) (pe_mt0 (met_Reader_number T) hr (by decide) (pv 1)))
      (pss_one (ps_ret (pe_lst (pa_cons (pe_mt (met_Graph_cut_edge T) hr (by decide) (pe_fld (pv 0) rfl) (pa_cons (pv 2) (pa_cons (pv 3) (pa_cons (pv 4) pa_nil)))) pa_nil))))))), ?_⟩)
  obtain ⟨M, aL, aG, aN, aE, aQ, aR, a, d, ns, i, m, c, rfl, st, hc, hask, k⟩ := h
  obtain ⟨x, b, y, r, hd, rfl, rfl⟩ := three_of (p := 3) (C := .cut) (fun _ _ _ _ => rfl) rfl (fun _ => rfl) (fun _ _ => rfl) hc
  obtain ⟨hx, hd1⟩ := drop_at hd
  obtain ⟨hb, hd2⟩ := drop_at hd1
  obtain ⟨hy, _⟩ := drop_at hd2
  refine x_asg (x_num st rfl hx fun H1 s1 kt1 => x_asg (x_num s1 rfl hb fun H2 s2 kt2 => x_asg (x_num s2 rfl hy fun H3 s3 kt3 => ?_)))
  obtain ⟨dx, h1⟩ := s3.ln.obj
  obtain ⟨dg, h2⟩ := s3.ln.gr.obj
  refine ⟨_, rfl, aL, C_Line, dx, _, _, rfl, h1, T.c_Line, T.n_Line_graph, lF_g, aG, dg, _, rfl, h2, gF_no (by decide +kernel) (by decide +kernel), _, rfl, _, rfl, _, rfl, aG, aN, aE, M, d.graph, ⟨x, b, y⟩, rfl, s3.ln.gr, fun H4 g4 kp4 => ?_⟩
  obtain ⟨s4, kt4⟩ := s3.graph g4 kp4 (vld_cut s3.ln.vd _)
  have hst : Gq01.step d (.cut x b y) = (⟨(gCut d.graph ⟨x, b, y⟩).1, d.ask⟩, [(gCut d.graph ⟨x, b, y⟩).2]) := by
    show (if d.graph.edges.contains ⟨x, b, y⟩ = false then (d, [-3]) else ({ d with graph := Gq01.without d.graph ⟨x, b, y⟩ }, Gq01.ints [d.graph.edges.length - 1])) = _
    unfold gCut
    split <;> rfl
  rw [hst] at k
  exact fin_lst s4 ((((kR kt1).trans (kR kt2)).trans (kR kt3)).trans (kG kt4)) k
theorem cal_answer_ask (Z : Tz K mg base C_Graph C_Line C_Reader a_CALLS c1 P1 c2 P2) : Cal P w K mg base 11 "answer_ask" (spC C_Graph C_Line C_Reader (TBL P1 P2) K 4) [] := by
  have T := Z.T
  refine T.d_answer_ask.cal sc_answer_ask (fun vs H Q E h => spC_len h) (fun f cdv A outer s H vs Q E hr h => ⟨_, (pss_one (ps_ret (pe_mt (met_Line_ask Z) hr (by decide) (pv 0) (pa_cons (pe_mt0 (met_Reader_row T) hr (by decide) (pv 1)) pa_nil)))), ?_⟩)
  obtain ⟨M, aL, aG, aN, aE, aQ, aR, a, d, ns, i, m, c, rfl, st, hc, hask, k⟩ := h
  cases hd : ns.drop i with
  | nil => rw [hd] at hc; cases hc
  | cons n r =>
    rw [hd] at hc
    have hc : (if n ≤ r.length then some (Gq01.Call.ask (r.take n), 1 + n) else none) = some (c, m) := hc
    by_cases c0 : n ≤ r.length
    · rw [if_pos c0] at hc
      obtain ⟨rfl, rfl⟩ := Prod.mk.inj (Option.some.inj hc)
      obtain ⟨hn, hdr⟩ := drop_at hd
      obtain ⟨dx, h1⟩ := st.ln.obj
      have hle : i + 1 + n ≤ ns.length := by
        have := congrArg List.length hdr
        rw [List.length_drop] at this
        have := (List.getElem?_eq_some_iff.mp hn).1
        omega
      refine ⟨_, rfl, aL, dx, _, rfl, h1, lF_no (by decide +kernel) (by decide +kernel), x_row st rfl hn hle fun H1 p s1 kt1 hp np => ?_⟩
      rw [hdr] at hp
      refine ⟨M, aL, aG, aN, aE, aQ, p, d, r.take n, rfl, s1.ln, s1.ln.neLG, hp, hask _ rfl, s1.tb, fun q H2 aQ' nq l2 kt2 h2 => ?_⟩
      obtain ⟨dl, hl1⟩ := s1.ln.obj
      obtain ⟨dr, hr1⟩ := s1.rd
      have w : Wr [aL] H1 := fun b hb => by
        obtain rfl : b = aL := by simpa using hb
        exact .inr ⟨_, _, _, hl1⟩
      rw [show i + (1 + n) = i + 1 + n by omega] at k
      exact k q H2 aQ' nq ⟨l2, ⟨dr, kt2.1 _ _ hr1 nt_ins (by simpa using s1.neR.1)⟩, s1.fz.kt kt2 w, kt2.2 s1.tb⟩ ((kR kt1).trans (kL kt2)) h2
    · rw [if_neg c0] at hc
      cases hc
theorem one_of1 {p : Nat} {l : List Nat} {C : Nat → Gq01.Call} {c : Gq01.Call} {m : Nat} (hp : ∀ x r, rdC p (x :: r) = some (C x, 1)) (h0 : rdC p [] = none) (h : rdC p l = some (c, m)) : ∃ x r, l = x :: r ∧ c = C x ∧ m = 1 := by
  cases l with
  | nil => rw [h0] at h; cases h
  | cons x r =>
    rw [hp] at h
    obtain ⟨rfl, rfl⟩ := Prod.mk.inj (Option.some.inj h)
    exact ⟨x, r, rfl, rfl, rfl⟩
theorem two_of2 {p : Nat} {l : List Nat} {C : Nat → Nat → Gq01.Call} {c : Gq01.Call} {m : Nat} (hp : ∀ x y r, rdC p (x :: y :: r) = some (C x y, 2)) (h0 : rdC p [] = none) (h1 : ∀ x, rdC p [x] = none) (h : rdC p l = some (c, m)) : ∃ x y r, l = x :: y :: r ∧ c = C x y ∧ m = 2 := by
  cases l with
  | nil => rw [h0] at h; cases h
  | cons x l =>
    cases l with
    | nil => rw [h1] at h; cases h
    | cons y r =>
      rw [hp] at h
      obtain ⟨rfl, rfl⟩ := Prod.mk.inj (Option.some.inj h)
      exact ⟨x, y, r, rfl, rfl, rfl⟩
/-- a question that changes nothing: the end -/
theorem fin_q {T : List (Addr × Str)} {M : List Addr} {H H1 H2 : Hp} {aL aG aN aE aQ aR a q : Addr} {d : Gq01.Desk} {ns : List Nat} {i : Nat} {ans : List Int} {Q : VK} (s : St2 C_Graph C_Line C_Reader T K M H1 aL aG aN aE aQ aR a d ns i) (kt : KT T (NW aL aN aE aR) H H1)
    (k : ∀ q H2 aQ', q ∉ M → St2 C_Graph C_Line C_Reader T K M H2 aL aG aN aE aQ' aR a d ns i → KT T (NW aL aN aE aR) H H2 → H2 q = some (.lst (nums ans)) → Q (.ref q) H2) (nq : q ∉ M) (l : LT T H1 H2) (h : H2 q = some (.lst (nums ans))) : Q (.ref q) H2 := k q H2 aQ nq (s.lt l) (kt.trans (KT.of l)) h
theorem kt_refl {T : List (Addr × Str)} {N : List Addr} {H : Hp} : KT T N H H := ⟨fun _ _ h _ _ => h, id⟩
theorem cal_answer_to (Z : Tz K mg base C_Graph C_Line C_Reader a_CALLS c1 P1 c2 P2) : Cal P w K mg base 11 "answer_to" (spC C_Graph C_Line C_Reader (TBL P1 P2) K 5) [] := by
  have T := Z.T
  refine T.d_answer_to.cal sc_answer_to (fun vs H Q E h => spC_len h) (fun f cdv A outer s H vs Q E hr h => ⟨_, (pss_one (ps_ret (pe_mt (met_Line_led_to Z) hr (by decide) (pv 0) (pa_cons (pe_mt0 (met_Reader_number T) hr (by decide) (pv 1)) pa_nil)))), ?_⟩)
  obtain ⟨M, aL, aG, aN, aE, aQ, aR, a, d, ns, i, m, c, rfl, st, hc, hask, k⟩ := h
  obtain ⟨x, r, hd, rfl, rfl⟩ := one_of1 (p := 5) (C := .to_) (fun _ _ => rfl) rfl hc
  obtain ⟨hx, _⟩ := drop_at hd
  obtain ⟨dx, h1⟩ := st.ln.obj
  exact ⟨_, rfl, aL, dx, _, rfl, h1, lF_no (by decide +kernel) (by decide +kernel), x_num st rfl hx fun H1 s1 kt1 => ⟨M, aL, aG, aN, aE, aQ, d, [x], rfl, rfl, s1.ln, s1.tb, fun q H2 nq l2 h2 => fin_q (ans := (Gq01.step d (.to_ x)).2) s1 (kR kt1) k nq l2 h2⟩⟩
theorem cal_answer_comes_from (Z : Tz K mg base C_Graph C_Line C_Reader a_CALLS c1 P1 c2 P2) : Cal P w K mg base 11 "answer_comes_from" (spC C_Graph C_Line C_Reader (TBL P1 P2) K 6) [] := by
  have T := Z.T
  refine T.d_answer_comes_from.cal sc_answer_comes_from (fun vs H Q E h => spC_len h) (fun f cdv A outer s H vs Q E hr h => ⟨_, (pss_one (ps_ret (pe_mt (met_Line_led_from Z) hr (by decide) (pv 0) (pa_cons (pe_mt0 (met_Reader_number T) hr (by decide) (pv 1)) pa_nil)))), ?_⟩)
  obtain ⟨M, aL, aG, aN, aE, aQ, aR, a, d, ns, i, m, c, rfl, st, hc, hask, k⟩ := h
  obtain ⟨x, r, hd, rfl, rfl⟩ := one_of1 (p := 6) (C := .from_) (fun _ _ => rfl) rfl hc
  obtain ⟨hx, _⟩ := drop_at hd
  obtain ⟨dx, h1⟩ := st.ln.obj
  exact ⟨_, rfl, aL, dx, _, rfl, h1, lF_no (by decide +kernel) (by decide +kernel), x_num st rfl hx fun H1 s1 kt1 => ⟨M, aL, aG, aN, aE, aQ, d, [x], rfl, rfl, s1.ln, s1.tb, fun q H2 nq l2 h2 => fin_q (ans := (Gq01.step d (.from_ x)).2) s1 (kR kt1) k nq l2 h2⟩⟩
theorem cal_answer_way (Z : Tz K mg base C_Graph C_Line C_Reader a_CALLS c1 P1 c2 P2) : Cal P w K mg base 11 "answer_way" (spC C_Graph C_Line C_Reader (TBL P1 P2) K 7) [] := by
  have T := Z.T
  refine T.d_answer_way.cal sc_answer_way (fun vs H Q E h => spC_len h) (fun f cdv A outer s H vs Q E hr h => ⟨_, (pss_cons (ps_set (i := 2) sc_answer_way.nd rfl (Or.inl rfl) (pe_mt0 (met_Reader_number T) hr (by decide) (pv 1)))
      (pss_cons (ps_set (i := 3) sc_answer_way.nd rfl (Or.inl rfl) (pe_mt0 (met_Reader_number T) hr (by decide) (pv 1)))
      (pss_one (ps_ret (pe_mt (met_Line_way Z) hr (by decide) (pv 0) (pa_cons (pv 2) (pa_cons (pv 3) pa_nil))))))), ?_⟩)
  obtain ⟨M, aL, aG, aN, aE, aQ, aR, a, d, ns, i, m, c, rfl, st, hc, hask, k⟩ := h
  obtain ⟨x, y, r, hd, rfl, rfl⟩ := two_of2 (p := 7) (C := .way) (fun _ _ _ => rfl) rfl (fun _ => rfl) hc
  obtain ⟨hx, hd1⟩ := drop_at hd
  obtain ⟨hy, _⟩ := drop_at hd1
  refine x_asg (x_num st rfl hx fun H1 s1 kt1 => x_asg (x_num s1 rfl hy fun H2 s2 kt2 => ?_))
  obtain ⟨dx, h1⟩ := s2.ln.obj
  exact ⟨_, rfl, aL, dx, _, rfl, h1, lF_no (by decide +kernel) (by decide +kernel), _, rfl, _, rfl, M, aL, aG, aN, aE, aQ, d, [x, y], rfl, rfl, s2.ln, s2.tb, fun q H3 nq l3 h3 => fin_q (ans := (Gq01.step d (.way x y)).2) s2 ((kR kt1).trans (kR kt2)) k nq l3 h3⟩
theorem cal_answer_needed (Z : Tz K mg base C_Graph C_Line C_Reader a_CALLS c1 P1 c2 P2) : Cal P w K mg base 11 "answer_needed" (spC C_Graph C_Line C_Reader (TBL P1 P2) K 8) [] := by
  have T := Z.T
  refine T.d_answer_needed.cal sc_answer_needed (fun vs H Q E h => spC_len h) (fun f cdv A outer s H vs Q E hr h => ⟨_, (pss_cons (ps_set (i := 2) sc_answer_needed.nd rfl (Or.inl rfl) (pe_mt0 (met_Reader_number T) hr (by decide) (pv 1)))
      (pss_cons (ps_set (i := 3) sc_answer_needed.nd rfl (Or.inl rfl) (pe_mt0 (met_Reader_number T) hr (by decide) (pv 1)))
      (pss_one (ps_ret (pe_mt (met_Line_needed Z) hr (by decide) (pv 0) (pa_cons (pv 2) (pa_cons (pv 3) pa_nil))))))), ?_⟩)
  obtain ⟨M, aL, aG, aN, aE, aQ, aR, a, d, ns, i, m, c, rfl, st, hc, hask, k⟩ := h
  obtain ⟨x, y, r, hd, rfl, rfl⟩ := two_of2 (p := 8) (C := .needed) (fun _ _ _ => rfl) rfl (fun _ => rfl) hc
  obtain ⟨hx, hd1⟩ := drop_at hd
  obtain ⟨hy, _⟩ := drop_at hd1
  refine x_asg (x_num st rfl hx fun H1 s1 kt1 => x_asg (x_num s1 rfl hy fun H2 s2 kt2 => ?_))
  obtain ⟨dx, h1⟩ := s2.ln.obj
  exact ⟨_, rfl, aL, dx, _, rfl, h1, lF_no (by decide +kernel) (by decide +kernel), _, rfl, _, rfl, M, aL, aG, aN, aE, aQ, d, [x, y], rfl, rfl, s2.ln, s2.tb, fun q H3 nq l3 h3 => fin_q (ans := (Gq01.step d (.needed x y)).2) s2 ((kR kt1).trans (kR kt2)) k nq l3 h3⟩
theorem cal_answer_turn (T : Tx K mg C_Graph C_Line C_Reader a_CALLS) : Cal P w K mg base 9 "answer_turn" (spC C_Graph C_Line C_Reader (TBL P1 P2) K 9) [] := by
  refine T.d_answer_turn.cal sc_answer_turn (fun vs H Q E h => spC_len h) (fun f cdv A outer s H vs Q E hr h => ⟨_, (pss_one (ps_ret (pe_mt0 (met_Line_turn (P1 := P1) (P2 := P2) T) hr (by decide) (pv 0)))), ?_⟩)
  obtain ⟨M, aL, aG, aN, aE, aQ, aR, a, d, ns, i, m, c, rfl, st, hc, hask, k⟩ := h
  obtain ⟨rfl, rfl⟩ : c = .turn ∧ m = 0 := by
    have hc : some (Gq01.Call.turn, 0) = some (c, m) := hc
    exact ⟨(Prod.mk.inj (Option.some.inj hc)).1.symm, (Prod.mk.inj (Option.some.inj hc)).2.symm⟩
  obtain ⟨dx, h1⟩ := st.ln.obj
  obtain ⟨dr, hr1⟩ := st.rd
  have w : Wr [aL] H := fun b hb => by
    obtain rfl : b = aL := by simpa using hb
    exact .inr ⟨_, _, _, h1⟩
  exact ⟨_, rfl, aL, dx, _, rfl, h1, lF_no (by decide +kernel) (by decide +kernel), M, aL, aG, aN, aE, aQ, d, rfl, st.ln, st.ln.neLG, st.tb, fun q H2 aQ' nq l2 kt2 h2 => k q H2 aQ' nq ⟨l2, ⟨dr, kt2.1 _ _ hr1 nt_ins (by simpa using st.neR.1)⟩, st.fz.kt kt2 w, kt2.2 st.tb⟩ (kL kt2) h2⟩
theorem cal_answer_rounds (Z : Tz K mg base C_Graph C_Line C_Reader a_CALLS c1 P1 c2 P2) : Cal P w K mg base 11 "answer_rounds" (spC C_Graph C_Line C_Reader (TBL P1 P2) K 10) [] := by
  have T := Z.T
  refine T.d_answer_rounds.cal sc_answer_rounds (fun vs H Q E h => spC_len h) (fun f cdv A outer s H vs Q E hr h => ⟨_, (pss_one (ps_ret (pe_mt0 (met_Line_rounds Z) hr (by decide) (pv 0)))), ?_⟩)
  obtain ⟨M, aL, aG, aN, aE, aQ, aR, a, d, ns, i, m, c, rfl, st, hc, hask, k⟩ := h
  obtain ⟨rfl, rfl⟩ : c = .round ∧ m = 0 := by
    have hc : some (Gq01.Call.round, 0) = some (c, m) := hc
    exact ⟨(Prod.mk.inj (Option.some.inj hc)).1.symm, (Prod.mk.inj (Option.some.inj hc)).2.symm⟩
  obtain ⟨dx, h1⟩ := st.ln.obj
  exact ⟨_, rfl, aL, dx, _, rfl, h1, lF_no (by decide +kernel) (by decide +kernel), M, aL, aG, aN, aE, aQ, d, [], rfl, rfl, st.ln, st.tb, fun q H2 nq l2 h2 => fin_q (ans := (Gq01.step d .round).2) st kt_refl k nq l2 h2⟩
theorem cal_answer_edges (T : Tx K mg C_Graph C_Line C_Reader a_CALLS) : Cal P w K mg base 3 "answer_edges" (spC C_Graph C_Line C_Reader (TBL P1 P2) K 11) [] := by
  refine T.d_answer_edges.cal sc_answer_edges (fun vs H Q E h => spC_len h) (fun f cdv A outer s H vs Q E hr h => ⟨_, (pss_one (ps_ret (pe_mt0 (met_Line_edges (P1 := P1) (P2 := P2) T) hr (by decide) (pv 0)))), ?_⟩)
  obtain ⟨M, aL, aG, aN, aE, aQ, aR, a, d, ns, i, m, c, rfl, st, hc, hask, k⟩ := h
  obtain ⟨rfl, rfl⟩ : c = .edges ∧ m = 0 := by
    have hc : some (Gq01.Call.edges, 0) = some (c, m) := hc
    exact ⟨(Prod.mk.inj (Option.some.inj hc)).1.symm, (Prod.mk.inj (Option.some.inj hc)).2.symm⟩
  obtain ⟨dx, h1⟩ := st.ln.obj
  exact ⟨_, rfl, aL, dx, _, rfl, h1, lF_no (by decide +kernel) (by decide +kernel), M, aL, aG, aN, aE, aQ, d, [], rfl, rfl, st.ln, st.tb, fun q H2 nq l2 h2 => fin_q (ans := (Gq01.step d .edges).2) st kt_refl k nq l2 h2⟩
end
end WG
namespace WG
open PySem PySem.W PySem.Spec PyProof.Rows
open L2 hiding CX0 E0 pass0 Fun
open LamX (CodeO Tabs TabS ExtN TabB)
/-! ### the end: a row with codecs, over a heap that tracks the tables of code objects -/
def Sub (A B : Hp) : Prop := ∀ b u, A b = some u → B b = some u
theorem sql_sub {K : PySem.W.Frag} {A B : Hp} (s : Sub A B) {a : Addr} {xs : List V} (h : SqL K A a xs) : SqL K B a xs := by
  rcases (h) with (h | ⟨o, h⟩) | h
  · exact .inl (.inl (s _ _ h))
  · exact .inl (.inr ⟨o, s _ _ h⟩)
  · exact .inr h
theorem sqt_sub {K : PySem.W.Frag} {A B : Hp} (s : Sub A B) {a : Addr} {xs : List V} (h : SqT K A a xs) : SqT K B a xs := by
  rcases (h) with (h | ⟨o, h⟩) | h
  · exact .inl (.inl (s _ _ h))
  · exact .inl (.inr ⟨o, s _ _ h⟩)
  · exact .inr h
mutual
theorem dw_sub {K : PySem.W.Frag} {A B : Hp} (s : Sub A B) : ∀ {v : V} {d : WData}, Dw K A v d → Dw K B v d
  | _, _, .non => .non
  | _, _, .bl b => .bl b
  | _, _, .int i => .int i
  | _, _, .str x => .str x
  | _, _, .byt b => .byt b
  | _, _, .lst q r => .lst (sql_sub s q) (dws_sub s r)
  | _, _, .tup q r => .tup (sqt_sub s q) (dws_sub s r)
theorem dws_sub {K : PySem.W.Frag} {A B : Hp} (s : Sub A B) : ∀ {vs : List V} {ds : List WData}, DwAll K A vs ds → DwAll K B vs ds
  | _, _, .nil => .nil
  | _, _, .cons q r => .cons (dw_sub s q) (dws_sub s r)
end
abbrev RowsFor (P : Program) (w : World) (K : PySem.W.Frag) (mg : Str → Option Value) (CX : CXT) (k : Nat) (fa : Addr) (fd : FuncData) (ps : List Str) (cs : List (Addr × Addr)) (sp : Sp) : Prop :=
  ∀ bs : Heap, K.In bs → bs.Ns mainGlobals mg → (∀ p ∈ cs, TabB bs mg p.1 p.2) → FnOk P w K mg bs CX k fa fd ps sp
/-- tables, and what is read only -/
def OnlyT (cs : List (Addr × Addr)) (H : Hp) : Prop := ∀ b u, H b = some u → b ∈ cs.map (·.2) ∨ ∃ o u', u = .frz o u'
theorem callT {P : Program} {w : World} {K : PySem.W.Frag} {mg mb : Str → Option Value} {CX : CXT} {k : Nat} {fa : Addr} {fd : FuncData} {ps : List Str} {sp : Sp} {s : Shared} {us : List Value} {ds : List WData} {cl : Str → Option Addr} {d0 : WData} {cs : List (Addr × Addr)}
    (KX : K.In s.heap) (ng : s.heap.Ns mainGlobals mg) (nb : s.heap.Ns builtinsNs mb) (bb : ∀ x : Str, x ≠ "__name__" → mb x = bootBuiltins x) (nl : s.heap.NoLimit) (gn : s.gens = #[])
    (bm : ∃ (q : Addr) (ob : Obj), mg "__builtins__" = some (.ref q) ∧ q ≠ builtinsNs ∧ s.heap.get? q = some ob ∧ ob.cls = .type "module" ∧ ob.dict = some builtinsNs ∧ ob.data = .plain)
    (tT : ∀ p ∈ cs, s.heap.get? p.2 = some { cls := .none, data := .fields #[] }) (tK : ∀ p ∈ cs, K.lookup p.2 = none) (tC : ∀ p ∈ cs, PySem.W.CodeHd s.heap p.1 p.2)
    (wl : WellAll w.params s.heap us ds) (pl : plWs ds = true) (wt : ∀ d ∈ ds, d.weight ≤ 1048576) (hr : Room k callerA) (F : RowsFor P w K mg CX k fa fd ps cs sp)
    (bd : ∀ (s : Shared) (us : List Value), K.In s.heap → us.length = ps.length → BindsTo s fd ⟨us, []⟩ (ps.zip us)) (ln : ds.length = ps.length)
    (hsp : ∀ (H : Hp) (xs : List V), (∀ p ∈ cs, H p.2 = some (.tbl #[])) → OnlyT cs H → DwAll K H xs ds → sp xs H (fun v H' => Dw K H' v d0) fun _ _ _ => False)
    (hX : ∀ H e s', CX [] H s (fun _ _ _ => False) e s' → False) :
    codeAny (model P w) callerA (.call (.ref fa) ⟨us, []⟩) (fun r s' => ∃ u as, r = .ok (.ret u) ∧ ReadsW [] cl s'.heap u d0 as ∧ OldK s.heap s'.heap ∧ s'.os = s.os ∧ AllBare s'.gens) s := by
  obtain ⟨A, oa, ar⟩ := area_all ds us wl pl wt
  have rv := vals_toV oa
  have isT : ∀ b : Addr, b ∈ cs.map (·.2) → s.heap.get? b = some { cls := .none, data := .fields #[] } ∧ K.lookup b = none := fun b hb => by
    obtain ⟨p, hp, rfl⟩ := List.mem_map.mp hb
    exact ⟨tT p hp, tK p hp⟩
  -- what the arguments are
  have isA : ∀ b u, argH K s.heap A b = some u → K.lookup b = none ∧ b ∉ cs.map (·.2) ∧ (∃ o x, u = .frz o x ∧ ((∃ xs, x = .lst xs) ∨ ∃ xs, x = .tup xs)) ∧ ∃ o vs n, s.heap.get? b = some o ∧ o.data = .seq vs n := fun b u q => by
    obtain ⟨k0, vs, _, _, e⟩ := argH_is ar q
    have sq : (∃ o x, u = .frz o x ∧ ((∃ xs, x = .lst xs) ∨ ∃ xs, x = .tup xs)) ∧ ∃ o vs n, s.heap.get? b = some o ∧ o.data = .seq vs n := by
      rcases e with ⟨e, z⟩ | ⟨e, z⟩
      · exact ⟨⟨_, _, z, .inl ⟨_, rfl⟩⟩, _, _, _, e, rfl⟩
      · exact ⟨⟨_, _, z, .inr ⟨_, rfl⟩⟩, _, _, _, e, rfl⟩
    obtain ⟨z, o, vs', n, g1, g2⟩ := sq
    refine ⟨k0, fun m => ?_, z, o, vs', n, g1, g2⟩
    rw [(isT b m).1] at g1
    cases g1
    cases g2
  have okA : HOk P w (argH K s.heap A) s.heap := argH_ok ar
  have dwA := dw_all KX ar ds us wl pl oa
  generalize argH K s.heap A = HA at isA okA dwA
  obtain ⟨H, hH⟩ : ∃ H : Hp, H = fun b => if b ∈ cs.map (·.2) then some (.tbl #[]) else HA b := ⟨_, rfl⟩
  have hT : ∀ b, b ∈ cs.map (·.2) → H b = some (.tbl #[]) := fun b m => by rw [hH]; exact if_pos m
  have hN : ∀ b, b ∉ cs.map (·.2) → H b = HA b := fun b m => by rw [hH]; exact if_neg m
  have sub : Sub HA H := fun b u q => (hN b (isA b u q).2.1).trans q
  have ok : HOk P w H s.heap := fun b u q => by
    by_cases m : b ∈ cs.map (·.2)
    · rw [hT b m] at q
      cases q
      exact (isT b m).1
    · rw [hN b m] at q
      obtain ⟨_, _, ⟨o, x, rfl, hx⟩, _⟩ := isA b u q
      have z := okA b _ q
      rcases hx with ⟨xs, rfl⟩ | ⟨xs, rfl⟩
      · exact z
      · exact z
  have only : OnlyT cs H := fun b u q => by
    by_cases m : b ∈ cs.map (·.2)
    · exact .inl m
    · rw [hN b m] at q
      obtain ⟨_, _, ⟨o, x, h, _⟩, _⟩ := isA b u q
      exact .inr ⟨o, x, h⟩
  have notK : ∀ b u, H b = some u → K.lookup b = none := fun b u q => by
    by_cases m : b ∈ cs.map (·.2)
    · exact (isT b m).2
    · rw [hN b m] at q
      exact (isA b u q).1
  -- neither a list nor an empty table: not tracked
  have noD : ∀ {b : Addr} {o : Obj}, s.heap.get? b = some o → (∀ vs n, o.data ≠ .seq vs n) → o.data ≠ .fields #[] → H b = none := fun {b o} e h1 h2 => by
    cases q : H b with
    | none => rfl
    | some u =>
      by_cases m : b ∈ cs.map (·.2)
      · rw [(isT b m).1] at e
        cases e
        exact (h2 rfl).elim
      · rw [hN b m] at q
        obtain ⟨_, _, _, o', vs, n, g1, g2⟩ := isA b u q
        rw [e] at g1
        cases g1
        exact (h1 _ _ g2).elim
  have inB : ∀ {b : Addr} {o : Obj}, s.heap.get? b = some o → H b = none → (hidT s.heap H).get? b = some o := fun e n => hidT_get e n
  have nsB : ∀ {b : Addr} {m : Str → Option Value}, s.heap.Ns b m → (hidT s.heap H).Ns b m := fun {b m} ⟨o, es, ep, e, d, r⟩ => ⟨o, es, ep, inB e (noD e (fun vs n z => by rw [d] at z; cases z) fun z => by rw [d] at z; cases z), d, r⟩
  have kB : K.In (hidT s.heap H) := fun b o e => inB (KX b o e) (by
    cases q : H b with
    | none => rfl
    | some u => rw [notK b u q] at e; cases e)
  have mdl : Mod K mg (hidT s.heap H) := ⟨kB, nsB ng, ⟨mb, nsB nb, bb⟩, let ⟨mc, h1, h2⟩ := nl; ⟨mc, nsB h1, h2⟩⟩
  have tB : ∀ p ∈ cs, TabB (hidT s.heap H) mg p.1 p.2 := fun p hp => by
    have tp := tT p hp
    refine ⟨?_, ?_, fun z => ?_⟩
    · obtain ⟨o, vs, f1, f2, f3, f4, f5, f6, f7, e1, r1, r2, r3, rest⟩ := tC p hp
      refine ⟨o, vs, f1, f2, f3, f4, f5, f6, f7, inB e1 (noD e1 (fun vs n z => by rw [r2] at z; cases z) fun z => ?_), r1, r2, r3, rest⟩
      rw [r2] at z
      cases z
      simp at r3
    · obtain ⟨q, ob, b1, b2, b3, b4, b5, b6⟩ := bm
      refine ⟨q, ob, b1, b2, fun z => ?_, fun z => ?_, inB b3 (noD b3 (fun vs n z => by rw [b6] at z; cases z) fun z => by rw [b6] at z; cases z), b4, b5, b6⟩
      · obtain ⟨o, es, ep, e, hd, _⟩ := ng
        rw [z, e] at b3
        cases b3
        rw [hd] at b6
        cases b6
      · rw [z, tp] at b3
        cases b3
        cases b6
    · obtain ⟨o, es, ep, e, hd, _⟩ := ng
      rw [z, tp] at e
      cases e
      cases hd
  have none0 : ∀ {b : Addr}, b ∈ ([] : List Addr) → False := fun hb => by cases hb
  have env : Env0 P w K mg (hidT s.heap H) callerA [] s H := ⟨rfl, mdl, fun b o e => of_hidT e, Nat.le_of_eq (hidT_size _ _), trivial, fun b hb => (none0 hb).elim, ok, .of_eq gn⟩
  have ul : us.length = ps.length := (wellAll_len wl).trans ln
  refine codeAny_mono ((F _ kB (nsB ng) tB).run callerA [] s H ⟨us, []⟩ us (us.map toV) _ _ hr env (bd s us KX ul) rv (hsp H _ (fun p hp => hT _ (List.mem_map.mpr ⟨p, hp, rfl⟩)) only (dws_sub sub dwA))) fun r s' x => ?_
  match r, x with
  | .error e, x => exact (hX H e s' x).elim
  | .ok .next, x => exact False.elim x
  | .ok .brk, x => exact False.elim x
  | .ok .cont, x => exact False.elim x
  | .ok (.ret u), x =>
    obtain ⟨v, H', os, bare, un, ok', r', q⟩ := x
    have old : ∀ b o, b ∉ cs.map (·.2) → s.heap.get? b = some o → s'.heap.get? b = some o := fun b o m e => by
      cases q2 : H b with
      | none => exact un.keep b o e q2 (fun z => none0 z) (by simp)
      | some u2 =>
        rcases only b u2 q2 with z | ⟨ob, u3, rfl⟩
        · exact absurd z m
        · obtain ⟨e1, _⟩ := ok b _ q2
          obtain ⟨e2, _⟩ := ok' b _ (un.frzs b ob _ q2)
          rw [e] at e1
          cases e1
          exact e2
    have wider : ∀ p ∈ cs, ∃ vs : Array Value, s'.heap.get? p.2 = some { cls := .none, data := .fields vs } := fun p hp => by
      obtain ⟨more, z⟩ := un.tbls p.2 #[] (hT _ (List.mem_map.mpr ⟨p, hp, rfl⟩))
      exact ⟨_, ok' p.2 _ z⟩
    have KX' : K.In s'.heap := fun b o e => old b o (fun m => by rw [(isT b m).2] at e; cases e) (KX b o e)
    obtain ⟨as, rd⟩ := Dw.reads (R := []) (cl := cl) ok' KX' d0 v u q r'
    refine ⟨u, as, rfl, rd, ⟨fun b o e => ?_, fun b o e => ?_⟩, os, bare⟩
    · by_cases m : b ∈ cs.map (·.2)
      · obtain ⟨p, hp, rfl⟩ := List.mem_map.mp m
        obtain ⟨more, hm⟩ := wider p hp
        rw [tT p hp] at e
        cases e
        exact .inr (.inl ⟨((tC p hp).tab (tT p hp)).isCodeTable, rfl, #[], more, rfl, by rw [Array.empty_append]; exact hm⟩)
      · exact .inl (old b o m e)
    · by_cases m : b ∈ cs.map (·.2)
      · obtain ⟨p, hp, rfl⟩ := List.mem_map.mp m
        obtain ⟨more, hm⟩ := wider p hp
        exact ⟨_, hm⟩
      · exact ⟨o, old b o m e⟩
/-- what is known of the row's promise at the head's heap h -/
def RowFor (r : PySem.W.OpenSpec) (w : World) (K : PySem.W.Frag) (k : Nat) (ps : List Str) (mg : Str → Option Value) (fa : Addr) (h : Heap) : Prop :=
  ∃ (fd : FuncData) (cs : List (Addr × Addr)) (sp : Sp), (∀ p ∈ cs, h.get? p.2 = some { cls := .none, data := .fields #[] }) ∧ (∀ p ∈ cs, K.lookup p.2 = none) ∧ (∀ p ∈ cs, PySem.W.CodeHd h p.1 p.2) ∧
    (∀ (s : Shared) (us : List Value), K.In s.heap → us.length = ps.length → BindsTo s fd ⟨us, []⟩ (ps.zip us)) ∧
    (∀ (H : Hp) (xs : List V) (a : Codec.denoteAll r.args), (∀ p ∈ cs, H p.2 = some (.tbl #[])) → OnlyT cs H → Codec.withinAll r.args a = true → Codec.app r.args r.asked a = true → DwAll K H xs (Codec.encAll r.args a) →
      sp xs H (fun v H' => Dw K H' v (r.ret.enc (Codec.app r.args r.f a))) fun _ _ _ => False) ∧
    RowsFor r.prog w K mg C8.CX0 k fa fd ps cs sp
theorem walkT {r : PySem.W.OpenSpec} {k : Nat} {q : Program} {loose : List Str} {XP : (Str → Option Value) → Heap → Prop} {YP : World → Heap → Prop} {d : DefRec} {K : Params → PySem.W.Frag} {ps : List Str}
    (well : r.wellSaid = true) (ln : r.args.length = ps.length) (hr : Room k callerA) (hY : ∀ (w : World) (h : Heap), YP w h → (K w.params).In h)
    (F : ∀ (w : World) (mean : ExcName → Option Value) (mg mb : Str → Option Value) (fa : Addr) (h : Heap), YP w h → (K w.params).In h → Top q (looseW q loose) mean mg mb h → mg d.name = some (.ref fa) → RowFor r w (K w.params) k ps mg fa h) :
    PySem.W.WalkOS q loose XP YP r d [] (fun f us => PySem.call f us) := by
  intro w s₀ s mg mb G Y fa o pm cd doc dV kV ho hd hcd hD hm hg args us as pre lay rd wl lo
  obtain ⟨a, e1, e2⟩ := PySem.W.os_pre_some pre
  obtain ⟨rfl, wi⟩ := Codec.encAll_of_decAll r.args args a e1
  have KX := hY w _ Y
  obtain ⟨fd, cs, sp, t1, t2, t3, bd, hsp, hF⟩ := F w _ mg mb fa _ Y KX G.T hm
  refine PySem.W.enter_call (codeAny_mono (callT (cl := classAt s₀.heap) (d0 := r.ret.enc (Codec.app r.args r.f a)) KX G.T.g G.T.b G.T.builtins G.T.nolimit hg G.T.bmain t1 t2 t3 wl (pl_encAll _ _) (layable_weight lay) hr hF bd ((encAll_len _ _).trans ln)
    (fun H xs h1 h2 h3 => hsp H xs a h1 h2 wi e2 h3) fun H e s' z => z.elim) fun r' s' hq => ?_)
  obtain ⟨u, bs, rfl, h1, h2, h3, h4⟩ := hq
  exact ⟨.inl ⟨u, _, bs, rfl, fun _ => rfl, h1, (PySem.W.OpenSpec.post_iff well wi _ _).mpr rfl, fun z => Bool.noConfusion (show false = true from z)⟩, h2, h3, h4⟩
end WG
namespace WG
open PySem PySem.Spec
open PyProof.Rows
open L2 hiding CX0 E0 pass0 Fun
open C8 Evl WM
open LamX (CodeO Tabs TabS ExtN TabB)
section
variable {P : Program} {w : World} {K : PySem.W.Frag} {mg : Str → Option Value} {base : Heap} {C_Graph C_Line C_Reader a_CALLS c1 P1 c2 P2 : Addr}
/-! ### a new line -/
def spLInit (CG CL : Addr) : Sp := fun vs H Q _ => ∃ (p dx : Addr), vs = [.ref p] ∧ H p = some (.ins CL dx []) ∧
  ∀ (H' : Hp) (aG aN aE aQ : Addr), (∀ aT xs, H' aT = none → LnAt CG CL [aT] (upd H' aT (.lst xs)) p aG aN aE aQ Gq01.init) → Keep [p] H H' → Q .non H'
theorem mak_Line (T : Tx K mg C_Graph C_Line C_Reader a_CALLS) : Mak P w K mg base 3 "Line" C_Line (spLInit C_Graph C_Line) [] := by
  refine T.i_Line.mak T.g_Line sc_Line_init (fun vs H Q E h => by obtain ⟨p, dx, rfl, _⟩ := h; rfl) (fun f cdv A outer s H vs Q E hr h => ⟨_, (pss_cons (ps_fld (pv 0) (pe_mk0 (mak_Graph T) hr (by decide) rfl) rfl)
      (pss_one (ps_fld (pv 0) (pe_lst (pa_cons (pe_lst (pa_cons (pe_gc rfl T.g_STAY) pa_nil)) pa_nil)) rfl))), ?_⟩)
  obtain ⟨p, dx, rfl, hp, k⟩ := h
  refine x_fld ?_
  intro aG dg hG hdg hne
  have e1 : Ex H (upd (upd H dg (.own aG)) aG (.ins C_Graph dg [])) := (Ex.new hdg).trans (Ex.new ((upd_ne (Ne.symm hne)).trans hG))
  refine ⟨aG, dg, rfl, upd_same, fun H1 aN aE hN hE gr kp => ⟨rfl, ?_⟩⟩
  have npG : p ≠ aG := ne_of_none hp hG
  have kp1 : Ex H H1 := fun b o hb => kp b o (e1 _ _ hb) (by
    have : b ≠ aG := ne_of_none hb hG
    simpa using this)
  have hp1 := kp1 _ _ hp
  refine ⟨_, rfl, p, C_Line, dx, [], rfl, hp1, T.c_Line, T.n_Line_graph, by decide, ?_⟩
  have gr2 : ∀ M, GrAt C_Graph M (upd H1 p (.ins C_Line dx (putF "graph" (.ref aG) []))) aG aN aE ⟨[], []⟩ := fun M => (gr M).insW hp1 npG
  have k2 : Keep [p] H (upd H1 p (.ins C_Line dx (putF "graph" (.ref aG) []))) := keep_upd (Keep.of kp1) (by simp)
  have hp2 : (upd H1 p (.ins C_Line dx (putF "graph" (.ref aG) []))) p = some (.ins C_Line dx [("graph", .ref aG)]) := upd_same
  generalize upd H1 p (.ins C_Line dx (putF "graph" (.ref aG) [])) = H2 at gr2 k2 hp2
  refine ⟨sz1, fun q hq => ⟨sz1, fun aQ hQ => ⟨_, rfl, p, C_Line, dx, [("graph", .ref aG)], rfl, ?_, T.c_Line, T.n_Line_question, by show 1 < 1000; decide, ?_⟩⟩⟩
  · exact (Ex.new hQ) _ _ ((Ex.new hq) _ _ hp2)
  have eq1 : Ex H2 (upd H2 q (.lst [.int 0])) := Ex.new hq
  have eq2 : Ex (upd H2 q (.lst [.int 0])) (upd (upd H2 q (.lst [.int 0])) aQ (.lst [.ref q])) := Ex.new hQ
  have hp4 := (eq1.trans eq2) _ _ hp2
  have nq := (kn2 (gr2 []) (fun m hm => by cases hm)).new hq
  have nQ := (kn2 ((gr2 []).monoL eq1) (fun m hm => by cases hm)).new hQ
  have hq4 := eq2 _ _ (show upd H2 q (.lst [.int 0]) q = some (.lst [.int 0]) from upd_same)
  have hQ4 : (upd (upd H2 q (.lst [.int 0])) aQ (.lst [.ref q])) aQ = some (.lst [.ref q]) := upd_same
  have gr4 : ∀ M, GrAt C_Graph M (upd (upd H2 q (.lst [.int 0])) aQ (.lst [.ref q])) aG aN aE ⟨[], []⟩ := fun M => (gr2 M).monoL (eq1.trans eq2)
  have k4 : Keep [p] H (upd (upd H2 q (.lst [.int 0])) aQ (.lst [.ref q])) := k2.trans (Keep.of (eq1.trans eq2))
  generalize upd (upd H2 q (.lst [.int 0])) aQ (.lst [.ref q]) = H4 at hp4 hq4 hQ4 gr4 k4
  have npq : q ≠ p := ne_of hq4 hp4 (fun z => nomatch z)
  have npQ : aQ ≠ p := ne_of hQ4 hp4 (fun z => nomatch z)
  refine k _ aG aN aE aQ (fun aT xs hT => ?_) (keep_upd k4 (by simp))
  have eT := Ex.new (o := HO.lst xs) hT
  have gr5 : ∀ M, GrAt C_Graph M (upd H4 p (.ins C_Line dx (putF "question" (.ref aQ) [("graph", .ref aG)]))) aG aN aE ⟨[], []⟩ := fun M => (gr4 M).insW hp4 npG
  have hp5 : (upd H4 p (.ins C_Line dx (putF "question" (.ref aQ) [("graph", .ref aG)]))) p = some (.ins C_Line dx (lF aG aQ)) := by
    rw [upd_same]
    exact congrArg (fun q => some (HO.ins C_Line dx q)) ((put_past (by decide +kernel)).trans rfl)
  have hq5 : (upd H4 p (.ins C_Line dx (putF "question" (.ref aQ) [("graph", .ref aG)]))) q = some (.lst [.int 0]) := (upd_ne npq).trans hq4
  have hQ5 : (upd H4 p (.ins C_Line dx (putF "question" (.ref aQ) [("graph", .ref aG)]))) aQ = some (.lst [.ref q]) := (upd_ne npQ).trans hQ4
  generalize upd H4 p (.ins C_Line dx (putF "question" (.ref aQ) [("graph", .ref aG)])) = H5 at hT eT gr5 hp5 hq5 hQ5
  obtain ⟨qs, g1, _⟩ := (gr5 []).nl
  obtain ⟨ts, g2, _⟩ := (gr5 []).el
  have no : ∀ {b ys}, H5 b = some (.lst ys) → b ≠ aT := fun hb => ne_of_none hb hT
  refine ⟨⟨dx, eT _ _ hp5⟩, (gr5 [aT]).monoL eT, ⟨?_, [q], eT _ _ hQ5, .cons ⟨?_, eT _ _ hq5⟩ .nil⟩, by decide, fun e he => (by cases he), fun m hm => ?_, ⟨by simpa using no g1, by simpa using no g2⟩⟩
  · have := no hQ5
    simp at nQ ⊢
    exact ⟨nQ.1, nQ.2, this⟩
  · have := no hq5
    simp at nq ⊢
    exact ⟨nq.1, nq.2, this⟩
  · obtain rfl : m = aT := by simpa using hm
    exact ⟨xs, upd_same⟩
end
/-! ### a call of a def that a table holds, the promise as it is held -/
def tCallH (i : Nat) (Hs : Addr → Sp → Prop) (t : TA) : TE := fun σ H Q => ∃ f sp, σ[i]? = some (some (.ref f)) ∧ Hs f sp ∧ t σ H fun vs H1 => sp (vs ++ []) H1 Q C8.E0
theorem pe_callH {X : Cx} {j i : Nat} {x : Str} {p pos : Pos} {e : Expr} {es : List Expr} {t : TA} (hr : Room j X.A) (hN : X.N[i]? = some x) (hv : Vis X.env.scope x) (ha : PA X (e :: es) t)
    (nd : (x == ("__debug__" : Str)) = false := by decide) (nc : (x == ("__classdict__" : Str)) = false := by decide)
    (ea : starEach (e :: es) X.env = (false, eval e X.env) :: starEach es X.env := by rfl) (np : (backTo pos (starEach es X.env)).any (·.1) = false := by rfl) :
    PE X (.Call (.Name x p) (e :: es) [] pos) (tCallH i (fun f sp => ∃ k, k ≤ j ∧ Held X.prog X.w X.K X.mg X.base k f sp) t) := by
  refine ⟨fun pn s σ H Q I h => ?_⟩
  obtain ⟨f, sp, hs, ⟨k, hk, hH⟩, ht⟩ := h
  obtain ⟨fd, ps, F, hkp, hb⟩ := hH.ex
  exact (pe_callL (i := i) (f := f) (sp := sp) (dvs := []) (E := C8.E0) F (hr.mono hk) hN hv hkp hb .nil (fun _ _ _ _ _ _ _ z => z.elim) ha nd nc ea np).run pn s σ H Q I ⟨hs, ht⟩
end WG
namespace WG
open PySem PySem.Spec
open PyProof.Rows
open L2 hiding CX0 E0 pass0 Fun
open C8 Evl WM
/-- a def that makes a lambda: its code object and its table -/
theorem withDefT {K : PySem.W.Frag} {mg mb : Str → Option Value} {q : Program} {loose : List Str} {mean : ExcName → Option Value} {h : Heap} {x : Str} {st : Stmt} {ps : List Str} {f c P : Addr} {oc e : Value} {od an dd : Option Addr} {osl sl : Array (Option Value)} {vs : Array Value} {kV doc pm ct : Value} {R : Prop} (X : K.In h) (TP : Top q loose mean mg mb h)
    (a : PySem.W.nsIn K mainGlobals x = some (some (.ref f))) (l : K.lookup f = some ⟨oc, od, .func (PySem.W.fnOf x x (fnArgs st) (fnBody st) (fnScope st) .none kV doc pm an (.ref c) ct), osl⟩) (cd : PySem.W.codeIn K (.ref c) x = true) (k : PySem.W.keepIn K (.ref f) = true)
    (b : ∀ (kV doc pm : Value) (an : Option Addr) (cdv ct : Value) (us : List Value), us.length = ps.length → bindArgs (PySem.W.fnOf x x (fnArgs st) (fnBody st) (fnScope st) .none kV doc pm an cdv ct) ⟨us, []⟩ = pure (ps.zip us))
    (hr : ((recsOf q).any fun e => e.name == x) = true) (lc : K.lookup c = some ⟨e, dd, .fields vs, sl⟩) (lp : vs[11]? = some (.ref P)) (nP : K.lookup P = none)
    (r : DefC K mg x st ps c → PySem.W.CodeHd h c P → h.get? P = some { cls := .none, data := .fields #[] } → K.lookup P = none → R) : R := by
  obtain ⟨d, hd⟩ : ∃ d, (recsOf q).find? (fun e => e.name == x) = some d := by
    cases z : (recsOf q).find? (fun e => e.name == x) with
    | some d => exact ⟨d, rfl⟩
    | none =>
      obtain ⟨d, h1, h2⟩ := List.any_eq_true.mp hr
      exact absurd h2 (List.find?_eq_none.mp z d h1)
  have ht : PySem.W.tabIn K x = some (c, P) := by
    unfold PySem.W.tabIn
    rw [a]
    simp only [l]
    show (match K.lookup c with
      | some ⟨_, _, .fields vs, _⟩ => _
      | _ => none) = some (c, P)
    rw [lc]
    show (match (vs[11]? : Option Value) with
      | some (.ref q) => some (c, q)
      | _ => none) = some (c, P)
    rw [lp]
  obtain ⟨z1, z2⟩ := PySem.W.tab_of TP X hd ht
  exact withDefC X TP.g a l cd k b fun D => r D z1 z2 nP
end WG
namespace WG
open PySem PySem.Spec
open PyProof.Rows
open L2 hiding CX0 E0 pass0 Fun
open C8 Evl WM
open LamX (CodeO Tabs TabS ExtN TabB)
/-! ### the calls, one after another -/
inductive Ru : Gq01.Desk → List Nat → List Int → Prop
  | nil (d : Gq01.Desk) : Ru d [] []
  | cons {d : Gq01.Desk} {p : Nat} {r : List Nat} {c : Gq01.Call} {m : Nat} {out : List Int} : rdC p r = some (c, m) → (∀ l, c = .ask l → l.length ≤ 10000) → Ru (Gq01.step d c).1 (r.drop m) out → Ru d (p :: r) ((((Gq01.step d c).2.length : Nat) : Int) :: ((Gq01.step d c).2 ++ out))
theorem ofN_take (l : List Nat) (n : Nat) : (ofN l).take n = ofN (l.take n) := (List.map_take ..).symm
theorem ofN_drop (l : List Nat) (n : Nat) : (ofN l).drop n = ofN (l.drop n) := (List.map_drop ..).symm
theorem row_nat {r : List Nat} {x s : List Int} (h : PyFlat.row (ofN r) = some (x, s)) : ∃ n r', r = n :: r' ∧ n ≤ r'.length ∧ x = ofN (r'.take n) ∧ s = ofN (r'.drop n) := by
  cases r with
  | nil => cases h
  | cons n r' =>
    have h : (if 0 ≤ (n : Int) ∧ (n : Int).toNat ≤ (ofN r').length then some ((ofN r').take (n : Int).toNat, (ofN r').drop (n : Int).toNat) else none) = some (x, s) := h
    rw [Int.toNat_natCast, List.length_map] at h
    by_cases c : 0 ≤ (n : Int) ∧ n ≤ r'.length
    · rw [if_pos c, ofN_take, ofN_drop] at h
      obtain ⟨rfl, rfl⟩ := Prod.mk.inj (Option.some.inj h)
      exact ⟨n, r', rfl, c.2, rfl, rfl⟩
    · rw [if_neg c] at h
      cases h
theorem call_num {p n : Nat} {r : List Nat} {c : List (List Int)} {t : List Int} (hs : PyGq01.shape (p : Int) = some (n, 0)) (h : PyFlat.call PyGq01.shape (ofN (p :: r)) = some (c, t)) : n ≤ r.length ∧ c = [ofN (p :: r.take n)] ∧ t = ofN (r.drop n) := by
  have h : (match PyGq01.shape (p : Int) with
    | none => none
    | some (n, k) => if (ofN r).length < n then none else match PyFlat.rows k ((ofN r).drop n) with
      | none => none
      | some (xs, t) => some (((p : Int) :: (ofN r).take n) :: xs, t)) = some (c, t) := h
  rw [hs] at h
  have h : (if (ofN r).length < n then none else some ([(p : Int) :: (ofN r).take n], (ofN r).drop n)) = some (c, t) := h
  rw [List.length_map] at h
  by_cases l : r.length < n
  · rw [if_pos l] at h
    cases h
  · rw [if_neg l, ofN_take, ofN_drop] at h
    obtain ⟨rfl, rfl⟩ := Prod.mk.inj (Option.some.inj h)
    exact ⟨by omega, rfl, rfl⟩
theorem call_row {p n : Nat} {r : List Nat} {c : List (List Int)} {t : List Int} (hs : PyGq01.shape (p : Int) = some (n, 1)) (h : PyFlat.call PyGq01.shape (ofN (p :: r)) = some (c, t)) :
    ∃ m r', n ≤ r.length ∧ r.drop n = m :: r' ∧ m ≤ r'.length ∧ c = [ofN (p :: r.take n), ofN (r'.take m)] ∧ t = ofN (r'.drop m) := by
  have h : (match PyGq01.shape (p : Int) with
    | none => none
    | some (n, k) => if (ofN r).length < n then none else match PyFlat.rows k ((ofN r).drop n) with
      | none => none
      | some (xs, t) => some (((p : Int) :: (ofN r).take n) :: xs, t)) = some (c, t) := h
  rw [hs] at h
  have h : (if (ofN r).length < n then none else match PyFlat.rows 1 ((ofN r).drop n) with
      | none => none
      | some (xs, t) => some (((p : Int) :: (ofN r).take n) :: xs, t)) = some (c, t) := h
  rw [List.length_map] at h
  by_cases l : r.length < n
  · rw [if_pos l] at h
    cases h
  · rw [if_neg l, ofN_take, ofN_drop] at h
    have e : PyFlat.rows 1 (ofN (r.drop n)) = (match PyFlat.row (ofN (r.drop n)) with
      | none => none
      | some (x, s) => some ([x], s)) := rfl
    rw [e] at h
    cases hr : PyFlat.row (ofN (r.drop n)) with
    | none => rw [hr] at h; cases h
    | some y =>
      obtain ⟨x, s⟩ := y
      rw [hr] at h
      obtain ⟨m, r', h1, h2, rfl, rfl⟩ := row_nat hr
      have h : some ([(p : Int) :: ofN (r.take n), ofN (r'.take m)], ofN (r'.drop m)) = some (c, t) := h
      obtain ⟨rfl, rfl⟩ := Prod.mk.inj (Option.some.inj h)
      exact ⟨m, r', by omega, h1, h2, rfl, rfl⟩
theorem callOf_nat {L : List Nat} (h : (Gq01Neutral.callOf (ofN L)).isSome = true) : Gq01Neutral.callOf (ofN L) = Gq01Neutral.callIn L := by
  unfold Gq01Neutral.callOf at h ⊢
  by_cases c : (ofN L).all Gq01Neutral.nat = false
  · rw [if_pos c] at h
    cases h
  · rw [if_neg c, List.map_map]
    congr 1
    exact (List.map_congr_left fun n _ => Int.toNat_natCast n).trans (List.map_id' L)
theorem len1 {r : List Nat} (h : 1 ≤ r.length) : ∃ x r', r = x :: r' := by
  cases r with
  | nil => cases h
  | cons x r' => exact ⟨x, r', rfl⟩
theorem len2 {r : List Nat} (h : 2 ≤ r.length) : ∃ x y r', r = x :: y :: r' := by
  obtain ⟨x, r, rfl⟩ := len1 (Nat.le_trans (by decide) h)
  obtain ⟨y, r, rfl⟩ := len1 (r := r) (by rw [List.length_cons] at h; omega)
  exact ⟨x, y, r, rfl⟩
theorem len3 {r : List Nat} (h : 3 ≤ r.length) : ∃ x y z r', r = x :: y :: z :: r' := by
  obtain ⟨x, y, r, rfl⟩ := len2 (Nat.le_trans (by decide) h)
  obtain ⟨z, r, rfl⟩ := len1 (r := r) (by rw [List.length_cons, List.length_cons] at h; omega)
  exact ⟨x, y, z, r, rfl⟩
/-- what a call of the document's reading is, and that the reader reads it so -/
theorem call_rd : ∀ {p : Nat} {r : List Nat} {c : List (List Int)} {t : List Int}, PyFlat.call PyGq01.shape (ofN (p :: r)) = some (c, t) → (Gq01Neutral.callOf ((PyGq01.whole c).headD [])).isSome = true →
    ∃ cc m, rdC p r = some (cc, m) ∧ t = ofN (r.drop m) ∧ Gq01Neutral.callOf ((PyGq01.whole c).headD []) = some cc ∧ ∀ l, cc = .ask l → l.length ≤ r.length
  | 0, r, c, t, h, hc => by
    obtain ⟨m, r', _, h2, h3, rfl, rfl⟩ := call_row (n := 0) rfl h
    rw [List.drop_zero] at h2
    subst h2
    have e : (PyGq01.whole [ofN (0 :: (m :: r').take 0), ofN (r'.take m)]).headD [] = ofN (0 :: r'.take m) := rfl
    rw [e] at hc ⊢
    exact ⟨.node (r'.take m), 1 + m, if_pos h3, by rw [Nat.add_comm]; rfl, callOf_nat hc, fun l z => by cases z⟩
  | 1, r, c, t, h, hc => by
    obtain ⟨m, r', h1, h2, h3, rfl, rfl⟩ := call_row (n := 1) rfl h
    cases r with
    | nil => cases h1
    | cons x r =>
      have h2 : r = m :: r' := h2
      subst h2
      have e : (PyGq01.whole [ofN (1 :: (x :: m :: r').take 1), ofN (r'.take m)]).headD [] = ofN (1 :: x :: r'.take m) := rfl
      rw [e] at hc ⊢
      exact ⟨.kinds x (r'.take m), 2 + m, if_pos h3, by rw [Nat.add_comm]; rfl, callOf_nat hc, fun l z => by cases z⟩
  | 2, r, c, t, h, hc => by
    obtain ⟨h1, rfl, rfl⟩ := call_num (n := 3) rfl h
    obtain ⟨x, a, y, r, rfl⟩ := len3 h1
    have e : (PyGq01.whole [ofN (2 :: (x :: a :: y :: r).take 3)]).headD [] = ofN [2, x, a, y] := rfl
    rw [e] at hc ⊢
    exact ⟨.edge x a y, 3, rfl, rfl, callOf_nat hc, fun l z => by cases z⟩
  | 3, r, c, t, h, hc => by
    obtain ⟨h1, rfl, rfl⟩ := call_num (n := 3) rfl h
    obtain ⟨x, a, y, r, rfl⟩ := len3 h1
    have e : (PyGq01.whole [ofN (3 :: (x :: a :: y :: r).take 3)]).headD [] = ofN [3, x, a, y] := rfl
    rw [e] at hc ⊢
    exact ⟨.cut x a y, 3, rfl, rfl, callOf_nat hc, fun l z => by cases z⟩
  | 4, r, c, t, h, hc => by
    obtain ⟨m, r', _, h2, h3, rfl, rfl⟩ := call_row (n := 0) rfl h
    rw [List.drop_zero] at h2
    subst h2
    have e : (PyGq01.whole [ofN (4 :: (m :: r').take 0), ofN (r'.take m)]).headD [] = ofN (4 :: r'.take m) := rfl
    rw [e] at hc ⊢
    refine ⟨.ask (r'.take m), 1 + m, if_pos h3, by rw [Nat.add_comm]; rfl, callOf_nat hc, fun l z => ?_⟩
    cases z
    rw [List.length_take, List.length_cons]
    omega
  | 5, r, c, t, h, hc => by
    obtain ⟨h1, rfl, rfl⟩ := call_num (n := 1) rfl h
    obtain ⟨x, r, rfl⟩ := len1 h1
    have e : (PyGq01.whole [ofN (5 :: (x :: r).take 1)]).headD [] = ofN [5, x] := rfl
    rw [e] at hc ⊢
    exact ⟨.to_ x, 1, rfl, rfl, callOf_nat hc, fun l z => by cases z⟩
  | 6, r, c, t, h, hc => by
    obtain ⟨h1, rfl, rfl⟩ := call_num (n := 1) rfl h
    obtain ⟨x, r, rfl⟩ := len1 h1
    have e : (PyGq01.whole [ofN (6 :: (x :: r).take 1)]).headD [] = ofN [6, x] := rfl
    rw [e] at hc ⊢
    exact ⟨.from_ x, 1, rfl, rfl, callOf_nat hc, fun l z => by cases z⟩
  | 7, r, c, t, h, hc => by
    obtain ⟨h1, rfl, rfl⟩ := call_num (n := 2) rfl h
    obtain ⟨x, y, r, rfl⟩ := len2 h1
    have e : (PyGq01.whole [ofN (7 :: (x :: y :: r).take 2)]).headD [] = ofN [7, x, y] := rfl
    rw [e] at hc ⊢
    exact ⟨.way x y, 2, rfl, rfl, callOf_nat hc, fun l z => by cases z⟩
  | 8, r, c, t, h, hc => by
    obtain ⟨h1, rfl, rfl⟩ := call_num (n := 2) rfl h
    obtain ⟨x, y, r, rfl⟩ := len2 h1
    have e : (PyGq01.whole [ofN (8 :: (x :: y :: r).take 2)]).headD [] = ofN [8, x, y] := rfl
    rw [e] at hc ⊢
    exact ⟨.needed x y, 2, rfl, rfl, callOf_nat hc, fun l z => by cases z⟩
  | 9, r, c, t, h, hc => by
    obtain ⟨_, rfl, rfl⟩ := call_num (n := 0) rfl h
    have e : (PyGq01.whole [ofN (9 :: r.take 0)]).headD [] = ofN [9] := rfl
    rw [e] at hc ⊢
    exact ⟨.turn, 0, rfl, rfl, callOf_nat hc, fun l z => by cases z⟩
  | 10, r, c, t, h, hc => by
    obtain ⟨_, rfl, rfl⟩ := call_num (n := 0) rfl h
    have e : (PyGq01.whole [ofN (10 :: r.take 0)]).headD [] = ofN [10] := rfl
    rw [e] at hc ⊢
    exact ⟨.round, 0, rfl, rfl, callOf_nat hc, fun l z => by cases z⟩
  | 11, r, c, t, h, hc => by
    obtain ⟨_, rfl, rfl⟩ := call_num (n := 0) rfl h
    have e : (PyGq01.whole [ofN (11 :: r.take 0)]).headD [] = ofN [11] := rfl
    rw [e] at hc ⊢
    exact ⟨.edges, 0, rfl, rfl, callOf_nat hc, fun l z => by cases z⟩
  | p + 12, r, c, t, h, hc => by
    have hs : PyGq01.shape ((p + 12 : Nat) : Int) = none := by
      unfold PyGq01.shape
      simp only [if_neg (show ¬ ((p + 12 : Nat) : Int) = 0 by omega), if_neg (show ¬ ((p + 12 : Nat) : Int) = 1 by omega), if_neg (show ¬ ((p + 12 : Nat) : Int) = 2 by omega), if_neg (show ¬ ((p + 12 : Nat) : Int) = 3 by omega), if_neg (show ¬ ((p + 12 : Nat) : Int) = 4 by omega), if_neg (show ¬ ((p + 12 : Nat) : Int) = 5 by omega), if_neg (show ¬ ((p + 12 : Nat) : Int) = 6 by omega), if_neg (show ¬ ((p + 12 : Nat) : Int) = 7 by omega), if_neg (show ¬ ((p + 12 : Nat) : Int) = 8 by omega), if_neg (show ¬ ((p + 12 : Nat) : Int) = 9 by omega), if_neg (show ¬ ((p + 12 : Nat) : Int) = 10 by omega), if_neg (show ¬ ((p + 12 : Nat) : Int) = 11 by omega)]
    have h : (match PyGq01.shape ((p + 12 : Nat) : Int) with
      | none => none
      | some (n, k) => if (ofN r).length < n then none else match PyFlat.rows k ((ofN r).drop n) with
        | none => none
        | some (xs, t) => some ((((p + 12 : Nat) : Int) :: (ofN r).take n) :: xs, t)) = some (c, t) := h
    rw [hs] at h
    cases h
abbrev stp (s : Gq01.Desk) (c : List (List Int)) : Gq01.Desk × List Int := Gq01Neutral.step s (c.headD [])
theorem ru_of : ∀ (f : Nat) (ns : List Nat) (raw : List (List (List Int))) (d : Gq01.Desk), ns.length ≤ 10000 → PyFlat.calls PyGq01.shape f (ofN ns) = some raw → (∀ c ∈ raw, (Gq01Neutral.callOf ((PyGq01.whole c).headD [])).isSome = true) →
    Ru d ns (PyFlat.told (PyFlat.played stp d (raw.map PyGq01.whole)))
  | f, [], raw, d, _, h, _ => by
    have e : PyFlat.calls PyGq01.shape f (ofN []) = some [] := by cases f <;> rfl
    rw [e] at h
    obtain rfl := Option.some.inj h
    exact .nil d
  | 0, p :: r, raw, d, _, h, _ => by cases h
  | f + 1, p :: r, raw, d, hl, h, hc => by
    have h : (match PyFlat.call PyGq01.shape (ofN (p :: r)) with
      | none => none
      | some (c, t) => match PyFlat.calls PyGq01.shape f t with
        | none => none
        | some cs => some (c :: cs)) = some raw := h
    cases h1 : PyFlat.call PyGq01.shape (ofN (p :: r)) with
    | none => rw [h1] at h; exact nomatch h
    | some ct =>
      obtain ⟨c, t⟩ := ct
      rw [h1] at h
      have h : (match PyFlat.calls PyGq01.shape f t with
        | none => none
        | some cs => some (c :: cs)) = some raw := h
      cases h2 : PyFlat.calls PyGq01.shape f t with
      | none => rw [h2] at h; cases h
      | some cs =>
        rw [h2] at h
        obtain rfl := Option.some.inj h
        obtain ⟨cc, m, r1, rfl, r3, r4⟩ := call_rd h1 (hc c (by simp))
        rw [List.length_cons] at hl
        have ih := ru_of f (r.drop m) cs (Gq01.step d cc).1 (by rw [List.length_drop]; omega) h2 fun c' hc' => hc c' (by simp [hc'])
        have hst : stp d (PyGq01.whole c) = Gq01.step d cc := by
          show (match Gq01Neutral.callOf ((PyGq01.whole c).headD []) with
            | none => (d, [])
            | some x => Gq01.step d x) = _
          rw [r3]
        have e : PyFlat.told (PyFlat.played stp d ((c :: cs).map PyGq01.whole)) = (((Gq01.step d cc).2.length : Nat) : Int) :: ((Gq01.step d cc).2 ++ PyFlat.told (PyFlat.played stp (Gq01.step d cc).1 (cs.map PyGq01.whole))) := by
          show ((stp d (PyGq01.whole c)).2 :: PyFlat.played stp (stp d (PyGq01.whole c)).1 (cs.map PyGq01.whole)).flatMap _ = _
          rw [hst, List.flatMap_cons]
          rfl
        rw [e]
        exact .cons r1 (fun l hl' => Nat.le_trans (r4 l hl') (by omega)) ih
/-- what is asked runs, and its answers are what is due -/
theorem ru_asked {ns : List Nat} (hn : ns.length ≤ 10000) (h : PyGq01.answers_asked (ofN ns) = true) : Ru Gq01.init ns (PyGq01.answers (ofN ns)) ∧ (PyGq01.answers (ofN ns)).length ≤ 10000000 := by
  unfold PyGq01.answers_asked at h
  cases h1 : PyFlat.calls PyGq01.shape (ofN ns).length (ofN ns) with
  | none => rw [h1] at h; exact nomatch h
  | some raw =>
    rw [h1] at h
    have h : (!raw.isEmpty && PyFlat.atMost 40 raw && PyInside.calls PyGq01.bound raw && Gq01Neutral.asked ((raw.map PyGq01.whole).map fun c => c.headD []) && PyFlat.short 10000000 (PyGq01.answers (ofN ns))) = true := h
    rw [Bool.and_eq_true, Bool.and_eq_true] at h
    obtain ⟨⟨_, h2⟩, h3⟩ := h
    refine ⟨?_, of_decide_eq_true h3⟩
    have e : PyGq01.answers (ofN ns) = PyFlat.told (PyFlat.played stp Gq01.init (raw.map PyGq01.whole)) := by
      unfold PyGq01.answers PyGq01.calls
      rw [h1]
      rfl
    rw [e]
    refine ru_of _ ns raw Gq01.init hn h1 fun c hc => ?_
    unfold Gq01Neutral.asked at h2
    rw [Bool.and_eq_true] at h2
    exact List.all_eq_true.mp h2.1 _ (List.mem_map.mpr ⟨_, List.mem_map.mpr ⟨c, hc, rfl⟩, rfl⟩)
end WG
namespace WG
open PySem PySem.Spec
open PyProof.Rows
open L2 hiding CX0 E0 pass0 Fun
open C8 Evl WM
open LamX (CodeO Tabs TabS ExtN TabB)
/-- the calls' own list: written, and nothing else -/
theorem St2.told {CG CL CR : Addr} {T : List (Addr × Str)} {K : PySem.W.Frag} {H : Hp} {aL aG aN aE aQ aR a aT : Addr} {d : Gq01.Desk} {ns : List Nat} {i : Nat} {xs : List V} (s : St2 CG CL CR T K [aT] H aL aG aN aE aQ aR a d ns i) (h : H aT = some (.lst xs)) (ys : List V) :
    St2 CG CL CR T K [aT] (upd H aT (.lst ys)) aL aG aN aE aQ aR a d ns i := by
  obtain ⟨dx, h1⟩ := s.ln.obj
  obtain ⟨dg, h2⟩ := s.ln.gr.obj
  obtain ⟨dr, h3⟩ := s.rd
  have w : Wr [aT] H := fun b hb => by
    obtain rfl : b = aT := by simpa using hb
    exact .inl ⟨xs, h⟩
  have kt : KT T [aT] H (upd H aT (.lst ys)) := keep_kt (keep_upd (Keep.refl _ _) (by simp)) w fun b hb => hb
  have no : ∀ {b C dx fs}, H b = some (.ins C dx fs) → b ∉ [aT] := fun {b C dx fs} hb z => by
    obtain rfl : b = aT := by simpa using z
    rw [h] at hb
    cases hb
  exact ⟨s.ln.kt kt w (no h1) (no h2) (fun b hb _ _ => hb) fun b hb _ _ => ⟨ys, by
    obtain rfl : b = aT := by simpa using hb
    exact upd_same⟩, ⟨dr, kt.1 _ _ h3 nt_ins (no h3)⟩, s.fz.kt kt w, kt.2 s.tb⟩
theorem FrzL.ex {K : PySem.W.Frag} {H H' : Hp} {a : Addr} {xs : List V} (h : FrzL K H a xs) (e : Ex H H') : FrzL K H' a xs := h.elim (fun ⟨o, q⟩ => .inl ⟨o, e _ _ q⟩) fun q => .inr q
section
variable {P : Program} {w : World} {K : PySem.W.Frag} {mg : Str → Option Value} {base : Heap} {C_Graph C_Line C_Reader a_CALLS c1 P1 c2 P2 : Addr}
/-- the table of the calls holds, at a call's number, the def that answers it -/
theorem held_calls (Z : Tz K mg base C_Graph C_Line C_Reader a_CALLS c1 P1 c2 P2) : ∃ fs : List Addr, (∀ H, SqT K H a_CALLS (fs.map V.ref)) ∧ ∀ p r c m, rdC p r = some (c, m) → ∃ f, fs[p]? = some f ∧ ∃ k, k ≤ 11 ∧ Held P w K mg base k f (spC C_Graph C_Line C_Reader (TBL P1 P2) K p) := by
  have T := Z.T
  obtain ⟨f0, f1, f2, f3, f4, f5, f6, f7, f8, f9, f10, f11, e0, e1, e2, e3, e4, e5, e6, e7, e8, e9, e10, e11, t⟩ := T.t_CALLS
  refine ⟨[f0, f1, f2, f3, f4, f5, f6, f7, f8, f9, f10, f11], t, fun p r c m h => ?_⟩
  match p, h with
  | 0, _ => exact ⟨f0, rfl, 3, by decide, held_of (cal_answer_node T) e0⟩
  | 1, _ => exact ⟨f1, rfl, 3, by decide, held_of (cal_answer_kinds T) e1⟩
  | 2, _ => exact ⟨f2, rfl, 3, by decide, held_of (cal_answer_edge T) e2⟩
  | 3, _ => exact ⟨f3, rfl, 3, by decide, held_of (cal_answer_cut T) e3⟩
  | 4, _ => exact ⟨f4, rfl, 11, by decide, held_of (cal_answer_ask Z) e4⟩
  | 5, _ => exact ⟨f5, rfl, 11, by decide, held_of (cal_answer_to Z) e5⟩
  | 6, _ => exact ⟨f6, rfl, 11, by decide, held_of (cal_answer_comes_from Z) e6⟩
  | 7, _ => exact ⟨f7, rfl, 11, by decide, held_of (cal_answer_way Z) e7⟩
  | 8, _ => exact ⟨f8, rfl, 11, by decide, held_of (cal_answer_needed Z) e8⟩
  | 9, _ => exact ⟨f9, rfl, 9, by decide, held_of (cal_answer_turn T) e9⟩
  | 10, _ => exact ⟨f10, rfl, 11, by decide, held_of (cal_answer_rounds Z) e10⟩
  | 11, _ => exact ⟨f11, rfl, 3, by decide, held_of (cal_answer_edges T) e11⟩
  | p + 12, h => cases h
def spAnswers (K : PySem.W.Frag) (T : List (Addr × Str)) : Sp := fun vs H Q _ => ∃ (a : Addr) (ns : List Nat) (out : List Int), vs = [.ref a] ∧ FrzL K H a (nn ns) ∧ Tabs T H ∧ Ru Gq01.init ns out ∧ out.length ≤ 10000000 ∧ ∀ p H', H' p = some (.lst (nums out)) → Q (.ref p) H'
theorem tA_not {CG CL CR : Addr} {T : List (Addr × Str)} {H : Hp} {aL aG aN aE aQ aR a aT : Addr} {d : Gq01.Desk} {ns : List Nat} {i : Nat} {xs : List V} (s : St2 CG CL CR T K [aT] H aL aG aN aE aQ aR a d ns i) (h : H aT = some (.lst xs)) : aT ∉ NW aL aN aE aR := fun z => by
  obtain ⟨dx, h1⟩ := s.ln.obj
  obtain ⟨dr, h3⟩ := s.rd
  have nm := s.ln.nm
  simp only [List.mem_cons, List.not_mem_nil, or_false] at z nm
  rcases z with rfl | rfl | rfl | rfl
  · rw [h] at h1; cases h1
  · exact nm.1 rfl
  · exact nm.2 rfl
  · rw [h] at h3; cases h3
theorem body_answers (Z : Tz K mg base C_Graph C_Line C_Reader a_CALLS c1 P1 c2 P2) (f : Addr) (cdv : Value) (A : Around) (outer : List Env) (s : Shared) (H : Hp) (vs : List V) (Q : VK) (E : XK) (hr : Room 11 (A.deeper (envOfC "answers" (fnScope s_answers) s.heap.objs.size f cdv))) (h : spAnswers K (TBL P1 P2) vs H Q E) :
    ∃ t, PSs (cxOf CX0 P w K mg base N_answers "answers" (fnScope s_answers) f cdv A outer s H E).nox (fnBody s_answers) t ∧ t { nx := fun _ H' => Q .non H', rt := Q } (L2.start N_answers vs) H := by
  have T := Z.T
  refine ⟨_, (pss_cons (ps_set (i := 1) sc_answers.nd rfl (Or.inl rfl) (pe_mk (mak_Reader T) hr (by decide) rfl (pa_cons (pv 0) pa_nil)))
      (pss_cons (ps_set (i := 2) sc_answers.nd rfl (Or.inl rfl) (pe_mk0 (mak_Line T) hr (by decide) rfl))
      (pss_cons (ps_set (i := 3) sc_answers.nd rfl (Or.inl rfl) (pe_lst pa_nil))
      (pss_cons (ps_while PassesOwn.never (pt_val (pe_mt0 (met_Reader_more T) hr (by decide) (pv 1))) (pss_cons (ps_set (i := 4) sc_answers.nd rfl (Or.inl rfl) (pe_ix ix_tup (pe_gc rfl T.g_CALLS) (pe_mt0 (met_Reader_number T) hr (by decide) (pv 1)) (fun _ _ => rfl)))
      (pss_cons (ps_set (i := 5) sc_answers.nd rfl (Or.inl rfl) (pe_callH (i := 4) hr rfl (Or.inl rfl) (pa_cons (pv 2) (pa_cons (pv 1) pa_nil))))
      (pss_cons (ps_expr (pe_bm PySem.F.plainAttrs_list PySem.F.slot_list_append PySem.F.type_list_append mt_append (pv 3) (pa_cons (pe_callB call_len_seq (by rfl) T.b_len PySem.boot_len (pa_cons (pv 5) pa_nil)) pa_nil)))
      (pss_one (ps_expr (pe_bm PySem.F.plainAttrs_list PySem.F.slot_list_extend PySem.F.type_list_extend mt_extend (pv 3) (pa_cons (pv 5) pa_nil))))))))
      (pss_one (ps_ret (pv 3))))))), ?_⟩
  obtain ⟨a, ns, out, rfl, hfz, htb, ru, hout, k⟩ := h
  obtain ⟨fs, tC, hC⟩ := held_calls (P := P) (w := w) Z
  -- reader = Reader(calls)
  refine x_asg ⟨_, rfl, fun aR dr hR hdr hne => ⟨aR, dr, a, rfl, upd_same, fun H1 hr1 kp1 => ⟨rfl, ?_⟩⟩⟩
  have e1 : Ex H H1 := fun b o hb => kp1 b o (((Ex.new hdr).trans (Ex.new ((upd_ne (Ne.symm hne)).trans hR))) _ _ hb) (by
    have : b ≠ aR := ne_of_none hb hR
    simpa using this)
  -- line = Line()
  refine x_asg ?_
  intro aL dl hL hdl hne2
  refine ⟨aL, dl, rfl, upd_same, fun H2 aG aN aE aQ ln kp2 => ⟨rfl, ?_⟩⟩
  have e2 : Ex H1 H2 := fun b o hb => kp2 b o (((Ex.new hdl).trans (Ex.new ((upd_ne (Ne.symm hne2)).trans hL))) _ _ hb) (by
    have : b ≠ aL := ne_of_none hb hL
    simpa using this)
  -- told = []
  refine x_asg ⟨by decide, fun aT hT => ?_⟩
  have e3 : Ex H2 (upd H2 aT (.lst [])) := Ex.new hT
  have e13 := (e1.trans e2).trans e3
  have s0 : St2 C_Graph C_Line C_Reader (TBL P1 P2) K [aT] (upd H2 aT (.lst [])) aL aG aN aE aQ aR a Gq01.init ns 0 := ⟨ln aT [] hT, hr1.imp fun dx q => (e2.trans e3) _ _ q, hfz.ex e13, htb.ext e13⟩
  have t0 : (upd H2 aT (.lst [])) aT = some (.lst (nums [])) := upd_same
  generalize upd H2 aT (.lst []) = H3 at s0 t0
  refine q_while (fun n σ' H' => ∃ (i : Nat) (d : Gq01.Desk) (done rest : List Int) (aQ : Addr) (v4 v5 : Option V), n = ns.length - i ∧ σ' = [some (.ref a), some (.ref aR), some (.ref aL), some (.ref aT), v4, v5] ∧ St2 C_Graph C_Line C_Reader (TBL P1 P2) K [aT] H' aL aG aN aE aQ aR a d ns i ∧
    H' aT = some (.lst (nums done)) ∧ Ru d (ns.drop i) rest ∧ out = done ++ rest) ns.length ⟨0, Gq01.init, [], out, aQ, none, none, rfl, rfl, s0, t0, ru, rfl⟩ ?_
  rintro n σ' H' ⟨i, d, done, rest, aQ, v4, v5, rfl, rfl, st, tt, ru, ho⟩
  obtain ⟨dr', hrd⟩ := st.rd
  refine ⟨_, et_B (ev_meth (ev_var rfl) hrd (rF_no (by decide +kernel) (by decide +kernel)) ea_nil fun H4 e4 Q q E => ⟨aR, a, ns, i, rfl, st.rdAt.mono e4, q⟩), fun hb H4 e4 => ?_, fun hb H4 e4 => ?_⟩
  · have hi : i < ns.length := of_decide_eq_true hb
    have s4 := st.lt (Pre.ex e4)
    have t4 := e4 _ _ tt
    cases hd : ns.drop i with
    | nil =>
      have := congrArg List.length hd
      rw [List.length_drop] at this
      have : ns.length - i = 0 := this
      omega
    | cons p r =>
      rw [hd] at ru
      obtain ⟨hn, hdr'⟩ := drop_at hd
      cases ru with
      | @cons _ _ _ c m rest' h1 h2 h3 =>
        obtain ⟨fc, hfc, kc, hkc, held⟩ := hC p r c m h1
        refine ⟨_, fun σ2 H2 h => h, ?_⟩
        refine x_asg (x_num s4 rfl hn fun H5 s5 kt5 => ⟨a_CALLS, _, _, .ref fc, rfl, rfl, tC H5, atI_nat (by rw [List.getElem?_map, hfc]; rfl), ?_⟩)
        have t5 := kt5.1 _ _ t4 nt_lst (fun z => tA_not s4 t4 (by
          obtain rfl : aT = aR := by simpa using z
          simp))
        refine x_asg ⟨fc, _, rfl, ⟨kc, hkc, held⟩, _, rfl, _, rfl, [aT], aL, aG, aN, aE, aQ, aR, a, d, ns, i + 1, m, c, rfl, s5, by rw [hdr']; exact h1, h2, fun q H6 aQ' nq s6 kt6 hq => ?_⟩
        have t6 := kt6.1 _ _ t5 nt_lst (tA_not s5 t5)
        have hlen : done.length + (1 + ((Gq01.step d c).2.length + rest'.length)) = out.length := by
          rw [ho, List.length_append, List.length_cons, List.length_append]
          omega
        have hsz : (10000000 : Nat) < sizeLine := by decide
        have nqT : q ≠ aT := fun z => nq (by rw [z]; simp)
        refine ⟨_, rfl, Or.inl ⟨rfl, _, sq_of t6⟩, _, rfl, q, _, rfl, Or.inl (sq_of hq), aT, _, _, rfl, rfl, t6, by rw [nums_len]; omega, ?_⟩
        have s7 := s6.told t6 (nums done ++ [.int ((nums (Gq01.step d c).2).length : Int)])
        have t7 : (upd H6 aT (.lst (nums done ++ [.int ((nums (Gq01.step d c).2).length : Int)]))) aT = some (.lst (nums done ++ [.int ((nums (Gq01.step d c).2).length : Int)])) := upd_same
        have q7 := (upd_ne (H := H6) (o := HO.lst (nums done ++ [.int ((nums (Gq01.step d c).2).length : Int)])) nqT).trans hq
        refine ⟨_, rfl, Or.inl ⟨rfl, _, sq_of t7⟩, _, rfl, aT, q, _, _, rfl, rfl, t7, q7, by rw [List.length_append, nums_len, nums_len, List.length_singleton]; omega, ?_⟩
        refine ⟨ns.length - (i + 1 + m), by omega, i + 1 + m, (Gq01.step d c).1, done ++ (((Gq01.step d c).2.length : Int) :: (Gq01.step d c).2), rest', aQ', some (.ref fc), some (.ref q), rfl, rfl, s7.told t7 _, ?_, by rw [← List.drop_drop, hdr']; exact h3, ?_⟩
        · rw [upd_same, nums_len]
          congr 2
          rw [nums_app, List.append_assoc]
          rfl
        · rw [ho, List.append_assoc]
          rfl
  · have hi : ¬ i < ns.length := of_decide_eq_false hb
    have hd : ns.drop i = [] := List.drop_eq_nil_of_le (by omega)
    rw [hd] at ru
    cases ru
    rw [List.append_nil] at ho
    rw [ho] at k
    exact s_ret (ev_var rfl) fun H5 e5 => k aT H5 ((e4.trans e5) _ _ tt)
end
/-! ### the row -/
theorem nat_list : ∀ l : List Int, (∀ z ∈ l, 0 ≤ z) → ofN (l.map Int.toNat) = l
  | [], _ => rfl
  | z :: l, h => by
    show ((z.toNat : Nat) : Int) :: ofN (l.map Int.toNat) = _
    rw [nat_list l fun y hy => h y (List.mem_cons_of_mem _ hy), Int.toNat_of_nonneg (h z (List.mem_cons_self ..))]
theorem rowOk {w : World} {K : PySem.W.Frag} {mg : Str → Option Value} {fa : Addr} {h : Heap} {C_Graph C_Line C_Reader a_CALLS c1 P1 c2 P2 : Addr} (T : Tx K mg C_Graph C_Line C_Reader a_CALLS) (D1 : DefC K mg "relation_of" s_relation_of ["parts", "node_kinds", "edges"] c1) (D2 : DefC K mg "ways_of" s_ways_of ["parts", "node_kinds", "edges"] c2)
    (H1 : PySem.W.CodeHd h c1 P1) (t1 : h.get? P1 = some { cls := .none, data := .fields #[] }) (n1 : K.lookup P1 = none) (H2 : PySem.W.CodeHd h c2 P2) (t2 : h.get? P2 = some { cls := .none, data := .fields #[] }) (n2 : K.lookup P2 = none) (ne : P1 ≠ P2) (hm : mg "answers" = some (.ref fa)) :
    RowFor PySem.Challenge.rw_waygraph_s01_answers w K 12 ["calls"] mg fa h := by
  obtain ⟨f, fd, D, hmf, kp, b⟩ := T.d_answers.ex
  rw [hm] at hmf
  cases hmf
  have two : ∀ {R : Addr × Addr → Prop}, R (c1, P1) → R (c2, P2) → ∀ p ∈ [(c1, P1), (c2, P2)], R p := fun {R} r1 r2 p hp => by
    rcases (List.mem_cons.mp hp) with rfl | hp
    · exact r1
    · obtain rfl : p = (c2, P2) := by simpa using hp
      exact r2
  refine ⟨fd, [(c1, P1), (c2, P2)], spAnswers K (TBL P1 P2), two t1 t2, two n1 n2, two H1 H2, fun s us kx hu => ?_, fun H xs a hT hO hwi hask hx => ?_, fun bs kin nsg tB => ?_⟩
  · have := b s us kx (by rw [List.append_nil]; exact hu)
    rw [List.append_nil] at this
    exact this
  · obtain ⟨l, u⟩ := a
    cases hx with
    | cons h1 h2 =>
      cases h2
      cases h1 with
      | lst hs ha =>
        have e := L2.ints_dw l _ ha
        subst e
        have hin : PySem.W.Codec.inList 0 2880 (PySem.W.Codec.within (.int (Int.ofNat 0) (Int.ofNat 4294967295))) l = true := (Bool.and_eq_true_iff.mp hwi).1
        have hin2 := Bool.and_eq_true_iff.mp hin
        have hlen : l.length ≤ 2880 := of_decide_eq_true (Bool.and_eq_true_iff.mp (show (decide (0 ≤ l.length) && decide (l.length ≤ 2880)) = true from hin2.1)).2
        have hpos : ∀ z ∈ l, 0 ≤ z := fun z hz => of_decide_eq_true (Bool.and_eq_true_iff.mp (show (decide ((0 : Int) ≤ z) && decide (z ≤ 4294967295)) = true from List.all_eq_true.mp hin2.2 z hz)).1
        obtain ⟨ns, rfl⟩ : ∃ ns, l = ofN ns := ⟨_, (nat_list l hpos).symm⟩
        rw [List.length_map] at hlen
        obtain ⟨ru, hz⟩ := ru_asked (Nat.le_trans hlen (by decide)) hask
        refine ⟨_, ns, _, rfl, ?_, fun p hp => ?_, ru, hz, fun p H' hp => .lst (L2.SqL.of hp) (L2.dw_ints _)⟩
        · rcases hs with (hs | ⟨o, hs⟩) | hs
          · rcases hO _ _ hs with z | ⟨o, u', z⟩
            · obtain ⟨p, hp, z⟩ := List.mem_map.mp z
              have := hT p hp
              rw [z, hs] at this
              cases this
            · cases z
          · exact .inl ⟨o, hs⟩
          · exact .inr fun H' => .inr hs
        · rcases (List.mem_cons.mp hp) with rfl | hp
          · exact TabS.nil (hT (c1, P1) (by simp))
          · obtain rfl : p = (P2, qn "ways_of") := by simpa using hp
            exact TabS.nil (hT (c2, P2) (by simp))
  · have Z : Tz K mg bs C_Graph C_Line C_Reader a_CALLS c1 P1 c2 P2 := ⟨T, D1, D2, tB (c1, P1) (by simp), tB (c2, P2) (by simp), ne⟩
    exact fn0 D sc_answers (fun vs H Q E h => by obtain ⟨a, ns, out, rfl, _⟩ := h; rfl) (fun cdv A outer s H vs Q E hr hsp => body_answers Z fa cdv A outer s H vs Q E hr hsp)
end WG
open PySem PySem.W PyProof.Rows
set_option maxRecDepth 120000 in
set_option maxHeartbeats 9000000 in
theorem PySem.Challenge.cw_waygraph_s01_answers_holds : PySem.Challenge.rw_waygraph_s01_answers.Holds := by
  w_on; k_headS; (case hw => exact ⟨[.list [.int 11]], by decide +kernel, by decide +kernel⟩)
  k_fillS
  refine WG.walkT (r := PySem.Challenge.rw_waygraph_s01_answers) (k := 12) (ps := ["calls"]) (by decide +kernel) rfl ⟨rfl, by decide, by decide⟩ (fun w h Y => PySem.W.kIn_of Y) ?F
  case F =>
    intro w mean mg mb fa h Y KX TP hm
    have G := TP.g
    refine' WG.withDefT (x := "relation_of") (st := WG.s_relation_of) (ps := ["parts", "node_kinds", "edges"]) KX TP ?a ?l ?c ?k (fun _ _ _ _ _ _ us hl => match us, hl with | [_, _, _], _ => rfl) ?hr ?lc ?lp ?nP fun D1 H1 t1 n1 => ?_
    (case a => k_is); (case l => k_is); (case c => k_is); (case k => k_is); (case hr => decide +kernel); (case lc => k_is); (case lp => rfl); (case nP => kernel_rfl)
    refine' WG.withDefT (x := "ways_of") (st := WG.s_ways_of) (ps := ["parts", "node_kinds", "edges"]) KX TP ?a ?l ?c ?k (fun _ _ _ _ _ _ us hl => match us, hl with | [_, _, _], _ => rfl) ?hr ?lc ?lp ?nP fun D2 H2 t2 n2 => ?_
    (case a => k_is); (case l => k_is); (case c => k_is); (case k => k_is); (case hr => decide +kernel); (case lc => k_is); (case lp => rfl); (case nP => kernel_rfl)
    have g_MOST_NODES : WG.GC mg "MOST_NODES" (.int (12)) := by
      refine' ⟨_, PySem.W.mg_of KX G ?a, ?r⟩
      (case a => k_is); (case r => exact ⟨_, rfl⟩)
    have g_MOST_EDGES : WG.GC mg "MOST_EDGES" (.int (40)) := by
      refine' ⟨_, PySem.W.mg_of KX G ?a, ?r⟩
      (case a => k_is); (case r => exact ⟨_, rfl⟩)
    have g_MOST_CODE : WG.GC mg "MOST_CODE" (.int (60)) := by
      refine' ⟨_, PySem.W.mg_of KX G ?a, ?r⟩
      (case a => k_is); (case r => exact ⟨_, rfl⟩)
    have g_HIGHEST_LABEL : WG.GC mg "HIGHEST_LABEL" (.int (5)) := by
      refine' ⟨_, PySem.W.mg_of KX G ?a, ?r⟩
      (case a => k_is); (case r => exact ⟨_, rfl⟩)
    have g_HIGHEST_KIND : WG.GC mg "HIGHEST_KIND" (.int (8)) := by
      refine' ⟨_, PySem.W.mg_of KX G ?a, ?r⟩
      (case a => k_is); (case r => exact ⟨_, rfl⟩)
    have g_STAY : WG.GC mg "STAY" (.int (0)) := by
      refine' ⟨_, PySem.W.mg_of KX G ?a, ?r⟩
      (case a => k_is); (case r => exact ⟨_, rfl⟩)
    have g_FORWARD : WG.GC mg "FORWARD" (.int (1)) := by
      refine' ⟨_, PySem.W.mg_of KX G ?a, ?r⟩
      (case a => k_is); (case r => exact ⟨_, rfl⟩)
    have g_BACKWARD : WG.GC mg "BACKWARD" (.int (2)) := by
      refine' ⟨_, PySem.W.mg_of KX G ?a, ?r⟩
      (case a => k_is); (case r => exact ⟨_, rfl⟩)
    have g_KIND : WG.GC mg "KIND" (.int (3)) := by
      refine' ⟨_, PySem.W.mg_of KX G ?a, ?r⟩
      (case a => k_is); (case r => exact ⟨_, rfl⟩)
    have g_IN_ORDER : WG.GC mg "IN_ORDER" (.int (4)) := by
      refine' ⟨_, PySem.W.mg_of KX G ?a, ?r⟩
      (case a => k_is); (case r => exact ⟨_, rfl⟩)
    have g_EITHER : WG.GC mg "EITHER" (.int (5)) := by
      refine' ⟨_, PySem.W.mg_of KX G ?a, ?r⟩
      (case a => k_is); (case r => exact ⟨_, rfl⟩)
    have g_AGAIN : WG.GC mg "AGAIN" (.int (6)) := by
      refine' ⟨_, PySem.W.mg_of KX G ?a, ?r⟩
      (case a => k_is); (case r => exact ⟨_, rfl⟩)
    have g_HAS : WG.GC mg "HAS" (.int (7)) := by
      refine' ⟨_, PySem.W.mg_of KX G ?a, ?r⟩
      (case a => k_is); (case r => exact ⟨_, rfl⟩)
    have g_WRONG : WG.GC mg "WRONG" (.int (-1)) := by
      refine' ⟨_, PySem.W.mg_of KX G ?a, ?r⟩
      (case a => k_is); (case r => exact ⟨_, rfl⟩)
    have g_ABSENT : WG.GC mg "ABSENT" (.int (-3)) := by
      refine' ⟨_, PySem.W.mg_of KX G ?a, ?r⟩
      (case a => k_is); (case r => exact ⟨_, rfl⟩)
    have g_PRESENT : WG.GC mg "PRESENT" (.int (-4)) := by
      refine' ⟨_, PySem.W.mg_of KX G ?a, ?r⟩
      (case a => k_is); (case r => exact ⟨_, rfl⟩)
    have g_FULL : WG.GC mg "FULL" (.int (-5)) := by
      refine' ⟨_, PySem.W.mg_of KX G ?a, ?r⟩
      (case a => k_is); (case r => exact ⟨_, rfl⟩)
    have b_len : mg "len" = none := PySem.W.mg_none_of KX G (by k_is)
    have b_range : mg "range" = none := PySem.W.mg_none_of KX G (by k_is)
    have b_enumerate : mg "enumerate" = none := PySem.W.mg_none_of KX G (by k_is)
    have b_zip : mg "zip" = none := PySem.W.mg_none_of KX G (by k_is)
    have b_sum : mg "sum" = none := PySem.W.mg_none_of KX G (by k_is)
    have b_reversed : mg "reversed" = none := PySem.W.mg_none_of KX G (by k_is)
    have b_list : mg "list" = none := PySem.W.mg_none_of KX G (by k_is)
    have b_any : mg "any" = none := PySem.W.mg_none_of KX G (by k_is)
    refine' WG.withDef (g := "codes_within") (x := "codes_within") (st := WG.s_codes_within) (ps := ["sort"]) KX G ?a ?l ?c ?k (fun _ _ _ _ _ _ us hl => match us, hl with | [_], _ => rfl) fun d_codes_within => ?_
    (case a => k_is); (case l => k_is); (case c => k_is); (case k => k_is)
    refine' WG.withDef (g := "highest_number") (x := "highest_number") (st := WG.s_highest_number) (ps := ["sort"]) KX G ?a ?l ?c ?k (fun _ _ _ _ _ _ us hl => match us, hl with | [_], _ => rfl) fun d_highest_number => ?_
    (case a => k_is); (case l => k_is); (case c => k_is); (case k => k_is)
    refine' WG.withDef (g := "part_at") (x := "part_at") (st := WG.s_part_at) (ps := ["code", "place"]) KX G ?a ?l ?c ?k (fun _ _ _ _ _ _ us hl => match us, hl with | [_, _], _ => rfl) fun d_part_at => ?_
    (case a => k_is); (case l => k_is); (case c => k_is); (case k => k_is)
    refine' WG.withDef (g := "parts_of") (x := "parts_of") (st := WG.s_parts_of) (ps := ["code"]) KX G ?a ?l ?c ?k (fun _ _ _ _ _ _ us hl => match us, hl with | [_], _ => rfl) fun d_parts_of => ?_
    (case a => k_is); (case l => k_is); (case c => k_is); (case k => k_is)
    refine' WG.withDef (g := "code_of") (x := "code_of") (st := WG.s_code_of) (ps := ["parts"]) KX G ?a ?l ?c ?k (fun _ _ _ _ _ _ us hl => match us, hl with | [_], _ => rfl) fun d_code_of => ?_
    (case a => k_is); (case l => k_is); (case c => k_is); (case k => k_is)
    refine' WG.withDef (g := "folded") (x := "folded") (st := WG.s_folded) (ps := ["parts", "of_plain", "of_one", "of_two"]) KX G ?a ?l ?c ?k (fun _ _ _ _ _ _ us hl => match us, hl with | [_, _, _, _], _ => rfl) fun d_folded => ?_
    (case a => k_is); (case l => k_is); (case c => k_is); (case k => k_is)
    refine' WG.withDef (g := "are_kinds") (x := "are_kinds") (st := WG.s_are_kinds) (ps := ["kinds"]) KX G ?a ?l ?c ?k (fun _ _ _ _ _ _ us hl => match us, hl with | [_], _ => rfl) fun d_are_kinds => ?_
    (case a => k_is); (case l => k_is); (case c => k_is); (case k => k_is)
    refine' WG.withDef (g := "bit_of") (x := "bit_of") (st := WG.s_bit_of) (ps := ["node"]) KX G ?a ?l ?c ?k (fun _ _ _ _ _ _ us hl => match us, hl with | [_], _ => rfl) fun d_bit_of => ?_
    (case a => k_is); (case l => k_is); (case c => k_is); (case k => k_is)
    refine' WG.withDef (g := "nodes_of") (x := "nodes_of") (st := WG.s_nodes_of) (ps := ["row"]) KX G ?a ?l ?c ?k (fun _ _ _ _ _ _ us hl => match us, hl with | [_], _ => rfl) fun d_nodes_of => ?_
    (case a => k_is); (case l => k_is); (case c => k_is); (case k => k_is)
    refine' WG.withDef (g := "stay_relations") (x := "stay") (st := WG.s_stay_relations) (ps := ["node_count"]) KX G ?a ?l ?c ?k (fun _ _ _ _ _ _ us hl => match us, hl with | [_], _ => rfl) fun d_stay_relations => ?_
    (case a => k_is); (case l => k_is); (case c => k_is); (case k => k_is)
    refine' WG.withDef (g := "of_kind") (x := "of_kind") (st := WG.s_of_kind) (ps := ["node_kinds", "kind"]) KX G ?a ?l ?c ?k (fun _ _ _ _ _ _ us hl => match us, hl with | [_, _], _ => rfl) fun d_of_kind => ?_
    (case a => k_is); (case l => k_is); (case c => k_is); (case k => k_is)
    refine' WG.withDef (g := "steps_relations") (x := "steps") (st := WG.s_steps_relations) (ps := ["node_count", "pairs"]) KX G ?a ?l ?c ?k (fun _ _ _ _ _ _ us hl => match us, hl with | [_, _], _ => rfl) fun d_steps_relations => ?_
    (case a => k_is); (case l => k_is); (case c => k_is); (case k => k_is)
    refine' WG.withDef (g := "reached_from") (x := "reached_from") (st := WG.s_reached_from) (ps := ["row", "rows"]) KX G ?a ?l ?c ?k (fun _ _ _ _ _ _ us hl => match us, hl with | [_, _], _ => rfl) fun d_reached_from => ?_
    (case a => k_is); (case l => k_is); (case c => k_is); (case k => k_is)
    refine' WG.withDef (g := "in_order_relations") (x := "in_order") (st := WG.s_in_order_relations) (ps := ["first", "second"]) KX G ?a ?l ?c ?k (fun _ _ _ _ _ _ us hl => match us, hl with | [_, _], _ => rfl) fun d_in_order_relations => ?_
    (case a => k_is); (case l => k_is); (case c => k_is); (case k => k_is)
    refine' WG.withDef (g := "either_relations") (x := "either") (st := WG.s_either_relations) (ps := ["first", "second"]) KX G ?a ?l ?c ?k (fun _ _ _ _ _ _ us hl => match us, hl with | [_, _], _ => rfl) fun d_either_relations => ?_
    (case a => k_is); (case l => k_is); (case c => k_is); (case k => k_is)
    refine' WG.withDef (g := "joined_at_relations") (x := "joined_at") (st := WG.s_joined_at_relations) (ps := ["middle", "rows"]) KX G ?a ?l ?c ?k (fun _ _ _ _ _ _ us hl => match us, hl with | [_, _], _ => rfl) fun d_joined_at_relations => ?_
    (case a => k_is); (case l => k_is); (case c => k_is); (case k => k_is)
    refine' WG.withDef (g := "again_relations") (x := "again") (st := WG.s_again_relations) (ps := ["rows"]) KX G ?a ?l ?c ?k (fun _ _ _ _ _ _ us hl => match us, hl with | [_], _ => rfl) fun d_again_relations => ?_
    (case a => k_is); (case l => k_is); (case c => k_is); (case k => k_is)
    refine' WG.withDef (g := "has_relations") (x := "has") (st := WG.s_has_relations) (ps := ["rows"]) KX G ?a ?l ?c ?k (fun _ _ _ _ _ _ us hl => match us, hl with | [_], _ => rfl) fun d_has_relations => ?_
    (case a => k_is); (case l => k_is); (case c => k_is); (case k => k_is)
    refine' WG.withDef (g := "pairs_by") (x := "pairs_by") (st := WG.s_pairs_by) (ps := ["part", "edges"]) KX G ?a ?l ?c ?k (fun _ _ _ _ _ _ us hl => match us, hl with | [_, _], _ => rfl) fun d_pairs_by => ?_
    (case a => k_is); (case l => k_is); (case c => k_is); (case k => k_is)
    refine' WG.withDef (g := "relation_of_plain") (x := "relation_of_plain") (st := WG.s_relation_of_plain) (ps := ["part", "node_kinds", "edges"]) KX G ?a ?l ?c ?k (fun _ _ _ _ _ _ us hl => match us, hl with | [_, _, _], _ => rfl) fun d_relation_of_plain => ?_
    (case a => k_is); (case l => k_is); (case c => k_is); (case k => k_is)
    refine' WG.withDef (g := "relation_of_one") (x := "relation_of_one") (st := WG.s_relation_of_one) (ps := ["sort", "rows"]) KX G ?a ?l ?c ?k (fun _ _ _ _ _ _ us hl => match us, hl with | [_, _], _ => rfl) fun d_relation_of_one => ?_
    (case a => k_is); (case l => k_is); (case c => k_is); (case k => k_is)
    refine' WG.withDef (g := "relation_of_two") (x := "relation_of_two") (st := WG.s_relation_of_two) (ps := ["sort", "first", "second"]) KX G ?a ?l ?c ?k (fun _ _ _ _ _ _ us hl => match us, hl with | [_, _, _], _ => rfl) fun d_relation_of_two => ?_
    (case a => k_is); (case l => k_is); (case c => k_is); (case k => k_is)
    refine' WG.withDef (g := "relation_of") (x := "relation_of") (st := WG.s_relation_of) (ps := ["parts", "node_kinds", "edges"]) KX G ?a ?l ?c ?k (fun _ _ _ _ _ _ us hl => match us, hl with | [_, _, _], _ => rfl) fun d_relation_of => ?_
    (case a => k_is); (case l => k_is); (case c => k_is); (case k => k_is)
    refine' WG.withDef (g := "has_pair") (x := "has_pair") (st := WG.s_has_pair) (ps := ["relation", "x", "y"]) KX G ?a ?l ?c ?k (fun _ _ _ _ _ _ us hl => match us, hl with | [_, _, _], _ => rfl) fun d_has_pair => ?_
    (case a => k_is); (case l => k_is); (case c => k_is); (case k => k_is)
    refine' WG.withDef (g := "turned_part") (x := "turned_part") (st := WG.s_turned_part) (ps := ["part"]) KX G ?a ?l ?c ?k (fun _ _ _ _ _ _ us hl => match us, hl with | [_], _ => rfl) fun d_turned_part => ?_
    (case a => k_is); (case l => k_is); (case c => k_is); (case k => k_is)
    refine' WG.withDef (g := "pair_of_plain") (x := "pair_of_plain") (st := WG.s_pair_of_plain) (ps := ["part"]) KX G ?a ?l ?c ?k (fun _ _ _ _ _ _ us hl => match us, hl with | [_], _ => rfl) fun d_pair_of_plain => ?_
    (case a => k_is); (case l => k_is); (case c => k_is); (case k => k_is)
    refine' WG.withDef (g := "pair_of_one") (x := "pair_of_one") (st := WG.s_pair_of_one) (ps := ["sort", "within"]) KX G ?a ?l ?c ?k (fun _ _ _ _ _ _ us hl => match us, hl with | [_, _], _ => rfl) fun d_pair_of_one => ?_
    (case a => k_is); (case l => k_is); (case c => k_is); (case k => k_is)
    refine' WG.withDef (g := "pair_of_two") (x := "pair_of_two") (st := WG.s_pair_of_two) (ps := ["sort", "first", "second"]) KX G ?a ?l ?c ?k (fun _ _ _ _ _ _ us hl => match us, hl with | [_, _, _], _ => rfl) fun d_pair_of_two => ?_
    (case a => k_is); (case l => k_is); (case c => k_is); (case k => k_is)
    refine' WG.withDef (g := "turned") (x := "turned") (st := WG.s_turned) (ps := ["parts"]) KX G ?a ?l ?c ?k (fun _ _ _ _ _ _ us hl => match us, hl with | [_], _ => rfl) fun d_turned => ?_
    (case a => k_is); (case l => k_is); (case c => k_is); (case k => k_is)
    refine' WG.withDef (g := "shortest") (x := "shortest") (st := WG.s_shortest) (ps := ["one", "other"]) KX G ?a ?l ?c ?k (fun _ _ _ _ _ _ us hl => match us, hl with | [_, _], _ => rfl) fun d_shortest => ?_
    (case a => k_is); (case l => k_is); (case c => k_is); (case k => k_is)
    refine' WG.withDef (g := "shortest_over") (x := "shortest_over") (st := WG.s_shortest_over) (ps := ["known", "first", "second"]) KX G ?a ?l ?c ?k (fun _ _ _ _ _ _ us hl => match us, hl with | [_, _, _], _ => rfl) fun d_shortest_over => ?_
    (case a => k_is); (case l => k_is); (case c => k_is); (case k => k_is)
    refine' WG.withDef (g := "no_ways") (x := "no_ways") (st := WG.s_no_ways) (ps := ["node_count"]) KX G ?a ?l ?c ?k (fun _ _ _ _ _ _ us hl => match us, hl with | [_], _ => rfl) fun d_no_ways => ?_
    (case a => k_is); (case l => k_is); (case c => k_is); (case k => k_is)
    refine' WG.withDef (g := "staying") (x := "staying") (st := WG.s_staying) (ps := ["chosen"]) KX G ?a ?l ?c ?k (fun _ _ _ _ _ _ us hl => match us, hl with | [_], _ => rfl) fun d_staying => ?_
    (case a => k_is); (case l => k_is); (case c => k_is); (case k => k_is)
    refine' WG.withDef (g := "stay_ways") (x := "stay") (st := WG.s_stay_ways) (ps := ["node_count"]) KX G ?a ?l ?c ?k (fun _ _ _ _ _ _ us hl => match us, hl with | [_], _ => rfl) fun d_stay_ways => ?_
    (case a => k_is); (case l => k_is); (case c => k_is); (case k => k_is)
    refine' WG.withDef (g := "steps_ways") (x := "steps") (st := WG.s_steps_ways) (ps := ["node_count", "number", "pairs"]) KX G ?a ?l ?c ?k (fun _ _ _ _ _ _ us hl => match us, hl with | [_, _, _], _ => rfl) fun d_steps_ways => ?_
    (case a => k_is); (case l => k_is); (case c => k_is); (case k => k_is)
    refine' WG.withDef (g := "row_in_order") (x := "row_in_order") (st := WG.s_row_in_order) (ps := ["row", "table"]) KX G ?a ?l ?c ?k (fun _ _ _ _ _ _ us hl => match us, hl with | [_, _], _ => rfl) fun d_row_in_order => ?_
    (case a => k_is); (case l => k_is); (case c => k_is); (case k => k_is)
    refine' WG.withDef (g := "in_order_ways") (x := "in_order") (st := WG.s_in_order_ways) (ps := ["first", "second"]) KX G ?a ?l ?c ?k (fun _ _ _ _ _ _ us hl => match us, hl with | [_, _], _ => rfl) fun d_in_order_ways => ?_
    (case a => k_is); (case l => k_is); (case c => k_is); (case k => k_is)
    refine' WG.withDef (g := "row_either") (x := "row_either") (st := WG.s_row_either) (ps := ["row", "other_row"]) KX G ?a ?l ?c ?k (fun _ _ _ _ _ _ us hl => match us, hl with | [_, _], _ => rfl) fun d_row_either => ?_
    (case a => k_is); (case l => k_is); (case c => k_is); (case k => k_is)
    refine' WG.withDef (g := "either_ways") (x := "either") (st := WG.s_either_ways) (ps := ["first", "second"]) KX G ?a ?l ?c ?k (fun _ _ _ _ _ _ us hl => match us, hl with | [_, _], _ => rfl) fun d_either_ways => ?_
    (case a => k_is); (case l => k_is); (case c => k_is); (case k => k_is)
    refine' WG.withDef (g := "joined_at_ways") (x := "joined_at") (st := WG.s_joined_at_ways) (ps := ["place", "table"]) KX G ?a ?l ?c ?k (fun _ _ _ _ _ _ us hl => match us, hl with | [_, _], _ => rfl) fun d_joined_at_ways => ?_
    (case a => k_is); (case l => k_is); (case c => k_is); (case k => k_is)
    refine' WG.withDef (g := "again_ways") (x := "again") (st := WG.s_again_ways) (ps := ["table"]) KX G ?a ?l ?c ?k (fun _ _ _ _ _ _ us hl => match us, hl with | [_], _ => rfl) fun d_again_ways => ?_
    (case a => k_is); (case l => k_is); (case c => k_is); (case k => k_is)
    refine' WG.withDef (g := "has_way") (x := "has_way") (st := WG.s_has_way) (ps := ["row"]) KX G ?a ?l ?c ?k (fun _ _ _ _ _ _ us hl => match us, hl with | [_], _ => rfl) fun d_has_way => ?_
    (case a => k_is); (case l => k_is); (case c => k_is); (case k => k_is)
    refine' WG.withDef (g := "has_ways") (x := "has") (st := WG.s_has_ways) (ps := ["table"]) KX G ?a ?l ?c ?k (fun _ _ _ _ _ _ us hl => match us, hl with | [_], _ => rfl) fun d_has_ways => ?_
    (case a => k_is); (case l => k_is); (case c => k_is); (case k => k_is)
    refine' WG.withDef (g := "number_of") (x := "number_of") (st := WG.s_number_of) (ps := ["part"]) KX G ?a ?l ?c ?k (fun _ _ _ _ _ _ us hl => match us, hl with | [_], _ => rfl) fun d_number_of => ?_
    (case a => k_is); (case l => k_is); (case c => k_is); (case k => k_is)
    refine' WG.withDef (g := "ways_of_plain") (x := "ways_of_plain") (st := WG.s_ways_of_plain) (ps := ["part", "node_kinds", "edges"]) KX G ?a ?l ?c ?k (fun _ _ _ _ _ _ us hl => match us, hl with | [_, _, _], _ => rfl) fun d_ways_of_plain => ?_
    (case a => k_is); (case l => k_is); (case c => k_is); (case k => k_is)
    refine' WG.withDef (g := "ways_of_one") (x := "ways_of_one") (st := WG.s_ways_of_one) (ps := ["sort", "table"]) KX G ?a ?l ?c ?k (fun _ _ _ _ _ _ us hl => match us, hl with | [_, _], _ => rfl) fun d_ways_of_one => ?_
    (case a => k_is); (case l => k_is); (case c => k_is); (case k => k_is)
    refine' WG.withDef (g := "ways_of_two") (x := "ways_of_two") (st := WG.s_ways_of_two) (ps := ["sort", "first", "second"]) KX G ?a ?l ?c ?k (fun _ _ _ _ _ _ us hl => match us, hl with | [_, _, _], _ => rfl) fun d_ways_of_two => ?_
    (case a => k_is); (case l => k_is); (case c => k_is); (case k => k_is)
    refine' WG.withDef (g := "ways_of") (x := "ways_of") (st := WG.s_ways_of) (ps := ["parts", "node_kinds", "edges"]) KX G ?a ?l ?c ?k (fun _ _ _ _ _ _ us hl => match us, hl with | [_, _, _], _ => rfl) fun d_ways_of => ?_
    (case a => k_is); (case l => k_is); (case c => k_is); (case k => k_is)
    refine' WG.withDef (g := "counted") (x := "counted") (st := WG.s_counted) (ps := ["numbers"]) KX G ?a ?l ?c ?k (fun _ _ _ _ _ _ us hl => match us, hl with | [_], _ => rfl) fun d_counted => ?_
    (case a => k_is); (case l => k_is); (case c => k_is); (case k => k_is)
    refine' WG.withDef (g := "counted_edges") (x := "counted_edges") (st := WG.s_counted_edges) (ps := ["edges"]) KX G ?a ?l ?c ?k (fun _ _ _ _ _ _ us hl => match us, hl with | [_], _ => rfl) fun d_counted_edges => ?_
    (case a => k_is); (case l => k_is); (case c => k_is); (case k => k_is)
    refine' WG.withDef (g := "answer_node") (x := "answer_node") (st := WG.s_answer_node) (ps := ["line", "reader"]) KX G ?a ?l ?c ?k (fun _ _ _ _ _ _ us hl => match us, hl with | [_, _], _ => rfl) fun d_answer_node => ?_
    (case a => k_is); (case l => k_is); (case c => k_is); (case k => k_is)
    refine' WG.withDef (g := "answer_kinds") (x := "answer_kinds") (st := WG.s_answer_kinds) (ps := ["line", "reader"]) KX G ?a ?l ?c ?k (fun _ _ _ _ _ _ us hl => match us, hl with | [_, _], _ => rfl) fun d_answer_kinds => ?_
    (case a => k_is); (case l => k_is); (case c => k_is); (case k => k_is)
    refine' WG.withDef (g := "answer_edge") (x := "answer_edge") (st := WG.s_answer_edge) (ps := ["line", "reader"]) KX G ?a ?l ?c ?k (fun _ _ _ _ _ _ us hl => match us, hl with | [_, _], _ => rfl) fun d_answer_edge => ?_
    (case a => k_is); (case l => k_is); (case c => k_is); (case k => k_is)
    refine' WG.withDef (g := "answer_cut") (x := "answer_cut") (st := WG.s_answer_cut) (ps := ["line", "reader"]) KX G ?a ?l ?c ?k (fun _ _ _ _ _ _ us hl => match us, hl with | [_, _], _ => rfl) fun d_answer_cut => ?_
    (case a => k_is); (case l => k_is); (case c => k_is); (case k => k_is)
    refine' WG.withDef (g := "answer_ask") (x := "answer_ask") (st := WG.s_answer_ask) (ps := ["line", "reader"]) KX G ?a ?l ?c ?k (fun _ _ _ _ _ _ us hl => match us, hl with | [_, _], _ => rfl) fun d_answer_ask => ?_
    (case a => k_is); (case l => k_is); (case c => k_is); (case k => k_is)
    refine' WG.withDef (g := "answer_to") (x := "answer_to") (st := WG.s_answer_to) (ps := ["line", "reader"]) KX G ?a ?l ?c ?k (fun _ _ _ _ _ _ us hl => match us, hl with | [_, _], _ => rfl) fun d_answer_to => ?_
    (case a => k_is); (case l => k_is); (case c => k_is); (case k => k_is)
    refine' WG.withDef (g := "answer_comes_from") (x := "answer_comes_from") (st := WG.s_answer_comes_from) (ps := ["line", "reader"]) KX G ?a ?l ?c ?k (fun _ _ _ _ _ _ us hl => match us, hl with | [_, _], _ => rfl) fun d_answer_comes_from => ?_
    (case a => k_is); (case l => k_is); (case c => k_is); (case k => k_is)
    refine' WG.withDef (g := "answer_way") (x := "answer_way") (st := WG.s_answer_way) (ps := ["line", "reader"]) KX G ?a ?l ?c ?k (fun _ _ _ _ _ _ us hl => match us, hl with | [_, _], _ => rfl) fun d_answer_way => ?_
    (case a => k_is); (case l => k_is); (case c => k_is); (case k => k_is)
    refine' WG.withDef (g := "answer_needed") (x := "answer_needed") (st := WG.s_answer_needed) (ps := ["line", "reader"]) KX G ?a ?l ?c ?k (fun _ _ _ _ _ _ us hl => match us, hl with | [_, _], _ => rfl) fun d_answer_needed => ?_
    (case a => k_is); (case l => k_is); (case c => k_is); (case k => k_is)
    refine' WG.withDef (g := "answer_turn") (x := "answer_turn") (st := WG.s_answer_turn) (ps := ["line", "reader"]) KX G ?a ?l ?c ?k (fun _ _ _ _ _ _ us hl => match us, hl with | [_, _], _ => rfl) fun d_answer_turn => ?_
    (case a => k_is); (case l => k_is); (case c => k_is); (case k => k_is)
    refine' WG.withDef (g := "answer_rounds") (x := "answer_rounds") (st := WG.s_answer_rounds) (ps := ["line", "reader"]) KX G ?a ?l ?c ?k (fun _ _ _ _ _ _ us hl => match us, hl with | [_, _], _ => rfl) fun d_answer_rounds => ?_
    (case a => k_is); (case l => k_is); (case c => k_is); (case k => k_is)
    refine' WG.withDef (g := "answer_edges") (x := "answer_edges") (st := WG.s_answer_edges) (ps := ["line", "reader"]) KX G ?a ?l ?c ?k (fun _ _ _ _ _ _ us hl => match us, hl with | [_, _], _ => rfl) fun d_answer_edges => ?_
    (case a => k_is); (case l => k_is); (case c => k_is); (case k => k_is)
    refine' WG.withDef (g := "answers") (x := "answers") (st := WG.s_answers) (ps := ["calls"]) KX G ?a ?l ?c ?k (fun _ _ _ _ _ _ us hl => match us, hl with | [_], _ => rfl) fun d_answers => ?_
    (case a => k_is); (case l => k_is); (case c => k_is); (case k => k_is)
    refine' WG.withCls (x := "Graph") KX G ?a ?pg ?hd ?po ?sa fun g_Graph c_Graph => ?_
    (case a => k_is); (case pg => k_is); (case hd => k_is); (case po => k_is); (case sa => k_is)
    refine' WG.withNo (m := "node_kinds") KX c_Graph ?a fun n_Graph_node_kinds => ?_
    (case a => k_is)
    refine' WG.withNo (m := "edge_list") KX c_Graph ?a fun n_Graph_edge_list => ?_
    (case a => k_is)
    refine' WG.withInit (qual := "Graph.__init__") (st := WG.s_Graph_init) (ps := ["self"]) KX c_Graph ?m ?k ?a ?i ?l ?c (fun _ _ _ _ _ _ us hl => match us, hl with | [_], _ => rfl) fun i_Graph => ?_
    (case m => k_is); (case k => k_is); (case a => k_is); (case i => k_is); (case l => k_is); (case c => k_is)
    refine' WG.withMeth (x := "has_node") (qual := "Graph.has_node") (st := WG.s_Graph_has_node) (ps := ["self", "x"]) KX c_Graph ?a ?i ?l ?c ?k (fun _ _ _ _ _ _ us hl => match us, hl with | [_, _], _ => rfl) fun m_Graph_has_node => ?_
    (case a => k_is); (case i => k_is); (case l => k_is); (case c => k_is); (case k => k_is)
    refine' WG.withMeth (x := "add_node") (qual := "Graph.add_node") (st := WG.s_Graph_add_node) (ps := ["self", "kinds"]) KX c_Graph ?a ?i ?l ?c ?k (fun _ _ _ _ _ _ us hl => match us, hl with | [_, _], _ => rfl) fun m_Graph_add_node => ?_
    (case a => k_is); (case i => k_is); (case l => k_is); (case c => k_is); (case k => k_is)
    refine' WG.withMeth (x := "put_kinds") (qual := "Graph.put_kinds") (st := WG.s_Graph_put_kinds) (ps := ["self", "x", "kinds"]) KX c_Graph ?a ?i ?l ?c ?k (fun _ _ _ _ _ _ us hl => match us, hl with | [_, _, _], _ => rfl) fun m_Graph_put_kinds => ?_
    (case a => k_is); (case i => k_is); (case l => k_is); (case c => k_is); (case k => k_is)
    refine' WG.withMeth (x := "add_edge") (qual := "Graph.add_edge") (st := WG.s_Graph_add_edge) (ps := ["self", "x", "a", "y"]) KX c_Graph ?a ?i ?l ?c ?k (fun _ _ _ _ _ _ us hl => match us, hl with | [_, _, _, _], _ => rfl) fun m_Graph_add_edge => ?_
    (case a => k_is); (case i => k_is); (case l => k_is); (case c => k_is); (case k => k_is)
    refine' WG.withMeth (x := "cut_edge") (qual := "Graph.cut_edge") (st := WG.s_Graph_cut_edge) (ps := ["self", "x", "a", "y"]) KX c_Graph ?a ?i ?l ?c ?k (fun _ _ _ _ _ _ us hl => match us, hl with | [_, _, _, _], _ => rfl) fun m_Graph_cut_edge => ?_
    (case a => k_is); (case i => k_is); (case l => k_is); (case c => k_is); (case k => k_is)
    refine' WG.withCls (x := "Line") KX G ?a ?pg ?hd ?po ?sa fun g_Line c_Line => ?_
    (case a => k_is); (case pg => k_is); (case hd => k_is); (case po => k_is); (case sa => k_is)
    refine' WG.withNo (m := "graph") KX c_Line ?a fun n_Line_graph => ?_
    (case a => k_is)
    refine' WG.withNo (m := "question") KX c_Line ?a fun n_Line_question => ?_
    (case a => k_is)
    refine' WG.withInit (qual := "Line.__init__") (st := WG.s_Line_init) (ps := ["self"]) KX c_Line ?m ?k ?a ?i ?l ?c (fun _ _ _ _ _ _ us hl => match us, hl with | [_], _ => rfl) fun i_Line => ?_
    (case m => k_is); (case k => k_is); (case a => k_is); (case i => k_is); (case l => k_is); (case c => k_is)
    refine' WG.withMeth (x := "has_nodes") (qual := "Line.has_nodes") (st := WG.s_Line_has_nodes) (ps := ["self", "x", "y"]) KX c_Line ?a ?i ?l ?c ?k (fun _ _ _ _ _ _ us hl => match us, hl with | [_, _, _], _ => rfl) fun m_Line_has_nodes => ?_
    (case a => k_is); (case i => k_is); (case l => k_is); (case c => k_is); (case k => k_is)
    refine' WG.withMeth (x := "relation_by") (qual := "Line.relation_by") (st := WG.s_Line_relation_by) (ps := ["self", "edges"]) KX c_Line ?a ?i ?l ?c ?k (fun _ _ _ _ _ _ us hl => match us, hl with | [_, _], _ => rfl) fun m_Line_relation_by => ?_
    (case a => k_is); (case i => k_is); (case l => k_is); (case c => k_is); (case k => k_is)
    refine' WG.withMeth (x := "relation") (qual := "Line.relation") (st := WG.s_Line_relation) (ps := ["self"]) KX c_Line ?a ?i ?l ?c ?k (fun _ _ _ _ _ _ us hl => match us, hl with | [_], _ => rfl) fun m_Line_relation => ?_
    (case a => k_is); (case i => k_is); (case l => k_is); (case c => k_is); (case k => k_is)
    refine' WG.withMeth (x := "is_needed") (qual := "Line.is_needed") (st := WG.s_Line_is_needed) (ps := ["self", "edge", "x", "y"]) KX c_Line ?a ?i ?l ?c ?k (fun _ _ _ _ _ _ us hl => match us, hl with | [_, _, _, _], _ => rfl) fun m_Line_is_needed => ?_
    (case a => k_is); (case i => k_is); (case l => k_is); (case c => k_is); (case k => k_is)
    refine' WG.withMeth (x := "ask") (qual := "Line.ask") (st := WG.s_Line_ask) (ps := ["self", "code"]) KX c_Line ?a ?i ?l ?c ?k (fun _ _ _ _ _ _ us hl => match us, hl with | [_, _], _ => rfl) fun m_Line_ask => ?_
    (case a => k_is); (case i => k_is); (case l => k_is); (case c => k_is); (case k => k_is)
    refine' WG.withMeth (x := "led_to") (qual := "Line.led_to") (st := WG.s_Line_led_to) (ps := ["self", "x"]) KX c_Line ?a ?i ?l ?c ?k (fun _ _ _ _ _ _ us hl => match us, hl with | [_, _], _ => rfl) fun m_Line_led_to => ?_
    (case a => k_is); (case i => k_is); (case l => k_is); (case c => k_is); (case k => k_is)
    refine' WG.withMeth (x := "led_from") (qual := "Line.led_from") (st := WG.s_Line_led_from) (ps := ["self", "y"]) KX c_Line ?a ?i ?l ?c ?k (fun _ _ _ _ _ _ us hl => match us, hl with | [_, _], _ => rfl) fun m_Line_led_from => ?_
    (case a => k_is); (case i => k_is); (case l => k_is); (case c => k_is); (case k => k_is)
    refine' WG.withMeth (x := "way") (qual := "Line.way") (st := WG.s_Line_way) (ps := ["self", "x", "y"]) KX c_Line ?a ?i ?l ?c ?k (fun _ _ _ _ _ _ us hl => match us, hl with | [_, _, _], _ => rfl) fun m_Line_way => ?_
    (case a => k_is); (case i => k_is); (case l => k_is); (case c => k_is); (case k => k_is)
    refine' WG.withMeth (x := "needed") (qual := "Line.needed") (st := WG.s_Line_needed) (ps := ["self", "x", "y"]) KX c_Line ?a ?i ?l ?c ?k (fun _ _ _ _ _ _ us hl => match us, hl with | [_, _, _], _ => rfl) fun m_Line_needed => ?_
    (case a => k_is); (case i => k_is); (case l => k_is); (case c => k_is); (case k => k_is)
    refine' WG.withMeth (x := "turn") (qual := "Line.turn") (st := WG.s_Line_turn) (ps := ["self"]) KX c_Line ?a ?i ?l ?c ?k (fun _ _ _ _ _ _ us hl => match us, hl with | [_], _ => rfl) fun m_Line_turn => ?_
    (case a => k_is); (case i => k_is); (case l => k_is); (case c => k_is); (case k => k_is)
    refine' WG.withMeth (x := "rounds") (qual := "Line.rounds") (st := WG.s_Line_rounds) (ps := ["self"]) KX c_Line ?a ?i ?l ?c ?k (fun _ _ _ _ _ _ us hl => match us, hl with | [_], _ => rfl) fun m_Line_rounds => ?_
    (case a => k_is); (case i => k_is); (case l => k_is); (case c => k_is); (case k => k_is)
    refine' WG.withMeth (x := "edges") (qual := "Line.edges") (st := WG.s_Line_edges) (ps := ["self"]) KX c_Line ?a ?i ?l ?c ?k (fun _ _ _ _ _ _ us hl => match us, hl with | [_], _ => rfl) fun m_Line_edges => ?_
    (case a => k_is); (case i => k_is); (case l => k_is); (case c => k_is); (case k => k_is)
    refine' WG.withCls (x := "Reader") KX G ?a ?pg ?hd ?po ?sa fun g_Reader c_Reader => ?_
    (case a => k_is); (case pg => k_is); (case hd => k_is); (case po => k_is); (case sa => k_is)
    refine' WG.withNo (m := "numbers") KX c_Reader ?a fun n_Reader_numbers => ?_
    (case a => k_is)
    refine' WG.withNo (m := "place") KX c_Reader ?a fun n_Reader_place => ?_
    (case a => k_is)
    refine' WG.withInit (qual := "Reader.__init__") (st := WG.s_Reader_init) (ps := ["self", "numbers"]) KX c_Reader ?m ?k ?a ?i ?l ?c (fun _ _ _ _ _ _ us hl => match us, hl with | [_, _], _ => rfl) fun i_Reader => ?_
    (case m => k_is); (case k => k_is); (case a => k_is); (case i => k_is); (case l => k_is); (case c => k_is)
    refine' WG.withMeth (x := "more") (qual := "Reader.more") (st := WG.s_Reader_more) (ps := ["self"]) KX c_Reader ?a ?i ?l ?c ?k (fun _ _ _ _ _ _ us hl => match us, hl with | [_], _ => rfl) fun m_Reader_more => ?_
    (case a => k_is); (case i => k_is); (case l => k_is); (case c => k_is); (case k => k_is)
    refine' WG.withMeth (x := "number") (qual := "Reader.number") (st := WG.s_Reader_number) (ps := ["self"]) KX c_Reader ?a ?i ?l ?c ?k (fun _ _ _ _ _ _ us hl => match us, hl with | [_], _ => rfl) fun m_Reader_number => ?_
    (case a => k_is); (case i => k_is); (case l => k_is); (case c => k_is); (case k => k_is)
    refine' WG.withMeth (x := "row") (qual := "Reader.row") (st := WG.s_Reader_row) (ps := ["self"]) KX c_Reader ?a ?i ?l ?c ?k (fun _ _ _ _ _ _ us hl => match us, hl with | [_], _ => rfl) fun m_Reader_row => ?_
    (case a => k_is); (case i => k_is); (case l => k_is); (case c => k_is); (case k => k_is)
    refine' WG.withTab (x := "CALLS") KX G ?g ?lk ?c1 ?c2 ?c3 ?c4 fun g_CALLS t_CALLS => ?_
    (case g => k_is); (case lk => k_is); (case c1 => rfl); (case c2 => rfl); (case c3 => decide); (case c4 => decide)
    have e_answer_node := PySem.W.mg_of KX G (n := "answer_node") (by k_is)
    have e_answer_kinds := PySem.W.mg_of KX G (n := "answer_kinds") (by k_is)
    have e_answer_edge := PySem.W.mg_of KX G (n := "answer_edge") (by k_is)
    have e_answer_cut := PySem.W.mg_of KX G (n := "answer_cut") (by k_is)
    have e_answer_ask := PySem.W.mg_of KX G (n := "answer_ask") (by k_is)
    have e_answer_to := PySem.W.mg_of KX G (n := "answer_to") (by k_is)
    have e_answer_comes_from := PySem.W.mg_of KX G (n := "answer_comes_from") (by k_is)
    have e_answer_way := PySem.W.mg_of KX G (n := "answer_way") (by k_is)
    have e_answer_needed := PySem.W.mg_of KX G (n := "answer_needed") (by k_is)
    have e_answer_turn := PySem.W.mg_of KX G (n := "answer_turn") (by k_is)
    have e_answer_rounds := PySem.W.mg_of KX G (n := "answer_rounds") (by k_is)
    have e_answer_edges := PySem.W.mg_of KX G (n := "answer_edges") (by k_is)
    have tt_CALLS := WG.tab_mk_CALLS e_answer_node e_answer_kinds e_answer_edge e_answer_cut e_answer_ask e_answer_to e_answer_comes_from e_answer_way e_answer_needed e_answer_turn e_answer_rounds e_answer_edges t_CALLS
    have T := WG.Tx.mk g_MOST_NODES g_MOST_EDGES g_MOST_CODE g_HIGHEST_LABEL g_HIGHEST_KIND g_STAY g_FORWARD g_BACKWARD g_KIND g_IN_ORDER g_EITHER g_AGAIN g_HAS g_WRONG g_ABSENT g_PRESENT g_FULL b_len b_range b_enumerate b_zip b_sum b_reversed b_list b_any d_codes_within d_highest_number d_part_at d_parts_of d_code_of d_folded d_are_kinds d_bit_of d_nodes_of d_stay_relations d_of_kind d_steps_relations d_reached_from d_in_order_relations d_either_relations d_joined_at_relations d_again_relations d_has_relations d_pairs_by d_relation_of_plain d_relation_of_one d_relation_of_two d_relation_of d_has_pair d_turned_part d_pair_of_plain d_pair_of_one d_pair_of_two d_turned d_shortest d_shortest_over d_no_ways d_staying d_stay_ways d_steps_ways d_row_in_order d_in_order_ways d_row_either d_either_ways d_joined_at_ways d_again_ways d_has_way d_has_ways d_number_of d_ways_of_plain d_ways_of_one d_ways_of_two d_ways_of d_counted d_counted_edges d_answer_node d_answer_kinds d_answer_edge d_answer_cut d_answer_ask d_answer_to d_answer_comes_from d_answer_way d_answer_needed d_answer_turn d_answer_rounds d_answer_edges d_answers c_Graph g_Graph n_Graph_node_kinds n_Graph_edge_list i_Graph m_Graph_has_node m_Graph_add_node m_Graph_put_kinds m_Graph_add_edge m_Graph_cut_edge c_Line g_Line n_Line_graph n_Line_question i_Line m_Line_has_nodes m_Line_relation_by m_Line_relation m_Line_is_needed m_Line_ask m_Line_led_to m_Line_led_from m_Line_way m_Line_needed m_Line_turn m_Line_rounds m_Line_edges c_Reader g_Reader n_Reader_numbers n_Reader_place i_Reader m_Reader_more m_Reader_number m_Reader_row g_CALLS tt_CALLS
    exact WG.rowOk T D1 D2 H1 t1 n1 H2 t2 n2 (by decide) hm
