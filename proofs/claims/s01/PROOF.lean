import PyProof.Rows.All
import Wide.All
import OpenK.AllK
import Wide.FinOn
import Open.SpecLaws
import KE.OsGo
import HandS.ForSpec
import HandS.Comp
import HandS.TupSets
import HandS.Evl
import HandS.Walk
import PyFlatLaws
import PySem.Challenge.RW_linesleft_s01_answers
set_option Elab.async false
set_option linter.all false
set_option maxRecDepth 100000
set_option maxHeartbeats 4000000
namespace LL
open Kv402
/-! ### Distances with none as the greatest -/
def Le (x y : Option Nat) : Prop := ∀ d, y = some d → ∃ e, x = some e ∧ e ≤ d
theorem Le.refl (x : Option Nat) : Le x x := fun d h => ⟨d, h, Nat.le_refl d⟩
theorem Le.trans {x y z : Option Nat} (h : Le x y) (k : Le y z) : Le x z := fun d e => by
  obtain ⟨b, hb, lb⟩ := k d e
  obtain ⟨a, ha, la⟩ := h b hb
  exact ⟨a, ha, Nat.le_trans la lb⟩
theorem Le.antisymm {x y : Option Nat} (h : Le x y) (k : Le y x) : x = y := by
  cases x with
  | none =>
    cases y with
    | none => rfl
    | some y =>
      obtain ⟨e, he, _⟩ := h y rfl
      cases he
  | some x =>
    obtain ⟨e, he, le⟩ := k x rfl
    subst he
    obtain ⟨f, hf, lf⟩ := h e rfl
    cases hf
    exact congrArg some (Nat.le_antisymm lf le)
theorem less_l (x y : Option Nat) : Le (less x y) x := by
  intro d h
  subst h
  cases y with
  | none => exact ⟨d, rfl, Nat.le_refl d⟩
  | some y => exact ⟨min d y, rfl, Nat.min_le_left d y⟩
theorem less_r (x y : Option Nat) : Le (less x y) y := by
  intro d h
  subst h
  cases x with
  | none => exact ⟨d, rfl, Nat.le_refl d⟩
  | some x => exact ⟨min x d, rfl, Nat.min_le_right x d⟩
theorem less_or (x y : Option Nat) : less x y = x ∨ less x y = y := by
  cases x with
  | none => exact Or.inr (by cases y <;> rfl)
  | some x =>
    cases y with
    | none => exact Or.inl rfl
    | some y =>
      show some (min x y) = some x ∨ some (min x y) = some y
      rcases Nat.le_total x y with h | h
      · exact Or.inl (congrArg some (Nat.min_eq_left h))
      · exact Or.inr (congrArg some (Nat.min_eq_right h))
theorem plus_some {x y : Option Nat} {d : Nat} (h : plus x y = some d) : ∃ a b, x = some a ∧ y = some b ∧ a + b = d := by
  cases x with
  | none => cases h
  | some x =>
    cases y with
    | none => cases h
    | some y => exact ⟨x, y, rfl, rfl, Option.some.inj h⟩
theorem plus_mono {x y z w : Option Nat} (h : Le x z) (k : Le y w) : Le (plus x y) (plus z w) := fun d e => by
  obtain ⟨a, b, ha, hb, s⟩ := plus_some e
  obtain ⟨a', ea, la⟩ := h a ha
  obtain ⟨b', eb, lb⟩ := k b hb
  subst ea eb
  exact ⟨a' + b', rfl, by omega⟩
theorem le_plus_l (x y : Option Nat) : Le x (plus x y) := fun d e => by
  obtain ⟨a, b, ha, hb, s⟩ := plus_some e
  exact ⟨a, ha, by omega⟩
theorem le_plus_r (x y : Option Nat) : Le y (plus x y) := fun d e => by
  obtain ⟨a, b, ha, hb, s⟩ := plus_some e
  exact ⟨b, hb, by omega⟩
theorem plus_assoc (x y z : Option Nat) : plus (plus x y) z = plus x (plus y z) := by
  cases x <;> cases y <;> cases z <;> simp [plus, Nat.add_assoc]
theorem plus_comm (x y : Option Nat) : plus x y = plus y x := by
  cases x <;> cases y <;> simp [plus, Nat.add_comm]
theorem less_comm (x y : Option Nat) : less x y = less y x := by
  cases x <;> cases y <;> simp [less, Nat.min_comm]
/-! ### Tables -/
structure Sq (n : Nat) (t : Table) : Prop where
  len : t.length = n
  row : ∀ u, u < n → (t.getD u []).length = n
theorem at_none_u {n : Nat} {t : Table} (s : Sq n t) {u v : Nat} (h : n ≤ u) : at_ t u v = none := by
  unfold at_
  rw [List.getD_eq_getElem?_getD (l := t), List.getElem?_eq_none (by rw [s.len]; exact h)]
  rfl
theorem at_none_v {n : Nat} {t : Table} (s : Sq n t) {u v : Nat} (hu : u < n) (h : n ≤ v) : at_ t u v = none := by
  unfold at_
  rw [List.getD_eq_getElem?_getD, List.getElem?_eq_none (by rw [s.row u hu]; exact h)]
  rfl
theorem sq_via {n : Nat} {t : Table} (s : Sq n t) (k : Nat) : Sq n (via t k) := by
  refine ⟨by simp [via, s.len], fun u hu => ?_⟩
  have hl : u < t.length := by rw [s.len]; exact hu
  have e := s.row u hu
  simp only [via, List.getD_eq_getElem?_getD, List.getElem?_map, List.getElem?_zipIdx, List.getElem?_eq_getElem hl, Option.map_some, Option.getD_some, List.length_map, List.length_zipIdx] at e ⊢
  exact e
theorem at_via {n : Nat} {t : Table} (s : Sq n t) (k : Nat) {u v : Nat} (hu : u < n) (hv : v < n) : at_ (via t k) u v = less (at_ t u v) (plus (at_ t u k) (at_ t k v)) := by
  have hl : u < t.length := by rw [s.len]; exact hu
  have e := s.row u hu
  simp only [List.getD_eq_getElem?_getD, List.getElem?_eq_getElem hl, Option.getD_some] at e
  have hv' : v < t[u].length := by rw [e]; exact hv
  have e1 : at_ t u v = t[u][v] := by
    simp only [at_, List.getD_eq_getElem?_getD, List.getElem?_eq_getElem hl, Option.getD_some, List.getElem?_eq_getElem hv']
  rw [e1]
  conv => lhs; unfold at_
  simp only [via, List.getD_eq_getElem?_getD, List.getElem?_map, List.getElem?_zipIdx, List.getElem?_eq_getElem hl, Option.map_some, Option.getD_some, List.getElem?_eq_getElem hv', Nat.zero_add]
theorem sq_start (n : Nat) (s : List Line) : Sq n (start n s) := by
  refine ⟨by simp [start], fun u hu => ?_⟩
  simp [start, List.getElem?_range hu]
theorem at_start (n : Nat) (s : List Line) {u v : Nat} (hu : u < n) (hv : v < n) : at_ (start n s) u v = if u = v then some 0 else (s.find? fun l => ends l u v).map Line.w := by
  simp [at_, start, List.getElem?_range hu, List.getElem?_range hv]
/-! ### Walks -/
/-- a net's lines: lesser place first, places there, no two join the same, none without length -/
structure Ok (n : Nat) (s : List Line) : Prop where
  ab : ∀ l ∈ s, l.a < l.b
  bn : ∀ l ∈ s, l.b < n
  uniq : s.Pairwise fun l m => ¬ (l.a = m.a ∧ l.b = m.b)
/-- a walk, its length, the places passed -/
inductive Wk (s : List Line) : Nat → Nat → Nat → List Nat → Prop
  | nil (u : Nat) : Wk s u u 0 [u]
  | cons {u x v d : Nat} {p : List Nat} {l : Line} (h : l ∈ s) (e : ends l u x = true) (r : Wk s x v d p) : Wk s u v (l.w + d) (u :: p)
theorem ends_iff {l : Line} {u v : Nat} : ends l u v = true ↔ (l.a = u ∧ l.b = v) ∨ (l.a = v ∧ l.b = u) := by
  simp [ends]
theorem ends_comm (l : Line) (u v : Nat) : ends l u v = ends l v u := by
  unfold ends
  exact Bool.or_comm ..
theorem Wk.app {s : List Line} {u x v d e : Nat} {p q : List Nat} (h : Wk s u x d p) (k : Wk s x v e q) : ∃ r, Wk s u v (d + e) r := by
  induction h with
  | nil => exact ⟨q, by rw [Nat.zero_add]; exact k⟩
  | cons hl he _ ih =>
    obtain ⟨r, hr⟩ := ih k
    exact ⟨_, by rw [Nat.add_assoc]; exact .cons hl he hr⟩
theorem Wk.rev {s : List Line} {u v d : Nat} {p : List Nat} (h : Wk s u v d p) : ∃ r, Wk s v u d r := by
  induction h with
  | nil u => exact ⟨_, .nil u⟩
  | @cons u x v d p l hl he _ ih =>
    obtain ⟨r, hr⟩ := ih
    obtain ⟨q, hq⟩ := hr.app (.cons hl (by rw [ends_comm]; exact he) (.nil u))
    exact ⟨q, by rw [Nat.add_comm]; exact hq⟩
theorem Wk.head {s : List Line} {u v d : Nat} {p : List Nat} (h : Wk s u v d p) : u ∈ p := by
  cases h <;> simp
/-- from a place on the way the rest of it -/
theorem Wk.from {s : List Line} {u v d : Nat} {p : List Nat} (h : Wk s u v d p) : ∀ x, x ∈ p → ∃ d' q, d' ≤ d ∧ Wk s x v d' q ∧ q.Sublist p := by
  induction h with
  | nil u =>
    intro x hx
    have : x = u := by simpa using hx
    subst this
    exact ⟨0, _, Nat.le_refl 0, .nil x, List.Sublist.refl _⟩
  | @cons u y v d p l hl he r ih =>
    intro x hx
    rcases List.mem_cons.mp hx with rfl | hx
    · exact ⟨_, _, Nat.le_refl _, .cons hl he r, List.Sublist.refl _⟩
    · obtain ⟨d', q, a, b, c⟩ := ih x hx
      exact ⟨d', q, by omega, b, c.cons u⟩
/-- a walk no longer that passes no place twice -/
theorem Wk.simple {s : List Line} {u v d : Nat} {p : List Nat} (h : Wk s u v d p) : ∃ d' q, d' ≤ d ∧ Wk s u v d' q ∧ q.Nodup := by
  induction h with
  | nil u => exact ⟨0, _, Nat.le_refl 0, .nil u, by simp⟩
  | @cons u y v d p l hl he r ih =>
    obtain ⟨d', q, a, b, c⟩ := ih
    by_cases hu : u ∈ q
    · obtain ⟨d2, q2, a2, b2, c2⟩ := b.from u hu
      exact ⟨d2, q2, by omega, b2, c.sublist c2⟩
    · exact ⟨l.w + d', u :: q, by omega, .cons hl he b, List.nodup_cons.mpr ⟨hu, c⟩⟩
theorem Wk.inN {n : Nat} {s : List Line} (o : Ok n s) {u v d : Nat} {p : List Nat} (h : Wk s u v d p) (hv : v < n) : ∀ x ∈ p, x < n := by
  induction h with
  | nil u =>
    intro x hx
    have : x = u := by simpa using hx
    subst this
    exact hv
  | @cons u y v d p l hl he r ih =>
    intro x hx
    rcases List.mem_cons.mp hx with rfl | hx
    · have h1 := o.ab l hl
      have h2 := o.bn l hl
      rcases ends_iff.mp he with ⟨e1, e2⟩ | ⟨e1, e2⟩ <;> omega
    · exact ih hv x hx
theorem pigeon : ∀ (n : Nat) (l : List Nat), l.Nodup → (∀ x ∈ l, x < n) → l.length ≤ n
  | 0, [], _, _ => Nat.le_refl 0
  | 0, x :: l, _, h => absurd (h x (by simp)) (by omega)
  | n + 1, l, hd, h => by
    by_cases hn : n ∈ l
    · have := pigeon n (l.erase n) (hd.erase n) fun x hx => by
        have := (hd.mem_erase_iff).mp hx
        have := h x this.2
        omega
      rw [List.length_erase_of_mem hn] at this
      omega
    · exact Nat.le_succ_of_le (pigeon n l hd fun x hx => by
        have := h x hx
        have : x ≠ n := fun e => hn (e ▸ hx)
        omega)
/-- how far it is at most, where a way leads -/
theorem Wk.short {M : Nat} {s : List Line} (hM : ∀ l ∈ s, l.w ≤ M) {u v d : Nat} {p : List Nat} (h : Wk s u v d p) : d + M ≤ M * p.length := by
  induction h with
  | nil u => simp
  | @cons u y v d p l hl he r ih =>
    have := hM l hl
    rw [List.length_cons, Nat.mul_succ]
    omega
/-! ### The table is the distances -/
structure Dist (s : List Line) (u v : Nat) (o : Option Nat) : Prop where
  snd : ∀ d, o = some d → ∃ p, Wk s u v d p
  cpl : ∀ d p, Wk s u v d p → Le o (some d)
theorem Dist.uniq {s : List Line} {u v : Nat} {o o' : Option Nat} (h : Dist s u v o) (k : Dist s u v o') : o = o' := by
  refine Le.antisymm (fun d e => ?_) (fun d e => ?_)
  · obtain ⟨p, hp⟩ := k.snd d e
    exact h.cpl d p hp d rfl
  · obtain ⟨p, hp⟩ := h.snd d e
    exact k.cpl d p hp d rfl
theorem Dist.symm {s : List Line} {u v : Nat} {o : Option Nat} (h : Dist s u v o) : Dist s v u o :=
  ⟨fun d e => (h.snd d e).elim fun _ q => q.rev, fun d _ q => q.rev.elim fun r hr => h.cpl d r hr⟩
/-- what is kept behind the first k places -/
structure Inv (n : Nat) (s : List Line) (k : Nat) (t : Table) : Prop where
  sq : Sq n t
  snd : ∀ u v, u < n → v < n → ∀ d, at_ t u v = some d → ∃ p, Wk s u v d p
  zero : ∀ u, u < n → at_ t u u = some 0
  line : ∀ l ∈ s, ∀ u v, ends l u v = true → Le (at_ t u v) (some l.w)
  tri : ∀ x, x < k → ∀ u v, u < n → v < n → Le (at_ t u v) (plus (at_ t u x) (at_ t x v))
theorem find_line {n : Nat} {s : List Line} (o : Ok n s) {l : Line} (h : l ∈ s) {u v : Nat} (e : ends l u v = true) : s.find? (fun l => ends l u v) = some l := by
  obtain ⟨ab, bn, un⟩ := o
  induction s with
  | nil => cases h
  | cons m r ih =>
    rcases List.mem_cons.mp h with rfl | h
    · exact List.find?_cons_of_pos e
    · have hm : ¬ ends m u v = true := fun em => by
        have h1 := List.rel_of_pairwise_cons un h
        have a1 := ab m (by simp)
        have a2 := ab l (by simp [h])
        rcases ends_iff.mp e with ⟨e1, e2⟩ | ⟨e1, e2⟩ <;> rcases ends_iff.mp em with ⟨e3, e4⟩ | ⟨e3, e4⟩ <;> omega
      rw [List.find?_cons_of_neg (p := fun l => ends l u v) hm]
      exact ih h (fun l hl => ab l (by simp [hl])) (fun l hl => bn l (by simp [hl])) un.of_cons
theorem inv_start {n : Nat} {s : List Line} (o : Ok n s) : Inv n s 0 (start n s) := by
  refine ⟨sq_start n s, fun u v hu hv d e => ?_, fun u hu => by rw [at_start n s hu hu, if_pos rfl], fun l hl u v e => ?_, fun x hx => absurd hx (Nat.not_lt_zero x)⟩
  · rw [at_start n s hu hv] at e
    by_cases c : u = v
    · rw [if_pos c] at e
      cases e
      subst c
      exact ⟨_, .nil u⟩
    · rw [if_neg c] at e
      cases f : s.find? (fun l => ends l u v) with
      | none => rw [f] at e; cases e
      | some l =>
        rw [f] at e
        cases e
        have := List.mem_of_find?_eq_some f
        have e2 : ends l u v = true := by simpa using List.find?_some f
        exact ⟨_, .cons this e2 (.nil v)⟩
  · have h1 := o.ab l hl
    have h2 := o.bn l hl
    have hb : u < n ∧ v < n ∧ u ≠ v := by
      rcases ends_iff.mp e with ⟨e1, e2⟩ | ⟨e1, e2⟩ <;> omega
    rw [at_start n s hb.1 hb.2.1, if_neg hb.2.2, find_line o hl e]
    exact Le.refl _
theorem inv_via {n : Nat} {s : List Line} (o : Ok n s) {k : Nat} {t : Table} (hk : k < n) (i : Inv n s k t) : Inv n s (k + 1) (via t k) := by
  obtain ⟨sq, snd, zero, line, tri⟩ := i
  have A : ∀ u v, u < n → v < n → at_ (via t k) u v = less (at_ t u v) (plus (at_ t u k) (at_ t k v)) := fun u v hu hv => at_via sq k hu hv
  have L1 : ∀ u v, u < n → v < n → Le (at_ (via t k) u v) (at_ t u v) := fun u v hu hv => by rw [A u v hu hv]; exact less_l _ _
  have L2 : ∀ u v, u < n → v < n → Le (at_ (via t k) u v) (plus (at_ t u k) (at_ t k v)) := fun u v hu hv => by rw [A u v hu hv]; exact less_r _ _
  refine ⟨sq_via sq k, fun u v hu hv d e => ?_, fun u hu => ?_, fun l hl u v e => ?_, fun x hx u v hu hv => ?_⟩
  · rw [A u v hu hv] at e
    rcases less_or (at_ t u v) (plus (at_ t u k) (at_ t k v)) with c | c <;> rw [c] at e
    · exact snd u v hu hv d e
    · obtain ⟨a, b, ha, hb, hs⟩ := plus_some e
      obtain ⟨p, hp⟩ := snd u k hu hk a ha
      obtain ⟨q, hq⟩ := snd k v hk hv b hb
      subst hs
      exact hp.app hq
  · have := L1 u u hu hu 0 (zero u hu)
    obtain ⟨e, he, le⟩ := this
    rw [he]
    exact congrArg some (by omega)
  · have h1 := o.ab l hl
    have h2 := o.bn l hl
    have hb : u < n ∧ v < n := by
      rcases ends_iff.mp e with ⟨e1, e2⟩ | ⟨e1, e2⟩ <;> omega
    exact (L1 u v hb.1 hb.2).trans (line l hl u v e)
  · have hxn : x < n := by omega
    have K1 : ∀ y, y < n → at_ (via t k) y k = at_ t y k := fun y hy => by
      refine Le.antisymm (L1 y k hy hk) ?_
      rw [A y k hy hk]
      rcases less_or (at_ t y k) (plus (at_ t y k) (at_ t k k)) with c | c <;> rw [c]
      · exact Le.refl _
      · exact le_plus_l _ _
    have K2 : ∀ y, y < n → at_ (via t k) k y = at_ t k y := fun y hy => by
      refine Le.antisymm (L1 k y hk hy) ?_
      rw [A k y hk hy]
      rcases less_or (at_ t k y) (plus (at_ t k k) (at_ t k y)) with c | c <;> rw [c]
      · exact Le.refl _
      · exact le_plus_r _ _
    by_cases c : x = k
    · subst c
      rw [K1 u hu, K2 v hv]
      exact L2 u v hu hv
    · have hxk : x < k := by omega
      rw [A u x hu hxn, A x v hxn hv]
      rcases less_or (at_ t u x) (plus (at_ t u k) (at_ t k x)) with c1 | c1 <;> rcases less_or (at_ t x v) (plus (at_ t x k) (at_ t k v)) with c2 | c2 <;> rw [c1, c2]
      · exact (L1 u v hu hv).trans (tri x hxk u v hu hv)
      · refine (L2 u v hu hv).trans ?_
        rw [← plus_assoc]
        exact plus_mono (tri x hxk u k hu hk) (Le.refl _)
      · refine (L2 u v hu hv).trans ?_
        rw [plus_assoc]
        exact plus_mono (Le.refl _) (tri x hxk k v hk hv)
      · refine (L2 u v hu hv).trans ?_
        rw [plus_assoc]
        refine plus_mono (Le.refl _) ?_
        exact (le_plus_r (at_ t x k) _).trans (le_plus_r (at_ t k x) _)
theorem inv_fold {n : Nat} {s : List Line} (o : Ok n s) : ∀ k, k ≤ n → Inv n s k ((List.range k).foldl via (start n s))
  | 0, _ => inv_start o
  | k + 1, h => by
    rw [List.range_succ, List.foldl_append]
    exact inv_via o (by omega) (inv_fold o k (by omega))
theorem inv_table {n : Nat} {s : List Line} (o : Ok n s) : Inv n s n (table n s) := inv_fold o n (Nat.le_refl n)
theorem dist_table {n : Nat} {s : List Line} (o : Ok n s) {u v : Nat} (hu : u < n) (hv : v < n) : Dist s u v (at_ (table n s) u v) := by
  have i := inv_table o
  refine ⟨i.snd u v hu hv, fun d p h => ?_⟩
  clear hu
  induction h with
  | nil u => rw [i.zero u hv]; exact Le.refl _
  | @cons u y v d p l hl he r ih =>
    have h1 := o.ab l hl
    have h2 := o.bn l hl
    have hb : u < n ∧ y < n := by
      rcases ends_iff.mp he with ⟨e1, e2⟩ | ⟨e1, e2⟩ <;> omega
    exact (i.tri y hb.2 u v hb.1 hv).trans (plus_mono (z := some l.w) (w := some d) (i.line l hl u y he) (ih hv))
theorem table_symm {n : Nat} {s : List Line} (o : Ok n s) {u v : Nat} (hu : u < n) (hv : v < n) : at_ (table n s) u v = at_ (table n s) v u :=
  (dist_table o hu hv).uniq (dist_table o hv hu).symm
theorem table_sq (n : Nat) (s : List Line) : Sq n (table n s) := by
  have : ∀ k, Sq n ((List.range k).foldl via (start n s)) := fun k => by
    induction k with
    | zero => exact sq_start n s
    | succ k ih =>
      rw [List.range_succ, List.foldl_append]
      exact sq_via ih k
  exact this n
/-- no distance is more than this -/
theorem table_most {n M : Nat} {s : List Line} (o : Ok n s) (hM : ∀ l ∈ s, l.w ≤ M) {u v d : Nat} (hu : u < n) (hv : v < n) (h : at_ (table n s) u v = some d) : d + M ≤ M * n := by
  have D := dist_table o hu hv
  obtain ⟨p, hp⟩ := D.snd d h
  obtain ⟨d', q, le, hq, nd⟩ := hp.simple
  obtain ⟨e, he, le2⟩ := D.cpl d' q hq d' rfl
  have h1 := hq.short hM
  have h2 := pigeon n q nd (hq.inN o hv)
  have h3 : M * q.length ≤ M * n := Nat.mul_le_mul_left M h2
  rw [h] at he
  cases he
  omega
end LL
namespace LL
open Kv402
/-! ### distances, as the program reckons them -/
def relax (f : List Nat) (l : Line) : List Nat :=
  let g := f.set l.a (min (f.getD l.a 0) (f.getD l.b 0 + l.w))
  g.set l.b (min (g.getD l.b 0) (g.getD l.a 0 + l.w))
def pass (s : List Line) (f : List Nat) : List Nat := s.foldl relax f
def rounds (s : List Line) (k : Nat) (f : List Nat) : List Nat := (List.range k).foldl (fun g _ => pass s g) f
def dists (n : Nat) (s : List Line) (u : Nat) : List Nat := rounds s (n - 1) ((List.replicate n 10000).set u 0)
theorem getD_set (f : List Nat) (i j v : Nat) (h : i < f.length) : (f.set i v).getD j 0 = if i = j then v else f.getD j 0 := by
  by_cases c : i = j
  · subst c
    simp [List.getD_eq_getElem?_getD, h]
  · simp [List.getD_eq_getElem?_getD, c]
structure Gd (n : Nat) (s : List Line) (u : Nat) (f : List Nat) : Prop where
  len : f.length = n
  top : ∀ x, x < n → f.getD x 0 ≤ 10000
  snd : ∀ x, x < n → f.getD x 0 < 10000 → ∃ p, Wk s x u (f.getD x 0) p
theorem gd_set {n : Nat} {s : List Line} {u : Nat} {f : List Nat} (g : Gd n s u f) {l : Line} (h : l ∈ s) {a b : Nat} (ha : a < n) (hb : b < n) (e : ends l a b = true) :
    Gd n s u (f.set a (min (f.getD a 0) (f.getD b 0 + l.w))) := by
  have hl : a < f.length := by rw [g.len]; exact ha
  refine ⟨by rw [List.length_set]; exact g.len, fun x hx => ?_, fun x hx => ?_⟩
  · rw [getD_set f a x _ hl]
    by_cases c : a = x
    · rw [if_pos c]
      have := g.top a ha
      omega
    · rw [if_neg c]
      exact g.top x hx
  · rw [getD_set f a x _ hl]
    by_cases c : a = x
    · rw [if_pos c]
      subst c
      intro lt
      rcases Nat.le_total (f.getD a 0) (f.getD b 0 + l.w) with m | m
      · rw [Nat.min_eq_left m] at lt ⊢
        exact g.snd a ha lt
      · rw [Nat.min_eq_right m] at lt ⊢
        obtain ⟨p, hp⟩ := g.snd b hb (by omega)
        exact ⟨_, by rw [Nat.add_comm]; exact .cons h e hp⟩
    · rw [if_neg c]
      exact g.snd x hx
theorem set_le {f : List Nat} {a v : Nat} (h : a < f.length) (x : Nat) : (f.set a (min (f.getD a 0) v)).getD x 0 ≤ f.getD x 0 := by
  rw [getD_set f a x _ h]
  by_cases c : a = x
  · subst c
    rw [if_pos rfl]
    exact Nat.min_le_left _ _
  · rw [if_neg c]
    exact Nat.le_refl _
theorem gd_relax {n : Nat} {s : List Line} (o : Ok n s) {u : Nat} {f : List Nat} (g : Gd n s u f) {l : Line} (h : l ∈ s) : Gd n s u (relax f l) ∧ (∀ x, (relax f l).getD x 0 ≤ f.getD x 0) ∧
    ∀ x y, ends l x y = true → (relax f l).getD x 0 ≤ f.getD y 0 + l.w := by
  have hab := o.ab l h
  have hb := o.bn l h
  have ha : l.a < n := by omega
  have e1 : ends l l.a l.b = true := by simp [ends]
  have e2 : ends l l.b l.a = true := by simp [ends]
  have g1 := gd_set g h ha hb e1
  have g2 := gd_set g1 h hb ha e2
  have la : l.a < f.length := by rw [g.len]; exact ha
  have lb : l.b < (f.set l.a (min (f.getD l.a 0) (f.getD l.b 0 + l.w))).length := by rw [g1.len]; exact hb
  have m1 := fun x => set_le (v := f.getD l.b 0 + l.w) la x
  have m2 := fun x => set_le (v := (f.set l.a (min (f.getD l.a 0) (f.getD l.b 0 + l.w))).getD l.a 0 + l.w) lb x
  refine ⟨g2, fun x => Nat.le_trans (m2 x) (m1 x), fun x y e => ?_⟩
  rcases ends_iff.mp e with ⟨rfl, rfl⟩ | ⟨rfl, rfl⟩
  · refine Nat.le_trans (m2 l.a) ?_
    rw [getD_set f l.a l.a _ la, if_pos rfl]
    exact Nat.min_le_right _ _
  · show (List.set _ l.b _).getD l.b 0 ≤ _
    rw [getD_set _ l.b l.b _ lb, if_pos rfl]
    refine Nat.le_trans (Nat.min_le_right _ _) ?_
    have := m1 l.a
    omega
theorem gd_pass {n : Nat} {s : List Line} (o : Ok n s) {u : Nat} : ∀ (r : List Line) (f : List Nat), (∀ l ∈ r, l ∈ s) → Gd n s u f → Gd n s u (pass r f) ∧ (∀ x, (pass r f).getD x 0 ≤ f.getD x 0) ∧
    ∀ l ∈ r, ∀ x y, ends l x y = true → (pass r f).getD x 0 ≤ f.getD y 0 + l.w
  | [], f, _, g => ⟨g, fun _ => Nat.le_refl _, fun l h => by cases h⟩
  | l :: r, f, hs, g => by
    obtain ⟨g1, m1, q1⟩ := gd_relax o g (hs l (by simp))
    obtain ⟨g2, m2, q2⟩ := gd_pass o r (relax f l) (fun k hk => hs k (by simp [hk])) g1
    refine ⟨g2, fun x => Nat.le_trans (m2 x) (m1 x), fun k hk x y e => ?_⟩
    rcases List.mem_cons.mp hk with rfl | hk
    · exact Nat.le_trans (m2 x) (q1 x y e)
    · have := q2 k hk x y e
      have := m1 y
      show (pass r (relax f l)).getD x 0 ≤ _
      omega
theorem rounds_succ (s : List Line) (k : Nat) (f : List Nat) : rounds s (k + 1) f = pass s (rounds s k f) := by
  unfold rounds
  rw [List.range_succ, List.foldl_append]
  rfl
theorem gd_start {n : Nat} (s : List Line) {u : Nat} (hu : u < n) : Gd n s u ((List.replicate n 10000).set u 0) ∧ ((List.replicate n 10000).set u 0).getD u 0 = 0 := by
  have hl : u < (List.replicate n 10000).length := by simpa using hu
  have e : ∀ x, x < n → (List.replicate n 10000).getD x 0 = 10000 := fun x hx => by simp [List.getD_eq_getElem?_getD, hx]
  refine ⟨⟨by simp, fun x hx => ?_, fun x hx lt => ?_⟩, by rw [getD_set _ _ _ _ hl, if_pos rfl]⟩
  · rw [getD_set _ _ _ _ hl]
    by_cases c : u = x
    · rw [if_pos c]; omega
    · rw [if_neg c, e x hx]; omega
  · rw [getD_set _ _ _ _ hl] at lt ⊢
    by_cases c : u = x
    · rw [if_pos c]
      subst c
      exact ⟨_, .nil u⟩
    · rw [if_neg c, e x hx] at lt
      omega
theorem gd_rounds {n : Nat} {s : List Line} (o : Ok n s) {u : Nat} (hu : u < n) : ∀ k, Gd n s u (rounds s k ((List.replicate n 10000).set u 0)) ∧
    ∀ x d p, Wk s x u d p → p.length ≤ k + 1 → (rounds s k ((List.replicate n 10000).set u 0)).getD x 0 ≤ d
  | 0 => by
    obtain ⟨g, z⟩ := gd_start s hu
    refine ⟨g, fun x d p h hp => ?_⟩
    cases h with
    | nil => exact Nat.le_of_eq z
    | cons _ _ r =>
      have h1 := List.length_pos_of_mem r.head
      simp only [List.length_cons] at hp
      omega
  | k + 1 => by
    obtain ⟨g, c⟩ := gd_rounds o hu k
    rw [rounds_succ]
    obtain ⟨g2, m, q⟩ := gd_pass o s _ (fun l h => h) g
    refine ⟨g2, fun x d p h hp => ?_⟩
    cases h with
    | nil => exact Nat.le_trans (m u) (c u 0 _ (.nil u) (by simp))
    | cons hl he r =>
      simp only [List.length_cons] at hp
      have h1 := c _ _ _ r (by omega)
      have h2 := q _ hl _ _ he
      omega
/-- what the program's list of distances holds -/
theorem dists_is {n : Nat} {s : List Line} (o : Ok n s) (hM : ∀ l ∈ s, l.w ≤ 99) (hn : n ≤ 8) {u : Nat} (hu : u < n) :
    (dists n s u).length = n ∧ ∀ x, x < n → (dists n s u).getD x 0 = (at_ (table n s) u x).getD 10000 := by
  obtain ⟨g, c⟩ := gd_rounds o hu (n - 1)
  refine ⟨g.len, fun x hx => ?_⟩
  show (rounds s (n - 1) ((List.replicate n 10000).set u 0)).getD x 0 = _
  have D := (dist_table o hu hx).symm
  cases e : at_ (table n s) u x with
  | none =>
    rw [e] at D
    show _ = 10000
    have h1 := g.top x hx
    by_cases lt : (rounds s (n - 1) ((List.replicate n 10000).set u 0)).getD x 0 < 10000
    · obtain ⟨p, hp⟩ := g.snd x hx lt
      obtain ⟨_, he, _⟩ := D.cpl _ p hp _ rfl
      cases he
    · omega
  | some d =>
    rw [e] at D
    show _ = d
    have hm := table_most o hM hu hx e
    obtain ⟨p, hp⟩ := D.snd d rfl
    obtain ⟨d', q, le, hq, nd⟩ := hp.simple
    have h2 := pigeon n q nd (hq.inN o hu)
    have h3 := c x d' q hq (by omega)
    have h4 : 99 * n ≤ 99 * 8 := Nat.mul_le_mul_left 99 hn
    obtain ⟨p', hp'⟩ := g.snd x hx (by omega)
    obtain ⟨_, he, le2⟩ := D.cpl _ p' hp' _ rfl
    cases he
    omega
end LL
namespace LL
open Kv402
theorem Ok.sub {n : Nat} {s r : List Line} (o : Ok n s) (h : r.Sublist s) : Ok n r :=
  ⟨fun l hl => o.ab l (h.subset hl), fun l hl => o.bn l (h.subset hl), o.uniq.sublist h⟩
/-! ### the places beside one that are nearer -/
def nearTurn (f : List Nat) (u : Nat) (acc : List Nat) (l : Line) : List Nat :=
  let a1 := if l.a = u ∧ f.getD l.b 0 + l.w = f.getD u 0 then acc ++ [l.b] else acc
  if l.b = u ∧ f.getD l.a 0 + l.w = f.getD u 0 then a1 ++ [l.a] else a1
def near (s : List Line) (f : List Nat) (u : Nat) : List Nat := s.foldl (nearTurn f u) []
theorem mem_nearTurn {f : List Nat} {u y : Nat} {acc : List Nat} {l : Line} : y ∈ nearTurn f u acc l ↔ y ∈ acc ∨ (ends l u y = true ∧ f.getD y 0 + l.w = f.getD u 0) := by
  unfold nearTurn
  rw [ends_iff]
  by_cases c1 : l.a = u ∧ f.getD l.b 0 + l.w = f.getD u 0 <;> by_cases c2 : l.b = u ∧ f.getD l.a 0 + l.w = f.getD u 0
  · simp only [if_pos c1, if_pos c2, List.mem_append, List.mem_singleton]
    constructor
    · rintro ((h | h) | h)
      · exact .inl h
      · subst h; exact .inr ⟨.inl ⟨c1.1, rfl⟩, c1.2⟩
      · subst h; exact .inr ⟨.inr ⟨rfl, c2.1⟩, c2.2⟩
    · rintro (h | ⟨⟨_, h⟩ | ⟨h, _⟩, _⟩)
      · exact .inl (.inl h)
      · exact .inl (.inr h.symm)
      · exact .inr h.symm
  · simp only [if_pos c1, if_neg c2, List.mem_append, List.mem_singleton]
    constructor
    · rintro (h | h)
      · exact .inl h
      · subst h; exact .inr ⟨.inl ⟨c1.1, rfl⟩, c1.2⟩
    · rintro (h | ⟨⟨_, h⟩ | ⟨h, h2⟩, h3⟩)
      · exact .inl h
      · exact .inr h.symm
      · subst h; exact absurd ⟨h2, h3⟩ c2
  · simp only [if_neg c1, if_pos c2, List.mem_append, List.mem_singleton]
    constructor
    · rintro (h | h)
      · exact .inl h
      · subst h; exact .inr ⟨.inr ⟨rfl, c2.1⟩, c2.2⟩
    · rintro (h | ⟨⟨h2, h⟩ | ⟨h, _⟩, h3⟩)
      · exact .inl h
      · subst h; exact absurd ⟨h2, h3⟩ c1
      · exact .inr h.symm
  · simp only [if_neg c1, if_neg c2]
    constructor
    · intro h; exact .inl h
    · rintro (h | ⟨⟨h2, h⟩ | ⟨h, h2⟩, h3⟩)
      · exact h
      · subst h; exact absurd ⟨h2, h3⟩ c1
      · subst h; exact absurd ⟨h2, h3⟩ c2
theorem mem_near_acc {f : List Nat} {u y : Nat} : ∀ (s : List Line) (acc : List Nat), y ∈ s.foldl (nearTurn f u) acc ↔ y ∈ acc ∨ ∃ l ∈ s, ends l u y = true ∧ f.getD y 0 + l.w = f.getD u 0
  | [], acc => by simp
  | l :: s, acc => by
    rw [List.foldl_cons, mem_near_acc s, mem_nearTurn]
    constructor
    · rintro ((h | h) | ⟨k, hk, h⟩)
      · exact .inl h
      · exact .inr ⟨l, by simp, h⟩
      · exact .inr ⟨k, by simp [hk], h⟩
    · rintro (h | ⟨k, hk, h⟩)
      · exact .inl (.inl h)
      · rcases List.mem_cons.mp hk with rfl | hk
        · exact .inl (.inr h)
        · exact .inr ⟨k, hk, h⟩
theorem mem_near {f : List Nat} {u y : Nat} {s : List Line} : y ∈ near s f u ↔ ∃ l ∈ s, ends l u y = true ∧ f.getD y 0 + l.w = f.getD u 0 := by
  unfold near
  rw [mem_near_acc]
  simp
theorem nearTurn_length (f : List Nat) (u : Nat) (acc : List Nat) (l : Line) : (nearTurn f u acc l).length ≤ acc.length + 2 := by
  have h : ∀ (c : Prop) [Decidable c] (x : List Nat) (y : Nat), (if c then x ++ [y] else x).length ≤ x.length + 1 := fun c _ x y => by
    by_cases k : c
    · rw [if_pos k]; simp
    · rw [if_neg k]; omega
  refine Nat.le_trans (h _ _ _) ?_
  exact Nat.succ_le_succ (h _ _ _)
/-- everything known of a net -/
structure Net8 (g : Net) : Prop where
  n1 : 1 ≤ g.n
  n8 : g.n ≤ 8
  ok : Ok g.n g.lines
  w1 : ∀ l ∈ g.lines, 1 ≤ l.w
  w99 : ∀ l ∈ g.lines, l.w ≤ 99
section
variable {g : Net} (N : Net8 g)
include N
theorem Net8.tab {u v : Nat} (hu : u < g.n) (hv : v < g.n) : Dist g.lines u v (at_ g.table u v) := dist_table N.ok hu hv
theorem Net8.sym {u v : Nat} (hu : u < g.n) (hv : v < g.n) : at_ g.table u v = at_ g.table v u := table_symm N.ok hu hv
theorem Net8.most {u v d : Nat} (hu : u < g.n) (hv : v < g.n) (h : at_ g.table u v = some d) : d ≤ 693 := by
  have h1 := table_most N.ok N.w99 hu hv h
  have h2 := N.n8
  have h3 : 99 * g.n ≤ 99 * 8 := Nat.mul_le_mul_left 99 h2
  omega
theorem Net8.far {v x : Nat} (hv : v < g.n) (hx : x < g.n) : (dists g.n g.lines v).getD x 0 = (at_ g.table x v).getD 10000 := by
  rw [(dists_is N.ok N.w99 N.n8 hv).2 x hx]
  exact congrArg (·.getD 10000) (N.sym hv hx)
theorem Net8.both {l : Line} (h : l ∈ g.lines) {u y : Nat} (e : ends l u y = true) : u < g.n ∧ y < g.n ∧ u ≠ y := by
  have h1 := N.ok.ab l h
  have h2 := N.ok.bn l h
  rcases ends_iff.mp e with ⟨e1, e2⟩ | ⟨e1, e2⟩ <;> omega
/-- the test of the specification's step -/
def onWay (g : Net) (u v x : Nat) : Bool := g.lines.any fun l => ends l u x && plus (some l.w) (at_ g.table x v) == at_ g.table u v && (at_ g.table u v).isSome
omit N in
theorem step_find (u v : Nat) : g.step g.table u v = (List.range g.n).find? (onWay g u v) := rfl
theorem Net8.onWay_iff {u v y d : Nat} (hv : v < g.n) (hd : at_ g.table u v = some d) (hu : u < g.n) : onWay g u v y = true ↔ y ∈ near g.lines (dists g.n g.lines v) u := by
  unfold onWay
  rw [mem_near, List.any_eq_true]
  have fu : (dists g.n g.lines v).getD u 0 = d := by rw [N.far hv hu, hd]; rfl
  have hm := N.most hu hv hd
  constructor
  · rintro ⟨l, hl, h⟩
    simp only [Bool.and_eq_true, beq_iff_eq] at h
    obtain ⟨⟨e, p⟩, _⟩ := h
    obtain ⟨_, hy, _⟩ := N.both hl e
    rw [hd] at p
    obtain ⟨a, b, ha, hb, hs⟩ := plus_some p
    cases ha
    refine ⟨l, hl, e, ?_⟩
    rw [fu, N.far hv hy, hb]
    show b + l.w = d
    omega
  · rintro ⟨l, hl, e, p⟩
    obtain ⟨_, hy, _⟩ := N.both hl e
    refine ⟨l, hl, ?_⟩
    rw [fu, N.far hv hy] at p
    cases q : at_ g.table y v with
    | none =>
      rw [q] at p
      have : 10000 + l.w = d := p
      omega
    | some b =>
      rw [q] at p
      have : b + l.w = d := p
      have pe : plus (some l.w) (some b) = some d := congrArg some (by omega)
      simp [e, hd, pe]
omit N in
theorem find_least {P : Nat → Bool} {m : Nat} : ∀ (n : Nat), m < n → P m = true → (∀ y, y < n → P y = true → m ≤ y) → (List.range n).find? P = some m
  | 0, h, _, _ => absurd h (Nat.not_lt_zero m)
  | n + 1, h, hm, hl => by
    rw [List.range_succ, List.find?_append]
    by_cases c : m < n
    · rw [find_least n c hm fun y hy => hl y (by omega)]
      rfl
    · have e : m = n := by omega
      subst e
      have : (List.range m).find? P = none := by
        rw [List.find?_eq_none]
        intro y hy hp
        have hy := List.mem_range.mp hy
        have := hl y (by omega) hp
        omega
      rw [this]
      simp [hm]
/-- the least of the nearer places is the specification's step -/
theorem Net8.step_is {u v d m : Nat} (hu : u < g.n) (hv : v < g.n) (hd : at_ g.table u v = some d) (hm : m ∈ near g.lines (dists g.n g.lines v) u) (hl : ∀ y ∈ near g.lines (dists g.n g.lines v) u, m ≤ y) : g.step g.table u v = some m := by
  rw [step_find]
  have hm' := (N.onWay_iff hv hd hu).mpr hm
  obtain ⟨l, hl2, e, _⟩ := mem_near.mp hm
  exact find_least g.n (N.both hl2 e).2.1 hm' fun y _ hp => hl y ((N.onWay_iff hv hd hu).mp hp)
omit N in
theorem step_none {u v : Nat} (h : at_ g.table u v = none) : g.step g.table u v = none := by
  rw [step_find, List.find?_eq_none]
  intro x _ hp
  unfold onWay at hp
  rw [List.any_eq_true] at hp
  obtain ⟨l, _, h2⟩ := hp
  rw [h] at h2
  simp at h2
theorem Net8.near_ne {u v d : Nat} (hu : u < g.n) (hv : v < g.n) (hd : at_ g.table u v = some d) (c : u ≠ v) : ∃ y, y ∈ near g.lines (dists g.n g.lines v) u := by
  obtain ⟨p, hp⟩ := (N.tab hu hv).snd d hd
  cases hp with
  | nil => exact absurd rfl c
  | @cons _ x _ e q l hl he r =>
    obtain ⟨_, hx, _⟩ := N.both hl he
    obtain ⟨k, hk, le⟩ := (N.tab hx hv).cpl e q r e rfl
    obtain ⟨q2, hq2⟩ := (N.tab hx hv).snd k hk
    obtain ⟨d2, hd2, le2⟩ := (N.tab hu hv).cpl _ _ (Wk.cons hl he hq2) _ rfl
    rw [hd] at hd2
    cases hd2
    refine ⟨x, mem_near.mpr ⟨l, hl, he, ?_⟩⟩
    rw [N.far hv hx, N.far hv hu, hk, hd]
    show k + l.w = l.w + e
    omega
theorem Net8.step_spec {u v x d : Nat} (hu : u < g.n) (hv : v < g.n) (hd : at_ g.table u v = some d) (h : g.step g.table u v = some x) : x < g.n ∧ ∃ e, at_ g.table x v = some e ∧ e < d := by
  rw [step_find] at h
  have hp : onWay g u v x = true := List.find?_some h
  obtain ⟨l, hl, he, hw⟩ := mem_near.mp ((N.onWay_iff hv hd hu).mp hp)
  obtain ⟨_, hx, _⟩ := N.both hl he
  refine ⟨hx, ?_⟩
  have hm := N.most hu hv hd
  have w1 := N.w1 l hl
  rw [N.far hv hx, N.far hv hu, hd] at hw
  cases q : at_ g.table x v with
  | none =>
    rw [q] at hw
    have : 10000 + l.w = d := hw
    omega
  | some b =>
    rw [q] at hw
    have : b + l.w = d := hw
    exact ⟨b, rfl, by omega⟩
/-! ### the way -/
omit N in
inductive Path (g : Net) (v : Nat) : Nat → List Nat → Prop
  | nil : Path g v v [v]
  | cons {u x : Nat} {p : List Nat} (c : u ≠ v) (h : g.step g.table u v = some x) (r : Path g v x p) : Path g v u (u :: p)
theorem Net8.path {v : Nat} (hv : v < g.n) : ∀ (d u : Nat), u < g.n → at_ g.table u v = some d → ∃ p, Path g v u p := by
  intro d
  induction d using Nat.strongRecOn with
  | ind d ih =>
    intro u hu hd
    by_cases c : u = v
    · subst c
      exact ⟨_, .nil⟩
    · obtain ⟨y, hy⟩ := N.near_ne hu hv hd c
      have hs : ∃ x, g.step g.table u v = some x := by
        cases e : g.step g.table u v with
        | some x => exact ⟨x, rfl⟩
        | none =>
          rw [step_find, List.find?_eq_none] at e
          obtain ⟨l, hl, he, _⟩ := mem_near.mp hy
          exact absurd ((N.onWay_iff hv hd hu).mpr hy) (e y (List.mem_range.mpr (N.both hl he).2.1))
      obtain ⟨x, hx⟩ := hs
      obtain ⟨hxn, e, he, lt⟩ := N.step_spec hu hv hd hx
      obtain ⟨p, hp⟩ := ih e lt x hxn he
      exact ⟨_, .cons c hx hp⟩
theorem Net8.path_nodup {v : Nat} (hv : v < g.n) {u : Nat} {p : List Nat} (h : Path g v u p) : ∀ d, u < g.n → at_ g.table u v = some d → p.Nodup ∧ ∀ y ∈ p, y < g.n ∧ ∃ e, at_ g.table y v = some e ∧ e ≤ d := by
  induction h with
  | nil =>
    intro d _ hd
    refine ⟨by simp, fun y hy => ?_⟩
    have : y = v := by simpa using hy
    subst this
    exact ⟨hv, d, hd, Nat.le_refl d⟩
  | @cons u x p c hx r ih =>
    intro d hu hd
    obtain ⟨hxn, e, he, lt⟩ := N.step_spec hu hv hd hx
    obtain ⟨nd, all⟩ := ih e hxn he
    refine ⟨List.nodup_cons.mpr ⟨fun hm => ?_, nd⟩, fun y hy => ?_⟩
    · obtain ⟨_, k, hk, le⟩ := all u hm
      rw [hd] at hk
      cases hk
      omega
    · rcases List.mem_cons.mp hy with rfl | hy
      · exact ⟨hu, d, hd, Nat.le_refl d⟩
      · obtain ⟨a, k, hk, le⟩ := all y hy
        exact ⟨a, k, hk, by omega⟩
omit N in
theorem path_pos {v u : Nat} {p : List Nat} (h : Path g v u p) : 0 < p.length := by
  cases h <;> simp
omit N in
theorem path_go {v u : Nat} {p : List Nat} (h : Path g v u p) : ∀ f, p.length ≤ f + 1 → g.go g.table v f u = p := by
  induction h with
  | nil =>
    intro f _
    cases f with
    | zero => rfl
    | succ f => exact if_pos rfl
  | @cons u x p c hx r ih =>
    intro f hf
    have := path_pos r
    rw [List.length_cons] at hf
    cases f with
    | zero => omega
    | succ f =>
      show (if u = v then [u] else match g.step g.table u v with
        | none => [u]
        | some x => u :: g.go g.table v f x) = u :: p
      rw [if_neg c, hx]
      exact congrArg (u :: ·) (ih f (by omega))
/-- what the specification tells of the way -/
theorem Net8.way {u v d : Nat} (hu : u < g.n) (hv : v < g.n) (hd : at_ g.table u v = some d) : ∃ p, Path g v u p ∧ g.go g.table v g.n u = p ∧ p.length ≤ g.n := by
  obtain ⟨p, hp⟩ := N.path hv d u hu hd
  obtain ⟨nd, all⟩ := N.path_nodup hv hp d hu hd
  have := pigeon g.n p nd fun y hy => (all y hy).1
  exact ⟨p, hp, path_go hp g.n (by omega), this⟩
end
/-! ### the lines kept -/
def keepTurn (n t : Nat) (acc : List Line) (l : Line) : List Line := if t * l.w < (dists n acc l.a).getD l.b 0 then acc ++ [l] else acc
def keep (n : Nat) (s : List Line) (t : Nat) : List Line := s.foldl (keepTurn n t) []
theorem keep_acc {n t : Nat} (hn : n ≤ 8) (ht : t ≤ 9) : ∀ (s acc : List Line), Ok n (acc ++ s) → (∀ l ∈ acc ++ s, l.w ≤ 99) →
    s.foldl (keepTurn n t) acc = s.foldl (fun s l => if within t (at_ (table n s) l.a l.b) (some l.w) then s else s ++ [l]) acc ∧ (s.foldl (keepTurn n t) acc).Sublist (acc ++ s)
  | [], acc, _, _ => ⟨rfl, by simp⟩
  | l :: s, acc, o, hw => by
    have sb : acc.Sublist (acc ++ l :: s) := List.sublist_append_left acc _
    have ol : l ∈ acc ++ l :: s := by simp
    have hb := o.bn l ol
    have ha := o.ab l ol
    have oa := o.sub sb
    have e := (dists_is oa (fun k hk => hw k (sb.subset hk)) hn (u := l.a) (by omega)).2 l.b hb
    have w9 := hw l ol
    have tw : t * l.w ≤ 9 * 99 := Nat.mul_le_mul ht w9
    have key : keepTurn n t acc l = if within t (at_ (table n acc) l.a l.b) (some l.w) then acc else acc ++ [l] := by
      unfold keepTurn
      rw [e]
      cases q : at_ (table n acc) l.a l.b with
      | none =>
        show (if t * l.w < 10000 then acc ++ [l] else acc) = if false = true then acc else acc ++ [l]
        rw [if_pos (by omega), if_neg Bool.false_ne_true]
      | some d =>
        show (if t * l.w < d then acc ++ [l] else acc) = if decide (d ≤ t * l.w) = true then acc else acc ++ [l]
        by_cases c : t * l.w < d
        · rw [if_pos c, if_neg (by simp; omega)]
        · rw [if_neg c, if_pos (by simp; omega)]
    rw [List.foldl_cons, List.foldl_cons, ← key]
    have sub : (keepTurn n t acc l ++ s).Sublist (acc ++ l :: s) := by
      unfold keepTurn
      by_cases c : t * l.w < (dists n acc l.a).getD l.b 0
      · rw [if_pos c]
        simp
      · rw [if_neg c]
        exact (List.Sublist.refl acc).append (List.sublist_cons_self l s)
    obtain ⟨h1, h2⟩ := keep_acc hn ht s (keepTurn n t acc l) (o.sub sub) fun k hk => hw k (sub.subset hk)
    exact ⟨h1, h2.trans sub⟩
theorem Net8.kept {g : Net} (N : Net8 g) {t : Nat} (ht : t ≤ 9) : keep g.n g.lines t = g.kept t ∧ (g.kept t).Sublist g.lines := by
  obtain ⟨h1, h2⟩ := keep_acc N.n8 ht g.lines [] N.ok N.w99
  have e : keep g.n g.lines t = g.kept t := h1
  refine ⟨e, ?_⟩
  rw [← e]
  exact h2
theorem Net8.sub {g : Net} (N : Net8 g) {s : List Line} (h : s.Sublist g.lines) : Net8 ⟨g.n, s⟩ :=
  ⟨N.n1, N.n8, N.ok.sub h, fun l hl => N.w1 l (h.subset hl), fun l hl => N.w99 l (h.subset hl)⟩
end LL
namespace LL
open Kv402
/-! ### the lines' order -/
def key (l : Line) : Nat := l.w * 10000 + l.a * 100 + l.b
abbrev KLe (l m : Line) : Prop := key l ≤ key m
/-- small places -/
def Sm (l : Line) : Prop := l.a < 100 ∧ l.b < 100
theorem before_key {l m : Line} (hl : Sm l) (hm : Sm m) : before l m = true ↔ key l < key m := by
  obtain ⟨a1, b1⟩ := hl
  obtain ⟨a2, b2⟩ := hm
  unfold before key
  simp only [Bool.or_eq_true, Bool.and_eq_true, decide_eq_true_eq, beq_iff_eq]
  omega
theorem key_inj {l m : Line} (hl : Sm l) (hm : Sm m) (h : key l = key m) : l = m := by
  obtain ⟨a1, b1⟩ := hl
  obtain ⟨a2, b2⟩ := hm
  obtain ⟨x, y, z⟩ := l
  obtain ⟨x', y', z'⟩ := m
  unfold key at h
  simp only at h a1 b1 a2 b2
  have e1 : z = z' := by omega
  have e2 : x = x' := by omega
  have e3 : y = y' := by omega
  subst e1 e2 e3
  rfl
theorem put_perm (l : Line) : ∀ r, (put l r).Perm (r ++ [l])
  | [] => List.Perm.refl _
  | m :: r => by
    unfold put
    by_cases c : before l m = true
    · rw [if_pos c]
      exact (List.perm_append_singleton l (m :: r)).symm
    · rw [if_neg c]
      exact (put_perm l r).cons m
theorem put_sorted {l : Line} (hl : Sm l) : ∀ {r : List Line}, (∀ m ∈ r, Sm m) → r.Pairwise KLe → (put l r).Pairwise KLe
  | [], _, _ => List.pairwise_singleton _ _
  | m :: r, hs, hp => by
    have hm := hs m (by simp)
    unfold put
    by_cases c : before l m = true
    · rw [if_pos c]
      have k1 := (before_key hl hm).mp c
      refine List.pairwise_cons.mpr ⟨fun x hx => ?_, hp⟩
      rcases List.mem_cons.mp hx with rfl | hx
      · exact Nat.le_of_lt k1
      · have := List.rel_of_pairwise_cons hp hx
        exact Nat.le_trans (Nat.le_of_lt k1) this
    · rw [if_neg c]
      have k1 : key m ≤ key l := Nat.le_of_not_lt fun h => c ((before_key hl hm).mpr h)
      refine List.pairwise_cons.mpr ⟨fun x hx => ?_, put_sorted hl (fun y hy => hs y (by simp [hy])) hp.of_cons⟩
      have hx' := (put_perm l r).mem_iff.mp hx
      rcases List.mem_append.mp hx' with h | h
      · exact List.rel_of_pairwise_cons hp h
      · have : x = l := by simpa using h
        subst this
        exact k1
theorem sorted_eq : ∀ {r s : List Line}, (∀ m ∈ r, Sm m) → r.Pairwise KLe → s.Pairwise KLe → r.Perm s → r = s
  | [], s, _, _, _, h => (List.nil_perm.mp h).symm
  | x :: r, [], _, _, _, h => by
    have := h.length_eq
    simp at this
  | x :: r, y :: s, hs, h1, h2, h => by
    have hx : x ∈ y :: s := h.mem_iff.mp (by simp)
    have hy : y ∈ x :: r := h.mem_iff.mpr (by simp)
    have k1 : key y ≤ key x := by
      rcases List.mem_cons.mp hx with rfl | hx
      · exact Nat.le_refl _
      · exact List.rel_of_pairwise_cons h2 hx
    have k2 : key x ≤ key y := by
      rcases List.mem_cons.mp hy with rfl | hy
      · exact Nat.le_refl _
      · exact List.rel_of_pairwise_cons h1 hy
    have e : x = y := key_inj (hs x (by simp)) (hs y hy) (Nat.le_antisymm k2 k1)
    subst e
    rw [sorted_eq (fun m hm => hs m (by simp [hm])) h1.of_cons h2.of_cons (List.Perm.cons_inv h)]
/-- sorted gives what put gives -/
theorem put_eq {l : Line} (hl : Sm l) {r s : List Line} (hr : ∀ m ∈ r, Sm m) (h : r.Pairwise KLe) (hs : s.Pairwise KLe) (p : s.Perm (r ++ [l])) : s = put l r := by
  have p2 := p.trans (put_perm l r).symm
  refine sorted_eq (fun m hm => ?_) hs (put_sorted hl hr h) p2
  have := p.mem_iff.mp hm
  rcases List.mem_append.mp this with h | h
  · exact hr m h
  · have : m = l := by simpa using h
    subst this
    exact hl
/-! ### a net that stands -/
structure Good (g : Net) : Prop extends Net8 g where
  ord : g.lines.Pairwise KLe
  few : g.lines.length ≤ 14
theorem Good.sm {g : Net} (G : Good g) : ∀ m ∈ g.lines, Sm m := fun m hm => by
  have h1 := G.ok.ab m hm
  have h2 := G.ok.bn m hm
  have h3 := G.n8
  exact ⟨by omega, by omega⟩
theorem Good.sub {g : Net} (G : Good g) {s : List Line} (h : s.Sublist g.lines) : Good { g with lines := s } :=
  { toNet8 := G.toNet8.sub h, ord := G.ord.sublist h, few := Nat.le_trans h.length_le G.few }
theorem good_new {n : Nat} (h1 : 1 ≤ n) (h8 : n ≤ 8) : Good ⟨n, []⟩ :=
  { n1 := h1, n8 := h8, ok := ⟨fun _ h => (by cases h), fun _ h => (by cases h), List.Pairwise.nil⟩, w1 := fun _ h => (by cases h), w99 := fun _ h => (by cases h), ord := List.Pairwise.nil, few := Nat.zero_le _ }
/-- a line put -/
theorem good_put {g : Net} (G : Good g) {x y w : Nat} (hx : x < g.n) (hy : y < g.n) (hxy : x ≠ y) (w1 : 1 ≤ w) (w99 : w ≤ 99) (hl : (g.lines.filter fun m => !ends m x y).length < 14) :
    Good { g with lines := put ⟨min x y, max x y, w⟩ (g.lines.filter fun m => !ends m x y) } := by
  have sub : (g.lines.filter fun m => !ends m x y).Sublist g.lines := List.filter_sublist
  have G2 := G.sub sub
  have pm := put_perm ⟨min x y, max x y, w⟩ (g.lines.filter fun m => !ends m x y)
  have mem : ∀ m, m ∈ put ⟨min x y, max x y, w⟩ (g.lines.filter fun m => !ends m x y) → m ∈ (g.lines.filter fun m => !ends m x y) ∨ m = ⟨min x y, max x y, w⟩ := fun m hm => by
    rcases List.mem_append.mp (pm.mem_iff.mp hm) with h | h
    · exact .inl h
    · exact .inr (by simpa using h)
  have n8 := G.n8
  refine { n1 := G.n1, n8 := G.n8, ok := ⟨fun m hm => ?_, fun m hm => ?_, ?_⟩, w1 := fun m hm => ?_, w99 := fun m hm => ?_, ord := put_sorted ⟨by simp only; omega, by simp only; omega⟩ G2.sm G2.ord, few := ?_ }
  · rcases mem m hm with h | rfl
    · exact G2.ok.ab m h
    · simp only; omega
  · rcases mem m hm with h | rfl
    · exact G2.ok.bn m h
    · simp only; omega
  · refine (pm.pairwise_iff (R := fun (l m : Line) => ¬ (l.a = m.a ∧ l.b = m.b)) (fun h z => h ⟨z.1.symm, z.2.symm⟩)).mpr ?_
    rw [List.pairwise_append]
    refine ⟨G2.ok.uniq, List.pairwise_singleton _ _, fun a ha b hb => ?_⟩
    have : b = ⟨min x y, max x y, w⟩ := by simpa using hb
    subst this
    have h1 := (List.mem_filter.mp ha).2
    rintro ⟨e1, e2⟩
    simp only at e1 e2
    have : ends a x y = true := by
      rw [ends_iff]
      omega
    rw [this] at h1
    cases h1
  · rcases mem m hm with h | rfl
    · exact G2.w1 m h
    · exact w1
  · rcases mem m hm with h | rfl
    · exact G2.w99 m h
    · exact w99
  · show (put _ _).length ≤ 14
    rw [pm.length_eq, List.length_append, List.length_singleton]
    omega
end LL
namespace LL
open Kv402
/-! ### rounds that change nothing -/
theorem rounds_stop {s : List Line} {f : List Nat} {i : Nat} (h : pass s (rounds s i f) = rounds s i f) : ∀ k, rounds s (i + k) f = rounds s i f
  | 0 => rfl
  | k + 1 => by rw [← Nat.add_assoc, rounds_succ, rounds_stop h k, h]
/-! ### joined at all -/
def Conn (s : List Line) (u v : Nat) : Prop := ∃ d p, Wk s u v d p
theorem Conn.refl (s : List Line) (u : Nat) : Conn s u u := ⟨0, _, .nil u⟩
theorem Conn.symm {s : List Line} {u v : Nat} : Conn s u v → Conn s v u := fun ⟨d, _, h⟩ => h.rev.elim fun r hr => ⟨d, r, hr⟩
theorem Conn.trans {s : List Line} {u x v : Nat} : Conn s u x → Conn s x v → Conn s u v := fun ⟨_, _, h⟩ ⟨_, _, k⟩ => (h.app k).elim fun r hr => ⟨_, r, hr⟩
theorem Conn.line {s : List Line} {l : Line} (h : l ∈ s) : Conn s l.a l.b := ⟨_, _, .cons h (by simp [ends]) (.nil _)⟩
theorem Conn.of {s r : List Line} (h : ∀ l ∈ s, Conn r l.a l.b) {u v : Nat} : Conn s u v → Conn r u v := by
  rintro ⟨d, p, w⟩
  induction w with
  | nil u => exact Conn.refl r u
  | cons hl he _ ih =>
    have c := h _ hl
    rcases ends_iff.mp he with ⟨e1, e2⟩ | ⟨e1, e2⟩
    · subst e1 e2; exact c.trans ih
    · subst e1 e2; exact c.symm.trans ih
theorem Conn.mono {s r : List Line} (h : ∀ l ∈ s, l ∈ r) {u v : Nat} : Conn s u v → Conn r u v := Conn.of fun l hl => Conn.line (h l hl)
theorem conn_table {n : Nat} {s : List Line} (o : Ok n s) {u v : Nat} (hu : u < n) (hv : v < n) : Conn s u v ↔ ∃ d, at_ (table n s) u v = some d := by
  have D := dist_table o hu hv
  constructor
  · rintro ⟨d, p, w⟩
    obtain ⟨e, he, _⟩ := D.cpl d p w d rfl
    exact ⟨e, he⟩
  · rintro ⟨d, h⟩
    obtain ⟨p, hp⟩ := D.snd d h
    exact ⟨d, p, hp⟩
theorem conn_split {s s' : List Line} {e : Line} (h : ∀ m ∈ s', m = e ∨ m ∈ s) {u v : Nat} : Conn s' u v → Conn s u v ∨ (Conn s u e.a ∧ Conn s e.b v) ∨ (Conn s u e.b ∧ Conn s e.a v) := by
  rintro ⟨d, p, w⟩
  induction w with
  | nil u => exact .inl (Conn.refl s u)
  | @cons u x v d p l hl he _ ih =>
    rcases h _ hl with rfl | hm
    · rcases ends_iff.mp he with ⟨e1, e2⟩ | ⟨e1, e2⟩
      · subst e1 e2
        rcases ih with c | ⟨_, c⟩ | ⟨_, c⟩
        · exact .inr (.inl ⟨Conn.refl _ _, c⟩)
        · exact .inr (.inl ⟨Conn.refl _ _, c⟩)
        · exact .inl c
      · subst e1 e2
        rcases ih with c | ⟨_, c⟩ | ⟨_, c⟩
        · exact .inr (.inr ⟨Conn.refl _ _, c⟩)
        · exact .inl c
        · exact .inr (.inr ⟨Conn.refl _ _, c⟩)
    · have c : Conn s u x := by
        have c := Conn.line hm
        rcases ends_iff.mp he with ⟨e1, e2⟩ | ⟨e1, e2⟩
        · subst e1 e2; exact c
        · subst e1 e2; exact c.symm
      rcases ih with k | ⟨k1, k2⟩ | ⟨k1, k2⟩
      · exact .inl (c.trans k)
      · exact .inr (.inl ⟨c.trans k1, k2⟩)
      · exact .inr (.inr ⟨c.trans k1, k2⟩)
/-! ### how many lines it takes -/
open Classical in
theorem filter_one {s : List Line} {P : Nat → Prop} (hP : ∀ x y, P x → P y → Conn s x y) : ∀ {R : List Nat}, R.Pairwise (fun x y => ¬ Conn s x y) → R.length ≤ (R.filter fun x => decide (¬ P x)).length + 1
  | [], _ => Nat.zero_le _
  | x :: R, h => by
    by_cases c : P x
    · have : R.filter (fun x => decide (¬ P x)) = R := by
        rw [List.filter_eq_self]
        intro y hy
        exact decide_eq_true fun hy2 => List.rel_of_pairwise_cons h hy (hP x y c hy2)
      rw [List.filter_cons_of_neg (by simp [c]), this]
      exact Nat.le_refl _
    · rw [List.filter_cons_of_pos (by simp [c]), List.length_cons, List.length_cons]
      exact Nat.succ_le_succ (filter_one hP h.of_cons)
open Classical in
theorem apart (n : Nat) : ∀ s : List Line, ∃ R : List Nat, (∀ x ∈ R, x < n) ∧ R.Pairwise (fun x y => ¬ Conn s x y) ∧ n ≤ R.length + s.length
  | [] => by
    refine ⟨List.range n, fun x hx => List.mem_range.mp hx, ?_, by simp⟩
    refine List.nodup_range.imp fun {a b} ne c => ?_
    obtain ⟨d, p, w⟩ := c
    cases w with
    | nil => exact ne rfl
    | cons hl => cases hl
  | e :: s => by
    obtain ⟨R, h1, h2, h3⟩ := apart n s
    refine ⟨R.filter fun x => decide (¬ Conn s x e.a), fun x hx => h1 x (List.mem_filter.mp hx).1, ?_, ?_⟩
    · have h4 : ∀ x ∈ R.filter (fun x => decide (¬ Conn s x e.a)), ¬ Conn s x e.a := fun x hx => of_decide_eq_true (List.mem_filter.mp hx).2
      refine List.Pairwise.imp_of_mem (fun {x y} hx hy hn c => ?_) (h2.sublist List.filter_sublist)
      rcases conn_split (s := s) (e := e) (fun m hm => List.mem_cons.mp hm) c with k | ⟨k, _⟩ | ⟨_, k⟩
      · exact hn k
      · exact h4 x hx k
      · exact h4 y hy k.symm
    · have := filter_one (s := s) (P := fun x => Conn s x e.a) (fun x y hx hy => hx.trans hy.symm) h2
      rw [List.length_cons]
      omega
inductive Forest : List Line → Prop
  | nil : Forest []
  | snoc {s : List Line} {l : Line} (h : Forest s) (c : ¬ Conn s l.a l.b) : Forest (s ++ [l])
theorem pw_of {R : Nat → Nat → Prop} (hs : ∀ x y, R x y → R y x) : ∀ {l : List Nat}, l.Pairwise R → ∀ x ∈ l, ∀ y ∈ l, x ≠ y → R x y
  | [], _, x, hx, _, _, _ => by cases hx
  | z :: l, h, x, hx, y, hy, ne => by
    rcases List.mem_cons.mp hx with ex | hx'
    · rcases List.mem_cons.mp hy with ey | hy'
      · exact absurd (ex.trans ey.symm) ne
      · subst ex; exact List.rel_of_pairwise_cons h hy'
    · rcases List.mem_cons.mp hy with ey | hy'
      · subst ey; exact hs _ _ (List.rel_of_pairwise_cons h hx')
      · exact pw_of hs h.of_cons x hx' y hy' ne
theorem Forest.most {n : Nat} {F : List Line} (h : Forest F) : (∀ l ∈ F, l.a < n ∧ l.b < n) → ∀ R : List Nat, (∀ x ∈ R, x < n) → R.Pairwise (fun x y => ¬ Conn F x y) → R.length + F.length ≤ n := by
  induction h with
  | nil =>
    intro _ R h1 h2
    refine pigeon n R (h2.imp fun {a b} c e => ?_) h1
    subst e
    exact c (Conn.refl _ _)
  | @snoc s l _ c ih =>
    intro hl R h1 h2
    have hl' : ∀ m ∈ s, m.a < n ∧ m.b < n := fun m hm => hl m (by simp [hm])
    have le := hl l (by simp)
    have up : ∀ {x y}, Conn s x y → Conn (s ++ [l]) x y := Conn.mono fun m hm => by simp [hm]
    have h3 : R.Pairwise (fun x y => ¬ Conn s x y) := h2.imp fun {a b} k z => k (up z)
    by_cases k : ∃ r ∈ R, Conn s r l.a
    · obtain ⟨r, hr, kr⟩ := k
      have := ih hl' (l.b :: R) (fun x hx => by
        rcases List.mem_cons.mp hx with rfl | hx
        · exact le.2
        · exact h1 x hx) (List.pairwise_cons.mpr ⟨fun y hy z => ?_, h3⟩)
      · rw [List.length_append, List.length_singleton]
        rw [List.length_cons] at this
        omega
      · by_cases e : r = y
        · subst e
          exact c (kr.symm.trans z.symm)
        · exact pw_of (fun x y q z => q z.symm) h2 r hr y hy e ((up kr).trans ((Conn.line (by simp)).trans (up z)))
    · have := ih hl' (l.a :: R) (fun x hx => by
        rcases List.mem_cons.mp hx with rfl | hx
        · exact le.1
        · exact h1 x hx) (List.pairwise_cons.mpr ⟨fun y hy z => k ⟨y, hy, z.symm⟩, h3⟩)
      rw [List.length_append, List.length_singleton]
      rw [List.length_cons] at this
      omega
/-- lines that join whatever a forest joins are no fewer -/
theorem Forest.le {n : Nat} {F s : List Line} (h : Forest F) (hl : ∀ l ∈ F, l.a < n ∧ l.b < n) (hs : ∀ l ∈ F, Conn s l.a l.b) : F.length ≤ s.length := by
  obtain ⟨R, h1, h2, h3⟩ := apart n s
  have := h.most hl R h1 (h2.imp fun {a b} k z => k (Conn.of hs z))
  omega
/-! ### the lightest lines -/
def lightTurn (n : Nat) (acc : List Line) (l : Line) : List Line := if (dists n acc l.a).getD l.b 0 = 10000 then acc ++ [l] else acc
def lightL (n : Nat) (s : List Line) : List Line := s.foldl (lightTurn n) []
theorem light_acc {n : Nat} (hn : n ≤ 8) : ∀ (s acc : List Line), Ok n (acc ++ s) → (∀ l ∈ acc ++ s, 1 ≤ l.w ∧ l.w ≤ 99) → Forest acc →
    s.foldl (lightTurn n) acc = s.foldl (fun s l => if within 9999 (at_ (table n s) l.a l.b) (some l.w) then s else s ++ [l]) acc ∧ (s.foldl (lightTurn n) acc).Sublist (acc ++ s) ∧ Forest (s.foldl (lightTurn n) acc)
  | [], acc, _, _, f => ⟨rfl, by simp, f⟩
  | l :: s, acc, o, hw, f => by
    have sb : acc.Sublist (acc ++ l :: s) := List.sublist_append_left acc _
    have ol : l ∈ acc ++ l :: s := by simp
    have hb := o.bn l ol
    have ha := o.ab l ol
    have oa := o.sub sb
    have w99 : ∀ k ∈ acc, k.w ≤ 99 := fun k hk => (hw k (sb.subset hk)).2
    have e := (dists_is oa w99 hn (u := l.a) (by omega)).2 l.b hb
    have w9 := hw l ol
    have key : lightTurn n acc l = (if within 9999 (at_ (table n acc) l.a l.b) (some l.w) then acc else acc ++ [l]) ∧ Forest (lightTurn n acc l) := by
      unfold lightTurn
      rw [e]
      cases q : at_ (table n acc) l.a l.b with
      | none =>
        show (if 10000 = 10000 then acc ++ [l] else acc) = (if false = true then acc else acc ++ [l]) ∧ Forest (if 10000 = 10000 then acc ++ [l] else acc)
        rw [if_pos rfl, if_neg Bool.false_ne_true]
        refine ⟨rfl, f.snoc fun c => ?_⟩
        obtain ⟨d, hd⟩ := (conn_table oa (by omega) hb).mp c
        rw [q] at hd
        cases hd
      | some d =>
        have hm := table_most oa w99 (by omega) hb q
        have h4 : 99 * n ≤ 99 * 8 := Nat.mul_le_mul_left 99 hn
        show (if d = 10000 then acc ++ [l] else acc) = (if decide (d ≤ 9999 * l.w) = true then acc else acc ++ [l]) ∧ Forest (if d = 10000 then acc ++ [l] else acc)
        rw [if_neg (by omega), if_pos (by simp; omega)]
        exact ⟨rfl, f⟩
    rw [List.foldl_cons, List.foldl_cons, ← key.1]
    have sub : (lightTurn n acc l ++ s).Sublist (acc ++ l :: s) := by
      unfold lightTurn
      by_cases c : (dists n acc l.a).getD l.b 0 = 10000
      · rw [if_pos c]
        simp
      · rw [if_neg c]
        exact (List.Sublist.refl acc).append (List.sublist_cons_self l s)
    obtain ⟨h1, h2, h3⟩ := light_acc hn s (lightTurn n acc l) (o.sub sub) (fun k hk => hw k (sub.subset hk)) key.2
    exact ⟨h1, h2.trans sub, h3⟩
theorem Net8.light {g : Net} (N : Net8 g) : lightL g.n g.lines = g.kept 9999 ∧ (lightL g.n g.lines).Sublist g.lines ∧ Forest (lightL g.n g.lines) :=
  light_acc N.n8 g.lines [] N.ok (fun l hl => ⟨N.w1 l hl, N.w99 l hl⟩) .nil
/-! ### the lines kept lead wherever all lead -/
theorem kept_conn {n t : Nat} : ∀ (s acc : List Line), Ok n (acc ++ s) → (∀ l ∈ acc, l ∈ s.foldl (fun s l => if within t (at_ (table n s) l.a l.b) (some l.w) then s else s ++ [l]) acc) ∧
    ∀ l ∈ s, Conn (s.foldl (fun s l => if within t (at_ (table n s) l.a l.b) (some l.w) then s else s ++ [l]) acc) l.a l.b
  | [], acc, _ => ⟨fun l hl => hl, fun l hl => by cases hl⟩
  | l :: s, acc, o => by
    have sb : acc.Sublist (acc ++ l :: s) := List.sublist_append_left acc _
    have ol : l ∈ acc ++ l :: s := by simp
    have hb := o.bn l ol
    have ha := o.ab l ol
    have oa := o.sub sb
    rw [List.foldl_cons]
    by_cases c : within t (at_ (table n acc) l.a l.b) (some l.w) = true
    · rw [if_pos c]
      obtain ⟨h1, h2⟩ := kept_conn (t := t) s acc (o.sub ((List.Sublist.refl acc).append (List.sublist_cons_self l s)))
      refine ⟨h1, fun m hm => ?_⟩
      rcases List.mem_cons.mp hm with rfl | hm
      · refine Conn.mono h1 ((conn_table oa (by omega) hb).mpr ?_)
        cases q : at_ (table n acc) m.a m.b with
        | none => rw [q] at c; cases c
        | some d => exact ⟨d, rfl⟩
      · exact h2 m hm
    · rw [if_neg c]
      obtain ⟨h1, h2⟩ := kept_conn (t := t) s (acc ++ [l]) (by rw [List.append_assoc]; exact o)
      refine ⟨fun m hm => h1 m (by simp [hm]), fun m hm => ?_⟩
      rcases List.mem_cons.mp hm with rfl | hm
      · exact Conn.line (h1 m (by simp))
      · exact h2 m hm
theorem Net8.kept_way {g : Net} (N : Net8 g) {t : Nat} (ht : t ≤ 9) {u v j : Nat} (hu : u < g.n) (hv : v < g.n) (h : at_ g.table u v = some j) : ∃ i, at_ (table g.n (g.kept t)) u v = some i := by
  have sub := (N.kept ht).2
  refine (conn_table (N.ok.sub sub) hu hv).mp (Conn.of (s := g.lines) (fun l hl => ?_) ((conn_table N.ok hu hv).mpr ⟨j, h⟩))
  exact (kept_conn (t := t) g.lines [] N.ok).2 l hl
end LL
namespace LL
open Kv402
/-! ### which lines do -/
theorem mem_pairs {n u v : Nat} : (u, v) ∈ pairs n ↔ u < v ∧ v < n := by
  unfold pairs
  simp only [List.mem_flatMap, List.mem_map, List.mem_filter, List.mem_range, decide_eq_true_eq, Prod.mk.injEq]
  constructor
  · rintro ⟨a, ha, b, ⟨hb, hab⟩, e1, e2⟩
    subst e1 e2
    exact ⟨hab, hb⟩
  · rintro ⟨h1, h2⟩
    exact ⟨u, by omega, v, ⟨h2, h1⟩, rfl, rfl⟩
/-- the row's test in the program: some place is too far -/
def tooFar (t : Nat) (far row : List Nat) (n : Nat) : Bool := (List.range n).any fun v => decide (t * row.getD v 0 < far.getD v 0)
/-- whether lines do, as the program asks it; k: the rows looked through -/
def doesP (n : Nat) (s : List Line) (rows : List (List Nat)) (t : Nat) : Bool := (List.range n).all fun u => !tooFar t (dists n s u) (rows.getD u []) n
def rowsOf (n : Nat) (s : List Line) : List (List Nat) := (List.range n).map (dists n s)
theorem rows_get {n : Nat} {s : List Line} {u : Nat} (hu : u < n) : (rowsOf n s).getD u [] = dists n s u := by
  simp [rowsOf, List.getD_eq_getElem?_getD, List.getElem?_range hu]
theorem rows_len (n : Nat) (s : List Line) : (rowsOf n s).length = n := by simp [rowsOf]
theorem Net8.far2 {g : Net} (N : Net8 g) {s : List Line} (h : s.Sublist g.lines) {u v : Nat} (hu : u < g.n) (hv : v < g.n) : (dists g.n s u).getD v 0 = (at_ (table g.n s) u v).getD 10000 :=
  (dists_is (N.ok.sub h) (fun l hl => N.w99 l (h.subset hl)) N.n8 hu).2 v hv
theorem Net8.most2 {g : Net} (N : Net8 g) {s : List Line} (h : s.Sublist g.lines) {u v d : Nat} (hu : u < g.n) (hv : v < g.n) (e : at_ (table g.n s) u v = some d) : d ≤ 693 := by
  have h1 := table_most (N.ok.sub h) (fun l hl => N.w99 l (h.subset hl)) hu hv e
  have h3 : 99 * g.n ≤ 99 * 8 := Nat.mul_le_mul_left 99 N.n8
  omega
theorem Net8.within_is {g : Net} (N : Net8 g) {s : List Line} (h : s.Sublist g.lines) {t : Nat} (t1 : 1 ≤ t) (t9 : t ≤ 9) {u v : Nat} (hu : u < g.n) (hv : v < g.n) :
    within t (at_ (table g.n s) u v) (at_ g.table u v) = !decide (t * (dists g.n g.lines u).getD v 0 < (dists g.n s u).getD v 0) := by
  have e1 := N.far2 h hu hv
  have e2 : (dists g.n g.lines u).getD v 0 = (at_ g.table u v).getD 10000 := N.far2 (List.Sublist.refl _) hu hv
  rw [e1, e2]
  cases q : at_ g.table u v with
  | none =>
    have : within t (at_ (table g.n s) u v) none = true := by cases at_ (table g.n s) u v <;> rfl
    rw [this]
    cases r : at_ (table g.n s) u v with
    | none =>
      show true = !decide (t * 10000 < 10000)
      rw [decide_eq_false (by omega)]
      rfl
    | some d =>
      have := N.most2 h hu hv r
      show true = !decide (t * 10000 < d)
      rw [decide_eq_false (by omega)]
      rfl
  | some j =>
    have hj := N.most hu hv q
    cases r : at_ (table g.n s) u v with
    | none =>
      show false = !decide (t * j < 10000)
      have : t * j ≤ 9 * 693 := Nat.mul_le_mul t9 hj
      rw [decide_eq_true (by omega)]
      rfl
    | some d =>
      show decide (d ≤ t * j) = !decide (t * j < d)
      by_cases c : t * j < d
      · rw [decide_eq_true c, decide_eq_false (by omega)]
        rfl
      · rw [decide_eq_false c, decide_eq_true (by omega)]
        rfl
theorem Net8.does_is {g : Net} (N : Net8 g) {s : List Line} (h : s.Sublist g.lines) {t : Nat} (t1 : 1 ≤ t) (t9 : t ≤ 9) : doesP g.n s (rowsOf g.n g.lines) t = g.does t s := by
  rw [Bool.eq_iff_iff]
  unfold doesP Net.does
  rw [List.all_eq_true, List.all_eq_true]
  constructor
  · rintro k ⟨u, v⟩ hq
    obtain ⟨h1, h2⟩ := mem_pairs.mp hq
    have hu : u < g.n := by omega
    have := k u (List.mem_range.mpr hu)
    rw [rows_get hu] at this
    show within t (at_ (table g.n s) u v) (at_ g.table u v) = true
    rw [N.within_is h t1 t9 hu h2]
    unfold tooFar at this
    rw [Bool.not_eq_true', List.any_eq_false] at this
    have := this v (List.mem_range.mpr h2)
    simpa using this
  · intro k u hu
    have hu := List.mem_range.mp hu
    rw [rows_get hu]
    unfold tooFar
    rw [Bool.not_eq_true', List.any_eq_false]
    intro v hv
    have hv := List.mem_range.mp hv
    have key : within t (at_ (table g.n s) u v) (at_ g.table u v) = true := by
      rcases Nat.lt_trichotomy u v with c | c | c
      · exact k (u, v) (mem_pairs.mpr ⟨c, hv⟩)
      · subst c
        have z1 := (inv_table (N.ok.sub h)).zero u hu
        have z2 : at_ g.table u u = some 0 := (inv_table N.ok).zero u hu
        rw [z1, z2]
        exact decide_eq_true (Nat.zero_le (t * 0))
      · have := k (v, u) (mem_pairs.mpr ⟨c, hu⟩)
        rw [table_symm (N.ok.sub h) hu hv, N.sym hu hv]
        exact this
    rw [N.within_is h t1 t9 hu hv] at key
    simpa using key
theorem Net8.does_all {g : Net} (N : Net8 g) {t : Nat} (t1 : 1 ≤ t) : g.does t g.lines = true := by
  unfold Net.does
  rw [List.all_eq_true]
  rintro ⟨u, v⟩ hq
  show within t (at_ g.table u v) (at_ g.table u v) = true
  cases at_ g.table u v with
  | none => rfl
  | some d => exact decide_eq_true (Nat.le_mul_of_pos_left d (by omega))
theorem Net8.does_conn {g : Net} (N : Net8 g) {s : List Line} (h : s.Sublist g.lines) {t : Nat} (k : g.does t s = true) : ∀ l ∈ g.lines, Conn s l.a l.b := fun l hl => by
  unfold Net.does at k
  rw [List.all_eq_true] at k
  have hb := N.ok.bn l hl
  have ha := N.ok.ab l hl
  have := k (l.a, l.b) (mem_pairs.mpr ⟨ha, hb⟩)
  obtain ⟨d, hd⟩ := (conn_table N.ok (by omega) hb).mp (Conn.line hl)
  have this : within t (at_ (table g.n s) l.a l.b) (at_ (table g.n g.lines) l.a l.b) = true := this
  rw [hd] at this
  refine (conn_table (N.ok.sub h) (by omega) hb).mpr ?_
  cases q : at_ (table g.n s) l.a l.b with
  | none => rw [q] at this; cases this
  | some e => exact ⟨e, rfl⟩
/-! ### choices -/
def chs {α : Type} : Nat → List α → List (List α)
  | 0, _ => [[]]
  | _ + 1, [] => []
  | m + 1, x :: l => ((chs m l).map fun q => x :: q) ++ chs (m + 1) l
theorem choose_chs : ∀ (m : Nat) (l : List Line), choose m l = chs m l
  | 0, l => by cases l <;> rfl
  | _ + 1, [] => rfl
  | m + 1, x :: l => by
    unfold choose chs
    rw [choose_chs m l, choose_chs (m + 1) l]
theorem chs_map {α β : Type} (f : α → β) : ∀ (m : Nat) (l : List α), chs m (l.map f) = (chs m l).map (List.map f)
  | 0, l => by cases l <;> rfl
  | _ + 1, [] => rfl
  | m + 1, x :: l => by
    rw [List.map_cons]
    unfold chs
    rw [chs_map f m l, chs_map f (m + 1) l, List.map_append, List.map_map, List.map_map]
    rfl
theorem chs_sub {α : Type} : ∀ (m : Nat) (l q : List α), q ∈ chs m l → q.Sublist l ∧ q.length = m
  | 0, l, q, h => by
    have : q = [] := by
      cases l <;> simpa [chs] using h
    subst this
    exact ⟨List.nil_sublist l, rfl⟩
  | _ + 1, [], q, h => by cases h
  | m + 1, x :: l, q, h => by
    unfold chs at h
    rcases List.mem_append.mp h with h | h
    · obtain ⟨r, hr, rfl⟩ := List.mem_map.mp h
      obtain ⟨a, b⟩ := chs_sub m l r hr
      exact ⟨a.cons_cons x, by rw [List.length_cons, b]⟩
    · obtain ⟨a, b⟩ := chs_sub (m + 1) l q h
      exact ⟨a.cons x, b⟩
theorem chs_len {α : Type} : ∀ (m : Nat) (l : List α), (chs m l).length ≤ 2 ^ l.length
  | 0, l => by
    have : (chs 0 l).length = 1 := by cases l <;> rfl
    rw [this]
    exact Nat.one_le_two_pow
  | _ + 1, [] => Nat.zero_le _
  | m + 1, x :: l => by
    unfold chs
    have h1 := chs_len m l
    have h2 := chs_len (m + 1) l
    rw [List.length_append, List.length_map, List.length_cons, Nat.pow_succ]
    omega
theorem chs_all {α : Type} : ∀ (l : List α), chs l.length l = [l]
  | [] => rfl
  | x :: l => by
    rw [List.length_cons]
    unfold chs
    rw [chs_all l]
    have : ∀ (m : Nat) (l : List α), l.length < m → chs m l = [] := fun m l => by
      induction l generalizing m with
      | nil => intro h; cases m with
        | zero => cases h
        | succ m => rfl
      | cons y l ih =>
        intro h
        cases m with
        | zero => cases h
        | succ m =>
          unfold chs
          rw [List.length_cons] at h
          rw [ih m (by omega), ih (m + 1) (by omega)]
          rfl
    rw [this _ l (by omega)]
    rfl
/-- the number that may come first behind a choice -/
def firstOf (c : List Nat) : Nat := match c.getLast? with
  | none => 0
  | some x => x + 1
def ext (N : Nat) (c : List Nat) : List (List Nat) := (List.range' (firstOf c) (N - firstOf c)).map fun j => c ++ [j]
def more (N : Nat) (cs : List (List Nat)) : List (List Nat) := cs.flatMap (ext N)
/-- the same from a number on -/
def firstFrom (i : Nat) (c : List Nat) : Nat := match c.getLast? with
  | none => i
  | some x => x + 1
def extFrom (N i : Nat) (c : List Nat) : List (List Nat) := (List.range' (firstFrom i c) (N - firstFrom i c)).map fun j => c ++ [j]
theorem extFrom_cons {N i : Nat} (c : List Nat) : extFrom N i (i :: c) = (extFrom N (i + 1) c).map (i :: ·) := by
  have : firstFrom i (i :: c) = firstFrom (i + 1) c := by
    unfold firstFrom
    cases c with
    | nil => rfl
    | cons x c =>
      rw [List.getLast?_cons_cons]
      cases e : (x :: c).getLast? with
      | none => simp at e
      | some y => rfl
  unfold extFrom
  rw [this, List.map_map]
  rfl
theorem extFrom_ne {N i j : Nat} {c : List Nat} (h : c ≠ []) : extFrom N i c = extFrom N j c := by
  have : firstFrom i c = firstFrom j c := by
    unfold firstFrom
    cases e : c.getLast? with
    | none => exact absurd (List.getLast?_eq_none_iff.mp e) h
    | some y => rfl
  unfold extFrom
  rw [this]
theorem flatMap_congr {α β : Type} {f g : α → List β} : ∀ {l : List α}, (∀ x ∈ l, f x = g x) → l.flatMap f = l.flatMap g
  | [], _ => rfl
  | x :: l, h => by
    rw [List.flatMap_cons, List.flatMap_cons, h x (by simp), flatMap_congr fun y hy => h y (by simp [hy])]
theorem chs_zero {α : Type} (l : List α) : chs 0 l = [[]] := by cases l <;> rfl
theorem chs_more {N : Nat} : ∀ (k i : Nat), i + k = N → ∀ m, (chs m (List.range' i k)).flatMap (extFrom N i) = chs (m + 1) (List.range' i k)
  | 0, i, h, 0 => by
    show (List.range' i (N - i)).map _ ++ [] = []
    rw [show N - i = 0 by omega]
    rfl
  | 0, i, h, m + 1 => rfl
  | k + 1, i, h, 0 => by
    have ih := chs_more (N := N) k (i + 1) (by omega) 0
    rw [chs_zero] at ih ⊢
    show extFrom N i [] ++ [] = ((chs 0 (List.range' (i + 1) k)).map fun q => i :: q) ++ chs 1 (List.range' (i + 1) k)
    rw [← ih, chs_zero, List.append_nil]
    show extFrom N i [] = [i] :: (extFrom N (i + 1) [] ++ [])
    rw [List.append_nil]
    unfold extFrom firstFrom
    show (List.range' i (N - i)).map _ = _ :: (List.range' (i + 1) (N - (i + 1))).map _
    rw [show N - i = k + 1 by omega, show N - (i + 1) = k by omega]
    rfl
  | k + 1, i, h, m + 1 => by
    have ih1 := chs_more (N := N) k (i + 1) (by omega) m
    have ih2 := chs_more (N := N) k (i + 1) (by omega) (m + 1)
    show (((chs m (List.range' (i + 1) k)).map fun q => i :: q) ++ chs (m + 1) (List.range' (i + 1) k)).flatMap (extFrom N i) = ((chs (m + 1) (List.range' (i + 1) k)).map fun q => i :: q) ++ chs (m + 2) (List.range' (i + 1) k)
    rw [List.flatMap_append]
    congr 1
    · rw [← ih1, List.flatMap_map, List.map_flatMap]
      exact flatMap_congr fun q _ => extFrom_cons q
    · rw [← ih2]
      refine flatMap_congr fun q hq => extFrom_ne fun e => ?_
      have := (chs_sub _ _ _ hq).2
      rw [e] at this
      cases this
/-- the choices that the program makes -/
def chN (N : Nat) : Nat → List (List Nat)
  | 0 => [[]]
  | k + 1 => more N (chN N k)
theorem chN_is (N : Nat) : ∀ k, chN N k = chs k (List.range' 0 N)
  | 0 => (chs_zero _).symm
  | k + 1 => by
    show more N (chN N k) = _
    rw [chN_is N k, ← chs_more (N := N) N 0 (by omega) k]
    rfl
/-- the lines with these numbers -/
def pick (s : List Line) (c : List Nat) : List Line := (s.zipIdx.filter fun q => c.contains q.2).map Prod.fst
theorem pick_sub (s : List Line) (c : List Nat) : (pick s c).Sublist s := by
  have h : (pick s c).Sublist (s.zipIdx.map Prod.fst) := List.filter_sublist.map _
  rw [List.zipIdx_map_fst] at h
  exact h
theorem filter_sub : ∀ {q z : List (Line × Nat)}, q.Sublist z → (z.map Prod.snd).Nodup → z.filter (fun x => (q.map Prod.snd).contains x.2) = q := by
  intro q z h
  induction h with
  | slnil => intro _; rfl
  | @cons q z x h ih =>
    intro nd
    rw [List.map_cons, List.nodup_cons] at nd
    rw [List.filter_cons_of_neg, ih nd.2]
    simp only [List.contains_eq_mem, decide_eq_true_eq]
    intro hm
    exact nd.1 ((h.map Prod.snd).subset hm)
  | @cons_cons q z x h ih =>
    intro nd
    rw [List.map_cons, List.nodup_cons] at nd
    rw [List.filter_cons_of_pos (by simp)]
    congr 1
    rw [← ih nd.2]
    conv => rhs; rw [ih nd.2]
    conv => rhs; rw [← ih nd.2]
    refine List.filter_congr fun y hy => ?_
    have hy2 : y.2 ∈ z.map Prod.snd := List.mem_map.mpr ⟨y, hy, rfl⟩
    have : y.2 ≠ x.2 := fun e => nd.1 (e ▸ hy2)
    have e2 : List.map Prod.snd (x :: q) = x.2 :: q.map Prod.snd := rfl
    rw [ih nd.2]
    simp [List.contains_eq_mem, this]
theorem pick_choices (s : List Line) (k : Nat) : (chN s.length k).map (pick s) = choose k s := by
  have e1 : s.zipIdx.map Prod.snd = List.range' 0 s.length := by rw [List.zipIdx_map_snd]
  have e2 : s.zipIdx.map Prod.fst = s := List.zipIdx_map_fst 0 s
  rw [chN_is, choose_chs, ← e1, chs_map, List.map_map]
  conv => rhs; rw [← e2, chs_map]
  refine List.map_congr_left fun q hq => ?_
  show pick s (q.map Prod.snd) = q.map Prod.fst
  unfold pick
  rw [filter_sub (chs_sub _ _ _ hq).1 (by rw [e1]; exact List.nodup_range')]
theorem chN_len (N k : Nat) : (chN N k).length ≤ 2 ^ N := by
  rw [chN_is]
  have := chs_len k (List.range' 0 N)
  rw [List.length_range'] at this
  exact this
theorem chN_mem {N k : Nat} {c : List Nat} (h : c ∈ chN N k) : c.length = k ∧ k ≤ N ∧ ∀ x ∈ c, x < N := by
  rw [chN_is] at h
  obtain ⟨h1, h2⟩ := chs_sub _ _ _ h
  refine ⟨h2, ?_, fun x hx => ?_⟩
  · have := h1.length_le
    rw [List.length_range'] at this
    omega
  · have := h1.subset hx
    rw [List.mem_range'_1] at this
    omega
/-! ### the fewest -/
/-- the first choice that does, of so many -/
def firstDo (s : List Line) (n : Nat) (rows : List (List Nat)) (t : Nat) (cs : List (List Nat)) : Option (List Line) := (cs.map (pick s)).find? fun x => doesP n x rows t
theorem find_congr {α : Type} {p q : α → Bool} : ∀ {l : List α}, (∀ x ∈ l, p x = q x) → l.find? p = l.find? q
  | [], _ => rfl
  | x :: l, h => by
    rw [List.find?_cons, List.find?_cons, h x (by simp), find_congr fun y hy => h y (by simp [hy])]
theorem Net8.firstDo_is {g : Net} (N : Net8 g) {t : Nat} (t1 : 1 ≤ t) (t9 : t ≤ 9) (k : Nat) : firstDo g.lines g.n (rowsOf g.n g.lines) t (chN g.lines.length k) = (choose k g.lines).find? (g.does t) := by
  unfold firstDo
  rw [pick_choices]
  refine find_congr fun x hx => ?_
  rw [choose_chs] at hx
  exact N.does_is (chs_sub _ _ _ hx).1 t1 t9
theorem Net8.firstDo_few {g : Net} (N : Net8 g) {t : Nat} {k : Nat} (h : k < (lightL g.n g.lines).length) : (choose k g.lines).find? (g.does t) = none := by
  rw [List.find?_eq_none]
  intro s hs hd
  rw [choose_chs] at hs
  obtain ⟨h1, h2⟩ := chs_sub _ _ _ hs
  obtain ⟨_, l2, l3⟩ := N.light
  have hl : ∀ l ∈ lightL g.n g.lines, l.a < g.n ∧ l.b < g.n := fun l hl => by
    have a := N.ok.ab l (l2.subset hl)
    have b := N.ok.bn l (l2.subset hl)
    omega
  have := l3.le hl fun l hl => N.does_conn h1 hd l (l2.subset hl)
  omega
theorem findSome_at {α : Type} {f : Nat → Option α} {k : Nat} {x : α} (h : f k = some x) (hn : ∀ j, j < k → f j = none) : ∀ n, k < n → (List.range n).findSome? f = some x
  | 0, h => by cases h
  | n + 1, hk => by
    rw [List.range_succ, List.findSome?_append]
    by_cases c : k < n
    · rw [findSome_at h hn n c]
      rfl
    · have e : k = n := by omega
      subst e
      have : (List.range k).findSome? f = none := by
        rw [List.findSome?_eq_none_iff]
        exact fun j hj => hn j (List.mem_range.mp hj)
      rw [this]
      simp [h]
/-- the choice found is the specification's -/
theorem Net8.fewest_is {g : Net} (N : Net8 g) {t : Nat} (t1 : 1 ≤ t) (t9 : t ≤ 9) {k : Nat} {x : List Line} (h : firstDo g.lines g.n (rowsOf g.n g.lines) t (chN g.lines.length k) = some x)
    (hn : ∀ j, (lightL g.n g.lines).length ≤ j → j < k → firstDo g.lines g.n (rowsOf g.n g.lines) t (chN g.lines.length j) = none) : g.fewest t = x := by
  unfold Net.fewest
  have hk : k < g.lines.length + 1 := by
    rw [N.firstDo_is t1 t9] at h
    have hm := List.mem_of_find?_eq_some h
    rw [choose_chs] at hm
    obtain ⟨a, b⟩ := chs_sub _ _ _ hm
    have := a.length_le
    omega
  rw [findSome_at (f := fun m => (choose m g.lines).find? (g.does t)) (k := k) (x := x) ?_ ?_ _ hk]
  · rfl
  · rw [← N.firstDo_is t1 t9]
    exact h
  · intro j hj
    by_cases c : j < (lightL g.n g.lines).length
    · exact N.firstDo_few c
    · show (choose j g.lines).find? (g.does t) = none
      rw [← N.firstDo_is t1 t9]
      exact hn j (by omega) hj
/-- by all lines at the latest -/
theorem Net8.fewest_end {g : Net} (N : Net8 g) {t : Nat} (t1 : 1 ≤ t) (t9 : t ≤ 9) : firstDo g.lines g.n (rowsOf g.n g.lines) t (chN g.lines.length g.lines.length) = some g.lines := by
  rw [N.firstDo_is t1 t9, choose_chs, chs_all]
  simp [N.does_all t1]
end LL
namespace LL
open Kv402
/-! ### the shortest ring -/
def unit (m : Line) : Line := { m with w := 1 }
def othersOf (s : List Line) (l : Line) : List Line := (s.map unit).filter fun m => !decide (m = unit l)
def ringTurn (n : Nat) (s : List Line) (b : Nat) (l : Line) : Nat := min b (1 + (dists n (othersOf s l) l.a).getD l.b 0)
def ringP (n : Nat) (s : List Line) : Nat := s.foldl (ringTurn n s) 10000
theorem foldl_ext {α β : Type} {f g : β → α → β} : ∀ {l : List α} (b : β), (∀ b, ∀ x ∈ l, f b x = g b x) → l.foldl f b = l.foldl g b
  | [], _, _ => rfl
  | x :: l, b, h => by
    rw [List.foldl_cons, List.foldl_cons, h b x (by simp)]
    exact foldl_ext _ fun b y hy => h b y (by simp [hy])
theorem others_is {n : Nat} {s : List Line} (o : Ok n s) {l : Line} (h : l ∈ s) : othersOf s l = (s.filter fun m => m != l).map unit := by
  unfold othersOf
  rw [List.filter_map]
  refine congrArg (List.map unit) (List.filter_congr fun m hm => ?_)
  show (!decide (unit m = unit l)) = (m != l)
  by_cases c : m = l
  · subst c
    simp
  · have : unit m ≠ unit l := fun e => by
      have ea : m.a = l.a := (congrArg Line.a e : (unit m).a = (unit l).a)
      have eb : m.b = l.b := (congrArg Line.b e : (unit m).b = (unit l).b)
      have hp := o.uniq
      clear o
      induction s with
      | nil => cases h
      | cons x s ih =>
        rcases List.mem_cons.mp h with h1 | h1 <;> rcases List.mem_cons.mp hm with h2 | h2
        · exact c (h2.trans h1.symm)
        · subst h1
          exact List.rel_of_pairwise_cons hp h2 ⟨ea.symm, eb.symm⟩
        · subst h2
          exact List.rel_of_pairwise_cons hp h1 ⟨ea, eb⟩
        · exact ih h1 h2 hp.of_cons
    rw [decide_eq_false this]
    simp [c]
theorem ok_unit {n : Nat} {s : List Line} (o : Ok n s) : Ok n (s.map unit) := by
  refine ⟨fun l hl => ?_, fun l hl => ?_, ?_⟩
  · obtain ⟨m, hm, rfl⟩ := List.mem_map.mp hl
    exact o.ab m hm
  · obtain ⟨m, hm, rfl⟩ := List.mem_map.mp hl
    exact o.bn m hm
  · rw [List.pairwise_map]
    exact o.uniq
theorem unit_w {s : List Line} : ∀ l ∈ s.map unit, l.w ≤ 1 := fun l hl => by
  obtain ⟨m, hm, rfl⟩ := List.mem_map.mp hl
  exact Nat.le_refl 1
theorem ok_others {n : Nat} {s : List Line} (o : Ok n s) (l : Line) : Ok n (othersOf s l) := (ok_unit o).sub List.filter_sublist
theorem others_w {s : List Line} (l : Line) : ∀ m ∈ othersOf s l, m.w ≤ 1 := fun m hm => unit_w m (List.mem_filter.mp hm).1
def ringStep (n : Nat) (s : List Line) (b : Option Nat) (l : Line) : Option Nat := less b (plus (some 1) (at_ (table n ((s.filter fun m => m != l).map unit)) l.a l.b))
theorem ring_acc {n : Nat} {s : List Line} (o : Ok n s) (n8 : n ≤ 8) : ∀ (r : List Line) (b : Option Nat), (∀ l ∈ r, l ∈ s) → (∀ k, b = some k → k ≤ 8) →
    r.foldl (ringTurn n s) (b.getD 10000) = (r.foldl (ringStep n s) b).getD 10000 ∧ ∀ k, r.foldl (ringStep n s) b = some k → k ≤ 8
  | [], b, _, hb => ⟨rfl, hb⟩
  | l :: r, b, hr, hb => by
    have hl := hr l (by simp)
    have ha := o.ab l hl
    have hbn := o.bn l hl
    have oo := ok_others o l
    have ow := others_w (s := s) l
    have e := (dists_is oo (fun m hm => Nat.le_trans (ow m hm) (by omega)) n8 (u := l.a) (by omega)).2 l.b hbn
    have e2 : at_ (table n ((s.filter fun m => m != l).map unit)) l.a l.b = at_ (table n (othersOf s l)) l.a l.b := by rw [others_is o hl]
    have key : ringTurn n s (b.getD 10000) l = (ringStep n s b l).getD 10000 ∧ ∀ k, ringStep n s b l = some k → k ≤ 8 := by
      unfold ringTurn ringStep
      rw [e, e2]
      cases q : at_ (table n (othersOf s l)) l.a l.b with
      | none =>
        show min (b.getD 10000) (1 + 10000) = (less b none).getD 10000 ∧ _
        cases b with
        | none => exact ⟨rfl, fun k h => by cases h⟩
        | some k =>
          have := hb k rfl
          refine ⟨?_, fun j h => by cases h; exact this⟩
          show min k 10001 = k
          omega
      | some d =>
        have hm := table_most oo ow (by omega) hbn q
        cases b with
        | none =>
          refine ⟨?_, fun j h => by cases h; omega⟩
          show min 10000 (1 + d) = 1 + d
          omega
        | some k =>
          have := hb k rfl
          exact ⟨rfl, fun j h => by cases h; omega⟩
    rw [List.foldl_cons, List.foldl_cons, key.1]
    exact ring_acc o n8 r _ (fun m hm => hr m (by simp [hm])) key.2
theorem ring_is {n : Nat} {s : List Line} (o : Ok n s) (n8 : n ≤ 8) : ringP n s = (ringOf n s).getD 10000 ∧ ∀ k, ringOf n s = some k → k ≤ 8 := ring_acc o n8 s none (fun _ h => h) fun _ h => by cases h
/-! ### where it is worst -/
abbrev Most := Option (Nat × Nat × Nat × Nat)
def wTurn (L W : List Nat) (u : Nat) (b : Most) (v : Nat) : Most := if W.getD v 0 = 10000 then b else match b with
  | none => some (u, v, L.getD v 0, W.getD v 0)
  | some z => if z.2.2.1 * W.getD v 0 < L.getD v 0 * z.2.2.2 then some (u, v, L.getD v 0, W.getD v 0) else b
def wRow (L W : List Nat) (u : Nat) (k : Nat) (b : Most) : Most := (List.range k).foldl (fun b j => wTurn L W u b (u + 1 + j)) b
def worstP (n : Nat) (s r : List Line) (k : Nat) : Most := (List.range k).foldl (fun b u => wRow (dists n r u) (dists n s u) u (n - (u + 1)) b) none
theorem filter_range (u : Nat) : ∀ n, (List.range n).filter (fun v => decide (u < v)) = (List.range (n - (u + 1))).map fun k => u + 1 + k
  | 0 => by simp
  | n + 1 => by
    rw [List.range_succ, List.filter_append, filter_range u n]
    by_cases c : u < n
    · rw [show n + 1 - (u + 1) = (n - (u + 1)) + 1 by omega, List.range_succ, List.map_append, List.filter_cons_of_pos (by simpa using c)]
      simp
      omega
    · rw [show n + 1 - (u + 1) = 0 by omega, show n - (u + 1) = 0 by omega, List.filter_cons_of_neg (by simpa using c)]
      rfl
theorem Net8.worst_is {g : Net} (N : Net8 g) {t : Nat} (t9 : t ≤ 9) : worstP g.n g.lines (g.kept t) g.n = g.worst (g.kept t) := by
  unfold worstP Net.worst pairs
  simp only []
  rw [List.foldl_flatMap]
  refine foldl_ext none fun b u hu => ?_
  have hu := List.mem_range.mp hu
  rw [filter_range, List.map_map, List.foldl_map]
  unfold wRow
  refine foldl_ext b fun b j hj => ?_
  have hj := List.mem_range.mp hj
  have hv : u + 1 + j < g.n := by omega
  have sub := (N.kept t9).2
  have e1 := N.far2 sub hu hv
  have e2 : (dists g.n g.lines u).getD (u + 1 + j) 0 = (at_ g.table u (u + 1 + j)).getD 10000 := N.far2 (List.Sublist.refl _) hu hv
  unfold wTurn
  rw [e1, e2]
  show _ = match at_ (table g.n (g.kept t)) u (u + 1 + j), at_ g.table u (u + 1 + j) with
    | some i, some k => (match b with
      | none => some (u, u + 1 + j, i, k)
      | some z => if z.2.2.1 * k < i * z.2.2.2 then some (u, u + 1 + j, i, k) else b)
    | _, _ => b
  cases q : at_ g.table u (u + 1 + j) with
  | none =>
    refine (if_pos rfl).trans ?_
    cases at_ (table g.n (g.kept t)) u (u + 1 + j) <;> rfl
  | some k =>
    obtain ⟨i, hi⟩ := N.kept_way t9 hu hv q
    have hk := N.most hu hv q
    rw [hi]
    rw [if_neg (by show ¬ k = 10000; omega)]
    rfl
/-- what the pair found holds -/
theorem wTurn_small {L W : List Nat} {u v B : Nat} {b : Most} (hb : ∀ z, b = some z → z.1 < B ∧ z.2.1 < B ∧ z.2.2.1 ≤ 10000 ∧ z.2.2.2 ≤ 10000) (hu : u < B) (hv : v < B) (hL : L.getD v 0 ≤ 10000) (hW : W.getD v 0 ≤ 10000) :
    ∀ z, wTurn L W u b v = some z → z.1 < B ∧ z.2.1 < B ∧ z.2.2.1 ≤ 10000 ∧ z.2.2.2 ≤ 10000 := by
  intro z hz
  unfold wTurn at hz
  split at hz
  · exact hb z hz
  · split at hz
    · cases hz
      exact ⟨hu, hv, hL, hW⟩
    · split at hz
      · cases hz
        exact ⟨hu, hv, hL, hW⟩
      · exact hb z hz
theorem dists_top {n : Nat} {s : List Line} (o : Ok n s) {u : Nat} (hu : u < n) {x : Nat} (hx : x < n) : (dists n s u).getD x 0 ≤ 10000 := (gd_rounds o hu (n - 1)).1.top x hx
end LL
namespace LL
open Kv402
/-! ### the flat list of calls -/
def flatC : Call → List Nat
  | .begin_ n => [0, n]
  | .line a b w => [1, a, b, w]
  | .cut i => [2, i]
  | .lines => [3]
  | .dist u v => [4, u, v]
  | .next u v => [5, u, v]
  | .way u v => [6, u, v]
  | .kept t => [7, t]
  | .keptdist t u v => [8, t, u, v]
  | .keptweight t => [9, t]
  | .worst t => [10, t]
  | .leave t => [11, t]
  | .does t l => 12 :: t :: l.length :: l
  | .fewest t => [13, t]
  | .ring t => [14, t]
  | .least => [15]
  | .back => [16]
  | .state => [17]
def big : Nat := 4294967295
/-- the bounds of a call's numbers -/
structure Bq (q : Call) : Prop where
  nums : ∀ x ∈ flatC q, x ≤ big
  row : ∀ t l, q = .does t l → l.length ≤ 200 ∧ ∀ x ∈ l, x ≤ 65535
def ansQ (s : State) (q : Call) : List Int := Kv402Neutral.row (act s q).2
def toldQ : State → List Call → List Int
  | _, [] => []
  | s, q :: r => (((ansQ s q).length : Int) :: ansQ s q) ++ toldQ (act s q).1 r
abbrev iN (k : Nat) : Int := (k : Int)
theorem len1 {a : List Int} (h : a.length = 1) : ∃ x, a = [x] := List.length_eq_one_iff.mp h
theorem len2 {a : List Int} (h : a.length = 2) : ∃ x y, a = [x, y] := by
  match a, h with
  | [x, y], _ => exact ⟨x, y, rfl⟩
theorem len3 {a : List Int} (h : a.length = 3) : ∃ x y z, a = [x, y, z] := by
  match a, h with
  | [x, y, z], _ => exact ⟨x, y, z, rfl⟩
theorem shape_cases {p : Int} {n k : Nat} (h : PyKv402.shape p = some (n, k)) :
    (k = 0 ∧ ((p = 0 ∧ n = 1) ∨ (p = 1 ∧ n = 3) ∨ (p = 2 ∧ n = 1) ∨ (p = 3 ∧ n = 0) ∨ (p = 4 ∧ n = 2) ∨ (p = 5 ∧ n = 2) ∨ (p = 6 ∧ n = 2) ∨ (p = 7 ∧ n = 1) ∨ (p = 8 ∧ n = 3) ∨ (p = 9 ∧ n = 1) ∨ (p = 10 ∧ n = 1) ∨ (p = 11 ∧ n = 1) ∨ (p = 13 ∧ n = 1) ∨ (p = 14 ∧ n = 1) ∨ (p = 15 ∧ n = 0) ∨ (p = 16 ∧ n = 0) ∨ (p = 17 ∧ n = 0))) ∨ (p = 12 ∧ n = 1 ∧ k = 1) := by
  unfold PyKv402.shape at h
  by_cases c0 : p = 0
  · rw [if_pos c0] at h
    cases h
    subst c0
    decide
  rw [if_neg c0] at h
  by_cases c1 : p = 1
  · rw [if_pos c1] at h
    cases h
    subst c1
    decide
  rw [if_neg c1] at h
  by_cases c2 : p = 2
  · rw [if_pos c2] at h
    cases h
    subst c2
    decide
  rw [if_neg c2] at h
  by_cases c3 : p = 3
  · rw [if_pos c3] at h
    cases h
    subst c3
    decide
  rw [if_neg c3] at h
  by_cases c4 : p = 4
  · rw [if_pos c4] at h
    cases h
    subst c4
    decide
  rw [if_neg c4] at h
  by_cases c5 : p = 5
  · rw [if_pos c5] at h
    cases h
    subst c5
    decide
  rw [if_neg c5] at h
  by_cases c6 : p = 6
  · rw [if_pos c6] at h
    cases h
    subst c6
    decide
  rw [if_neg c6] at h
  by_cases c7 : p = 7
  · rw [if_pos c7] at h
    cases h
    subst c7
    decide
  rw [if_neg c7] at h
  by_cases c8 : p = 8
  · rw [if_pos c8] at h
    cases h
    subst c8
    decide
  rw [if_neg c8] at h
  by_cases c9 : p = 9
  · rw [if_pos c9] at h
    cases h
    subst c9
    decide
  rw [if_neg c9] at h
  by_cases c10 : p = 10
  · rw [if_pos c10] at h
    cases h
    subst c10
    decide
  rw [if_neg c10] at h
  by_cases c11 : p = 11
  · rw [if_pos c11] at h
    cases h
    subst c11
    decide
  rw [if_neg c11] at h
  by_cases c12 : p = 12
  · rw [if_pos c12] at h
    cases h
    subst c12
    decide
  rw [if_neg c12] at h
  by_cases c13 : p = 13
  · rw [if_pos c13] at h
    cases h
    subst c13
    decide
  rw [if_neg c13] at h
  by_cases c14 : p = 14
  · rw [if_pos c14] at h
    cases h
    subst c14
    decide
  rw [if_neg c14] at h
  by_cases c15 : p = 15
  · rw [if_pos c15] at h
    cases h
    subst c15
    decide
  rw [if_neg c15] at h
  by_cases c16 : p = 16
  · rw [if_pos c16] at h
    cases h
    subst c16
    decide
  rw [if_neg c16] at h
  by_cases c17 : p = 17
  · rw [if_pos c17] at h
    cases h
    subst c17
    decide
  rw [if_neg c17] at h
  cases h
theorem nat_of {x : Int} (h : PyInside.within 0 4294967295 x = true) : ∃ n : Nat, x = iN n ∧ n ≤ big := by
  unfold PyInside.within at h
  simp only [Bool.and_eq_true, decide_eq_true_eq] at h
  refine ⟨x.toNat, by simp only [iN]; omega, by unfold big; omega⟩
theorem nats_of : ∀ {l : List Int}, l.all (PyInside.within 0 65535) = true → ∃ r : List Nat, l = r.map iN ∧ ∀ x ∈ r, x ≤ 65535
  | [], _ => ⟨[], rfl, fun _ h => by cases h⟩
  | x :: l, h => by
    rw [List.all_cons, Bool.and_eq_true] at h
    obtain ⟨r, hr, hb⟩ := nats_of h.2
    have h1 := h.1
    unfold PyInside.within at h1
    simp only [Bool.and_eq_true, decide_eq_true_eq] at h1
    refine ⟨x.toNat :: r, ?_, fun y hy => ?_⟩
    · rw [List.map_cons, ← hr, show iN x.toNat = x by simp only [iN]; omega]
    · rcases List.mem_cons.mp hy with rfl | hy
      · omega
      · exact hb y hy
theorem within_and {a b : Bool} (h : (a && b) = true) : a = true ∧ b = true := by
  rw [Bool.and_eq_true] at h
  exact h
theorem nats_map (r : List Nat) : (r.map iN).map Int.toNat = r := by
  rw [List.map_map]
  conv => rhs; rw [← List.map_id r]
  rfl
theorem bq_of {q : Call} (h : ∀ x ∈ flatC q, x ≤ big) (k : ∀ t l, q ≠ .does t l) : Bq q := ⟨h, fun t l e => absurd e (k t l)⟩
/-- one call -/
theorem one_call {c : List (List Int)} (ok : PyFlat.okCall PyKv402.shape c) (b : PyInside.call PyKv402.bound c = true) :
    ∃ q, Kv402Neutral.callOf c = some q ∧ PyFlat.put1 c = (flatC q).map iN ∧ Bq q := by
  obtain ⟨p, a, xs, rfl, hs⟩ := ok
  rcases shape_cases hs with ⟨hk, hc⟩ | ⟨rfl, hn, hk⟩
  · have hx : xs = [] := List.length_eq_zero_iff.mp hk
    subst hx
    have c0 : (0 : Nat) ≤ big := Nat.zero_le _
    have cs : ∀ k : Nat, k ≤ 17 → k ≤ big := fun k hk => by unfold big; omega
    rcases hc with ⟨rfl, hn⟩ | ⟨rfl, hn⟩ | ⟨rfl, hn⟩ | ⟨rfl, hn⟩ | ⟨rfl, hn⟩ | ⟨rfl, hn⟩ | ⟨rfl, hn⟩ | ⟨rfl, hn⟩ | ⟨rfl, hn⟩ | ⟨rfl, hn⟩ | ⟨rfl, hn⟩ | ⟨rfl, hn⟩ | ⟨rfl, hn⟩ | ⟨rfl, hn⟩ | ⟨rfl, hn⟩ | ⟨rfl, hn⟩ | ⟨rfl, hn⟩
    all_goals first
      | (obtain rfl := List.length_eq_zero_iff.mp hn
         refine ⟨_, rfl, rfl, bq_of (fun x hx => ?_) (fun t l e => by cases e)⟩
         simp only [flatC, List.mem_cons, List.not_mem_nil, or_false] at hx
         subst hx
         exact cs _ (by decide))
      | (obtain ⟨x, rfl⟩ := len1 hn
         obtain ⟨b1, _⟩ := within_and (within_and b).1
         obtain ⟨n, rfl, hb⟩ := nat_of b1
         refine ⟨_, rfl, rfl, bq_of (fun x hx => ?_) (fun t l e => by cases e)⟩
         simp only [flatC, List.mem_cons, List.not_mem_nil, or_false] at hx
         rcases hx with rfl | rfl
         · exact cs _ (by decide)
         · exact hb)
      | (obtain ⟨x, y, rfl⟩ := len2 hn
         obtain ⟨b1, b2⟩ := within_and (within_and b).1
         obtain ⟨b2, _⟩ := within_and b2
         obtain ⟨n, rfl, hb⟩ := nat_of b1
         obtain ⟨m, rfl, hb2⟩ := nat_of b2
         refine ⟨_, rfl, rfl, bq_of (fun x hx => ?_) (fun t l e => by cases e)⟩
         simp only [flatC, List.mem_cons, List.not_mem_nil, or_false] at hx
         rcases hx with rfl | rfl | rfl
         · exact cs _ (by decide)
         · exact hb
         · exact hb2)
      | (obtain ⟨x, y, z, rfl⟩ := len3 hn
         obtain ⟨b1, b2⟩ := within_and (within_and b).1
         obtain ⟨b2, b3⟩ := within_and b2
         obtain ⟨b3, _⟩ := within_and b3
         obtain ⟨n, rfl, hb⟩ := nat_of b1
         obtain ⟨m, rfl, hb2⟩ := nat_of b2
         obtain ⟨k, rfl, hb3⟩ := nat_of b3
         refine ⟨_, rfl, rfl, bq_of (fun x hx => ?_) (fun t l e => by cases e)⟩
         simp only [flatC, List.mem_cons, List.not_mem_nil, or_false] at hx
         rcases hx with rfl | rfl | rfl | rfl
         · exact cs _ (by decide)
         · exact hb
         · exact hb2
         · exact hb3)
  · obtain ⟨x, rfl⟩ := len1 hn
    obtain ⟨r, rfl⟩ := List.length_eq_one_iff.mp hk
    obtain ⟨b1, b2⟩ := within_and b
    obtain ⟨b1, _⟩ := within_and b1
    obtain ⟨b2, _⟩ := within_and b2
    obtain ⟨b2, b3⟩ := within_and b2
    obtain ⟨_, b4⟩ := within_and b2
    obtain ⟨n, rfl, hb⟩ := nat_of b1
    obtain ⟨l, rfl, hl⟩ := nats_of b3
    have b4 : l.length ≤ 200 := by
      have := of_decide_eq_true b4
      rw [List.length_map] at this
      exact this
    refine ⟨.does n l, ?_, ?_, ⟨fun x hx => ?_, fun t r e => ?_⟩⟩
    · show some (Call.does n ((l.map iN).map Int.toNat)) = _
      rw [nats_map]
    · show (12 : Int) :: iN n :: ((((l.map iN).length : Nat) : Int) :: l.map iN ++ []) = _
      rw [List.length_map, List.append_nil]
      rfl
    · rcases List.mem_cons.mp hx with rfl | hx
      · unfold big; omega
      · rcases List.mem_cons.mp hx with rfl | hx
        · exact hb
        · rcases List.mem_cons.mp hx with rfl | hx
          · unfold big; omega
          · have := hl x hx
            unfold big; omega
    · cases e
      exact ⟨b4, hl⟩
theorem whole_id (c : List (List Int)) : PyKv402.whole c = c := by
  unfold PyKv402.whole
  split <;> rfl
theorem whole_map (cs : List (List (List Int))) : cs.map PyKv402.whole = cs := by
  rw [show PyKv402.whole = id from funext whole_id, List.map_id]
theorem played_q : ∀ (cs : List (List (List Int))) (s : State), (∀ c ∈ cs, PyFlat.okCall PyKv402.shape c ∧ PyInside.call PyKv402.bound c = true) →
    ∃ qs : List Call, PyFlat.put cs = (qs.flatMap flatC).map iN ∧ qs.length = cs.length ∧ (∀ q ∈ qs, Bq q) ∧ ∀ s, PyFlat.told (PyFlat.played Kv402Neutral.step s cs) = toldQ s qs
  | [], s, _ => ⟨[], rfl, rfl, fun _ h => (by cases h), fun _ => rfl⟩
  | c :: cs, s, h => by
    obtain ⟨q, h1, h2, h3⟩ := one_call (h c (by simp)).1 (h c (by simp)).2
    obtain ⟨qs, e1, e2, e3, e4⟩ := played_q cs s fun d hd => h d (by simp [hd])
    refine ⟨q :: qs, ?_, by rw [List.length_cons, List.length_cons, e2], fun x hx => ?_, fun s => ?_⟩
    · show PyFlat.put1 c ++ PyFlat.put cs = _
      rw [h2, e1, List.flatMap_cons, List.map_append]
    · rcases List.mem_cons.mp hx with rfl | hx
      · exact h3
      · exact e3 x hx
    · have st : Kv402Neutral.step s c = ((act s q).1, Kv402Neutral.row (act s q).2) := by
        unfold Kv402Neutral.step
        rw [h1]
      show ((((Kv402Neutral.step s c).2.length : Nat) : Int) :: (Kv402Neutral.step s c).2) ++ PyFlat.told (PyFlat.played Kv402Neutral.step (Kv402Neutral.step s c).1 cs) = _
      rw [st, e4]
      rfl
/-- what is asked, read -/
theorem parse {l : List Int} (h : PyKv402.answers_asked l = true) : ∃ qs : List Call, l = (qs.flatMap flatC).map iN ∧ qs.length ≤ 256 ∧ (∀ q ∈ qs, Bq q) ∧ PyKv402.answers l = toldQ none qs := by
  unfold PyKv402.answers_asked at h
  cases e : PyFlat.calls PyKv402.shape l.length l with
  | none => rw [e] at h; cases h
  | some raw =>
    rw [e] at h
    obtain ⟨h, _⟩ := within_and h
    obtain ⟨h, _⟩ := within_and h
    obtain ⟨h, hin⟩ := within_and h
    obtain ⟨_, hm⟩ := within_and h
    have hin := List.all_eq_true.mp hin
    obtain ⟨p1, p2⟩ := PyFlat.put_calls _ _ _ e
    obtain ⟨qs, e1, e2, e3, e4⟩ := played_q raw none fun c hc => ⟨p2 c hc, hin c hc⟩
    refine ⟨qs, p1.trans e1, ?_, e3, ?_⟩
    · rw [e2]
      exact of_decide_eq_true hm
    · unfold PyKv402.answers PyKv402.calls
      rw [e]
      show PyFlat.told (PyFlat.played Kv402Neutral.step Kv402Neutral.start (raw.map PyKv402.whole)) = _
      rw [whole_map]
      exact e4 none
end LL
namespace LL
open PySem PySem.Spec PyProof.Rows L2
open Kv402 (Line Net)
def top (i : Nat) : Stmt := PySem.Challenge.pw_linesleft_s01_answers.main.body.getD i (.Pass ⟨0, 0, 0, 0⟩)
/-! ### Values -/
abbrev vN (k : Nat) : V := .int (k : Int)
abbrev vL (l : Line) : List V := [vN l.w, vN l.a, vN l.b]
/-- tuples at these addresses -/
def Tups (H : Hp) : List Addr → List Line → Prop
  | [], [] => True
  | t :: ts, l :: s => H t = some (.tup (vL l)) ∧ Tups H ts s
  | _, _ => False
def LinesAt (H : Hp) (a : Addr) (s : List Line) : Prop := ∃ ts, H a = some (.lst (ts.map V.ref)) ∧ Tups H ts s
theorem same_upd {H : Hp} {p : Addr} {o : HO} (h : H p = none) : Same H (upd H p o) := fun b x e => by
  rw [upd_ne (ne_of_none e h)]
  exact e
/-- what was tracked ahead stands; the list at p, made since, is changed -/
theorem same_set {H H' : Hp} {p : Addr} {o : HO} (h : H p = none) (s : Same H H') : Same H (upd H' p o) := fun b x e => by
  rw [upd_ne (ne_of_none e h)]
  exact s b x e
theorem Tups.same {H H' : Hp} (s : Same H H') : ∀ {ts : List Addr} {l : List Line}, Tups H ts l → Tups H' ts l
  | [], [], h => h
  | _ :: _, _ :: _, ⟨h, r⟩ => ⟨s _ _ h, Tups.same s r⟩
  | [], _ :: _, h => h.elim
  | _ :: _, [], h => h.elim
theorem LinesAt.same {H H' : Hp} (s : Same H H') {a : Addr} {l : List Line} : LinesAt H a l → LinesAt H' a l
  | ⟨ts, h, r⟩ => ⟨ts, s _ _ h, r.same s⟩
theorem Tups.get {H : Hp} : ∀ {ts : List Addr} {s : List Line}, Tups H ts s → ∀ {i : Nat} {x : V}, (ts.map V.ref)[i]? = some x → ∃ t l, x = .ref t ∧ ts[i]? = some t ∧ s[i]? = some l ∧ H t = some (.tup (vL l))
  | [], [], _, i, x, h => by simp at h
  | t :: ts, l :: s, ⟨h1, r⟩, 0, x, h => by
    have e : V.ref t = x := Option.some.inj h
    exact ⟨t, l, e.symm, rfl, rfl, h1⟩
  | t :: ts, l :: s, ⟨_, r⟩, i + 1, x, h => Tups.get r (i := i) (x := x) h
  | [], _ :: _, h, _, _, _ => h.elim
  | _ :: _, [], h, _, _, _ => h.elim
theorem Tups.len {H : Hp} : ∀ {ts : List Addr} {s : List Line}, Tups H ts s → ts.length = s.length
  | [], [], _ => rfl
  | _ :: _, _ :: _, ⟨_, r⟩ => congrArg (· + 1) (Tups.len r)
  | [], _ :: _, h => h.elim
  | _ :: _, [], h => h.elim
theorem take_more {α : Type} : ∀ {l : List α} {i : Nat} {x : α}, l[i]? = some x → l.take (i + 1) = l.take i ++ [x]
  | [], i, x, h => by simp at h
  | a :: l, 0, x, h => by
    have e : a = x := Option.some.inj h
    subst e
    rfl
  | a :: l, i + 1, x, h => by
    have ih := take_more (l := l) (i := i) (x := x) h
    show a :: l.take (i + 1) = a :: l.take i ++ [x]
    rw [ih]
    rfl
theorem map_set {l : List Nat} {i v : Nat} : (l.map vN).set i (vN v) = (l.set i v).map vN := by
  rw [List.map_set]
theorem at_vN {f : List Nat} {i : Nat} (h : i < f.length) : atI (f.map vN) (i : Int) = some (vN (f.getD i 0)) := by
  refine atI_nat ?_
  rw [List.getElem?_map, List.getD_eq_getElem?_getD, List.getElem?_eq_getElem h]
  rfl
theorem ixN_nat {n i : Nat} (h : i < n) : ixN n (i : Int) = some i := by
  unfold ixN
  rw [if_pos (by omega), if_pos (by omega)]
  rfl
theorem min_int {a b : Nat} : (if ((b : Nat) : Int) < (a : Int) then ((b : Nat) : Int) else (a : Int)) = ((min a b : Nat) : Int) := by
  by_cases c : b < a
  · rw [if_pos (by omega)]
    omega
  · rw [if_neg (by omega)]
    omega
/-- a test whose outcome is known -/
theorem iteP {c : Bool} {A B : Prop} (hc : c = true) (h : A) : if c = true then A else B := by
  subst hc
  exact h
theorem iteN {c : Bool} {A B : Prop} (hc : c = false) (h : B) : if c = true then A else B := by
  subst hc
  exact h
/-- a constant of the top -/
theorem pe_gl {X : Cx} {x : Str} {v : Int} {pos : Pos} (hg : Gl X x) (h : ∃ t, X.mg x = some (.int v t)) (hd : (x == "__debug__") = false := by decide) : PE X (.Name x pos) (tC (.int v)) := by
  obtain ⟨t, h⟩ := h
  exact pe_glob hg h ⟨_, rfl⟩ hd
/-- the names of the top that the defs ask for -/
structure Gtop (mg : Str → Option Value) : Prop where
  g_FAR : ∃ t, mg "FAR" = some (.int (10000) t)
  g_NO_SUCH : ∃ t, mg "NO_SUCH" = some (.int (-2) t)
  g_NO_CHANGE : ∃ t, mg "NO_CHANGE" = some (.int (-6) t)
  g_NOT_BEGUN : ∃ t, mg "NOT_BEGUN" = some (.int (-11) t)
  g_OUT_OF_RANGE : ∃ t, mg "OUT_OF_RANGE" = some (.int (-22) t)
  g_TOO_MANY : ∃ t, mg "TOO_MANY" = some (.int (-28) t)
  g_NONE_THERE : ∃ t, mg "NONE_THERE" = some (.int (-33) t)
  g_MOST_PLACES : ∃ t, mg "MOST_PLACES" = some (.int (8) t)
  g_MOST_LINES : ∃ t, mg "MOST_LINES" = some (.int (14) t)
  g_MOST_LENGTH : ∃ t, mg "MOST_LENGTH" = some (.int (99) t)
  g_MOST_TIMES : ∃ t, mg "MOST_TIMES" = some (.int (9) t)
  g_MOST_BACK : ∃ t, mg "MOST_BACK" = some (.int (10) t)
  g_MOST_TO_CHOOSE_FROM : ∃ t, mg "MOST_TO_CHOOSE_FROM" = some (.int (10) t)
  g_DOES : ∃ t, mg "DOES" = some (.int (12) t)
  b_range : mg "range" = none
  b_min : mg "min" = none
  b_max : mg "max" = none
  b_len : mg "len" = none
  b_sorted : mg "sorted" = none
  b_list : mg "list" = none
  b_sum : mg "sum" = none
  b_any : mg "any" = none
  b_enumerate : mg "enumerate" = none
/-- where a def of the top stands -/
structure At (P : Program) (w : World) (K : PySem.W.Frag) (mg : Str → Option Value) (base : Heap) (k : Nat) (x : Str) (ps : List Str) (sp : Sp) (f : Addr) (fd : FuncData) : Prop where
  ok : FnOk P w K mg base CX0 k f fd ps sp
  gl : mg x = some (.ref f)
  kp : PySem.W.keepIn K (.ref f) = true
  bi : Binds K fd ps []
/-! ### rows: a list of lists of numbers -/
def Rws (H : Hp) : List Addr → List (List Nat) → Prop
  | [], [] => True
  | t :: ts, l :: s => H t = some (.lst (l.map vN)) ∧ Rws H ts s
  | _, _ => False
def RowsAt (H : Hp) (a : Addr) (s : List (List Nat)) : Prop := ∃ ts, H a = some (.lst (ts.map V.ref)) ∧ Rws H ts s
theorem Rws.same {H H' : Hp} (s : Same H H') : ∀ {ts : List Addr} {l : List (List Nat)}, Rws H ts l → Rws H' ts l
  | [], [], h => h
  | _ :: _, _ :: _, ⟨h, r⟩ => ⟨s _ _ h, Rws.same s r⟩
  | [], _ :: _, h => h.elim
  | _ :: _, [], h => h.elim
theorem RowsAt.same {H H' : Hp} (s : Same H H') {a : Addr} {l : List (List Nat)} : RowsAt H a l → RowsAt H' a l
  | ⟨ts, h, r⟩ => ⟨ts, s _ _ h, r.same s⟩
theorem Rws.get {H : Hp} : ∀ {ts : List Addr} {s : List (List Nat)}, Rws H ts s → ∀ {i : Nat} {x : V}, (ts.map V.ref)[i]? = some x → ∃ t l, x = .ref t ∧ ts[i]? = some t ∧ s[i]? = some l ∧ H t = some (.lst (l.map vN))
  | [], [], _, i, x, h => by simp at h
  | t :: ts, l :: s, ⟨h1, r⟩, 0, x, h => by
    have e : V.ref t = x := Option.some.inj h
    exact ⟨t, l, e.symm, rfl, rfl, h1⟩
  | t :: ts, l :: s, ⟨_, r⟩, i + 1, x, h => Rws.get r (i := i) (x := x) h
  | [], _ :: _, h, _, _, _ => h.elim
  | _ :: _, [], h, _, _, _ => h.elim
theorem Rws.len {H : Hp} : ∀ {ts : List Addr} {s : List (List Nat)}, Rws H ts s → ts.length = s.length
  | [], [], _ => rfl
  | _ :: _, _ :: _, ⟨_, r⟩ => congrArg (· + 1) (Rws.len r)
  | [], _ :: _, h => h.elim
  | _ :: _, [], h => h.elim
theorem Rws.app {H : Hp} : ∀ {ts us : List Addr} {s r : List (List Nat)}, Rws H ts s → Rws H us r → Rws H (ts ++ us) (s ++ r)
  | [], _, [], _, _, h => h
  | _ :: _, _, _ :: _, _, ⟨h, k⟩, h2 => ⟨h, Rws.app k h2⟩
  | [], _, _ :: _, _, h, _ => h.elim
  | _ :: _, _, [], _, h, _ => h.elim
/-- none of them stands at p -/
theorem Rws.upd {H : Hp} {p : Addr} {o : HO} : ∀ {ts : List Addr} {s : List (List Nat)}, Rws H ts s → (∀ t ∈ ts, t ≠ p) → Rws (upd H p o) ts s
  | [], [], h, _ => h
  | t :: ts, l :: s, ⟨h, r⟩, ne => ⟨by rw [upd_ne (ne t (by simp))]; exact h, Rws.upd r fun x hx => ne x (by simp [hx])⟩
  | [], _ :: _, h, _ => h.elim
  | _ :: _, [], h, _ => h.elim
/-- the numbers of a list, as data -/
theorem dp_nats {K : PySem.W.Frag} {H : Hp} : ∀ l : List Nat, DpAll K H (l.map vN) (l.map fun k : Nat => PyData.int (k : Int))
  | [] => .nil
  | _ :: l => .cons (.int _) (dp_nats l)
theorem eqv_nats : ∀ l r : List Nat, PyData.eqvAll (l.map fun k : Nat => PyData.int (k : Int)) (r.map fun k : Nat => PyData.int (k : Int)) = decide (l = r)
  | [], [] => by simp [PyData.eqvAll]
  | [], _ :: _ => by simp [PyData.eqvAll]
  | _ :: _, [] => by simp [PyData.eqvAll]
  | x :: l, y :: r => by
    rw [List.map_cons, List.map_cons, PyData.eqvAll, eqv_nats l r]
    by_cases c : x = y
    · subst c
      simp [PyData.eqv]
    · have : ¬ ((x : Int) = (y : Int)) := by omega
      simp [PyData.eqv, c, this]
theorem can_nats : ∀ l : List Nat, PyData.canLayAll0 (l.map fun k : Nat => PyData.int (k : Int)) = true
  | [] => by simp [PyData.canLayAll0]
  | x :: l => by
    rw [List.map_cons, PyData.canLayAll0, can_nats l]
    simp [PyData.canLay0]
theorem dep_nats : ∀ l : List Nat, PyData.depthAll (l.map fun k : Nat => PyData.int (k : Int)) = 0
  | [] => by simp [PyData.depthAll]
  | x :: l => by
    rw [List.map_cons, PyData.depthAll, dep_nats l]
    simp [PyData.depth]
theorem shp_list (l : List Nat) : SeqAt.shaped (.list (l.map fun k : Nat => PyData.int (k : Int))) = true := by
  unfold SeqAt.shaped
  simp only [PyData.canLay0, PyData.depth, can_nats, dep_nats]
  decide
theorem shp_tup (l : List Nat) : SeqAt.shaped (.tuple (l.map fun k : Nat => PyData.int (k : Int))) = true := by
  unfold SeqAt.shaped
  simp only [PyData.canLay0, PyData.depth, can_nats, dep_nats]
  decide
end LL
namespace LL
open PySem PySem.Spec PyProof.Rows L2
open Kv402 (Line Net)
abbrev sDist : Stmt := top 2
theorem scDist : FnScope ["size", "lines", "start", "far", "turn", "before", "length", "lesser", "other"] ["size", "lines", "start"] (defScope sDist) := ⟨rfl, rfl, rfl, by decide +kernel, rfl, by decide +kernel, by decide +kernel⟩
def spDist : Sp := fun vs H Q _ => ∃ (n u : Nat) (a : Addr) (s : List Line), vs = [vN n, .ref a, vN u] ∧ LinesAt H a s ∧ Ok n s ∧ n ≤ 8 ∧ u < n ∧
  ∀ H' p, Same H H' → H p = none → H' p = some (.lst ((dists n s u).map vN)) → Q (.ref p) H'
section
variable {P : Program} {w : World} {K : PySem.W.Frag} {mg : Str → Option Value} {base : Heap}
theorem relax_len (f : List Nat) (l : Line) : (relax f l).length = f.length := by simp [relax]
theorem pass_len : ∀ (s : List Line) (f : List Nat), (pass s f).length = f.length
  | [], f => rfl
  | l :: s, f => (pass_len s (relax f l)).trans (relax_len f l)
theorem rounds_len (s : List Line) (f : List Nat) : ∀ k, (rounds s k f).length = f.length
  | 0 => rfl
  | k + 1 => by rw [rounds_succ, pass_len, rounds_len s f k]
theorem pass_more {s : List Line} {i : Nat} {l : Line} (f : List Nat) (h : s[i]? = some l) : pass (s.take (i + 1)) f = relax (pass (s.take i) f) l := by
  unfold pass
  rw [take_more h, List.foldl_append]
  rfl
theorem ok_dist {f : Addr} {fd : FuncData} (F : Fun K "distances" "distances" sDist f fd) (G : Gtop mg) : FnOk P w K mg base CX0 1 f fd ["size", "lines", "start"] spDist := by
  refine F.ok scDist (fun vs H Q E h => ?_) (fun cdv A outer s H vs Q E hr h => ?_)
  · obtain ⟨n, u, a, s, rfl, _⟩ := h
    rfl
  · obtain ⟨n, u, a, ls, rfl, hL, o, n8, hu, k⟩ := h
    refine ⟨_, pss_cons (ps_set (i := 3) scDist.nd rfl (.inl rfl) (pe_op op_rep (pe_lst (pa_cons (pe_gl rfl G.g_FAR) pa_nil)) (pv 0)))
      (pss_cons (ps_asg pe_int (pg_sub (pv 3) (pv 2) set_list))
      (pss_cons (ps_for PassesOwn.never rfl (pi_range1 rfl G.b_range (pa_cons (pe_op op_sub (pv 0) pe_int) pa_nil)) (pg_name (i := 4) scDist.nd rfl (.inl rfl))
        (pss_cons (ps_set (i := 5) scDist.nd rfl (.inl rfl) (pe_callTy call_list_of (by rfl) G.b_list (by decide +kernel) (pa_cons (pv 3) pa_nil)))
        (pss_cons (ps_for PassesOwn.never rfl (pi_list (pv 1)) (pg_tup rfl (pgs_cons (pg_name (i := 6) scDist.nd rfl (.inl rfl)) (pgs_cons (pg_name (i := 7) scDist.nd rfl (.inl rfl)) (pgs_cons (pg_name (i := 8) scDist.nd rfl (.inl rfl)) pgs_nil))))
          (pss_cons (ps_asg (pe_callB (call_min2 rfl) (by rfl) G.b_min (by decide +kernel) (pa_cons (pe_ix ix_list (pv 3) (pv 7) (fun _ _ => rfl)) (pa_cons (pe_op op_add (pe_ix ix_list (pv 3) (pv 8) (fun _ _ => rfl)) (pv 6)) pa_nil))) (pg_sub (pv 3) (pv 7) set_list))
          (pss_one (ps_asg (pe_callB (call_min2 rfl) (by rfl) G.b_min (by decide +kernel) (pa_cons (pe_ix ix_list (pv 3) (pv 8) (fun _ _ => rfl)) (pa_cons (pe_op op_add (pe_ix ix_list (pv 3) (pv 7) (fun _ _ => rfl)) (pv 6)) pa_nil))) (pg_sub (pv 3) (pv 8) set_list)))))
        (pss_one (ps_if (pt_cmpR (op_eqD hr.units) (pv 3) (pv 5) (nomark _)) (pss_one ps_break) pss_nil)))))
      (pss_one (ps_ret (pv 3))))), ?_⟩
    obtain ⟨ts, hA, hT⟩ := hL
    -- far = [FAR] * size
    refine ⟨(by show 1 ≤ sizeLine; decide), fun q hq => ?_⟩
    refine ⟨_, rfl, q, (n : Int), _, rfl, rfl, upd_same, by omega, by omega, ?_, fun p hp => ?_⟩
    · have : 1 * ((n : Int)).toNat ≤ 8 := by omega
      exact Nat.le_trans this (by decide)
    have s1 : Same H (upd H q (.lst [V.int 10000])) := same_upd hq
    have hp0 : H p = none := s1.free hp
    have rep : (List.replicate ((n : Int)).toNat [V.int 10000]).flatten = (List.replicate n 10000).map vN := by
      show (List.replicate n [V.int 10000]).flatten = _
      clear hu n8 o k
      induction n with
      | zero => rfl
      | succ n ih => rw [List.replicate_succ, List.flatten_cons, ih, List.replicate_succ]; rfl
    rw [rep]
    -- far[start] = 0
    refine ⟨_, rfl, _, rfl, p, _, _, u, rfl, rfl, upd_same, ixN_nat (by rw [List.length_map, List.length_replicate]; exact hu), ?_⟩
    have s2 : Same H (upd (upd H q (.lst [V.int 10000])) p (.lst ((List.replicate n 10000).map vN))) := same_set hp0 s1
    have e0 : ((List.replicate n 10000).map vN).set u (vN 0) = (((List.replicate n 10000).set u 0).map vN) := map_set
    -- for turn in range(size - 1)
    refine ⟨_, rfl, _, _, rfl, rfl, (n : Int) - 1, rfl, by omega, by omega, ?_⟩
    refine for_range (lo := 0) (n := ((n : Int) - 1).toNat) (fun i σ H' => ∃ y4 y5 y6 y7 y8, σ = [some (vN n), some (.ref a), some (vN u), some (.ref p), y4, y5, y6, y7, y8] ∧ Same H H' ∧ H' p = some (.lst ((rounds ls i ((List.replicate n 10000).set u 0)).map vN)))
      ⟨none, none, none, none, none, rfl, same_set hp0 s2, ?_⟩ ?_ ?_
    · rw [upd_same]
      exact congrArg (fun z => some (HO.lst z)) e0
    · rintro i σ H1 hi ⟨y4, y5, y6, y7, y8, rfl, sm, hP⟩
      -- before = list(far)
      refine ⟨_, rfl, p, _, rfl, .inl (SqL.of hP), fun bq hbq => ?_⟩
      have nbp : bq ≠ p := (ne_of_none hP hbq).symm
      have smb : Same H (upd H1 bq (.lst ((rounds ls i ((List.replicate n 10000).set u 0)).map vN))) := fun b o z => same_upd hbq b o (sm b o z)
      -- for length, lesser, other in lines
      refine ⟨_, rfl, a, rfl, ⟨_, SqL.of (smb _ _ hA)⟩, for_list (K := K) (a := a) (xs := ts.map V.ref) (fun j σ H' => ∃ y6 y7 y8, σ = [some (vN n), some (.ref a), some (vN u), some (.ref p), some (.int (0 + i)), some (.ref bq), y6, y7, y8] ∧ Same H H' ∧ H' bq = some (.lst ((rounds ls i ((List.replicate n 10000).set u 0)).map vN)) ∧ H' p = some (.lst ((pass (ls.take j) (rounds ls i ((List.replicate n 10000).set u 0))).map vN)))
        ⟨y6, y7, y8, rfl, smb, upd_same, by rw [upd_ne nbp.symm]; exact hP⟩ (fun j σ H' _ ⟨_, _, _, _, s5, _⟩ => SqL.of (s5 _ _ hA)) ?_ ?_⟩
      · rintro j x σ H2 hj ⟨z6, z7, z8, rfl, s5, hB, hP2⟩
        obtain ⟨t, l, rfl, ht, hl, hTl⟩ := hT.get hj
        have lm : l ∈ ls := List.mem_of_getElem? hl
        have hab := o.ab l lm
        have hb := o.bn l lm
        have glen : (pass (ls.take j) (rounds ls i ((List.replicate n 10000).set u 0))).length = n := by
          rw [pass_len, rounds_len]; simp
        refine ⟨t, _, rfl, SqT.of (s5 _ _ hTl), rfl, _, _, rfl, _, _, rfl, _, _, rfl, rfl, ?_⟩
        have step := pass_more (rounds ls i ((List.replicate n 10000).set u 0)) hl
        generalize pass (ls.take j) (rounds ls i ((List.replicate n 10000).set u 0)) = g at hP2 glen step
        -- far[lesser] = min(far[lesser], far[other] + length)
        refine ⟨_, rfl, _, rfl, p, _, _, _, rfl, rfl, SqL.of hP2, at_vN (f := g) (i := l.a) (by omega), _, rfl, _, rfl, p, _, _, _, rfl, rfl, SqL.of hP2, at_vN (f := g) (i := l.b) (by omega), _, rfl, _, _, rfl, rfl, _, _, rfl, ?_⟩
        refine ⟨_, rfl, _, rfl, p, _, _, l.a, rfl, rfl, hP2, ixN_nat (by rw [List.length_map]; omega), ?_⟩
        have em : (if ((g.getD l.b 0 : Nat) : Int) + ((l.w : Nat) : Int) < ((g.getD l.a 0 : Nat) : Int) then ((g.getD l.b 0 : Nat) : Int) + ((l.w : Nat) : Int) else ((g.getD l.a 0 : Nat) : Int)) = ((min (g.getD l.a 0) (g.getD l.b 0 + l.w) : Nat) : Int) := min_int (b := g.getD l.b 0 + l.w)
        rw [em, show ((g.map vN).set l.a (V.int ((min (g.getD l.a 0) (g.getD l.b 0 + l.w) : Nat) : Int))) = ((g.set l.a (min (g.getD l.a 0) (g.getD l.b 0 + l.w))).map vN) from map_set]
        have glen2 : (g.set l.a (min (g.getD l.a 0) (g.getD l.b 0 + l.w))).length = n := by rw [List.length_set]; exact glen
        have e2 : relax g l = (g.set l.a (min (g.getD l.a 0) (g.getD l.b 0 + l.w))).set l.b (min ((g.set l.a (min (g.getD l.a 0) (g.getD l.b 0 + l.w))).getD l.b 0) ((g.set l.a (min (g.getD l.a 0) (g.getD l.b 0 + l.w))).getD l.a 0 + l.w)) := rfl
        rw [e2] at step
        generalize g.set l.a (min (g.getD l.a 0) (g.getD l.b 0 + l.w)) = g2 at glen2 step
        refine ⟨_, rfl, _, rfl, p, _, _, _, rfl, rfl, SqL.of upd_same, at_vN (f := g2) (i := l.b) (by omega), _, rfl, _, rfl, p, _, _, _, rfl, rfl, SqL.of upd_same, at_vN (f := g2) (i := l.a) (by omega), _, rfl, _, _, rfl, rfl, _, _, rfl, ?_⟩
        refine ⟨_, rfl, _, rfl, p, _, _, l.b, rfl, rfl, upd_same, ixN_nat (by rw [List.length_map]; omega), ?_⟩
        have em2 : (if ((g2.getD l.a 0 : Nat) : Int) + ((l.w : Nat) : Int) < ((g2.getD l.b 0 : Nat) : Int) then ((g2.getD l.a 0 : Nat) : Int) + ((l.w : Nat) : Int) else ((g2.getD l.b 0 : Nat) : Int)) = ((min (g2.getD l.b 0) (g2.getD l.a 0 + l.w) : Nat) : Int) := min_int (b := g2.getD l.a 0 + l.w)
        rw [em2, show ((g2.map vN).set l.b (V.int ((min (g2.getD l.b 0) (g2.getD l.a 0 + l.w) : Nat) : Int))) = ((g2.set l.b (min (g2.getD l.b 0) (g2.getD l.a 0 + l.w))).map vN) from map_set]
        refine ⟨_, _, _, rfl, same_set hp0 (same_set hp0 s5), by rw [upd_ne nbp, upd_ne nbp]; exact hB, ?_⟩
        rw [upd_same, step]
      · rintro σ H2 ⟨z6, z7, z8, rfl, s5, hB, hP2⟩
        rw [List.length_map, hT.len, List.take_length] at hP2
        have e3 := rounds_succ ls i ((List.replicate n 10000).set u 0)
        -- if far == before: break
        refine ⟨_, rfl, _, rfl, _, _, .lst (SqL.of hP2) (dp_nats _), .lst (SqL.of hB) (dp_nats _), shp_list _, shp_list _, _, rfl, ?_⟩
        have ev : PyData.eqv (.list ((pass ls (rounds ls i ((List.replicate n 10000).set u 0))).map fun k : Nat => PyData.int (k : Int))) (.list ((rounds ls i ((List.replicate n 10000).set u 0)).map fun k : Nat => PyData.int (k : Int))) = decide (pass ls (rounds ls i ((List.replicate n 10000).set u 0)) = rounds ls i ((List.replicate n 10000).set u 0)) := by
          rw [PyData.eqv, eqv_nats]
        rw [ev]
        refine ite2 (fun c => ?_) (fun c => ?_)
        · have c := of_decide_eq_true c
          refine ⟨_, rfl, k H2 p s5 hp0 ?_⟩
          rw [hP2, c]
          unfold dists
          have e4 := rounds_stop c (n - 1 - i)
          rw [show i + (n - 1 - i) = n - 1 by omega] at e4
          rw [e4]
        · exact ⟨_, _, z6, z7, z8, rfl, s5, by rw [e3]; exact hP2⟩
    · rintro σ H1 ⟨y4, y5, y6, y7, y8, rfl, sm, hP⟩
      refine ⟨_, rfl, k H1 p sm hp0 ?_⟩
      rw [hP]
      show some (HO.lst ((rounds ls ((n : Int) - 1).toNat ((List.replicate n 10000).set u 0)).map vN)) = some (HO.lst ((dists n ls u).map vN))
      unfold dists
      rw [show ((n : Int) - 1).toNat = n - 1 by omega]
end
end LL
namespace LL
open PySem PySem.Spec PyProof.Rows L2
open Kv402 (Line Net)
abbrev sStep : Stmt := top 4
theorem scStep : FnScope ["lines", "far", "place", "nearer", "length", "lesser", "other"] ["lines", "far", "place"] (defScope sStep) := ⟨rfl, rfl, rfl, by decide +kernel, rfl, by decide +kernel, by decide +kernel⟩
def spStep : Sp := fun vs H Q _ => ∃ (a q : Addr) (s : List Line) (f : List Nat) (u : Nat), vs = [.ref a, .ref q, vN u] ∧ LinesAt H a s ∧ H q = some (.lst (f.map vN)) ∧ s.length ≤ 100 ∧ u < f.length ∧ (∀ l ∈ s, l.a < f.length ∧ l.b < f.length) ∧ (∃ y, y ∈ near s f u) ∧
  ∀ H' m, Same H H' → m ∈ near s f u → (∀ y ∈ near s f u, m ≤ y) → Q (vN m) H'
theorem vN_true {a b : Nat} : decide (vN a = vN b) = true ↔ a = b := by
  constructor
  · intro h
    have := of_decide_eq_true h
    injection this with e
    omega
  · intro h
    subst h
    exact decide_eq_true rfl
section
variable {P : Program} {w : World} {K : PySem.W.Frag} {mg : Str → Option Value} {base : Heap}
theorem near_len (f : List Nat) (u : Nat) : ∀ (s : List Line) (acc : List Nat), (s.foldl (nearTurn f u) acc).length ≤ acc.length + 2 * s.length
  | [], acc => Nat.le_refl _
  | l :: s, acc => by
    have h1 := near_len f u s (nearTurn f u acc l)
    have h2 := nearTurn_length f u acc l
    rw [List.foldl_cons, List.length_cons]
    omega
theorem near_more {s : List Line} {i : Nat} {l : Line} (f : List Nat) (u : Nat) (h : s[i]? = some l) : near (s.take (i + 1)) f u = nearTurn f u (near (s.take i) f u) l := by
  unfold near
  rw [take_more h, List.foldl_append]
  rfl
theorem small {n m : Nat} (h : n ≤ m) (k : m < sizeLine) : n < sizeLine := Nat.lt_of_le_of_lt h k
theorem mem_vN {l : List Nat} {m : Int} (h : m ∈ l.map (fun k : Nat => (k : Int))) : ∃ k ∈ l, m = (k : Int) := by
  obtain ⟨k, hk, e⟩ := List.mem_map.mp h
  exact ⟨k, hk, e.symm⟩
theorem ok_step {f : Addr} {fd : FuncData} (F : Fun K "step" "step" sStep f fd) (G : Gtop mg) : FnOk P w K mg base CX0 1 f fd ["lines", "far", "place"] spStep := by
  refine F.ok scStep (fun vs H Q E h => ?_) (fun cdv A outer s H vs Q E hr h => ?_)
  · obtain ⟨a, q, s, f, u, rfl, _⟩ := h
    rfl
  · obtain ⟨a, q, ls, g, u, rfl, ⟨ts, hA, hT⟩, hq, hlen, hu, hab, ⟨y0, hy0⟩, k⟩ := h
    refine ⟨_, pss_cons (ps_set (i := 3) scStep.nd rfl (.inl rfl) (pe_lst pa_nil))
      (pss_cons (ps_for PassesOwn.never rfl (pi_list (pv 0)) (pg_tup rfl (pgs_cons (pg_name (i := 4) scStep.nd rfl (.inl rfl)) (pgs_cons (pg_name (i := 5) scStep.nd rfl (.inl rfl)) (pgs_cons (pg_name (i := 6) scStep.nd rfl (.inl rfl)) pgs_nil))))
        (Evl.pss_cut (ps_if (PW.pt (pw_and (pt_cmpR op_eq (pv 5) (pv 2) (nomark _)) (pw_and1 (pt_cmpR op_eq (pe_op op_add (pe_ix ix_list (pv 1) (pv 6) (fun _ _ => rfl)) (pv 4)) (pe_ix ix_list (pv 1) (pv 2) (fun _ _ => rfl)) (nomark _)))))
            (pss_one (ps_expr (pe_bm PySem.F.plainAttrs_list PySem.F.slot_list_append PySem.F.type_list_append mt_append (pv 3) (pa_cons (pv 6) pa_nil)))) pss_nil)
          (pss_one (ps_if (PW.pt (pw_and (pt_cmpR op_eq (pv 6) (pv 2) (nomark _)) (pw_and1 (pt_cmpR op_eq (pe_op op_add (pe_ix ix_list (pv 1) (pv 5) (fun _ _ => rfl)) (pv 4)) (pe_ix ix_list (pv 1) (pv 2) (fun _ _ => rfl)) (nomark _)))))
            (pss_one (ps_expr (pe_bm PySem.F.plainAttrs_list PySem.F.slot_list_append PySem.F.type_list_append mt_append (pv 3) (pa_cons (pv 5) pa_nil)))) pss_nil))))
      (pss_one (ps_ret (pe_callB (cr_min rfl) (by rfl) G.b_min (by decide +kernel) (pa_cons (pv 3) pa_nil))))), ?_⟩
    refine ⟨Nat.zero_le _, fun p hp => ?_⟩
    have s1 : Same H (upd H p (.lst [])) := same_upd hp
    refine ⟨_, rfl, a, rfl, ⟨_, SqL.of (s1 _ _ hA)⟩, for_list (K := K) (a := a) (xs := ts.map V.ref) (fun i σ H' => ∃ y4 y5 y6, σ = [some (.ref a), some (.ref q), some (vN u), some (.ref p), y4, y5, y6] ∧ Same H H' ∧ H' p = some (.lst ((near (ls.take i) g u).map vN)))
      ⟨none, none, none, rfl, s1, upd_same⟩ (fun j σ H' _ ⟨_, _, _, _, s5, _⟩ => SqL.of (s5 _ _ hA)) ?_ ?_⟩
    · rintro i x σ H2 hi ⟨z4, z5, z6, rfl, s5, hP⟩
      obtain ⟨t, l, rfl, ht, hl, hTl⟩ := hT.get hi
      have lm : l ∈ ls := List.mem_of_getElem? hl
      obtain ⟨la, lb⟩ := hab l lm
      have step := near_more g u hl
      have nl : (near (ls.take i) g u).length ≤ 200 := by
        have := near_len g u (ls.take i) []
        have h2 : (ls.take i).length ≤ ls.length := by rw [List.length_take]; omega
        have h3 : ([] : List Nat).length = 0 := rfl
        show (List.foldl (nearTurn g u) [] (ls.take i)).length ≤ 200
        omega
      generalize near (ls.take i) g u = acc at hP step nl
      have hq5 := s5 _ _ hq
      refine ⟨t, _, rfl, SqT.of (s5 _ _ hTl), rfl, _, _, rfl, _, _, rfl, _, _, rfl, rfl, ?_⟩
      refine ⟨fun σ' H' => σ' = [some (.ref a), some (.ref q), some (vN u), some (.ref p), some (vN l.w), some (vN l.a), some (vN l.b)] ∧ Same H H' ∧ H' p = some (.lst ((if l.a = u ∧ g.getD l.b 0 + l.w = g.getD u 0 then acc ++ [l.b] else acc).map vN)), ?_, ?_⟩
      · refine ⟨_, rfl, _, rfl, rfl, _, rfl, ?_⟩
        refine ite2 (fun c => ?_) (fun c => ?_)
        · have c := vN_true.mp c
          refine ⟨_, rfl, _, rfl, q, _, _, _, rfl, rfl, SqL.of hq5, at_vN (f := g) (i := l.b) lb, _, rfl, _, _, rfl, rfl, _, rfl, _, rfl, q, _, _, _, rfl, rfl, SqL.of hq5, at_vN (f := g) (i := u) hu, rfl, _, rfl, ?_⟩
          refine ite2 (fun d => ?_) (fun d => ?_)
          · have d := (vN_true (a := g.getD l.b 0 + l.w)).mp d
            refine ⟨_, rfl, .inl ⟨rfl, _, SqL.of hP⟩, _, rfl, p, _, _, rfl, rfl, hP, small (by rw [List.length_map]; exact nl) (by decide), ?_⟩
            exact ⟨rfl, same_set hp s5, by rw [upd_same, if_pos ⟨c, d⟩, List.map_append]; rfl⟩
          · have d : ¬ g.getD l.b 0 + l.w = g.getD u 0 := fun e => d ((vN_true (a := g.getD l.b 0 + l.w)).mpr e)
            exact ⟨rfl, s5, by rw [if_neg fun z => d z.2]; exact hP⟩
        · have c : ¬ l.a = u := fun e => c (vN_true.mpr e)
          refine iteF ?_
          exact ⟨rfl, s5, by rw [if_neg fun z => c z.1]; exact hP⟩
      · rintro σ' H3 ⟨rfl, s6, hP3⟩
        have nl3 : (if l.a = u ∧ g.getD l.b 0 + l.w = g.getD u 0 then acc ++ [l.b] else acc).length ≤ 201 := by
          by_cases c : l.a = u ∧ g.getD l.b 0 + l.w = g.getD u 0
          · rw [if_pos c, List.length_append, List.length_singleton]; omega
          · rw [if_neg c]; omega
        have stp : near (ls.take (i + 1)) g u = if l.b = u ∧ g.getD l.a 0 + l.w = g.getD u 0 then (if l.a = u ∧ g.getD l.b 0 + l.w = g.getD u 0 then acc ++ [l.b] else acc) ++ [l.a] else (if l.a = u ∧ g.getD l.b 0 + l.w = g.getD u 0 then acc ++ [l.b] else acc) := step
        generalize (if l.a = u ∧ g.getD l.b 0 + l.w = g.getD u 0 then acc ++ [l.b] else acc) = acc1 at hP3 nl3 stp
        have hq6 := s6 _ _ hq
        refine ⟨_, rfl, _, rfl, rfl, _, rfl, ?_⟩
        refine ite2 (fun c => ?_) (fun c => ?_)
        · have c := vN_true.mp c
          refine ⟨_, rfl, _, rfl, q, _, _, _, rfl, rfl, SqL.of hq6, at_vN (f := g) (i := l.a) la, _, rfl, _, _, rfl, rfl, _, rfl, _, rfl, q, _, _, _, rfl, rfl, SqL.of hq6, at_vN (f := g) (i := u) hu, rfl, _, rfl, ?_⟩
          refine ite2 (fun d => ?_) (fun d => ?_)
          · have d := (vN_true (a := g.getD l.a 0 + l.w)).mp d
            refine ⟨_, rfl, .inl ⟨rfl, _, SqL.of hP3⟩, _, rfl, p, _, _, rfl, rfl, hP3, small (by rw [List.length_map]; exact nl3) (by decide), ?_⟩
            exact ⟨_, _, _, rfl, same_set hp s6, by rw [upd_same, stp, if_pos ⟨c, d⟩, List.map_append]; rfl⟩
          · have d : ¬ g.getD l.a 0 + l.w = g.getD u 0 := fun e => d ((vN_true (a := g.getD l.a 0 + l.w)).mpr e)
            exact ⟨_, _, _, rfl, s6, by rw [stp, if_neg fun z => d z.2]; exact hP3⟩
        · have c : ¬ l.b = u := fun e => c (vN_true.mpr e)
          refine iteF ?_
          exact ⟨_, _, _, rfl, s6, by rw [stp, if_neg fun z => c z.1]; exact hP3⟩
    · rintro σ H2 ⟨z4, z5, z6, rfl, s5, hP⟩
      rw [List.length_map, hT.len, List.take_length] at hP
      have hm : ((near ls g u).map vN) = ((near ls g u).map (fun k : Nat => (k : Int))).map V.int := by rw [List.map_map]; rfl
      rw [hm] at hP
      refine ⟨_, rfl, p, _, rfl, SqL.of hP, ?_, fun m h1 h2 => ?_⟩
      · rw [List.length_map]
        exact List.length_pos_of_mem hy0
      · obtain ⟨m', hm', rfl⟩ := mem_vN h1
        refine k H2 m' s5 hm' fun y hy => ?_
        have := h2 (y : Int) (List.mem_map.mpr ⟨y, hy, rfl⟩)
        omega
end
end LL
namespace LL
open PySem PySem.Spec PyProof.Rows L2
open Kv402 (Line Net at_)
abbrev sBetw : Stmt := top 5
theorem scBetw : FnScope ["size", "lines", "start", "goal", "far", "passed"] ["size", "lines", "start", "goal"] (defScope sBetw) := ⟨rfl, rfl, rfl, by decide +kernel, rfl, by decide +kernel, by decide +kernel⟩
/-- the places of the way, none where no way leads -/
def wayOf (g : Net) (u v : Nat) : List Nat := if (at_ g.table u v).isNone then [] else g.go g.table v g.n u
def spBetw : Sp := fun vs H Q _ => ∃ (g : Net) (u v : Nat) (a : Addr), vs = [vN g.n, .ref a, vN u, vN v] ∧ LinesAt H a g.lines ∧ Net8 g ∧ g.lines.length ≤ 100 ∧ u < g.n ∧ v < g.n ∧
  ∀ H' p, Same H H' → H p = none → H' p = some (.lst ((wayOf g u v).map vN)) → Q (.ref p) H'
section
variable {P : Program} {w : World} {K : PySem.W.Frag} {mg : Str → Option Value} {base : Heap}
theorem ok_betw {f fD fS : Addr} {fd fdD fdS : FuncData} (F : Fun K "way_between" "way_between" sBetw f fd) (G : Gtop mg)
    (AD : At P w K mg base 1 "distances" ["size", "lines", "start"] spDist fD fdD) (AS : At P w K mg base 1 "step" ["lines", "far", "place"] spStep fS fdS) : FnOk P w K mg base CX0 2 f fd ["size", "lines", "start", "goal"] spBetw := by
  refine F.ok scBetw (fun vs H Q E h => ?_) (fun cdv A outer s H vs Q E hr h => ?_)
  · obtain ⟨g, u, v, a, rfl, _⟩ := h
    rfl
  · obtain ⟨g, u, v, a, rfl, hL, N, hlen, hu, hv, k⟩ := h
    refine ⟨_, pss_cons (ps_set (i := 4) scBetw.nd rfl (.inl rfl) (pe_call AD.ok hr rfl AD.gl AD.kp AD.bi .nil pass0 (pa_cons (pv 0) (pa_cons (pv 1) (pa_cons (pv 3) pa_nil)))))
      (pss_cons (ps_if (pt_cmpR op_eq (pe_ix ix_list (pv 4) (pv 2) (fun _ _ => rfl)) (pe_gl rfl G.g_FAR) (nomark _)) (pss_one (ps_ret (pe_lst pa_nil))) pss_nil)
      (pss_cons (ps_set (i := 5) scBetw.nd rfl (.inl rfl) (pe_lst (pa_cons (pv 2) pa_nil)))
      (pss_cons (ps_while PassesOwn.never (pt_cmpR op_ne (pe_ix ix_list (pv 5) (pe_un un_neg pe_int) (fun _ _ => rfl)) (pv 3) (nomark _))
        (pss_one (ps_expr (pe_bm PySem.F.plainAttrs_list PySem.F.slot_list_append PySem.F.type_list_append mt_append (pv 5) (pa_cons (pe_call AS.ok hr rfl AS.gl AS.kp AS.bi .nil pass0 (pa_cons (pv 1) (pa_cons (pv 4) (pa_cons (pe_ix ix_list (pv 5) (pe_un un_neg pe_int) (fun _ _ => rfl)) pa_nil)))) pa_nil)))))
      (pss_one (ps_ret (pv 5)))))), ?_⟩
    have DI := dists_is N.ok N.w99 N.n8 hv
    -- far = distances(size, lines, goal)
    refine ⟨_, rfl, _, rfl, _, rfl, g.n, v, a, g.lines, rfl, hL, N.ok, N.n8, hv, fun H1 fq s1 nq hq => ?_⟩
    -- if far[start] == FAR
    refine ⟨_, rfl, _, rfl, fq, _, _, _, rfl, rfl, SqL.of hq, at_vN (f := dists g.n g.lines v) (i := u) (by rw [DI.1]; exact hu), rfl, _, rfl, ?_⟩
    have hf := N.far hv hu
    refine ite2 (fun c => ?_) (fun c => ?_)
    · have c := (vN_true (b := 10000)).mp c
      rw [hf] at c
      have e : at_ g.table u v = none := by
        cases q : at_ g.table u v with
        | none => rfl
        | some d =>
          have := N.most hu hv q
          rw [q] at c
          have : d = 10000 := c
          omega
      refine ⟨Nat.zero_le _, fun p hp => ?_⟩
      refine k _ p (fun b o z => same_upd hp b o (s1 b o z)) (s1.free hp) ?_
      rw [upd_same]
      unfold wayOf
      rw [e]
      rfl
    · have c : ¬ (dists g.n g.lines v).getD u 0 = 10000 := fun e => c ((vN_true (b := 10000)).mpr e)
      rw [hf] at c
      obtain ⟨d, hd⟩ : ∃ d, at_ g.table u v = some d := by
        cases q : at_ g.table u v with
        | none => rw [q] at c; exact absurd rfl c
        | some d => exact ⟨d, rfl⟩
      obtain ⟨pth, hpth, hgo, hpl⟩ := N.way hu hv hd
      have hway : wayOf g u v = pth := by
        unfold wayOf
        rw [hd]
        exact hgo
      -- passed = [start]
      refine ⟨_, rfl, (by show 1 ≤ sizeLine; decide), fun p hp => ?_⟩
      have hp0 : H p = none := s1.free hp
      have npq : p ≠ fq := fun e => by rw [e, hq] at hp; cases hp
      refine ⟨fun m σ H' => ∃ (q : List Nat) (x : Nat) (r : List Nat) (d : Nat), σ = [some (vN g.n), some (.ref a), some (vN u), some (vN v), some (.ref fq), some (.ref p)] ∧ Same H H' ∧ H' fq = some (.lst ((dists g.n g.lines v).map vN)) ∧ H' p = some (.lst ((q ++ [x]).map vN)) ∧ Path g v x r ∧ q ++ r = pth ∧ x < g.n ∧ at_ g.table x v = some d ∧ m = r.length, ⟨_, [], u, pth, d, rfl, ?_, ?_, ?_, hpth, rfl, hu, hd, rfl⟩, ?_⟩
      · exact fun b o z => same_upd hp b o (s1 b o z)
      · rw [upd_ne npq.symm]
        exact hq
      · rw [upd_same]
        rfl
      · rintro m σ H2 ⟨q, x, r, d2, rfl, s2, hq2, hp2, hr2, hqr, hx, hd2, rfl⟩
        have last : atI ((q ++ [x]).map vN) (-1) = some (vN x) := by
          rw [List.map_append]
          exact atI_last _ _
        refine ⟨_, rfl, _, rfl, p, _, _, _, rfl, rfl, SqL.of hp2, last, _, rfl, rfl, _, rfl, ?_⟩
        by_cases c2 : x = v
        · subst c2
          refine iteNS rfl ?_
          -- the end
          refine ⟨_, rfl, k H2 p s2 hp0 ?_⟩
          rw [hp2, hway]
          cases hr2 with
          | nil => rw [hqr]
          | cons c _ _ => exact absurd rfl c
        · have c3 : (!decide (vN x = vN v)) = true := by
            have : ¬ decide (vN x = vN v) = true := fun e => c2 (vN_true.mp e)
            simpa using this
          refine iteP c3 ?_
          refine ⟨fun σ' H' => ∃ (q : List Nat) (x : Nat) (r2 : List Nat) (d : Nat), σ' = [some (vN g.n), some (.ref a), some (vN u), some (vN v), some (.ref fq), some (.ref p)] ∧ Same H H' ∧ H' fq = some (.lst ((dists g.n g.lines v).map vN)) ∧ H' p = some (.lst ((q ++ [x]).map vN)) ∧ Path g v x r2 ∧ q ++ r2 = pth ∧ x < g.n ∧ at_ g.table x v = some d ∧ r2.length < r.length, ?_, ?_⟩
          · rintro σ' H' ⟨q', x', r', d', e1, e2, e3, e4, e5, e6, e7, e8, e9⟩
            exact ⟨_, e9, q', x', r', d', e1, e2, e3, e4, e5, e6, e7, e8, rfl⟩
          · cases hr2 with
            | nil => exact absurd rfl c2
            | @cons _ y r' _ hst hrest =>
              obtain ⟨hy, d3, hd3, lt3⟩ := N.step_spec hx hv hd2 hst
              refine ⟨_, rfl, .inl ⟨rfl, _, SqL.of hp2⟩, ?_⟩
              refine ⟨_, rfl, _, rfl, _, rfl, _, rfl, p, _, _, _, rfl, rfl, SqL.of hp2, last, a, fq, g.lines, dists g.n g.lines v, x, rfl, hL.same s2, hq2, hlen, by rw [DI.1]; exact hx, fun l hl => ?_, N.near_ne hx hv hd2 c2, fun H3 m s3 hm hle => ?_⟩
              · rw [DI.1]
                have h1 := N.ok.ab l hl
                have h2 := N.ok.bn l hl
                omega
              · have e := N.step_is hx hv hd2 hm hle
                rw [hst] at e
                cases e
                have hp3 := s3 _ _ hp2
                refine ⟨p, _, _, rfl, rfl, hp3, ?_, ?_⟩
                · have hl1 : (q ++ [x]).length ≤ pth.length := by
                    rw [← hqr]
                    simp
                  refine small (m := 100) ?_ (by decide)
                  rw [List.length_map]
                  have := N.n8
                  omega
                · refine ⟨q ++ [x], y, r', d3, rfl, same_set hp0 (fun b o z => s3 b o (s2 b o z)), ?_, ?_, hrest, ?_, hy, hd3, ?_⟩
                  · rw [upd_ne npq.symm]
                    exact s3 _ _ hq2
                  · rw [upd_same, List.map_append (l₁ := q ++ [x])]
                    rfl
                  · rw [List.append_assoc]
                    exact hqr
                  · simp
end
end LL
namespace LL
open PySem PySem.Spec PyProof.Rows L2
open Kv402 (Line Net at_)
abbrev sKept : Stmt := top 6
theorem scKept : FnScope ["size", "lines", "times", "chosen", "length", "lesser", "other"] ["size", "lines", "times"] (defScope sKept) := ⟨rfl, rfl, rfl, by decide +kernel, rfl, by decide +kernel, by decide +kernel⟩
def spKept : Sp := fun vs H Q _ => ∃ (n t : Nat) (a : Addr) (s : List Line), vs = [vN n, .ref a, vN t] ∧ LinesAt H a s ∧ Ok n s ∧ n ≤ 8 ∧ t < 2 ^ 63 ∧ s.length ≤ 100 ∧
  ∀ H' p, Same H H' → H p = none → LinesAt H' p (keep n s t) → Q (.ref p) H'
/-- a tuple's place is no list's -/
theorem Tups.upd {H : Hp} {p : Addr} {xs : List V} {o : HO} (hp : H p = some (.lst xs)) : ∀ {ts : List Addr} {s : List Line}, Tups H ts s → Tups (upd H p o) ts s
  | [], [], h => h
  | t :: ts, l :: s, ⟨h, r⟩ => ⟨by rw [upd_ne (ne_of h hp (by intro z; cases z))]; exact h, Tups.upd hp r⟩
  | [], _ :: _, h => h.elim
  | _ :: _, [], h => h.elim
theorem Tups.app {H : Hp} : ∀ {ts us : List Addr} {s r : List Line}, Tups H ts s → Tups H us r → Tups H (ts ++ us) (s ++ r)
  | [], _, [], _, _, h => h
  | _ :: _, _, _ :: _, _, ⟨h, k⟩, h2 => ⟨h, Tups.app k h2⟩
  | [], _, _ :: _, _, h, _ => h.elim
  | _ :: _, _, [], _, h, _ => h.elim
theorem keep_more {n t : Nat} {s : List Line} {i : Nat} {l : Line} (h : s[i]? = some l) : keep n (s.take (i + 1)) t = keepTurn n t (keep n (s.take i) t) l := by
  unfold keep
  rw [take_more h, List.foldl_append]
  rfl
theorem keep_sub_acc {n t : Nat} : ∀ (s acc : List Line), (s.foldl (keepTurn n t) acc).Sublist (acc ++ s)
  | [], acc => by simp
  | l :: s, acc => by
    rw [List.foldl_cons]
    refine (keep_sub_acc s (keepTurn n t acc l)).trans ?_
    unfold keepTurn
    by_cases c : t * l.w < (dists n acc l.a).getD l.b 0
    · rw [if_pos c]
      simp
    · rw [if_neg c]
      exact (List.Sublist.refl acc).append (List.sublist_cons_self l s)
theorem keep_sub (n : Nat) (s : List Line) (t : Nat) : (keep n s t).Sublist s := keep_sub_acc s []
theorem dists_len {n : Nat} (s : List Line) (u : Nat) : (dists n s u).length = n := by
  unfold dists
  rw [rounds_len]
  simp
section
variable {P : Program} {w : World} {K : PySem.W.Frag} {mg : Str → Option Value} {base : Heap}
theorem ok_kept {f fD : Addr} {fd fdD : FuncData} (F : Fun K "kept_lines" "kept_lines" sKept f fd) (G : Gtop mg)
    (AD : At P w K mg base 1 "distances" ["size", "lines", "start"] spDist fD fdD) : FnOk P w K mg base CX0 2 f fd ["size", "lines", "times"] spKept := by
  refine F.ok scKept (fun vs H Q E h => ?_) (fun cdv A outer s H vs Q E hr h => ?_)
  · obtain ⟨n, t, a, s, rfl, _⟩ := h
    rfl
  · obtain ⟨n, t, a, ls, rfl, ⟨ts, hA, hT⟩, o, n8, ht, hlen, k⟩ := h
    refine ⟨_, pss_cons (ps_set (i := 3) scKept.nd rfl (.inl rfl) (pe_lst pa_nil))
      (pss_cons (ps_for PassesOwn.never rfl (pi_list (pv 1)) (pg_tup rfl (pgs_cons (pg_name (i := 4) scKept.nd rfl (.inl rfl)) (pgs_cons (pg_name (i := 5) scKept.nd rfl (.inl rfl)) (pgs_cons (pg_name (i := 6) scKept.nd rfl (.inl rfl)) pgs_nil))))
        (pss_one (ps_if (pt_cmpR op_gt (pe_ix ix_list (pe_call AD.ok hr rfl AD.gl AD.kp AD.bi .nil pass0 (pa_cons (pv 0) (pa_cons (pv 3) (pa_cons (pv 5) pa_nil)))) (pv 6) (fun _ _ => rfl)) (pe_op op_mul (pv 2) (pv 4)) (nomark _))
          (pss_one (ps_expr (pe_bm PySem.F.plainAttrs_list PySem.F.slot_list_append PySem.F.type_list_append mt_append (pv 3) (pa_cons (pe_tup (pa_cons (pv 4) (pa_cons (pv 5) (pa_cons (pv 6) pa_nil)))) pa_nil)))) pss_nil)))
      (pss_one (ps_ret (pv 3)))), ?_⟩
    refine ⟨Nat.zero_le _, fun p hp => ?_⟩
    have s1 : Same H (upd H p (.lst [])) := same_upd hp
    refine ⟨_, rfl, a, rfl, ⟨_, SqL.of (s1 _ _ hA)⟩, for_list (K := K) (a := a) (xs := ts.map V.ref) (fun i σ H' => ∃ y4 y5 y6, σ = [some (vN n), some (.ref a), some (vN t), some (.ref p), y4, y5, y6] ∧ Same H H' ∧ LinesAt H' p (keep n (ls.take i) t))
      ⟨none, none, none, rfl, s1, [], upd_same, trivial⟩ (fun j σ H' _ ⟨_, _, _, _, s5, _⟩ => SqL.of (s5 _ _ hA)) ?_ ?_⟩
    · rintro i x σ H2 hi ⟨z4, z5, z6, rfl, s5, hP⟩
      obtain ⟨tt, l, rfl, _, hl, hTl⟩ := hT.get hi
      have lm : l ∈ ls := List.mem_of_getElem? hl
      have lab := o.ab l lm
      have lbn := o.bn l lm
      have more := keep_more (n := n) (t := t) hl
      have sub : (keep n (ls.take i) t).Sublist ls := (keep_sub n _ t).trans (List.take_sublist i ls)
      have lens := sub.length_le
      generalize keep n (ls.take i) t = acc at hP more sub lens
      have oa := o.sub sub
      refine ⟨tt, _, rfl, SqT.of (s5 _ _ hTl), rfl, _, _, rfl, _, _, rfl, _, _, rfl, rfl, ?_⟩
      -- if distances(size, chosen, lesser)[other] > times * length
      refine ⟨_, rfl, _, rfl, _, rfl, n, l.a, p, acc, rfl, hP, oa, n8, by omega, fun H3 q s3 nq hq => ?_⟩
      refine ⟨_, rfl, q, _, _, _, rfl, rfl, SqL.of hq, at_vN (f := dists n acc l.a) (i := l.b) (by rw [dists_len]; exact lbn), _, rfl, _, rfl, _, _, rfl, rfl, .inl ⟨by omega, by omega⟩, _, _, rfl, rfl, _, rfl, ?_⟩
      obtain ⟨us, hU, hUT⟩ := hP.same s3
      refine ite2 (fun c => ?_) (fun c => ?_)
      · have c := of_decide_eq_true c
        have c : t * l.w < (dists n acc l.a).getD l.b 0 := by
          rw [← Int.natCast_mul] at c
          omega
        -- chosen.append((length, lesser, other))
        refine ⟨_, rfl, .inl ⟨rfl, _, SqL.of hU⟩, ?_⟩
        refine ⟨_, rfl, _, rfl, _, rfl, (by show 3 ≤ sizeLine; decide), fun tu ntu => ?_⟩
        have npt : p ≠ tu := ne_of_none hU ntu
        refine ⟨p, _, _, rfl, rfl, (by rw [upd_ne npt]; exact hU), ?_, ?_⟩
        · refine small (m := 100) ?_ (by decide)
          rw [List.length_map, hUT.len]
          omega
        · refine ⟨_, _, _, rfl, same_set hp (fun b ob z => same_upd ntu b ob (s3 b ob (s5 b ob z))), us ++ [tu], ?_, ?_⟩
          · rw [upd_same, List.map_append]
            rfl
          · rw [more]
            unfold keepTurn
            rw [if_pos c]
            have ht1 : Tups (upd H3 tu (.tup (vL l))) us acc := hUT.same (same_upd ntu)
            exact Tups.upd (xs := us.map V.ref) (by rw [upd_ne npt]; exact hU) (ht1.app ⟨upd_same, trivial⟩)
      · have c : ¬ t * l.w < (dists n acc l.a).getD l.b 0 := fun z => c (decide_eq_true (by
          rw [← Int.natCast_mul]
          omega))
        refine ⟨_, _, _, rfl, fun b ob z => s3 b ob (s5 b ob z), us, hU, ?_⟩
        rw [more]
        unfold keepTurn
        rw [if_neg c]
        exact hUT
    · rintro σ H2 ⟨z4, z5, z6, rfl, s5, hP⟩
      rw [List.length_map, hT.len, List.take_length] at hP
      exact ⟨_, rfl, k H2 p s5 hp hP⟩
end
end LL
namespace LL
open PySem PySem.Spec PyProof.Rows L2
open Kv402 (Line Net at_)
abbrev s_lightest_lines : Stmt := top 7
theorem sc_lightest_lines : FnScope ["size", "lines", "chosen", "length", "lesser", "other"] ["size", "lines"] (defScope s_lightest_lines) := ⟨rfl, rfl, rfl, by decide +kernel, rfl, by decide +kernel, by decide +kernel⟩
def spLight : Sp := fun vs H Q _ => ∃ (n : Nat) (a : Addr) (s : List Line), vs = [vN n, .ref a] ∧ LinesAt H a s ∧ Ok n s ∧ n ≤ 8 ∧ s.length ≤ 100 ∧
  ∀ H' p, Same H H' → H p = none → LinesAt H' p (lightL n s) → Q (.ref p) H'
theorem light_more {n : Nat} {s : List Line} {i : Nat} {l : Line} (h : s[i]? = some l) : lightL n (s.take (i + 1)) = lightTurn n (lightL n (s.take i)) l := by
  unfold lightL
  rw [take_more h, List.foldl_append]
  rfl
theorem light_sub_acc {n : Nat} : ∀ (s acc : List Line), (s.foldl (lightTurn n) acc).Sublist (acc ++ s)
  | [], acc => by simp
  | l :: s, acc => by
    rw [List.foldl_cons]
    refine (light_sub_acc s (lightTurn n acc l)).trans ?_
    unfold lightTurn
    by_cases c : (dists n acc l.a).getD l.b 0 = 10000
    · rw [if_pos c]
      simp
    · rw [if_neg c]
      exact (List.Sublist.refl acc).append (List.sublist_cons_self l s)
theorem light_sub (n : Nat) (s : List Line) : (lightL n s).Sublist s := light_sub_acc s []
abbrev s_all_distances : Stmt := top 3
theorem sc_all_distances : FnScope ["size", "lines", "start"] ["size", "lines"] (defScope s_all_distances) := ⟨rfl, rfl, rfl, by decide +kernel, rfl, by decide +kernel, by decide +kernel⟩
def spAll : Sp := fun vs H Q _ => ∃ (n : Nat) (a : Addr) (s : List Line), vs = [vN n, .ref a] ∧ LinesAt H a s ∧ Ok n s ∧ n ≤ 8 ∧
  ∀ H' p, Same H H' → H p = none → RowsAt H' p (rowsOf n s) → Q (.ref p) H'
abbrev s_total_length : Stmt := top 8
theorem sc_total_length : FnScope ["lines", "one"] ["lines"] (defScope s_total_length) := ⟨rfl, rfl, rfl, by decide +kernel, rfl, by decide +kernel, by decide +kernel⟩
def spTotal : Sp := fun vs H Q _ => ∃ (a : Addr) (s : List Line), vs = [.ref a] ∧ LinesAt H a s ∧ s.length ≤ 100 ∧
  ∀ H', Same H H' → Q (vN (Kv402.weight s)) H'
theorem rows_more (n : Nat) (s : List Line) (i : Nat) : (List.range (i + 1)).map (dists n s) = (List.range i).map (dists n s) ++ [dists n s i] := by
  rw [List.range_succ, List.map_append]
  rfl
section
variable {P : Program} {w : World} {K : PySem.W.Frag} {mg : Str → Option Value} {base : Heap}
theorem ok_light {f fD : Addr} {fd fdD : FuncData} (F : Fun K "lightest_lines" "lightest_lines" s_lightest_lines f fd) (G : Gtop mg)
    (A_distances : At P w K mg base 1 "distances" ["size", "lines", "start"] spDist fD fdD) : FnOk P w K mg base CX0 2 f fd ["size", "lines"] spLight := by
  refine F.ok sc_lightest_lines (fun vs H Q E h => ?_) (fun cdv A outer s H vs Q E hr h => ?_)
  · obtain ⟨n, a, s, rfl, _⟩ := h
    rfl
  · obtain ⟨n, a, ls, rfl, ⟨ts, hA, hT⟩, o, n8, hlen, k⟩ := h
    refine ⟨_, (pss_cons (ps_set (i := 2) sc_lightest_lines.nd rfl (.inl rfl) (pe_lst (pa_nil)))
    (pss_cons (ps_for PassesOwn.never rfl (pi_list (pv 1)) (pg_tup rfl (pgs_cons (pg_name (i := 3) sc_lightest_lines.nd rfl (.inl rfl)) (pgs_cons (pg_name (i := 4) sc_lightest_lines.nd rfl (.inl rfl)) (pgs_cons (pg_name (i := 5) sc_lightest_lines.nd rfl (.inl rfl)) pgs_nil))))
      (pss_one (ps_if (pt_cmpR op_eq (pe_ix ix_list (pe_call A_distances.ok (hr.mono (by decide)) rfl A_distances.gl A_distances.kp A_distances.bi .nil pass0 (pa_cons (pv 0) (pa_cons (pv 2) (pa_cons (pv 4) pa_nil)))) (pv 5) (fun _ _ => rfl)) (pe_gl rfl G.g_FAR) (nomark _))
          (pss_one (ps_expr (pe_bm PySem.F.plainAttrs_list PySem.F.slot_list_append PySem.F.type_list_append mt_append (pv 2) (pa_cons (pe_tup (pa_cons (pv 3) (pa_cons (pv 4) (pa_cons (pv 5) pa_nil)))) pa_nil))))
          pss_nil)))
    (pss_one (ps_ret (pv 2))))), ?_⟩
    refine ⟨Nat.zero_le _, fun p hp => ?_⟩
    have s1 : Same H (upd H p (.lst [])) := same_upd hp
    refine ⟨_, rfl, a, rfl, ⟨_, SqL.of (s1 _ _ hA)⟩, for_list (K := K) (a := a) (xs := ts.map V.ref) (fun i σ H' => ∃ y4 y5 y6, σ = [some (vN n), some (.ref a), some (.ref p), y4, y5, y6] ∧ Same H H' ∧ LinesAt H' p (lightL n (ls.take i)))
      ⟨none, none, none, rfl, s1, [], upd_same, trivial⟩ (fun j σ H' _ ⟨_, _, _, _, s5, _⟩ => SqL.of (s5 _ _ hA)) ?_ ?_⟩
    · rintro i x σ H2 hi ⟨z4, z5, z6, rfl, s5, hP⟩
      obtain ⟨tt, l, rfl, _, hl, hTl⟩ := hT.get hi
      have lm : l ∈ ls := List.mem_of_getElem? hl
      have lab := o.ab l lm
      have lbn := o.bn l lm
      have more := light_more (n := n) hl
      have sub : (lightL n (ls.take i)).Sublist ls := (light_sub n _).trans (List.take_sublist i ls)
      have lens := sub.length_le
      generalize lightL n (ls.take i) = acc at hP more sub lens
      have oa := o.sub sub
      refine ⟨tt, _, rfl, SqT.of (s5 _ _ hTl), rfl, _, _, rfl, _, _, rfl, _, _, rfl, rfl, ?_⟩
      refine ⟨_, rfl, _, rfl, _, rfl, n, l.a, p, acc, rfl, hP, oa, n8, by omega, fun H3 q s3 nq hq => ?_⟩
      refine ⟨_, rfl, q, _, _, _, rfl, rfl, SqL.of hq, at_vN (f := dists n acc l.a) (i := l.b) (by rw [dists_len]; exact lbn), rfl, _, rfl, ?_⟩
      obtain ⟨us, hU, hUT⟩ := hP.same s3
      refine ite2 (fun c => ?_) (fun c => ?_)
      · have c := (vN_true (b := 10000)).mp c
        refine ⟨_, rfl, .inl ⟨rfl, _, SqL.of hU⟩, ?_⟩
        refine ⟨_, rfl, _, rfl, _, rfl, (by show 3 ≤ sizeLine; decide), fun tu ntu => ?_⟩
        have npt : p ≠ tu := ne_of_none hU ntu
        refine ⟨p, _, _, rfl, rfl, (by rw [upd_ne npt]; exact hU), ?_, ?_⟩
        · refine small (m := 100) ?_ (by decide)
          rw [List.length_map, hUT.len]
          omega
        · refine ⟨_, _, _, rfl, same_set hp (fun b ob z => same_upd ntu b ob (s3 b ob (s5 b ob z))), us ++ [tu], ?_, ?_⟩
          · rw [upd_same, List.map_append]
            rfl
          · rw [more]
            unfold lightTurn
            rw [if_pos c]
            have ht1 : Tups (upd H3 tu (.tup (vL l))) us acc := hUT.same (same_upd ntu)
            exact Tups.upd (xs := us.map V.ref) (by rw [upd_ne npt]; exact hU) (ht1.app ⟨upd_same, trivial⟩)
      · have c : ¬ (dists n acc l.a).getD l.b 0 = 10000 := fun z => c ((vN_true (b := 10000)).mpr z)
        refine ⟨_, _, _, rfl, fun b ob z => s3 b ob (s5 b ob z), us, hU, ?_⟩
        rw [more]
        unfold lightTurn
        rw [if_neg c]
        exact hUT
    · rintro σ H2 ⟨z4, z5, z6, rfl, s5, hP⟩
      rw [List.length_map, hT.len, List.take_length] at hP
      exact ⟨_, rfl, k H2 p s5 hp hP⟩
theorem ok_all {f fD : Addr} {fd fdD : FuncData} (F : Fun K "all_distances" "all_distances" s_all_distances f fd) (G : Gtop mg)
    (A_distances : At P w K mg base 1 "distances" ["size", "lines", "start"] spDist fD fdD) : FnOk P w K mg base CX0 2 f fd ["size", "lines"] spAll := by
  refine F.ok sc_all_distances (fun vs H Q E h => ?_) (fun cdv A outer s H vs Q E hr h => ?_)
  · obtain ⟨n, a, s, rfl, _⟩ := h
    rfl
  · obtain ⟨n, a, ls, rfl, hL, o, n8, k⟩ := h
    refine ⟨_, (pss_one (ps_ret (pe_lc (own := [("start", 2)]) (g := gName 2) (tt := tYes) (by rfl) sc_all_distances.nd (pi_range1 rfl G.b_range (pa_cons (pv 0) pa_nil)) (blkOk_by (own := [("start", 2)]) (N := ["size", "lines", "start"]) (sc := defScope s_all_distances) (by decide +kernel)) (fun _ _ _ _ _ => pg_name (i := 2) sc_all_distances.nd rfl (Or.inl rfl)) (fun _ _ _ _ _ => pts_nil) (fun _ _ _ _ _ => pe_call A_distances.ok (hr.mono (by decide)) rfl A_distances.gl A_distances.kp A_distances.bi .nil pass0 (pa_cons (pv 0) (pa_cons (pv 1) (pa_cons (pv 2) pa_nil))))))), ?_⟩
    refine ⟨_, rfl, (n : Int), rfl, by omega, by omega, fun D hD => lc_range (lo := 0) (n := n) (fun i H' => Same H H' ∧ ∃ ts, H' D = some (.lst (ts.map V.ref)) ∧ Rws H' ts ((List.range i).map (dists n ls)) ∧ ∀ t ∈ ts, t ≠ D) ⟨same_upd hD, [], upd_same, trivial, fun _ h => by cases h⟩ ?_ ?_⟩
    · rintro i H1 hi ⟨s1, ts, hP, hT, ne⟩
      refine ⟨rfl, ?_⟩
      refine ⟨_, rfl, _, rfl, _, rfl, n, i, a, ls, ?_, hL.same s1, o, n8, hi, fun H2 q s2 nq hq => ?_⟩
      · show [vN n, V.ref a, V.int (0 + (i : Int))] = _
        rw [Int.zero_add]
      have nqD : q ≠ D := (ne_of_none hP nq).symm
      have lt := hT.len
      rw [List.length_map, List.length_range] at lt
      refine ⟨ts.map V.ref, s2 _ _ hP, small (m := 100) (by rw [List.length_map]; omega) (by decide), same_set hD (fun b x z => s2 b x (s1 b x z)), ts ++ [q], ?_, ?_, ?_⟩
      · rw [upd_same, List.map_append]
        rfl
      · rw [rows_more]
        refine Rws.upd (Rws.app (hT.same s2) ⟨hq, trivial⟩) fun t ht => ?_
        rcases List.mem_append.mp ht with h | h
        · exact ne t h
        · have : t = q := by simpa using h
          rw [this]
          exact nqD
      · intro t ht
        rcases List.mem_append.mp ht with h | h
        · exact ne t h
        · have : t = q := by simpa using h
          rw [this]
          exact nqD
    · rintro H1 ⟨s1, ts, hP, hT, ne⟩
      exact k H1 D s1 hD ⟨ts, hP, hT⟩
theorem ok_total {f : Addr} {fd : FuncData} (F : Fun K "total_length" "total_length" s_total_length f fd) (G : Gtop mg) : FnOk P w K mg base CX0 1 f fd ["lines"] spTotal := by
  refine F.ok sc_total_length (fun vs H Q E h => ?_) (fun cdv A outer s H vs Q E hr h => ?_)
  · obtain ⟨a, s, rfl, _⟩ := h
    rfl
  · obtain ⟨a, ls, rfl, ⟨ts, hA, hT⟩, hlen, k⟩ := h
    refine ⟨_, (pss_one (ps_ret (pe_callB (cr_sum rfl) (by rfl) G.b_sum (by decide +kernel) (pa_cons (pe_lc (own := [("one", 1)]) (g := gName 1) (tt := tYes) (te := tOp (rIxT K) (tVar 1) (tC (.int 0))) (by rfl) sc_total_length.nd (pi_list (pv 0)) (blkOk_by (own := [("one", 1)]) (N := ["lines", "one"]) (sc := defScope s_total_length) (by decide +kernel)) (fun _ _ _ _ _ => pg_name (i := 1) sc_total_length.nd rfl (Or.inl rfl)) (fun _ _ _ _ _ => pts_nil) (fun _ _ _ _ _ => pe_ix ix_tup (pv 1) (pe_int) (fun _ _ => rfl))) pa_nil)))), ?_⟩
    refine ⟨_, rfl, a, rfl, ⟨_, SqL.of hA⟩, fun D hD => lc_list (K := K) (a := a) (xs := ts.map V.ref) (fun i H' => Same H H' ∧ H' D = some (.lst (((ls.take i).map fun l => (l.w : Int)).map V.int))) ⟨same_upd hD, upd_same⟩ (fun i H' _ h => SqL.of (h.1 _ _ hA)) ?_ ?_⟩
    · rintro i x H1 hi ⟨s1, hP⟩
      obtain ⟨t, l, rfl, _, hl, hTl⟩ := hT.get hi
      refine ⟨rfl, ?_⟩
      refine ⟨_, rfl, t, _, _, vN l.w, rfl, rfl, SqT.of (s1 _ _ hTl), rfl, _, hP, ?_, same_set hD s1, ?_⟩
      · refine small (m := 100) ?_ (by decide)
        rw [List.length_map, List.length_map, List.length_take]
        omega
      · rw [upd_same, take_more hl]
        simp
    · rintro H1 ⟨s1, hP⟩
      rw [List.length_map, hT.len, List.take_length] at hP
      refine ⟨D, _, rfl, SqL.of hP, ?_⟩
      have e : ((ls.map fun l => (l.w : Int))).sum = ((Kv402.weight ls : Nat) : Int) := by
        unfold Kv402.weight
        clear hP hT hA k hlen
        induction ls with
        | nil => rfl
        | cons l ls ih =>
          simp only [List.map_cons, List.sum_cons, ih]
          omega
      rw [e]
      exact k H1 s1
end
end LL
namespace LL
open PySem PySem.Spec PyProof.Rows L2
open Kv402 (Line Net at_)
/-- a new object -/
theorem same_new {H H1 : Hp} {p : Addr} {o : HO} (s : Same H H1) (h : H1 p = none) : Same H (upd H1 p o) := fun b x z => same_upd h b x (s b x z)
theorem same_tr {H H1 H2 : Hp} (s : Same H H1) (t : Same H1 H2) : Same H H2 := fun b x z => t b x (s b x z)
abbrev s_most_stretched : Stmt := top 9
theorem sc_most_stretched : FnScope ["size", "lines", "kept", "most", "u", "whole", "left", "v"] ["size", "lines", "kept"] (defScope s_most_stretched) := ⟨rfl, rfl, rfl, by decide +kernel, rfl, by decide +kernel, by decide +kernel⟩
def encM : Most → List Nat
  | none => []
  | some z => [z.1, z.2.1, z.2.2.1, z.2.2.2]
def spMost : Sp := fun vs H Q _ => ∃ (n : Nat) (a b : Addr) (s r : List Line), vs = [vN n, .ref a, .ref b] ∧ LinesAt H a s ∧ LinesAt H b r ∧ Ok n s ∧ Ok n r ∧ n ≤ 8 ∧
  ∀ H' p, Same H H' → H p = none → H' p = some (.lst ((encM (worstP n s r n)).map vN)) → Q (.ref p) H'
theorem wRow_more (L W : List Nat) (u j : Nat) (b : Most) : wRow L W u (j + 1) b = wTurn L W u (wRow L W u j b) (u + 1 + j) := by
  unfold wRow
  rw [List.range_succ, List.foldl_append]
  rfl
theorem worst_more (n : Nat) (s r : List Line) (i : Nat) : worstP n s r (i + 1) = wRow (dists n r i) (dists n s i) i (n - (i + 1)) (worstP n s r i) := by
  conv => lhs; unfold worstP
  rw [List.range_succ, List.foldl_append]
  rfl
section
variable {P : Program} {w : World} {K : PySem.W.Frag} {mg : Str → Option Value} {base : Heap}
theorem ok_most {f fD : Addr} {fd fdD : FuncData} (F : Fun K "most_stretched" "most_stretched" s_most_stretched f fd) (G : Gtop mg)
    (A_distances : At P w K mg base 1 "distances" ["size", "lines", "start"] spDist fD fdD) : FnOk P w K mg base CX0 2 f fd ["size", "lines", "kept"] spMost := by
  refine F.ok sc_most_stretched (fun vs H Q E h => ?_) (fun cdv A outer s H vs Q E hr h => ?_)
  · obtain ⟨n, a, b, s, r, rfl, _⟩ := h
    rfl
  · obtain ⟨n, a, b, ls, rs, rfl, hL, hR, o, o2, n8, k⟩ := h
    refine ⟨_, (pss_cons (ps_set (i := 3) sc_most_stretched.nd rfl (.inl rfl) (pe_lst (pa_nil)))
    (pss_cons (ps_for PassesOwn.never rfl (pi_range1 rfl G.b_range (pa_cons (pv 0) pa_nil)) (pg_name (i := 4) sc_most_stretched.nd rfl (.inl rfl))
      (pss_cons (ps_set (i := 5) sc_most_stretched.nd rfl (.inl rfl) (pe_call A_distances.ok (hr.mono (by decide)) rfl A_distances.gl A_distances.kp A_distances.bi .nil pass0 (pa_cons (pv 0) (pa_cons (pv 1) (pa_cons (pv 4) pa_nil)))))
        (pss_cons (ps_set (i := 6) sc_most_stretched.nd rfl (.inl rfl) (pe_call A_distances.ok (hr.mono (by decide)) rfl A_distances.gl A_distances.kp A_distances.bi .nil pass0 (pa_cons (pv 0) (pa_cons (pv 2) (pa_cons (pv 4) pa_nil)))))
        (pss_one (ps_for PassesOwn.never rfl (pi_range2 rfl G.b_range (pa_cons (pe_op op_add (pv 4) (pe_int)) (pa_cons (pv 0) pa_nil))) (pg_name (i := 7) sc_most_stretched.nd rfl (.inl rfl))
          (pss_one (ps_if (PW.pt (pw_and (pt_cmpR op_ne (pe_ix ix_list (pv 5) (pv 7) (fun _ _ => rfl)) (pe_gl rfl G.g_FAR) (nomark _)) (pw_and1 (PW.pt (pw_or (pt_cmpR op_eq (pe_callB call_len_seq (by rfl) G.b_len PySem.boot_len (pa_cons (pv 3) pa_nil)) (pe_int) (nomark _)) (pw_or1 (pt_cmpR op_gt (pe_op op_mul (pe_ix ix_list (pv 6) (pv 7) (fun _ _ => rfl)) (pe_ix ix_list (pv 3) (pe_int) (fun _ _ => rfl))) (pe_op op_mul (pe_ix ix_list (pv 3) (pe_int) (fun _ _ => rfl)) (pe_ix ix_list (pv 5) (pv 7) (fun _ _ => rfl))) (nomark _))))))))
              (pss_one (ps_set (i := 3) sc_most_stretched.nd rfl (.inl rfl) (pe_lst (pa_cons (pv 4) (pa_cons (pv 7) (pa_cons (pe_ix ix_list (pv 6) (pv 7) (fun _ _ => rfl)) (pa_cons (pe_ix ix_list (pv 5) (pv 7) (fun _ _ => rfl)) pa_nil)))))))
              pss_nil)))))))
    (pss_one (ps_ret (pv 3))))), ?_⟩
    refine ⟨Nat.zero_le _, fun p0 hp0 => ?_⟩
    refine ⟨_, rfl, (n : Int), rfl, by omega, by omega, for_range (lo := 0) (n := n) (fun i σ H' => ∃ m y4 y5 y6 y7, σ = [some (vN n), some (.ref a), some (.ref b), some (.ref m), y4, y5, y6, y7] ∧ Same H H' ∧ H m = none ∧ H' m = some (.lst ((encM (worstP n ls rs i)).map vN)))
      ⟨p0, none, none, none, none, rfl, same_upd hp0, hp0, upd_same⟩ ?_ ?_⟩
    · rintro u σ H1 hu ⟨m, y4, y5, y6, y7, rfl, s1, nm, hm⟩
      rw [Int.zero_add]
      have more := worst_more n ls rs u
      generalize worstP n ls rs u = b0 at hm more
      -- whole, left
      refine ⟨_, rfl, _, rfl, _, rfl, n, u, a, ls, rfl, hL.same s1, o, n8, hu, fun H2 wq s2 nwq hwq => ?_⟩
      refine ⟨_, rfl, _, rfl, _, rfl, n, u, b, rs, rfl, (hR.same s1).same s2, o2, n8, hu, fun H3 lq s3 nlq hlq => ?_⟩
      have tW : ∀ v, v < n → (dists n ls u).getD v 0 ≤ 10000 := fun v hv => dists_top o hu hv
      have tL : ∀ v, v < n → (dists n rs u).getD v 0 ≤ 10000 := fun v hv => dists_top o2 hu hv
      have lW : (dists n ls u).length = n := dists_len ls u
      have lL : (dists n rs u).length = n := dists_len rs u
      generalize dists n ls u = W at hwq tW lW more
      generalize dists n rs u = L at hlq tL lL more
      refine ⟨_, rfl, _, _, rfl, rfl, _, rfl, (u : Int) + 1, (n : Int), rfl, ⟨by omega, by omega, by omega, by omega⟩, for_range (lo := (u : Int) + 1) (n := ((n : Int) - ((u : Int) + 1)).toNat) (fun j σ H' => ∃ m y7, σ = [some (vN n), some (.ref a), some (.ref b), some (.ref m), some (vN u), some (.ref wq), some (.ref lq), y7] ∧ Same H H' ∧ H' wq = some (.lst (W.map vN)) ∧ H' lq = some (.lst (L.map vN)) ∧ H m = none ∧ H' m = some (.lst ((encM (wRow L W u j b0)).map vN)))
        ⟨m, y7, rfl, same_tr s1 (same_tr s2 s3), s3 _ _ hwq, hlq, nm, s3 _ _ (s2 _ _ hm)⟩ ?_ ?_⟩
      · rintro j σ H4 hj ⟨m, y7, rfl, s4, hW, hL4, nm, hm⟩
        have ev : ((u : Int) + 1) + (j : Int) = ((u + 1 + j : Nat) : Int) := by omega
        rw [ev]
        have hv : u + 1 + j < n := by omega
        have tm := wRow_more L W u j b0
        generalize wRow L W u j b0 = bb at hm tm
        generalize u + 1 + j = v at hv tm
        have tWv := tW v hv
        have tLv := tL v hv
        have hWv := at_vN (f := W) (i := v) (by omega)
        have hLv := at_vN (f := L) (i := v) (by omega)
        refine ⟨_, rfl, _, rfl, wq, _, _, _, rfl, rfl, SqL.of hW, hWv, rfl, _, rfl, ?_⟩
        by_cases c1 : W.getD v 0 = 10000
        · refine iteN ?_ ?_
          · have : decide (vN (W.getD v 0) = V.int 10000) = true := (vN_true (b := 10000)).mpr c1
            show (!decide (vN (W.getD v 0) = V.int 10000)) = false
            rw [this]
            rfl
          · refine iteF ?_
            refine ⟨m, _, rfl, s4, hW, hL4, nm, ?_⟩
            rw [tm]
            unfold wTurn
            rw [if_pos c1]
            exact hm
        · refine iteP ?_ ?_
          · have : ¬ decide (vN (W.getD v 0) = V.int 10000) = true := fun e => c1 ((vN_true (b := 10000)).mp e)
            show (!decide (vN (W.getD v 0) = V.int 10000)) = true
            simpa using this
          · refine ⟨_, rfl, m, _, rfl, .inl (SqL.of hm), rfl, _, rfl, ?_⟩
            cases bb with
            | none =>
              refine iteP (decide_eq_true rfl) ?_
              refine ⟨_, rfl, _, rfl, _, rfl, _, rfl, lq, _, _, _, rfl, rfl, SqL.of hL4, hLv, _, rfl, _, rfl, wq, _, _, _, rfl, rfl, SqL.of hW, hWv, (by show 4 ≤ sizeLine; decide), fun m2 hm2 => ?_⟩
              have nwm : wq ≠ m2 := ne_of_none hW hm2
              have nlm : lq ≠ m2 := ne_of_none hL4 hm2
              refine ⟨m2, _, rfl, same_new s4 hm2, by rw [upd_ne nwm]; exact hW, by rw [upd_ne nlm]; exact hL4, s4.free hm2, ?_⟩
              rw [upd_same, tm]
              unfold wTurn
              rw [if_neg c1]
              rfl
            | some z =>
              refine iteN (decide_eq_false (by intro e; cases e)) ?_
              refine ⟨_, rfl, _, rfl, lq, _, _, _, rfl, rfl, SqL.of hL4, hLv, _, rfl, m, _, _, vN z.2.2.2, rfl, rfl, SqL.of hm, rfl, _, _, rfl, rfl, .inl ⟨by omega, by omega⟩, ?_⟩
              refine ⟨_, rfl, m, _, _, vN z.2.2.1, rfl, rfl, SqL.of hm, rfl, _, rfl, _, rfl, wq, _, _, _, rfl, rfl, SqL.of hW, hWv, _, _, rfl, rfl, .inr ⟨by omega, by omega⟩, _, _, rfl, rfl, _, rfl, ?_⟩
              refine ite2 (fun c => ?_) (fun c => ?_)
              · have c := of_decide_eq_true c
                rw [← Int.natCast_mul, ← Int.natCast_mul] at c
                have c : z.2.2.1 * W.getD v 0 < L.getD v 0 * z.2.2.2 := by omega
                refine ⟨_, rfl, _, rfl, _, rfl, _, rfl, lq, _, _, _, rfl, rfl, SqL.of hL4, hLv, _, rfl, _, rfl, wq, _, _, _, rfl, rfl, SqL.of hW, hWv, (by show 4 ≤ sizeLine; decide), fun m2 hm2 => ?_⟩
                have nwm : wq ≠ m2 := ne_of_none hW hm2
                have nlm : lq ≠ m2 := ne_of_none hL4 hm2
                refine ⟨m2, _, rfl, same_new s4 hm2, by rw [upd_ne nwm]; exact hW, by rw [upd_ne nlm]; exact hL4, s4.free hm2, ?_⟩
                rw [upd_same, tm]
                unfold wTurn
                rw [if_neg c1]
                show _ = some (HO.lst ((encM (if z.2.2.1 * W.getD v 0 < L.getD v 0 * z.2.2.2 then _ else _)).map vN))
                rw [if_pos c]
                rfl
              · have c : ¬ z.2.2.1 * W.getD v 0 < L.getD v 0 * z.2.2.2 := fun e => c (decide_eq_true (by
                  rw [← Int.natCast_mul, ← Int.natCast_mul]
                  omega))
                refine ⟨m, _, rfl, s4, hW, hL4, nm, ?_⟩
                rw [tm]
                unfold wTurn
                rw [if_neg c1]
                show _ = some (HO.lst ((encM (if z.2.2.1 * W.getD v 0 < L.getD v 0 * z.2.2.2 then _ else _)).map vN))
                rw [if_neg c]
                exact hm
      · rintro σ H4 ⟨m, y7, rfl, s4, hW, hL4, nm, hm⟩
        refine ⟨m, _, _, _, _, rfl, s4, nm, ?_⟩
        rw [more, show n - (u + 1) = ((n : Int) - ((u : Int) + 1)).toNat by omega]
        exact hm
    · rintro σ H1 ⟨m, y4, y5, y6, y7, rfl, s1, nm, hm⟩
      exact ⟨_, rfl, k H1 m s1 nm hm⟩
end
end LL
namespace LL
open PySem PySem.Spec PyProof.Rows L2
open Kv402 (Line Net at_)
abbrev s_lines_in_shortest_ring : Stmt := top 10
theorem sc_lines_in_shortest_ring : FnScope ["size", "lines", "alike", "fewest", "one", "others", "another"] ["size", "lines"] (defScope s_lines_in_shortest_ring) := ⟨rfl, rfl, rfl, by decide +kernel, rfl, by decide +kernel, by decide +kernel⟩
def spRing : Sp := fun vs H Q _ => ∃ (n : Nat) (a : Addr) (s : List Line), vs = [vN n, .ref a] ∧ LinesAt H a s ∧ Ok n s ∧ n ≤ 8 ∧ s.length ≤ 100 ∧
  ∀ H', Same H H' → Q (vN (ringP n s)) H'
theorem eqv_lines {l m : Line} : PyData.eqv (.tuple ([l.w, l.a, l.b].map fun k : Nat => PyData.int (k : Int))) (.tuple ([m.w, m.a, m.b].map fun k : Nat => PyData.int (k : Int))) = decide (l = m) := by
  rw [PyData.eqv, eqv_nats]
  have : ([l.w, l.a, l.b] = [m.w, m.a, m.b]) ↔ l = m := by
    constructor
    · intro h
      obtain ⟨a, b, c⟩ := l
      obtain ⟨d, e, f⟩ := m
      simp at h
      obtain ⟨h1, h2, h3⟩ := h
      subst h1 h2 h3
      rfl
    · intro h
      rw [h]
  exact decide_eq_decide.mpr this
theorem ring_more {n : Nat} {s : List Line} {i : Nat} {l : Line} (h : s[i]? = some l) : (s.take (i + 1)).foldl (ringTurn n s) 10000 = ringTurn n s ((s.take i).foldl (ringTurn n s) 10000) l := by
  rw [take_more h, List.foldl_append]
  rfl
theorem filter_more {s : List Line} {i : Nat} {m : Line} (p : Line → Bool) (h : s[i]? = some m) : (s.take (i + 1)).filter p = (s.take i).filter p ++ if p m = true then [m] else [] := by
  rw [take_more h, List.filter_append]
  cases c : p m <;> simp [c]
section
variable {P : Program} {w : World} {K : PySem.W.Frag} {mg : Str → Option Value} {base : Heap}
theorem ok_ring {f fD : Addr} {fd fdD : FuncData} (F : Fun K "lines_in_shortest_ring" "lines_in_shortest_ring" s_lines_in_shortest_ring f fd) (G : Gtop mg)
    (A_distances : At P w K mg base 1 "distances" ["size", "lines", "start"] spDist fD fdD) : FnOk P w K mg base CX0 2 f fd ["size", "lines"] spRing := by
  refine F.ok sc_lines_in_shortest_ring (fun vs H Q E h => ?_) (fun cdv A outer s H vs Q E hr h => ?_)
  · obtain ⟨n, a, s, rfl, _⟩ := h
    rfl
  · obtain ⟨n, a, ls, rfl, ⟨ts, hA, hT⟩, o, n8, hlen, k⟩ := h
    refine ⟨_, (pss_cons (ps_setLc (i := 2) (own := [("one", 4)]) (g := gName 4) (tt := tYes) (te := tTup (tCons (tC (.int 1)) (tCons (tOp (rIxT K) (tVar 4) (tC (.int 1))) (tCons (tOp (rIxT K) (tVar 4) (tC (.int 2))) tNil)))) (by rfl) sc_lines_in_shortest_ring.nd rfl rfl (sw_true rfl rfl rfl (by decide +kernel)) (pi_list (pv 1)) (blkOk_by (own := [("one", 4)]) (N := ["size", "lines", "alike", "fewest", "one", "others", "another"]) (sc := defScope s_lines_in_shortest_ring) (by decide +kernel)) (fun _ _ _ _ _ => pg_name (i := 4) sc_lines_in_shortest_ring.nd rfl (Or.inl rfl)) (fun _ _ _ _ _ => pts_nil) (fun _ _ _ _ _ => pe_tup (pa_cons (pe_int) (pa_cons (pe_ix ix_tup (pv 4) (pe_int) (fun _ _ => rfl)) (pa_cons (pe_ix ix_tup (pv 4) (pe_int) (fun _ _ => rfl)) pa_nil)))))
    (pss_cons (ps_set (i := 3) sc_lines_in_shortest_ring.nd rfl (.inl rfl) (pe_gl rfl G.g_FAR))
    (pss_cons (ps_for PassesOwn.never rfl (pi_list (pv 2)) (pg_name (i := 4) sc_lines_in_shortest_ring.nd rfl (.inr rfl))
      (pss_cons (ps_setLc (i := 5) (own := [("another", 6)]) (g := gName 6) (tt := tTest (tOp (rNeD K) (tVar 6) (tVar 4))) (te := tVar 6) (by rfl) sc_lines_in_shortest_ring.nd rfl rfl (sw_true rfl rfl rfl (by decide +kernel)) (pi_list (pv 2)) (blkOk_by (own := [("another", 6)]) (N := ["size", "lines", "alike", "fewest", "one", "others", "another"]) (sc := defScope s_lines_in_shortest_ring) (by decide +kernel)) (fun _ _ _ _ _ => pg_name (i := 6) sc_lines_in_shortest_ring.nd rfl (Or.inl rfl)) (fun _ _ _ _ _ => pts_one (pt_cmpR (op_neD hr.units) (pv 6) (pv 4) (nomark _))) (fun _ _ _ _ _ => pv 6))
        (pss_one (ps_set (i := 3) sc_lines_in_shortest_ring.nd rfl (.inl rfl) (pe_callB (call_min2 rfl) (by rfl) G.b_min (by decide +kernel) (pa_cons (pv 3) (pa_cons (pe_op op_add (pe_int) (pe_ix ix_list (pe_call A_distances.ok (hr.mono (by decide)) rfl A_distances.gl A_distances.kp A_distances.bi .nil pass0 (pa_cons (pv 0) (pa_cons (pv 5) (pa_cons (pe_ix ix_tup (pv 4) (pe_int) (fun _ _ => rfl)) pa_nil)))) (pe_ix ix_tup (pv 4) (pe_int) (fun _ _ => rfl)) (fun _ _ => rfl))) pa_nil)))))))
    (pss_one (ps_ret (pv 3)))))), ?_⟩
    -- alike
    refine ⟨_, rfl, a, rfl, ⟨_, SqL.of hA⟩, fun D hD => lc_list (K := K) (a := a) (xs := ts.map V.ref) (fun i H' => Same H H' ∧ LinesAt H' D ((ls.take i).map unit)) ⟨same_upd hD, [], upd_same, trivial⟩ (fun i H' _ h => SqL.of (h.1 _ _ hA)) ?_ ?_⟩
    · rintro i x H1 hi ⟨s1, us, hU, hUT⟩
      obtain ⟨t, l, rfl, _, hl, hTl⟩ := hT.get hi
      refine ⟨rfl, ?_⟩
      have hTl1 := s1 _ _ hTl
      refine ⟨_, rfl, t, _, _, vN l.a, rfl, rfl, SqT.of hTl1, rfl, _, rfl, t, _, _, vN l.b, rfl, rfl, SqT.of hTl1, rfl, (by show 3 ≤ sizeLine; decide), fun tu ntu => ?_⟩
      have npt : D ≠ tu := ne_of_none hU ntu
      refine ⟨_, by rw [upd_ne npt]; exact hU, ?_, ?_, us ++ [tu], ?_, ?_⟩
      · refine small (m := 100) ?_ (by decide)
        rw [List.length_map, hUT.len, List.length_map, List.length_take]
        omega
      · exact same_set hD (same_new s1 ntu)
      · rw [upd_same, List.map_append]
        rfl
      · rw [take_more hl, List.map_append]
        refine Tups.upd (xs := us.map V.ref) (by rw [upd_ne npt]; exact hU) (Tups.app (hUT.same (same_upd ntu)) ⟨upd_same, trivial⟩)
    rintro H1 ⟨s1, us, hU, hUT⟩
    rw [List.length_map, hT.len, List.take_length] at hUT
    have lU := hUT.len
    rw [List.length_map] at lU
    -- for one in alike
    refine ⟨_, rfl, D, rfl, ⟨_, SqL.of hU⟩, for_list (K := K) (a := D) (xs := us.map V.ref) (fun i σ H' => ∃ y4 y5 y6, σ = [some (vN n), some (.ref a), some (.ref D), some (vN ((ls.take i).foldl (ringTurn n ls) 10000)), y4, y5, y6] ∧ Same H1 H')
      ⟨none, none, none, rfl, fun _ _ z => z⟩ (fun i σ H' _ ⟨_, _, _, _, s2⟩ => SqL.of (s2 _ _ hU)) ?_ ?_⟩
    · rintro i x σ H2 hi ⟨y4, y5, y6, rfl, s2⟩
      obtain ⟨t, lu, rfl, _, hlu, hTl⟩ := hUT.get hi
      rw [List.getElem?_map] at hlu
      obtain ⟨l, hl, rfl⟩ : ∃ l, ls[i]? = some l ∧ unit l = lu := by
        cases e : ls[i]? with
        | none => rw [e] at hlu; cases hlu
        | some l => rw [e] at hlu; exact ⟨l, rfl, Option.some.inj hlu⟩
      have lm : l ∈ ls := List.mem_of_getElem? hl
      have lab := o.ab l lm
      have lbn := o.bn l lm
      have more := ring_more (n := n) hl
      generalize (ls.take i).foldl (ringTurn n ls) 10000 = best at more
      -- others
      refine ⟨_, rfl, D, rfl, ⟨_, SqL.of (s2 _ _ hU)⟩, fun O hO => lc_list (K := K) (a := D) (xs := us.map V.ref) (fun j H' => Same H2 H' ∧ LinesAt H' O (((ls.map unit).take j).filter fun m => !decide (m = unit l))) ⟨same_upd hO, [], upd_same, trivial⟩ (fun j H' _ h => SqL.of (h.1 _ _ (s2 _ _ hU))) ?_ ?_⟩
      · rintro j x H3 hj ⟨s3, ws, hW, hWT⟩
        obtain ⟨t2, m, rfl, _, hm, hTm⟩ := hUT.get hj
        have fm := filter_more (fun m => !decide (m = unit l)) hm
        have lw : (((ls.map unit).take j).filter fun m => !decide (m = unit l)).length ≤ 100 := by
          refine Nat.le_trans (List.length_filter_le _ _) ?_
          rw [List.length_take, List.length_map]
          omega
        generalize ((ls.map unit).take j).filter (fun m => !decide (m = unit l)) = acc at hWT fm lw
        have h1 := s3 _ _ (s2 _ _ hTm)
        have h2 := s3 _ _ (s2 _ _ hTl)
        refine ⟨rfl, ?_⟩
        refine ⟨_, rfl, _, rfl, _, _, .tup (SqT.of h1) (dp_nats [m.w, m.a, m.b]), .tup (SqT.of h2) (dp_nats [(unit l).w, (unit l).a, (unit l).b]), shp_tup _, shp_tup _, _, rfl, ?_⟩
        rw [eqv_lines]
        refine ite2 (fun c => ?_) (fun c => ?_)
        · refine ⟨_, rfl, _, hW, ?_, ?_, ws ++ [t2], ?_, ?_⟩
          · refine small (m := 100) ?_ (by decide)
            rw [List.length_map, hWT.len]
            exact lw
          · exact same_set hO s3
          · rw [upd_same, List.map_append]
            rfl
          · rw [fm, if_pos c]
            exact Tups.upd hW (Tups.app hWT ⟨h1, trivial⟩)
        · refine ⟨s3, ws, hW, ?_⟩
          rw [fm, if_neg c, List.append_nil]
          exact hWT
      · rintro H3 ⟨s3, hO3⟩
        have e : (((ls.map unit).take (us.map V.ref).length).filter fun m => !decide (m = unit l)) = othersOf ls l := by
          rw [List.length_map, lU, List.take_of_length_le (by rw [List.length_map]; exact Nat.le_refl _)]
          rfl
        rw [e] at hO3
        have h2 := s3 _ _ (s2 _ _ hTl)
        refine ⟨_, rfl, _, rfl, _, rfl, _, rfl, t, _, _, vN l.a, rfl, rfl, SqT.of h2, rfl, n, l.a, O, othersOf ls l, rfl, hO3, ok_others o l, n8, by omega, fun H4 q s4 nq hq => ?_⟩
        refine ⟨_, rfl, t, _, _, vN l.b, rfl, rfl, SqT.of (s4 _ _ h2), rfl, q, _, _, _, rfl, rfl, SqL.of hq, at_vN (f := dists n (othersOf ls l) l.a) (i := l.b) (by rw [dists_len]; exact lbn), _, _, rfl, rfl, _, _, rfl, ?_⟩
        refine ⟨some (.ref t), some (.ref O), y6, ?_, same_tr s2 (same_tr s3 s4)⟩
        rw [more]
        unfold ringTurn
        have em : (if (1 : Int) + (((dists n (othersOf ls l) l.a).getD l.b 0 : Nat) : Int) < (best : Int) then (1 : Int) + (((dists n (othersOf ls l) l.a).getD l.b 0 : Nat) : Int) else (best : Int)) = ((min best (1 + (dists n (othersOf ls l) l.a).getD l.b 0) : Nat) : Int) := min_int (b := 1 + (dists n (othersOf ls l) l.a).getD l.b 0)
        rw [em]
        rfl
    · rintro σ H2 ⟨y4, y5, y6, rfl, s2⟩
      have e : (ls.take (us.map V.ref).length).foldl (ringTurn n ls) 10000 = ringP n ls := by
        rw [List.length_map, lU, List.take_length]
        rfl
      rw [e]
      exact ⟨_, rfl, k H2 (same_tr s1 s2)⟩
end
end LL
namespace LL
open PySem PySem.Spec PyProof.Rows L2
open Kv402 (Line Net at_)
abbrev s_lines_do : Stmt := top 11
theorem sc_lines_do : FnScope ["chosen", "whole", "times", "size", "start", "far", "goal"] ["chosen", "whole", "times"] (defScope s_lines_do) := ⟨rfl, rfl, rfl, by decide +kernel, rfl, by decide +kernel, by decide +kernel⟩
def spDo : Sp := fun vs H Q _ => ∃ (n t : Nat) (c wa : Addr) (s : List Line) (rows : List (List Nat)), vs = [.ref c, .ref wa, vN t] ∧ LinesAt H c s ∧ RowsAt H wa rows ∧ rows.length = n ∧ (∀ r ∈ rows, r.length = n) ∧ Ok n s ∧ n ≤ 8 ∧ t < 2 ^ 63 ∧
  ∀ H', Same H H' → Q (.bl (doesP n s rows t)) H'
theorem any_ids {α : Type} (f : α → Bool) : ∀ l : List α, (l.map f).any id = l.any f
  | [] => rfl
  | x :: l => by
    rw [List.map_cons, List.any_cons, List.any_cons, any_ids f l]
    rfl
abbrev s_picked : Stmt := top 12
theorem sc_picked : FnScope ["lines", "numbers", "number", "one"] ["lines", "numbers"] (defScope s_picked) := ⟨rfl, rfl, rfl, by decide +kernel, rfl, by decide +kernel, by decide +kernel⟩
def spPick : Sp := fun vs H Q _ => ∃ (a b : Addr) (s : List Line) (c : List Nat), vs = [.ref a, .ref b] ∧ LinesAt H a s ∧ H b = some (.lst (c.map vN)) ∧ s.length ≤ 100 ∧
  ∀ H' p, Same H H' → H p = none → LinesAt H' p (pick s c) → Q (.ref p) H'
theorem flat_nats : ∀ c : List Nat, (c.map vN).all flatV = true
  | [] => rfl
  | _ :: c => by
    rw [List.map_cons, List.all_cons, flat_nats c]
    rfl
theorem in_nats (i : Nat) : ∀ c : List Nat, inV (vN i) (c.map vN) = c.contains i
  | [] => rfl
  | x :: c => by
    have ih := in_nats i c
    unfold inV at ih ⊢
    rw [List.map_cons, List.any_cons, ih, List.contains_cons]
    have : eqV (vN x) (vN i) = (i == x) := by
      show ((x : Int) == (i : Int)) = (i == x)
      by_cases e : i = x
      · subst e; simp
      · have : ¬ ((x : Int) = (i : Int)) := by omega
        rw [beq_eq_false_iff_ne.mpr e, beq_eq_false_iff_ne.mpr this]
    rw [this]
def pickT (s : List Line) (c : List Nat) (i : Nat) : List Line := ((s.zipIdx.take i).filter fun q => c.contains q.2).map Prod.fst
theorem pick_more {s : List Line} {c : List Nat} {i : Nat} {l : Line} (h : s[i]? = some l) : pickT s c (i + 1) = pickT s c i ++ if c.contains i = true then [l] else [] := by
  have h2 : s.zipIdx[i]? = some (l, i) := by
    rw [List.getElem?_zipIdx, h]
    simp
  unfold pickT
  rw [take_more h2, List.filter_append, List.map_append]
  cases e : c.contains i <;> simp [List.contains_eq_mem] at e ⊢ <;> simp [e]
theorem pickT_all (s : List Line) (c : List Nat) : pickT s c s.length = pick s c := by
  unfold pickT pick
  rw [List.take_of_length_le (by simp)]
theorem pickT_len (s : List Line) (c : List Nat) (i : Nat) : (pickT s c i).length ≤ s.length := by
  unfold pickT
  rw [List.length_map]
  refine Nat.le_trans (List.length_filter_le _ _) ?_
  rw [List.length_take, List.length_zipIdx]
  omega
section
variable {P : Program} {w : World} {K : PySem.W.Frag} {mg : Str → Option Value} {base : Heap}
theorem ok_do {f fD : Addr} {fd fdD : FuncData} (F : Fun K "lines_do" "lines_do" s_lines_do f fd) (G : Gtop mg)
    (A_distances : At P w K mg base 1 "distances" ["size", "lines", "start"] spDist fD fdD) : FnOk P w K mg base CX0 2 f fd ["chosen", "whole", "times"] spDo := by
  refine F.ok sc_lines_do (fun vs H Q E h => ?_) (fun cdv A outer s H vs Q E hr h => ?_)
  · obtain ⟨n, t, c, wa, s, rows, rfl, _⟩ := h
    rfl
  · obtain ⟨n, t, c, wa, ls, rows, rfl, hL, ⟨ts, hA, hT⟩, hn, hrl, o, n8, ht, k⟩ := h
    refine ⟨_, (pss_cons (ps_set (i := 3) sc_lines_do.nd rfl (.inl rfl) (pe_callB call_len_seq (by rfl) G.b_len PySem.boot_len (pa_cons (pv 1) pa_nil)))
    (pss_cons (ps_for PassesOwn.never rfl (pi_range1 rfl G.b_range (pa_cons (pv 3) pa_nil)) (pg_name (i := 4) sc_lines_do.nd rfl (.inr rfl))
      (pss_cons (ps_set (i := 5) sc_lines_do.nd rfl (.inr rfl) (pe_call A_distances.ok (hr.mono (by decide)) rfl A_distances.gl A_distances.kp A_distances.bi .nil pass0 (pa_cons (pv 3) (pa_cons (pv 0) (pa_cons (pv 4) pa_nil)))))
        (pss_one (ps_if (pt_val (pe_callB (cr_any rfl) (by rfl) G.b_any (by decide +kernel) (pa_cons (pe_lc (own := [("goal", 6)]) (g := gName 6) (tt := tYes) (te := tOp (rI0 fun i j => .bl (decide (j < i))) (tOp (rIxL K) (tVar 5) (tVar 6)) (tOp (rI CMul fun i j => .int (i * j)) (tVar 2) (tOp (rIxL K) (tOp (rIxL K) (tVar 1) (tVar 4)) (tVar 6)))) (by rfl) sc_lines_do.nd (pi_range1 rfl G.b_range (pa_cons (pv 3) pa_nil)) (blkOk_by (own := [("goal", 6)]) (N := ["chosen", "whole", "times", "size", "start", "far", "goal"]) (sc := defScope s_lines_do) (by decide +kernel)) (fun _ _ _ _ _ => pg_name (i := 6) sc_lines_do.nd rfl (Or.inl rfl)) (fun _ _ _ _ _ => pts_nil) (fun _ _ _ _ _ => pe_cmpR op_gt (pe_ix ix_list (pv 5) (pv 6) (fun _ _ => rfl)) (pe_op op_mul (pv 2) (pe_ix ix_list (pe_ix ix_list (pv 1) (pv 4) (fun _ _ => rfl)) (pv 6) (fun _ _ => rfl))) (nomark _))) pa_nil)))
          (pss_one (ps_ret (pe_bl)))
          pss_nil))))
    (pss_one (ps_ret (pe_bl))))), ?_⟩
    have lT := hT.len
    refine ⟨_, rfl, wa, _, rfl, .inl (SqL.of hA), ?_⟩
    rw [List.length_map, lT, hn]
    refine ⟨_, rfl, (n : Int), rfl, by omega, by omega, for_range (lo := 0) (n := n) (fun i σ H' => ∃ y4 y5 y6, σ = [some (.ref c), some (.ref wa), some (vN t), some (vN n), y4, y5, y6] ∧ Same H H' ∧ ∀ u, u < i → tooFar t (dists n ls u) (rows.getD u []) n = false)
      ⟨none, none, none, rfl, fun _ _ z => z, fun u hu => absurd hu (Nat.not_lt_zero u)⟩ ?_ ?_⟩
    · rintro u σ H1 hu ⟨y4, y5, y6, rfl, s1, hall⟩
      rw [Int.zero_add]
      refine ⟨_, rfl, _, rfl, _, rfl, n, u, c, ls, rfl, hL.same s1, o, n8, hu, fun H2 fq s2 nfq hfq => ?_⟩
      have lF : (dists n ls u).length = n := dists_len ls u
      have hut : u < (ts.map V.ref).length := by rw [List.length_map]; omega
      obtain ⟨tu, ru, hx, htu, hru, hHu⟩ := hT.get (List.getElem?_eq_getElem hut)
      have hat : atI (ts.map V.ref) (u : Int) = some (.ref tu) := atI_nat (by rw [List.getElem?_eq_getElem hut, hx])
      have hgd : rows.getD u [] = ru := by rw [List.getD_eq_getElem?_getD, hru]; rfl
      have lR : ru.length = n := hrl ru (List.mem_of_getElem? hru)
      have stop : ∀ (H3 : Hp), Same H H3 → tooFar t (dists n ls u) (rows.getD u []) n = true → Q (.bl false) H3 := fun H3 s3 hc => by
        have e : doesP n ls rows t = false := by
          unfold doesP
          rw [List.all_eq_false]
          exact ⟨u, List.mem_range.mpr hu, by rw [hc]; simp⟩
        have := k H3 s3
        rw [e] at this
        exact this
      have go : tooFar t (dists n ls u) (rows.getD u []) n = false → ∀ v, v < u + 1 → tooFar t (dists n ls v) (rows.getD v []) n = false := fun hc v hv => by
        by_cases e : v = u
        · subst e
          exact hc
        · exact hall v (by omega)
      rw [hgd] at stop go
      generalize dists n ls u = fr at hfq lF stop go
      refine ⟨_, rfl, (n : Int), rfl, by omega, by omega, fun D hD => lc_range (lo := 0) (n := n) (fun j H' => Same H2 H' ∧ H' D = some (.lst (((List.range j).map fun v => decide (t * ru.getD v 0 < fr.getD v 0)).map V.bl))) ⟨same_upd hD, upd_same⟩ ?_ ?_⟩
      · rintro v H3 hv ⟨s3, hP⟩
        rw [Int.zero_add]
        refine ⟨rfl, ?_⟩
        refine ⟨_, rfl, _, rfl, fq, _, _, _, rfl, rfl, SqL.of (s3 _ _ hfq), at_vN (f := fr) (i := v) (by omega), _, rfl, _, rfl, _, rfl, wa, _, _, _, rfl, rfl, SqL.of (s3 _ _ (s2 _ _ (s1 _ _ hA))), hat, _, rfl, tu, _, _, _, rfl, rfl, SqL.of (s3 _ _ (s2 _ _ (s1 _ _ hHu))), at_vN (f := ru) (i := v) (by omega), _, _, rfl, rfl, .inl ⟨by omega, by omega⟩, _, _, rfl, rfl, _, hP, ?_, same_set hD s3, ?_⟩
        · refine small (m := 100) ?_ (by decide)
          rw [List.length_map, List.length_map, List.length_range]
          omega
        · rw [upd_same, List.range_succ, List.map_append, List.map_append]
          have e : decide ((t : Int) * ((ru.getD v 0 : Nat) : Int) < ((fr.getD v 0 : Nat) : Int)) = decide (t * ru.getD v 0 < fr.getD v 0) := by
            rw [← Int.natCast_mul]
            exact decide_eq_decide.mpr (by omega)
          show some (HO.lst (_ ++ [V.bl (decide ((t : Int) * ((ru.getD v 0 : Nat) : Int) < ((fr.getD v 0 : Nat) : Int)))])) = _
          rw [e]
          rfl
      · rintro H3 ⟨s3, hP⟩
        have s03 := same_tr s1 (same_tr s2 s3)
        refine ⟨D, _, rfl, SqL.of hP, _, rfl, ?_⟩
        rw [any_ids]
        refine ite2 (fun cc => ?_) (fun cc => ?_)
        · exact stop H3 s03 cc
        · exact ⟨_, _, _, rfl, s03, go (Bool.eq_false_iff.mpr cc)⟩
    · rintro σ H1 ⟨y4, y5, y6, rfl, s1, hall⟩
      have e : doesP n ls rows t = true := by
        unfold doesP
        rw [List.all_eq_true]
        intro u hu
        rw [hall u (List.mem_range.mp hu)]
        rfl
      have := k H1 s1
      rw [e] at this
      exact this
theorem ok_pick {f : Addr} {fd : FuncData} (F : Fun K "picked" "picked" s_picked f fd) (G : Gtop mg) : FnOk P w K mg base CX0 1 f fd ["lines", "numbers"] spPick := by
  refine F.ok sc_picked (fun vs H Q E h => ?_) (fun cdv A outer s H vs Q E hr h => ?_)
  · obtain ⟨a, b, s, c, rfl, _⟩ := h
    rfl
  · obtain ⟨a, b, ls, c, rfl, ⟨ts, hA, hT⟩, hB, hlen, k⟩ := h
    refine ⟨_, (pss_one (ps_ret (pe_lc (own := [("number", 2), ("one", 3)]) (g := gTup K 2 (gCons (gName 2) (gCons (gName 3) gNil))) (tt := tTest (tOp (rIn K false) (tVar 2) (tVar 1))) (te := tVar 3) (by rfl) sc_picked.nd (pi_enum (by rfl) G.b_enumerate (pa_cons (pv 0) pa_nil)) (blkOk_by (own := [("number", 2), ("one", 3)]) (N := ["lines", "numbers", "number", "one"]) (sc := defScope s_picked) (by decide +kernel))
      (fun _ _ _ _ _ => pg_tup rfl (pgs_cons (pg_name (i := 2) sc_picked.nd rfl (Or.inl rfl)) (pgs_cons (pg_name (i := 3) sc_picked.nd rfl (Or.inl rfl)) pgs_nil))) (fun _ _ _ _ _ => pts_one (pt_cmpR op_in_seq (pv 2) (pv 1) (by rfl))) (fun _ _ _ _ _ => pv 3)))), ?_⟩
    refine ⟨_, rfl, a, _, rfl, SqL.of hA, fun D hD => lc_it (walk_enum (K := K) (a := a) (xs := ts.map V.ref)) (fun i H' => Same H H' ∧ LinesAt H' D (pickT ls c i)) ⟨same_upd hD, [], upd_same, trivial⟩ (fun i H' _ h => SqL.of (h.1 _ _ hA)) ?_ ?_⟩
    · rintro i x H1 H2 hi ⟨s1, us, hU, hUT⟩ ⟨T, x1, y1, rfl, nT, rfl, e1, e2⟩
      cases e1
      obtain ⟨t, l, rfl, _, hl, hTl⟩ := hT.get e2
      have more := pick_more (c := c) hl
      have pl := pickT_len ls c i
      generalize pickT ls c i = acc at hUT more pl
      have nDT : D ≠ T := ne_of_none hU nT
      have s2 := same_new (o := .tup [V.int (i : Nat), V.ref t]) s1 nT
      refine ⟨T, _, rfl, SqT.of upd_same, rfl, _, _, rfl, _, _, rfl, rfl, ?_⟩
      refine ⟨rfl, ?_⟩
      refine ⟨_, rfl, _, rfl, b, _, rfl, .inl (SqL.of (s2 _ _ hB)), rfl, flat_nats c, _, rfl, ?_⟩
      have ei : (if false = true then !inV (vN i) (c.map vN) else inV (vN i) (c.map vN)) = c.contains i := by
        rw [if_neg Bool.false_ne_true]
        exact in_nats i c
      rw [ei]
      have hU2 : upd H1 T (.tup [V.int (i : Nat), V.ref t]) D = some (.lst (us.map V.ref)) := by rw [upd_ne nDT]; exact hU
      have hUT2 := hUT.same (same_upd (o := .tup [V.int (i : Nat), V.ref t]) nT)
      refine ite2 (fun cc => ?_) (fun cc => ?_)
      · refine ⟨_, rfl, _, hU2, ?_, same_set hD s2, us ++ [t], ?_, ?_⟩
        · refine small (m := 100) ?_ (by decide)
          rw [List.length_map, hUT.len]
          omega
        · rw [upd_same, List.map_append]
          rfl
        · rw [more, if_pos cc]
          exact Tups.upd hU2 (Tups.app hUT2 ⟨s2 _ _ hTl, trivial⟩)
      · refine ⟨s2, us, hU2, ?_⟩
        rw [more, if_neg cc, List.append_nil]
        exact hUT2
    · rintro H1 ⟨s1, hU⟩
      rw [List.length_map, hT.len, pickT_all] at hU
      exact k H1 D s1 hD hU
end
end LL
namespace LL
open PySem PySem.Spec PyProof.Rows L2
open Kv402 (Line Net at_)
abbrev s_with_one_more : Stmt := top 13
theorem sc_with_one_more : FnScope ["choices", "limit", "longer", "choice", "first", "number"] ["choices", "limit"] (defScope s_with_one_more) := ⟨rfl, rfl, rfl, by decide +kernel, rfl, by decide +kernel, by decide +kernel⟩
def spMore : Sp := fun vs H Q _ => ∃ (a : Addr) (N : Nat) (cs : List (List Nat)), vs = [.ref a, vN N] ∧ RowsAt H a cs ∧ N ≤ 100 ∧ (∀ c ∈ cs, c.length ≤ 100 ∧ ∀ x ∈ c, x < N) ∧ (more N cs).length ≤ 10000 ∧
  ∀ H' p, Same H H' → H p = none → RowsAt H' p (more N cs) → Q (.ref p) H'
theorem more_more {N : Nat} {cs : List (List Nat)} {i : Nat} {c : List Nat} (h : cs[i]? = some c) : more N (cs.take (i + 1)) = more N (cs.take i) ++ ext N c := by
  unfold more
  rw [take_more h, List.flatMap_append, List.flatMap_cons, List.flatMap_nil, List.append_nil]
theorem more_len {N : Nat} {cs : List (List Nat)} {i : Nat} : (more N (cs.take i)).length ≤ (more N cs).length := by
  unfold more
  conv => rhs; rw [← List.take_append_drop i cs, List.flatMap_append, List.length_append]
  omega
abbrev s_first_that_does : Stmt := top 14
theorem sc_first_that_does : FnScope ["lines", "choices", "whole", "times", "choice", "chosen"] ["lines", "choices", "whole", "times"] (defScope s_first_that_does) := ⟨rfl, rfl, rfl, by decide +kernel, rfl, by decide +kernel, by decide +kernel⟩
def spFirst : Sp := fun vs H Q _ => ∃ (n t : Nat) (a b wa : Addr) (s : List Line) (cs rows : List (List Nat)), vs = [.ref a, .ref b, .ref wa, vN t] ∧ LinesAt H a s ∧ RowsAt H b cs ∧ RowsAt H wa rows ∧ rows.length = n ∧ (∀ r ∈ rows, r.length = n) ∧ Ok n s ∧ n ≤ 8 ∧ s.length ≤ 100 ∧ t < 2 ^ 63 ∧
  (firstDo s n rows t cs = none → ∀ H', Same H H' → Q .non H') ∧ (∀ x, firstDo s n rows t cs = some x → ∀ H' p, Same H H' → H p = none → LinesAt H' p x → Q (.ref p) H')
section
variable {P : Program} {w : World} {K : PySem.W.Frag} {mg : Str → Option Value} {base : Heap}
theorem ok_more {f : Addr} {fd : FuncData} (F : Fun K "with_one_more" "with_one_more" s_with_one_more f fd) (G : Gtop mg) : FnOk P w K mg base CX0 1 f fd ["choices", "limit"] spMore := by
  refine F.ok sc_with_one_more (fun vs H Q E h => ?_) (fun cdv A outer s H vs Q E hr h => ?_)
  · obtain ⟨a, N, cs, rfl, _⟩ := h
    rfl
  · obtain ⟨a, N, cs, rfl, ⟨ts, hA, hT⟩, hN, hc, hlen, k⟩ := h
    refine ⟨_, (pss_cons (ps_set (i := 2) sc_with_one_more.nd rfl (.inl rfl) (pe_lst (pa_nil)))
    (pss_cons (ps_for PassesOwn.never rfl (pi_list (pv 0)) (pg_name (i := 3) sc_with_one_more.nd rfl (.inl rfl))
      (pss_cons (ps_set (i := 4) sc_with_one_more.nd rfl (.inl rfl) (pe_ifExp (pt_cmpR op_gt (pe_callB call_len_seq (by rfl) G.b_len PySem.boot_len (pa_cons (pv 3) pa_nil)) (pe_int) (nomark _)) (pe_op op_add (pe_ix ix_list (pv 3) (pe_un un_neg (pe_int)) (fun _ _ => rfl)) (pe_int)) (pe_int)))
        (pss_one (ps_for PassesOwn.never rfl (pi_range2 rfl G.b_range (pa_cons (pv 4) (pa_cons (pv 1) pa_nil))) (pg_name (i := 5) sc_with_one_more.nd rfl (.inl rfl))
          (pss_one (ps_expr (pe_bm PySem.F.plainAttrs_list PySem.F.slot_list_append PySem.F.type_list_append mt_append (pv 2) (pa_cons (pe_op op_cat (pv 3) (pe_lst (pa_cons (pv 5) pa_nil))) pa_nil))))))))
    (pss_one (ps_ret (pv 2))))), ?_⟩
    refine ⟨Nat.zero_le _, fun p hp => ?_⟩
    have s1 : Same H (upd H p (.lst [])) := same_upd hp
    refine ⟨_, rfl, a, rfl, ⟨_, SqL.of (s1 _ _ hA)⟩, for_list (K := K) (a := a) (xs := ts.map V.ref) (fun i σ H' => ∃ y3 y4 y5, σ = [some (.ref a), some (vN N), some (.ref p), y3, y4, y5] ∧ Same H H' ∧ ∃ qs, H' p = some (.lst (qs.map V.ref)) ∧ Rws H' qs (more N (cs.take i)) ∧ ∀ q ∈ qs, q ≠ p)
      ⟨none, none, none, rfl, s1, [], upd_same, trivial, fun _ h => by cases h⟩ (fun j σ H' _ ⟨_, _, _, _, s5, _⟩ => SqL.of (s5 _ _ hA)) ?_ ?_⟩
    · rintro i x σ H2 hi ⟨y3, y4, y5, rfl, s2, qs, hP, hQ, ne⟩
      obtain ⟨t, c, rfl, _, hci, hTc⟩ := hT.get hi
      have hcm : c ∈ cs := List.mem_of_getElem? hci
      obtain ⟨hcl, hcx⟩ := hc c hcm
      have hTc2 := s2 _ _ hTc
      have tm := more_more (N := N) hci
      have tl := more_len (N := N) (cs := cs) (i := i + 1)
      rw [tm, List.length_append] at tl
      rw [tm]
      generalize more N (cs.take i) = acc at hQ tl
      refine ⟨_, rfl, t, _, rfl, .inl (SqL.of hTc2), _, _, rfl, rfl, _, rfl, ?_⟩
      have hf : firstOf c ≤ N := by
        unfold firstOf
        cases e : c.getLast? with
        | none => exact Nat.zero_le N
        | some x =>
          have := hcx x (List.mem_of_getLast? e)
          exact this
      have el : (ext N c).length = N - firstOf c := by
        unfold ext
        rw [List.length_map, List.length_range']
      have join : ∀ {B : Prop} {σ : L2.St} {Qv : VK}, Qv (vN (firstOf c)) H2 → (∀ x, c.getLast? = some x → Qv (V.int ((x : Int) + 1)) H2 → B) → if decide ((0 : Int) < (((c.map vN).length : Nat) : Int)) = true then B else tC (V.int 0) σ H2 Qv := fun {B σ Qv} h1 h2 => by
        unfold firstOf at h1
        cases e : c.getLast? with
        | none =>
          rw [e] at h1
          have : c = [] := List.getLast?_eq_none_iff.mp e
          subst this
          exact iteN (decide_eq_false (by simp)) h1
        | some x =>
          rw [e] at h1
          have : c ≠ [] := fun z => by rw [z] at e; cases e
          have : 0 < c.length := List.length_pos_iff.mpr this
          exact iteP (decide_eq_true (by rw [List.length_map]; omega)) (h2 x e h1)
      refine join ?_ (fun x hx hq => ?_)
      rotate_left
      · have last : atI (c.map vN) (-1) = some (vN x) := by
          obtain ⟨d, rfl⟩ := List.getLast?_eq_some_iff.mp hx
          rw [List.map_append]
          exact atI_last _ _
        exact ⟨_, rfl, _, rfl, t, _, _, _, rfl, rfl, SqL.of hTc2, last, _, _, rfl, rfl, hq⟩
      refine ⟨_, rfl, _, rfl, ((firstOf c : Nat) : Int), (N : Int), rfl, ⟨by omega, by omega, by omega, by omega⟩, for_range (lo := ((firstOf c : Nat) : Int)) (n := ((N : Int) - ((firstOf c : Nat) : Int)).toNat) (fun j σ H' => ∃ y5, σ = [some (.ref a), some (vN N), some (.ref p), some (.ref t), some (vN (firstOf c)), y5] ∧ Same H H' ∧ ∃ qs, H' p = some (.lst (qs.map V.ref)) ∧ Rws H' qs (acc ++ (List.range' (firstOf c) j).map fun j => c ++ [j]) ∧ ∀ q ∈ qs, q ≠ p)
        ⟨y5, rfl, s2, qs, hP, by rw [show List.range' (firstOf c) 0 = [] from rfl, List.map_nil, List.append_nil]; exact hQ, ne⟩ ?_ ?_⟩
      · rintro j σ H3 hj ⟨y5, rfl, s3, qs, hP, hQ, ne⟩
        have ev : ((firstOf c : Nat) : Int) + (j : Int) = ((firstOf c + j : Nat) : Int) := by omega
        rw [ev]
        refine ⟨_, rfl, .inl ⟨rfl, _, SqL.of hP⟩, ?_⟩
        refine ⟨_, rfl, _, rfl, (by show 1 ≤ sizeLine; decide), fun q hq => ?_⟩
        have hTc3 := s3 _ _ hTc
        have ntq : t ≠ q := ne_of_none hTc3 hq
        refine ⟨t, q, _, _, rfl, rfl, by rw [upd_ne ntq]; exact hTc3, upd_same, ?_, fun r hr => ?_⟩
        · refine Nat.le_of_lt (small (m := 101) ?_ (by decide))
          rw [List.length_map]
          show c.length + 1 ≤ 101
          omega
        · have hr3 : H3 r = none := (same_upd hq).free hr
          have npq : p ≠ q := ne_of_none hP hq
          have npr : p ≠ r := ne_of_none hP hr3
          have hP4 : upd (upd H3 q (.lst [vN (firstOf c + j)])) r (.lst (c.map vN ++ [vN (firstOf c + j)])) p = some (.lst (qs.map V.ref)) := by rw [upd_ne npr, upd_ne npq]; exact hP
          refine ⟨p, _, _, rfl, rfl, hP4, ?_, ?_⟩
          · refine small (m := 20000) ?_ (by decide)
            rw [List.length_map, hQ.len, List.length_append, List.length_map, List.length_range']
            omega
          · have s4 : Same H3 (upd (upd H3 q (.lst [vN (firstOf c + j)])) r (.lst (c.map vN ++ [vN (firstOf c + j)]))) := same_new (same_upd hq) hr
            have nn : ∀ q' ∈ qs ++ [r], q' ≠ p := fun q' h' => by
              rcases List.mem_append.mp h' with h | h
              · exact ne q' h
              · have : q' = r := by simpa using h
                rw [this]
                exact npr.symm
            refine ⟨_, rfl, same_set hp (same_tr s3 s4), qs ++ [r], ?_, ?_, nn⟩
            · rw [upd_same, List.map_append]
              rfl
            · have e1 : acc ++ (List.range' (firstOf c) (j + 1)).map (fun j => c ++ [j]) = (acc ++ (List.range' (firstOf c) j).map (fun j => c ++ [j])) ++ [c ++ [firstOf c + j]] := by
                rw [List.range'_1_concat, List.map_append, List.append_assoc]
                rfl
              rw [e1]
              refine Rws.upd (Rws.app (hQ.same s4) ⟨?_, trivial⟩) nn
              rw [upd_same, List.map_append]
              rfl
      · rintro σ H3 ⟨y5, rfl, s3, qs, hP, hQ, ne⟩
        refine ⟨_, _, _, rfl, s3, qs, hP, ?_, ne⟩
        rw [show ((N : Int) - ((firstOf c : Nat) : Int)).toNat = N - firstOf c by omega] at hQ
        exact hQ
    · rintro σ H2 ⟨y3, y4, y5, rfl, s2, qs, hP, hQ, ne⟩
      rw [List.length_map, hT.len, List.take_length] at hQ
      exact ⟨_, rfl, k H2 p s2 hp ⟨qs, hP, hQ⟩⟩
end
end LL
namespace LL
open PySem PySem.Spec PyProof.Rows L2
open Kv402 (Line Net at_)
theorem firstDo_more {s : List Line} {n t : Nat} {rows cs : List (List Nat)} {i : Nat} {c : List Nat} (h : cs[i]? = some c) (hn : firstDo s n rows t (cs.take i) = none) :
    firstDo s n rows t (cs.take (i + 1)) = if doesP n (pick s c) rows t = true then some (pick s c) else none := by
  unfold firstDo at hn ⊢
  rw [take_more h, List.map_append, List.find?_append, hn]
  cases e : doesP n (pick s c) rows t <;> simp [e]
theorem firstDo_stop {s : List Line} {n t : Nat} {rows cs : List (List Nat)} {i : Nat} {x : List Line} (h : firstDo s n rows t (cs.take i) = some x) : firstDo s n rows t cs = some x := by
  unfold firstDo at h ⊢
  conv => lhs; rw [← List.take_append_drop i cs, List.map_append, List.find?_append, h]
  rfl
abbrev s_fewest_lines : Stmt := top 15
theorem sc_fewest_lines : FnScope ["size", "lines", "times", "whole", "choices", "turn", "chosen"] ["size", "lines", "times"] (defScope s_fewest_lines) := ⟨rfl, rfl, rfl, by decide +kernel, rfl, by decide +kernel, by decide +kernel⟩
def spFew : Sp := fun vs H Q _ => ∃ (g : Net) (t : Nat) (a : Addr), vs = [vN g.n, .ref a, vN t] ∧ LinesAt H a g.lines ∧ Net8 g ∧ g.lines.length ≤ 10 ∧ 1 ≤ t ∧ t ≤ 9 ∧
  ∀ H' p, Same H H' → H p = none → LinesAt H' p (g.fewest t) → Q (.ref p) H'
section
variable {P : Program} {w : World} {K : PySem.W.Frag} {mg : Str → Option Value} {base : Heap}
theorem ok_first {f fP fO : Addr} {fd fdP fdO : FuncData} (F : Fun K "first_that_does" "first_that_does" s_first_that_does f fd) (G : Gtop mg)
    (A_picked : At P w K mg base 1 "picked" ["lines", "numbers"] spPick fP fdP) (A_lines_do : At P w K mg base 2 "lines_do" ["chosen", "whole", "times"] spDo fO fdO) : FnOk P w K mg base CX0 3 f fd ["lines", "choices", "whole", "times"] spFirst := by
  refine F.ok sc_first_that_does (fun vs H Q E h => ?_) (fun cdv A outer s H vs Q E hr h => ?_)
  · obtain ⟨n, t, a, b, wa, s, cs, rows, rfl, _⟩ := h
    rfl
  · obtain ⟨n, t, a, b, wa, ls, cs, rows, rfl, hL, ⟨ts, hA, hT⟩, hW, hn, hrl, o, n8, hlen, ht, k0, k1⟩ := h
    refine ⟨_, (pss_cons (ps_for PassesOwn.never rfl (pi_list (pv 1)) (pg_name (i := 4) sc_first_that_does.nd rfl (.inl rfl))
      (pss_cons (ps_set (i := 5) sc_first_that_does.nd rfl (.inl rfl) (pe_call A_picked.ok (hr.mono (by decide)) rfl A_picked.gl A_picked.kp A_picked.bi .nil pass0 (pa_cons (pv 0) (pa_cons (pv 4) pa_nil))))
        (pss_one (ps_if (pt_val (pe_call A_lines_do.ok (hr.mono (by decide)) rfl A_lines_do.gl A_lines_do.kp A_lines_do.bi .nil pass0 (pa_cons (pv 5) (pa_cons (pv 2) (pa_cons (pv 3) pa_nil)))))
          (pss_one (ps_ret (pv 5)))
          pss_nil))))
    (pss_one (ps_ret (pe_non)))), ?_⟩
    refine ⟨_, rfl, b, rfl, ⟨_, SqL.of hA⟩, for_list (K := K) (a := b) (xs := ts.map V.ref) (fun i σ H' => ∃ y4 y5, σ = [some (.ref a), some (.ref b), some (.ref wa), some (vN t), y4, y5] ∧ Same H H' ∧ firstDo ls n rows t (cs.take i) = none)
      ⟨none, none, rfl, fun _ _ z => z, rfl⟩ (fun j σ H' _ ⟨_, _, _, s5, _⟩ => SqL.of (s5 _ _ hA)) ?_ ?_⟩
    · rintro i x σ H1 hi ⟨y4, y5, rfl, s1, hno⟩
      obtain ⟨tc, c, rfl, _, hci, hTc⟩ := hT.get hi
      have tm := firstDo_more hci hno
      refine ⟨_, rfl, _, rfl, a, tc, ls, c, rfl, hL.same s1, s1 _ _ hTc, hlen, fun H2 p s2 np hp => ?_⟩
      refine ⟨_, rfl, _, rfl, _, rfl, n, t, p, wa, pick ls c, rows, rfl, hp, (hW.same s1).same s2, hn, hrl, o.sub (pick_sub ls c), n8, ht, fun H3 s3 => ?_⟩
      refine ⟨_, rfl, ?_⟩
      refine ite2 (fun cc => ?_) (fun cc => ?_)
      · rw [if_pos cc] at tm
        exact ⟨_, rfl, k1 _ (firstDo_stop tm) H3 p (same_tr s1 (same_tr s2 s3)) (s1.free np) (hp.same s3)⟩
      · rw [if_neg cc] at tm
        exact ⟨_, _, rfl, same_tr s1 (same_tr s2 s3), tm⟩
    · rintro σ H1 ⟨y4, y5, rfl, s1, hno⟩
      rw [List.length_map, hT.len, List.take_length] at hno
      exact k0 hno H1 s1
theorem ok_few {f fA fL fM fF : Addr} {fd fdA fdL fdM fdF : FuncData} (F : Fun K "fewest_lines" "fewest_lines" s_fewest_lines f fd) (G : Gtop mg)
    (A_all_distances : At P w K mg base 2 "all_distances" ["size", "lines"] spAll fA fdA) (A_lightest_lines : At P w K mg base 2 "lightest_lines" ["size", "lines"] spLight fL fdL)
    (A_with_one_more : At P w K mg base 1 "with_one_more" ["choices", "limit"] spMore fM fdM) (A_first_that_does : At P w K mg base 3 "first_that_does" ["lines", "choices", "whole", "times"] spFirst fF fdF) :
    FnOk P w K mg base CX0 4 f fd ["size", "lines", "times"] spFew := by
  refine F.ok sc_fewest_lines (fun vs H Q E h => ?_) (fun cdv A outer s H vs Q E hr h => ?_)
  · obtain ⟨g, t, a, rfl, _⟩ := h
    rfl
  · obtain ⟨g, t, a, rfl, hL, N, hlen, t1, t9, k⟩ := h
    refine ⟨_, (pss_cons (ps_set (i := 3) sc_fewest_lines.nd rfl (.inl rfl) (pe_call A_all_distances.ok (hr.mono (by decide)) rfl A_all_distances.gl A_all_distances.kp A_all_distances.bi .nil pass0 (pa_cons (pv 0) (pa_cons (pv 1) pa_nil))))
    (pss_cons (ps_set (i := 4) sc_fewest_lines.nd rfl (.inl rfl) (pe_lst (pa_cons (pe_lst (pa_nil)) pa_nil)))
    (pss_cons (ps_for PassesOwn.never rfl (pi_range1 rfl G.b_range (pa_cons (pe_callB call_len_seq (by rfl) G.b_len PySem.boot_len (pa_cons (pe_call A_lightest_lines.ok (hr.mono (by decide)) rfl A_lightest_lines.gl A_lightest_lines.kp A_lightest_lines.bi .nil pass0 (pa_cons (pv 0) (pa_cons (pv 1) pa_nil))) pa_nil)) pa_nil)) (pg_name (i := 5) sc_fewest_lines.nd rfl (.inl rfl))
      (pss_one (ps_set (i := 4) sc_fewest_lines.nd rfl (.inl rfl) (pe_call A_with_one_more.ok (hr.mono (by decide)) rfl A_with_one_more.gl A_with_one_more.kp A_with_one_more.bi .nil pass0 (pa_cons (pv 4) (pa_cons (pe_callB call_len_seq (by rfl) G.b_len PySem.boot_len (pa_cons (pv 1) pa_nil)) pa_nil))))))
    (pss_cons (ps_set (i := 6) sc_fewest_lines.nd rfl (.inl rfl) (pe_call A_first_that_does.ok (hr.mono (by decide)) rfl A_first_that_does.gl A_first_that_does.kp A_first_that_does.bi .nil pass0 (pa_cons (pv 1) (pa_cons (pv 4) (pa_cons (pv 3) (pa_cons (pv 2) pa_nil))))))
    (pss_cons (ps_while PassesOwn.never (pt_cmpR op_isN (pv 6) (pe_non) (nomark _))
      (pss_cons (ps_set (i := 4) sc_fewest_lines.nd rfl (.inl rfl) (pe_call A_with_one_more.ok (hr.mono (by decide)) rfl A_with_one_more.gl A_with_one_more.kp A_with_one_more.bi .nil pass0 (pa_cons (pv 4) (pa_cons (pe_callB call_len_seq (by rfl) G.b_len PySem.boot_len (pa_cons (pv 1) pa_nil)) pa_nil))))
        (pss_one (ps_set (i := 6) sc_fewest_lines.nd rfl (.inl rfl) (pe_call A_first_that_does.ok (hr.mono (by decide)) rfl A_first_that_does.gl A_first_that_does.kp A_first_that_does.bi .nil pass0 (pa_cons (pv 1) (pa_cons (pv 4) (pa_cons (pv 3) (pa_cons (pv 2) pa_nil)))))))))
    (pss_one (ps_ret (pv 6)))))))), ?_⟩
    obtain ⟨ts, hA, hT⟩ := id hL
    have lT := hT.len
    have lL := (light_sub g.n g.lines).length_le
    have lM : ∀ j, (chN g.lines.length j).length ≤ 10000 := fun j => by
      have h1 := chN_len g.lines.length j
      have h2 : 2 ^ g.lines.length ≤ 2 ^ 10 := Nat.pow_le_pow_right (by decide) hlen
      omega
    have lC : ∀ j, ∀ c ∈ chN g.lines.length j, c.length ≤ 100 ∧ ∀ x ∈ c, x < g.lines.length := fun j c hc => by
      obtain ⟨h1, h2, h3⟩ := chN_mem hc
      exact ⟨by omega, h3⟩
    have lR := rows_len g.n g.lines
    have rR : ∀ r ∈ rowsOf g.n g.lines, r.length = g.n := fun r hr => by
      obtain ⟨u, _, rfl⟩ := List.mem_map.mp hr
      exact dists_len g.lines u
    -- whole, choices
    refine ⟨_, rfl, _, rfl, g.n, a, g.lines, rfl, hL, N.ok, N.n8, fun H1 wq s1 nwq hwq => ?_⟩
    refine ⟨Nat.zero_le _, fun e0 ne0 => ⟨(by show 1 ≤ sizeLine; decide), fun c0 nc0 => ?_⟩⟩
    have sE : Same H1 (upd (upd H1 e0 (.lst [])) c0 (.lst [.ref e0])) := same_new (same_upd ne0) nc0
    have hC0 : RowsAt (upd (upd H1 e0 (.lst [])) c0 (.lst [.ref e0])) c0 (chN g.lines.length 0) := by
      have : e0 ≠ c0 := fun e => by rw [← e, upd_same] at nc0; cases nc0
      exact ⟨[e0], upd_same, by rw [upd_ne this]; exact upd_same, trivial⟩
    generalize upd (upd H1 e0 (.lst [])) c0 (.lst [.ref e0]) = H2 at sE hC0
    have s2 := same_tr s1 sE
    -- for turn in range(len(lightest_lines(size, lines)))
    refine ⟨_, rfl, _, rfl, g.n, a, g.lines, rfl, hL.same s2, N.ok, N.n8, by omega, fun H3 lq s3 nlq hlq => ?_⟩
    obtain ⟨us, hU, hUT⟩ := hlq
    have lU : (us.map V.ref).length = (lightL g.n g.lines).length := by rw [List.length_map, hUT.len]
    refine ⟨lq, _, rfl, .inl (SqL.of hU), ?_⟩
    rw [lU]
    refine ⟨(((lightL g.n g.lines).length : Nat) : Int), rfl, by omega, by omega, for_range (lo := 0) (n := (((lightL g.n g.lines).length : Nat) : Int).toNat) (fun i σ H' => ∃ cq y5, σ = [some (vN g.n), some (.ref a), some (vN t), some (.ref wq), some (.ref cq), y5, none] ∧ Same H1 H' ∧ RowsAt H' cq (chN g.lines.length i))
      ⟨c0, none, rfl, same_tr sE s3, hC0.same s3⟩ ?_ ?_⟩
    · rintro i σ H4 hi ⟨cq, y5, rfl, s4, hcq⟩
      refine ⟨_, rfl, _, rfl, a, _, rfl, .inl (SqL.of (s4 _ _ (s1 _ _ hA))), ?_⟩
      rw [List.length_map, lT]
      exact ⟨cq, g.lines.length, _, rfl, hcq, by omega, lC i, lM (i + 1), fun H5 dq s5 ndq hdq => ⟨dq, _, rfl, same_tr s4 s5, hdq⟩⟩
    · rintro σ H4 ⟨cq, y5, rfl, s4, hcq⟩
      have ei : (((lightL g.n g.lines).length : Nat) : Int).toNat = (lightL g.n g.lines).length := by omega
      rw [ei] at hcq
      refine ⟨_, rfl, _, rfl, _, rfl, _, rfl, g.n, t, a, cq, wq, g.lines, _, _, rfl, (hL.same s1).same s4, hcq, hwq.same s4, lR, rR, N.ok, N.n8, by omega, by omega, fun hn H5 s5 => ?_, fun x hx H5 p s5 np hp => ?_⟩
      · refine ⟨fun m σ H' => ∃ (j : Nat) (cq : Addr) (y5 : Option V) (v : V), σ = [some (vN g.n), some (.ref a), some (vN t), some (.ref wq), some (.ref cq), y5, some v] ∧ Same H1 H' ∧ RowsAt H' cq (chN g.lines.length j) ∧ (lightL g.n g.lines).length ≤ j ∧ j ≤ g.lines.length ∧ m = g.lines.length - j ∧
          (∀ i, (lightL g.n g.lines).length ≤ i → i < j → firstDo g.lines g.n (rowsOf g.n g.lines) t (chN g.lines.length i) = none) ∧
          ((v = .non ∧ firstDo g.lines g.n (rowsOf g.n g.lines) t (chN g.lines.length j) = none) ∨ ∃ x p, v = .ref p ∧ firstDo g.lines g.n (rowsOf g.n g.lines) t (chN g.lines.length j) = some x ∧ H p = none ∧ LinesAt H' p x), ⟨_, (lightL g.n g.lines).length, cq, y5, .non, rfl, same_tr s4 s5, hcq.same s5, Nat.le_refl _, lL, rfl, fun i h1 h2 => by omega, .inl ⟨rfl, hn⟩⟩, ?_⟩
        rintro m σ H6 ⟨j, cq, y5, v, rfl, s6, hcq, lj, jl, rfl, hprev, hv⟩
        refine ⟨_, rfl, rfl, _, rfl, ?_⟩
        rcases hv with ⟨rfl, hnj⟩ | ⟨x, p, rfl, hx, np, hp⟩
        · refine iteP (decide_eq_true rfl) ?_
          have jlt : j < g.lines.length := by
            refine Nat.lt_of_le_of_ne jl fun e => ?_
            rw [e, N.fewest_end t1 t9] at hnj
            cases hnj
          refine ⟨fun σ' H' => ∃ (cq : Addr) (y5 : Option V) (v : V), σ' = [some (vN g.n), some (.ref a), some (vN t), some (.ref wq), some (.ref cq), y5, some v] ∧ Same H1 H' ∧ RowsAt H' cq (chN g.lines.length (j + 1)) ∧
            ((v = .non ∧ firstDo g.lines g.n (rowsOf g.n g.lines) t (chN g.lines.length (j + 1)) = none) ∨ ∃ x p, v = .ref p ∧ firstDo g.lines g.n (rowsOf g.n g.lines) t (chN g.lines.length (j + 1)) = some x ∧ H p = none ∧ LinesAt H' p x), ?_, ?_⟩
          · rintro σ' H' ⟨cq', y5', v', e1, e2, e3, e4⟩
            refine ⟨g.lines.length - (j + 1), by omega, j + 1, cq', y5', v', e1, e2, e3, by omega, by omega, rfl, fun i h1 h2 => ?_, e4⟩
            by_cases c : i = j
            · subst c
              exact hnj
            · exact hprev i h1 (by omega)
          · refine ⟨_, rfl, _, rfl, a, _, rfl, .inl (SqL.of (s6 _ _ (s1 _ _ hA))), ?_⟩
            rw [List.length_map, lT]
            refine ⟨cq, g.lines.length, _, rfl, hcq, by omega, lC j, lM (j + 1), fun H7 dq s7 ndq hdq => ?_⟩
            refine ⟨_, rfl, _, rfl, _, rfl, _, rfl, g.n, t, a, dq, wq, g.lines, _, _, rfl, ((hL.same s1).same s6).same s7, hdq, (hwq.same s6).same s7, lR, rR, N.ok, N.n8, by omega, by omega, fun hn H8 s8 => ?_, fun x hx H8 p s8 np hp => ?_⟩
            · exact ⟨dq, y5, .non, rfl, same_tr s6 (same_tr s7 s8), hdq.same s8, .inl ⟨rfl, hn⟩⟩
            · exact ⟨dq, y5, .ref p, rfl, same_tr s6 (same_tr s7 s8), hdq.same s8, .inr ⟨x, p, rfl, hx, s1.free (s6.free (s7.free np)), hp⟩⟩
        · refine iteN (decide_eq_false (by intro z; cases z)) ?_
          refine ⟨_, rfl, k H6 p (same_tr s1 s6) np ?_⟩
          rw [N.fewest_is t1 t9 hx hprev]
          exact hp
      · -- found at once
        refine ⟨fun m σ H' => σ = [some (vN g.n), some (.ref a), some (vN t), some (.ref wq), some (.ref cq), y5, some (.ref p)] ∧ Same H1 H' ∧ LinesAt H' p x, ⟨0, rfl, same_tr s4 s5, hp⟩, ?_⟩
        rintro m σ H6 ⟨rfl, s6, hp6⟩
        refine ⟨_, rfl, rfl, _, rfl, ?_⟩
        refine iteN (decide_eq_false (by intro z; cases z)) ?_
        refine ⟨_, rfl, k H6 p (same_tr s1 s6) (s1.free (s4.free np)) ?_⟩
        rw [N.fewest_is t1 t9 hx fun i h1 h2 => by omega]
        exact hp6
end
end LL
namespace LL
open PySem PySem.Spec PyProof.Rows L2
open Kv402 (Line Net at_ Ans okT flat lineList say num table)
open Kv402Neutral (row)
/-- a new list with an answer's numbers is handed back; what stood stands -/
abbrev Gives (H : Hp) (Q : VK) (x : Ans) : Prop := ∀ H' p, Same H H' → H p = none → H' p = some (.lst ((row x).map V.int)) → Q (.ref p) H'
abbrev s_wrong_times : Stmt := top 31
theorem sc_wrong_times : FnScope ["t"] ["t"] (defScope s_wrong_times) := ⟨rfl, rfl, rfl, by decide +kernel, rfl, by decide +kernel, by decide +kernel⟩
def spWrong : Sp := fun vs H Q _ => ∃ t : Nat, vs = [vN t] ∧ Q (.bl (!okT t)) H
abbrev s_told : Stmt := top 32
theorem sc_told : FnScope ["lines", "answer", "length", "lesser", "other"] ["lines"] (defScope s_told) := ⟨rfl, rfl, rfl, by decide +kernel, rfl, by decide +kernel, by decide +kernel⟩
def spTold : Sp := fun vs H Q _ => ∃ (a : Addr) (s : List Line), vs = [.ref a] ∧ LinesAt H a s ∧ s.length ≤ 100 ∧ Gives H Q (lineList s)
abbrev s_distance_told : Stmt := top 33
theorem sc_distance_told : FnScope ["size", "lines", "u", "v", "far"] ["size", "lines", "u", "v"] (defScope s_distance_told) := ⟨rfl, rfl, rfl, by decide +kernel, rfl, by decide +kernel, by decide +kernel⟩
/-- a distance, told -/
def distAns (n : Nat) (s : List Line) (u v : Nat) : Ans := match at_ (table n s) u v with
  | none => say (-33)
  | some d => num d
def spDTold : Sp := fun vs H Q _ => ∃ (n u v : Nat) (a : Addr) (s : List Line), vs = [vN n, .ref a, vN u, vN v] ∧ LinesAt H a s ∧ Ok n s ∧ (∀ l ∈ s, l.w ≤ 99) ∧ n ≤ 8 ∧ u < n ∧ v < n ∧ Gives H Q (distAns n s u v)
section
variable {P : Program} {w : World} {K : PySem.W.Frag} {mg : Str → Option Value} {base : Heap}
theorem ok_wrong {f : Addr} {fd : FuncData} (F : Fun K "wrong_times" "wrong_times" s_wrong_times f fd) (G : Gtop mg) : FnOk P w K mg base CX0 1 f fd ["t"] spWrong := by
  refine F.ok sc_wrong_times (fun vs H Q E h => ?_) (fun cdv A outer s H vs Q E hr h => ?_)
  · obtain ⟨t, rfl, _⟩ := h
    rfl
  · obtain ⟨t, rfl, k⟩ := h
    refine ⟨_, (pss_one (ps_ret (pe_or (pe_cmpR op_lt (pv 0) (pe_int) (nomark _)) (pe_one (pe_cmpR op_gt (pv 0) (pe_gl rfl G.g_MOST_TIMES) (nomark _)))))), ?_⟩
    refine ⟨_, rfl, _, _, rfl, rfl, _, rfl, ?_⟩
    refine ite2 (fun c => ?_) (fun c => ?_)
    · have c := of_decide_eq_true c
      have e : (!okT t) = true := by
        unfold okT
        simp only [Bool.not_eq_true', Bool.and_eq_false_iff, decide_eq_false_iff_not]
        omega
      rw [e] at k
      exact k
    · have c : ¬ (t : Int) < 1 := fun z => c (decide_eq_true z)
      refine ⟨_, rfl, _, _, rfl, rfl, ?_⟩
      have e : (!okT t) = decide ((9 : Int) < (t : Int)) := by
        unfold okT
        by_cases d : (9 : Int) < (t : Int)
        · rw [decide_eq_true d]
          simp only [Bool.not_eq_true', Bool.and_eq_false_iff, decide_eq_false_iff_not]
          omega
        · rw [decide_eq_false d]
          simp only [Bool.not_eq_false', Bool.and_eq_true, decide_eq_true_eq]
          omega
      rw [e] at k
      exact k
theorem told_more {s : List Line} {i : Nat} {l : Line} (h : s[i]? = some l) : flat (s.take (i + 1)) = flat (s.take i) ++ [l.a, l.b, l.w] := by
  unfold flat
  rw [take_more h, List.flatMap_append]
  rfl
theorem flat_len : ∀ s : List Line, (flat s).length = 3 * s.length
  | [] => rfl
  | l :: s => by
    have := flat_len s
    unfold flat at this ⊢
    rw [List.flatMap_cons, List.length_append, this, List.length_cons, List.length_cons, List.length_cons, List.length_cons, List.length_nil]
    omega
theorem ok_told {f : Addr} {fd : FuncData} (F : Fun K "told" "told" s_told f fd) (G : Gtop mg) : FnOk P w K mg base CX0 1 f fd ["lines"] spTold := by
  refine F.ok sc_told (fun vs H Q E h => ?_) (fun cdv A outer s H vs Q E hr h => ?_)
  · obtain ⟨a, s, rfl, _⟩ := h
    rfl
  · obtain ⟨a, ls, rfl, ⟨ts, hA, hT⟩, hlen, k⟩ := h
    refine ⟨_, (pss_cons (ps_set (i := 1) sc_told.nd rfl (.inl rfl) (pe_lst (pa_cons (pe_callB call_len_seq (by rfl) G.b_len PySem.boot_len (pa_cons (pv 0) pa_nil)) pa_nil)))
    (pss_cons (ps_for PassesOwn.never rfl (pi_list (pv 0)) (pg_tup rfl (pgs_cons (pg_name (i := 2) sc_told.nd rfl (.inl rfl)) (pgs_cons (pg_name (i := 3) sc_told.nd rfl (.inl rfl)) (pgs_cons (pg_name (i := 4) sc_told.nd rfl (.inl rfl)) pgs_nil))))
      (pss_one (ps_expr (pe_bm PySem.F.plainAttrs_list PySem.F.slot_list_extend PySem.F.type_list_extend mt_extend (pv 1) (pa_cons (pe_lst (pa_cons (pv 3) (pa_cons (pv 4) (pa_cons (pv 2) pa_nil)))) pa_nil)))))
    (pss_one (ps_ret (pv 1))))), ?_⟩
    refine ⟨_, rfl, a, _, rfl, .inl (SqL.of hA), (by show 1 ≤ sizeLine; decide), fun p hp => ?_⟩
    have s1 := same_upd (o := .lst [V.int ((ts.map V.ref).length : Int)]) hp
    have l1 : (ts.map V.ref).length = ls.length := by rw [List.length_map, hT.len]
    refine ⟨_, rfl, a, rfl, ⟨_, SqL.of (s1 _ _ hA)⟩, for_list (K := K) (a := a) (xs := ts.map V.ref) (fun i σ H' => ∃ y2 y3 y4, σ = [some (.ref a), some (.ref p), y2, y3, y4] ∧ Same H H' ∧ H' p = some (.lst (((ls.length : Int) :: Kv402Neutral.ints (flat (ls.take i))).map V.int)))
      ⟨none, none, none, rfl, s1, ?_⟩ (fun j σ H' _ ⟨_, _, _, _, s5, _⟩ => SqL.of (s5 _ _ hA)) ?_ ?_⟩
    · rw [upd_same, l1]
      rfl
    · rintro i x σ H2 hi ⟨z2, z3, z4, rfl, s5, hP⟩
      obtain ⟨t, l, rfl, ht, hl, hTl⟩ := hT.get hi
      have hlt : i < ls.length := (List.getElem?_eq_some_iff.mp hl).1
      refine ⟨t, _, rfl, SqT.of (s5 _ _ hTl), rfl, _, _, rfl, _, _, rfl, _, _, rfl, rfl, ?_⟩
      refine ⟨_, rfl, .inl ⟨rfl, _, SqL.of hP⟩, ?_⟩
      refine ⟨_, rfl, _, rfl, _, rfl, (by show 3 ≤ sizeLine; decide), fun q hq => ?_⟩
      have npq : p ≠ q := ne_of_none hP hq
      refine ⟨p, q, _, _, rfl, rfl, (by rw [upd_ne npq]; exact hP), upd_same, ?_, ?_⟩
      · refine Nat.le_of_lt (small (m := 10000) ?_ (by decide))
        simp only [List.length_map, List.length_cons, List.length_nil, Kv402Neutral.ints, flat_len, List.length_take]
        omega
      · refine ⟨_, _, _, rfl, same_set hp (fun b o z => same_upd hq b o (s5 b o z)), ?_⟩
        rw [upd_same, told_more hl]
        simp [Kv402Neutral.ints]
    · rintro σ H2 ⟨z2, z3, z4, rfl, s5, hP⟩
      rw [l1, List.take_length] at hP
      exact ⟨_, rfl, k H2 p s5 hp hP⟩
theorem ok_dtold {f fD : Addr} {fd fdD : FuncData} (F : Fun K "distance_told" "distance_told" s_distance_told f fd) (G : Gtop mg)
    (A_distances : At P w K mg base 1 "distances" ["size", "lines", "start"] spDist fD fdD) : FnOk P w K mg base CX0 2 f fd ["size", "lines", "u", "v"] spDTold := by
  refine F.ok sc_distance_told (fun vs H Q E h => ?_) (fun cdv A outer s H vs Q E hr h => ?_)
  · obtain ⟨n, u, v, a, s, rfl, _⟩ := h
    rfl
  · obtain ⟨n, u, v, a, ls, rfl, hL, o, hw, n8, hu, hv, k⟩ := h
    refine ⟨_, (pss_cons (ps_set (i := 4) sc_distance_told.nd rfl (.inl rfl) (pe_ix ix_list (pe_call A_distances.ok hr rfl A_distances.gl A_distances.kp A_distances.bi .nil pass0 (pa_cons (pv 0) (pa_cons (pv 1) (pa_cons (pv 2) pa_nil)))) (pv 3) (fun _ _ => rfl)))
    (pss_cons (ps_if (pt_cmpR op_eq (pv 4) (pe_gl rfl G.g_FAR) (nomark _))
      (pss_one (ps_ret (pe_lst (pa_cons (pe_gl rfl G.g_NONE_THERE) pa_nil))))
      pss_nil)
    (pss_one (ps_ret (pe_lst (pa_cons (pv 4) pa_nil)))))), ?_⟩
    refine ⟨_, rfl, _, rfl, _, rfl, n, u, a, ls, rfl, hL, o, n8, hu, fun H1 q s1 nq hq => ?_⟩
    have DI := dists_is o hw n8 hu
    refine ⟨_, rfl, q, _, _, _, rfl, rfl, SqL.of hq, at_vN (f := dists n ls u) (i := v) (by rw [DI.1]; exact hv), ?_⟩
    rw [DI.2 v hv]
    refine ⟨_, rfl, rfl, _, rfl, ?_⟩
    cases e : at_ (table n ls) u v with
    | none =>
      refine iteP rfl ?_
      refine ⟨(by show 1 ≤ sizeLine; decide), fun p hp => ?_⟩
      refine k _ p (fun b o z => same_upd hp b o (s1 b o z)) (s1.free hp) ?_
      rw [upd_same]
      unfold distAns
      rw [e]
      rfl
    | some d =>
      have hm := table_most o hw hu hv e
      have h4 : 99 * n ≤ 99 * 8 := Nat.mul_le_mul_left 99 n8
      refine iteN (decide_eq_false fun z => ?_) ?_
      · injection z with z
        have z : (d : Int) = 10000 := z
        omega
      · refine ⟨_, rfl, (by show 1 ≤ sizeLine; decide), fun p hp => ?_⟩
        refine k _ p (fun b o z => same_upd hp b o (s1 b o z)) (s1.free hp) ?_
        rw [upd_same]
        unfold distAns
        rw [e]
        rfl
end
end LL
namespace LL
open PySem PySem.Spec PyProof.Rows L2
open Kv402 (Line Net at_ Ans State act Call)
open Kv402Neutral (row)
/-! ### where a call ends -/
abbrev s_end_of_call : Stmt := top 39
theorem sc_end_of_call : FnScope ["calls", "at", "end"] ["calls", "at"] (defScope s_end_of_call) := ⟨rfl, rfl, rfl, by decide +kernel, rfl, by decide +kernel, by decide +kernel⟩
def argL : List Nat := [1, 3, 1, 0, 2, 2, 2, 1, 3, 1, 1, 1, 1, 1, 1, 0, 0, 0]
def code : Call → Nat
  | .begin_ _ => 0 | .line _ _ _ => 1 | .cut _ => 2 | .lines => 3 | .dist _ _ => 4 | .next _ _ => 5 | .way _ _ => 6 | .kept _ => 7 | .keptdist _ _ _ => 8 | .keptweight _ => 9 | .worst _ => 10 | .leave _ => 11
  | .does _ _ => 12 | .fewest _ => 13 | .ring _ => 14 | .least => 15 | .back => 16 | .state => 17
theorem code_head (q : Call) : (flatC q)[0]? = some (code q) := by cases q <;> rfl
theorem code_lt (q : Call) : code q < argL.length := by
  show code q < 18
  cases q <;> simp [code]
theorem flat_pos (q : Call) : 0 < (flatC q).length := by cases q <;> exact Nat.succ_pos _
theorem code_len (q : Call) : code q ≠ 12 → (flatC q).length = 1 + argL.getD (code q) 0 := by
  cases q <;> first | (intro h; exact absurd rfl h) | (intro _; rfl)
theorem code_does {q : Call} (h : code q = 12) : ∃ t l, q = .does t l := by
  cases q <;> first | exact ⟨_, _, rfl⟩ | cases h
def spEnd (K : PySem.W.Frag) : Sp := fun vs H Q _ => ∃ (a : Addr) (l rest : List Nat) (i : Nat) (q : Call), vs = [.ref a, vN i] ∧ SqL K H a (l.map vN) ∧ l.drop i = flatC q ++ rest ∧ Q (vN (i + (flatC q).length)) H
/-- the tuple of the top -/
structure Tab (K : PySem.W.Frag) (mg : Str → Option Value) (aT : Addr) : Prop where
  gl : mg "ARGUMENTS" = some (.ref aT)
  sq : ∀ H, SqT K H aT (argL.map vN)
theorem get_drop {l r : List Nat} {i j x : Nat} (h : l.drop i = r) (k : r[j]? = some x) : l[i + j]? = some x := by
  rw [← List.getElem?_drop, h]
  exact k
theorem at_get {l : List Nat} {i x : Nat} (h : l[i]? = some x) : atI (l.map vN) (i : Int) = some (vN x) := atI_nat (by rw [List.getElem?_map, h]; rfl)
section
variable {P : Program} {w : World} {K : PySem.W.Frag} {mg : Str → Option Value} {base : Heap}
theorem ok_end {f aT : Addr} {fd : FuncData} (F : Fun K "end_of_call" "end_of_call" s_end_of_call f fd) (G : Gtop mg) (B : Tab K mg aT) : FnOk P w K mg base CX0 1 f fd ["calls", "at"] (spEnd K) := by
  refine F.ok sc_end_of_call (fun vs H Q E h => ?_) (fun cdv A outer s H vs Q E hr h => ?_)
  · obtain ⟨a, l, rest, i, q, rfl, _⟩ := h
    rfl
  · obtain ⟨a, l, rest, i, q, rfl, hS, hd, k⟩ := h
    refine ⟨_, (pss_cons (ps_set (i := 2) sc_end_of_call.nd rfl (.inl rfl) (pe_op op_add (pe_op op_add (pv 1) (pe_int)) (pe_ix ix_tup (pe_glob (v := .ref aT) rfl B.gl rfl) (pe_ix ix_list (pv 0) (pv 1) (fun _ _ => rfl)) (fun _ _ => rfl))))
    (pss_cons (ps_if (pt_cmpR op_eq (pe_ix ix_list (pv 0) (pv 1) (fun _ _ => rfl)) (pe_gl rfl G.g_DOES) (nomark _))
      (pss_one (ps_set (i := 2) sc_end_of_call.nd rfl (.inl rfl) (pe_op op_add (pe_op op_add (pv 2) (pe_int)) (pe_ix ix_list (pv 0) (pv 2) (fun _ _ => rfl)))))
      pss_nil)
    (pss_one (ps_ret (pv 2))))), ?_⟩
    have c0 : l[i]? = some (code q) := by
      refine get_drop (j := 0) hd ?_
      rw [List.getElem?_append_left (flat_pos q)]
      exact code_head q
    have ca : atI (argL.map vN) ((code q : Nat) : Int) = some (vN (argL.getD (code q) 0)) := at_vN (code_lt q)
    refine ⟨_, rfl, _, _, rfl, rfl, _, rfl, _, rfl, a, _, _, _, rfl, rfl, hS, at_get c0, aT, _, _, _, rfl, rfl, B.sq H, ca, _, _, rfl, rfl, ?_⟩
    refine ⟨_, rfl, _, rfl, a, _, _, _, rfl, rfl, hS, at_get c0, rfl, _, rfl, ?_⟩
    by_cases c : code q = 12
    · obtain ⟨t, r, rfl⟩ := code_does c
      refine iteP (decide_eq_true rfl) ?_
      have c2 : l[i + 2]? = some r.length := get_drop (j := 2) hd rfl
      have c2' : atI (l.map vN) (((i : Int) + 1) + ((argL.getD (code (.does t r)) 0 : Nat) : Int)) = some (vN r.length) := by
        have := at_get c2
        rw [show (((i + 2 : Nat)) : Int) = ((i : Int) + 1) + ((argL.getD (code (.does t r)) 0 : Nat) : Int) by
          show _ = (i : Int) + 1 + ((1 : Nat) : Int)
          omega] at this
        exact this
      refine ⟨_, rfl, _, _, rfl, rfl, _, rfl, _, rfl, a, _, _, _, rfl, rfl, hS, c2', _, _, rfl, rfl, ?_⟩
      refine ⟨_, rfl, ?_⟩
      have e : (((i : Int) + 1) + ((argL.getD (code (.does t r)) 0 : Nat) : Int)) + 1 + ((r.length : Nat) : Int) = (((i + (flatC (.does t r)).length : Nat)) : Int) := by
        show (((i : Int) + 1) + ((1 : Nat) : Int)) + 1 + ((r.length : Nat) : Int) = (((i + (r.length + 1 + 1 + 1) : Nat)) : Int)
        omega
      show Q (V.int _) H
      rw [e]
      exact k
    · refine iteN (decide_eq_false fun z => c ?_) ?_
      · injection z with z
        omega
      · refine ⟨_, rfl, ?_⟩
        have e : ((i : Int) + 1) + ((argL.getD (code q) 0 : Nat) : Int) = (((i + (flatC q).length : Nat)) : Int) := by
          rw [code_len q c]
          omega
        show Q (V.int _) H
        rw [e]
        exact k
end
/-! ### the loop over the calls -/
/-- only x has changed, or what is new -/
abbrev Keep (x : Addr) (H H' : Hp) : Prop := ∀ b o, H b = some o → b ≠ x → H' b = some o
section
variable (Held0 : Hp → Addr → Prop) (Held : Hp → Addr → Addr → State → Prop)
def spInitO (C : Addr) : Sp := fun vs H Q _ => ∃ (x dx : Addr), vs = [.ref x] ∧ H x = some (.ins C dx []) ∧ ∀ H', Held0 H' x → Keep x H H' → Q .non H'
/-- Held H g x s: at x stands the object in the state s; the list at g is none of its parts -/
def spAnswerTo : Sp := fun vs H Q _ => ∃ (g x c : Addr) (s : State) (q : Call), vs = [.ref x, .ref c] ∧ Held H g x s ∧ H c = some (.lst ((flatC q).map vN)) ∧ Bq q ∧
  ∀ H' p, Keep x H H' → H p = none → Held H' g x (act s q).1 → H' p = some (.lst ((row (act s q).2).map V.int)) → (row (act s q).2).length ≤ 64 → Q (.ref p) H'
def spAnswers (K : PySem.W.Frag) : Sp := fun vs H Q _ => ∃ (a : Addr) (qs : List Call), vs = [.ref a] ∧ SqL K H a ((qs.flatMap flatC).map vN) ∧ qs.length ≤ 256 ∧ (∀ q ∈ qs, Bq q) ∧
  ∀ H' p, H' p = some (.lst ((toldQ none qs).map V.int)) → Q (.ref p) H'
/-- the loop's own: behind the first j calls -/
def stateQ : State → List Call → State
  | s, [] => s
  | s, q :: r => stateQ (act s q).1 r
theorem stateQ_app : ∀ (l r : List Call) (s : State), stateQ s (l ++ r) = stateQ (stateQ s l) r
  | [], _, _ => rfl
  | q :: l, r, s => stateQ_app l r (act s q).1
theorem toldQ_app : ∀ (l r : List Call) (s : State), toldQ s (l ++ r) = toldQ s l ++ toldQ (stateQ s l) r
  | [], _, _ => rfl
  | q :: l, r, s => by
    show ((((ansQ s q).length : Int) :: ansQ s q) ++ toldQ (act s q).1 (l ++ r)) = ((((ansQ s q).length : Int) :: ansQ s q) ++ toldQ (act s q).1 l) ++ toldQ (stateQ (act s q).1 l) r
    rw [toldQ_app l r, List.append_assoc]
theorem cut_mid {A B C : List Nat} : cutV ((A ++ (B ++ C)).map vN) (some (A.length : Int)) (some ((A.length + B.length : Nat) : Int)) = B.map vN := by
  unfold cutV
  rw [HT.sIx_nat, HT.sIx_nat]
  simp only [List.length_map, List.length_append]
  rw [Nat.min_eq_left (by omega), Nat.min_eq_left (by omega), List.map_append, List.map_append, List.drop_append_of_le_length (by simp), List.drop_of_length_le (by simp), List.nil_append, Nat.add_sub_cancel_left, List.take_append_of_le_length (by simp), List.take_of_length_le (by simp)]
end
abbrev s_answers : Stmt := top 40
theorem sc_answers : FnScope ["calls", "held", "given", "at", "end", "answer"] ["calls"] (defScope s_answers) := ⟨rfl, rfl, rfl, by decide +kernel, rfl, by decide +kernel, by decide +kernel⟩
section
variable {P : Program} {w : World} {K : PySem.W.Frag} {mg : Str → Option Value} {base : Heap}
theorem ok_answers {Held0 : Hp → Addr → Prop} {Held : Hp → Addr → Addr → State → Prop} (hHeld : ∀ H H' g x s, Held H g x s → Same H H' → Held H' g x s) (hIn : ∀ H g x s, Held H g x s → ∃ C dx fs, H x = some (.ins C dx fs))
    (hNew : ∀ H g x, Held0 H x → H g = none → Held (upd H g (.lst [])) g x none) (hG : ∀ H g x s xs, Held H g x s → Held (upd H g (.lst xs)) g x s)
    {f fI fE fA C : Addr} {fd fdI fdE fdA : FuncData} (F : Fun K "answers" "answers" s_answers f fd) (G : Gtop mg) (gC : mg "Places" = some (.ref C)) (M : Mk K C fI)
    (GI : FnOk P w K mg base CX0 1 fI fdI ["self"] (spInitO Held0 C)) (bI : Binds K fdI ["self"] [])
    (A_end_of_call : At P w K mg base 1 "end_of_call" ["calls", "at"] (spEnd K) fE fdE)
    (A_answer_to : At P w K mg base 7 "answer_to" ["held", "call"] (spAnswerTo Held) fA fdA) : FnOk P w K mg base CX0 8 f fd ["calls"] (spAnswers K) := by
  refine F.ok sc_answers (fun vs H Q E h => ?_) (fun cdv A outer s H vs Q E hr h => ?_)
  · obtain ⟨a, qs, rfl, _⟩ := h
    rfl
  · obtain ⟨a, qs, rfl, hS, hlen, hB, k⟩ := h
    refine ⟨_, (pss_cons (ps_set (i := 1) sc_answers.nd rfl (.inl rfl) (pe_make0 M GI (hr.mono (by decide)) rfl gC bI .nil pass0))
    (pss_cons (ps_set (i := 2) sc_answers.nd rfl (.inl rfl) (pe_lst (pa_nil)))
    (pss_cons (ps_set (i := 3) sc_answers.nd rfl (.inl rfl) (pe_int))
    (pss_cons (ps_while PassesOwn.never (pt_cmpR op_lt (pv 3) (pe_callB call_len_seq (by rfl) G.b_len PySem.boot_len (pa_cons (pv 0) pa_nil)) (nomark _))
      (pss_cons (ps_set (i := 4) sc_answers.nd rfl (.inl rfl) (pe_call A_end_of_call.ok (hr.mono (by decide)) rfl A_end_of_call.gl A_end_of_call.kp A_end_of_call.bi .nil pass0 (pa_cons (pv 0) (pa_cons (pv 3) pa_nil))))
        (pss_cons (ps_set (i := 5) sc_answers.nd rfl (.inl rfl) (pe_call A_answer_to.ok (hr.mono (by decide)) rfl A_answer_to.gl A_answer_to.kp A_answer_to.bi .nil pass0 (pa_cons (pv 1) (pa_cons (pe_slice sl_list (pv 0) (po_some (pv 3)) (po_some (pv 4))) pa_nil))))
        (pss_cons (ps_expr (pe_bm PySem.F.plainAttrs_list PySem.F.slot_list_append PySem.F.type_list_append mt_append (pv 2) (pa_cons (pe_callB call_len_seq (by rfl) G.b_len PySem.boot_len (pa_cons (pv 5) pa_nil)) pa_nil)))
        (pss_cons (ps_expr (pe_bm PySem.F.plainAttrs_list PySem.F.slot_list_extend PySem.F.type_list_extend mt_extend (pv 2) (pa_cons (pv 5) pa_nil)))
        (pss_one (ps_set (i := 3) sc_answers.nd rfl (.inl rfl) (pv 4))))))))
    (pss_one (ps_ret (pv 2))))))), ?_⟩
    intro x dx nx ndx nex
    refine ⟨x, dx, rfl, upd_same, fun H1 hH1 kp1 => ⟨rfl, ?_⟩⟩
    have s1 : Same H H1 := Same.made nx ndx kp1
    refine ⟨Nat.zero_le _, fun g hg => ?_⟩
    have ng : H g = none := s1.free hg
    -- while at < len(calls)
    refine ⟨fun m σ H' => ∃ (j : Nat) (y4 y5 : Option V), σ = [some (.ref a), some (.ref x), some (.ref g), some (vN ((qs.take j).flatMap flatC).length), y4, y5] ∧ j ≤ qs.length ∧ m = qs.length - j ∧ Same H H' ∧ Held H' g x (stateQ none (qs.take j)) ∧ H' g = some (.lst ((toldQ none (qs.take j)).map V.int)) ∧ (toldQ none (qs.take j)).length ≤ 65 * j,
      ⟨_, 0, none, none, rfl, Nat.zero_le _, rfl, fun b o z => same_upd hg b o (s1 b o z), hNew _ _ _ hH1 hg, upd_same, Nat.le_refl _⟩, ?_⟩
    rintro m σ H2 ⟨j, y4, y5, rfl, hj, rfl, s2, hH2, hg2, hl2⟩
    have hS2 := s2.seq hS
    refine ⟨_, rfl, _, rfl, a, _, rfl, .inl hS2, _, _, rfl, rfl, _, rfl, ?_⟩
    by_cases c : j < qs.length
    · -- one more call
      obtain ⟨q, hq⟩ : ∃ q, qs[j]? = some q := ⟨_, List.getElem?_eq_getElem c⟩
      have tk := take_more hq
      have all : qs = qs.take j ++ (q :: qs.drop (j + 1)) := by
        have := List.take_append_drop j qs
        rw [List.drop_eq_getElem_cons c] at this
        have e : qs[j] = q := Option.some.inj ((List.getElem?_eq_getElem c).symm.trans hq)
        rw [e] at this
        exact this.symm
      have fl : qs.flatMap flatC = (qs.take j).flatMap flatC ++ (flatC q ++ (qs.drop (j + 1)).flatMap flatC) := by
        conv => lhs; rw [all]
        rw [List.flatMap_append, List.flatMap_cons]
      have fp := flat_pos q
      refine iteP (decide_eq_true ?_) ?_
      · rw [List.length_map, fl, List.length_append, List.length_append]
        omega
      refine ⟨fun σ' H' => ∃ (y4 y5 : Option V), σ' = [some (.ref a), some (.ref x), some (.ref g), some (vN ((qs.take (j + 1)).flatMap flatC).length), y4, y5] ∧ Same H H' ∧ Held H' g x (stateQ none (qs.take (j + 1))) ∧ H' g = some (.lst ((toldQ none (qs.take (j + 1))).map V.int)) ∧ (toldQ none (qs.take (j + 1))).length ≤ 65 * (j + 1), ?_, ?_⟩
      · rintro σ' H' ⟨z4, z5, e1, e2, e3, e4, e5⟩
        exact ⟨qs.length - (j + 1), by omega, j + 1, z4, z5, e1, by omega, rfl, e2, e3, e4, e5⟩
      have st : stateQ none (qs.take (j + 1)) = (act (stateQ none (qs.take j)) q).1 := by
        rw [tk, stateQ_app]
        rfl
      have tq : toldQ none (qs.take (j + 1)) = toldQ none (qs.take j) ++ (((ansQ (stateQ none (qs.take j)) q).length : Int) :: ansQ (stateQ none (qs.take j)) q) := by
        rw [tk, toldQ_app]
        show _ ++ (_ ++ []) = _
        rw [List.append_nil]
      have ft : ((qs.take (j + 1)).flatMap flatC).length = ((qs.take j).flatMap flatC).length + (flatC q).length := by
        rw [tk, List.flatMap_append, List.length_append, List.flatMap_cons, List.flatMap_nil, List.append_nil]
      rw [st, tq, ft]
      generalize stateQ none (qs.take j) = S at hH2
      generalize toldQ none (qs.take j) = told at hg2 hl2
      have hB1 : Bq q := hB q (List.mem_of_getElem? hq)
      rw [fl] at hS2
      generalize (qs.take j).flatMap flatC = pre at hS2
      -- end = end_of_call(calls, at)
      refine ⟨_, rfl, _, rfl, a, _, (qs.drop (j + 1)).flatMap flatC, pre.length, q, rfl, hS2, ?_, ?_⟩
      · rw [List.drop_append_of_le_length (Nat.le_refl _), List.drop_length, List.nil_append]
      -- answer = answer_to(held, calls[at:end])
      refine ⟨_, rfl, _, rfl, _, rfl, _, rfl, _, rfl, _, rfl, a, _, rfl, hS2, fun c0 nc0 => ?_⟩
      rw [cut_mid]
      have s3 : Same H2 (upd H2 c0 (.lst ((flatC q).map vN))) := same_upd nc0
      refine ⟨g, x, c0, S, q, rfl, hHeld _ _ _ _ _ hH2 s3, upd_same, hB1, fun H3 p kp3 np hH3 hp3 hl3 => ?_⟩
      obtain ⟨C2, dx2, fs2, hx2⟩ := hIn _ _ _ _ hH2
      have hgx : g ≠ x := ne_of hg2 hx2 (by intro z; cases z)
      have hg3 : H3 g = some (.lst (told.map V.int)) := kp3 _ _ (s3 _ _ hg2) hgx
      have npg : p ≠ g := fun e => by
        rw [e, s3 _ _ hg2] at np
        cases np
      have hxp : x ≠ p := fun e => by
        rw [← e, s3 _ _ hx2] at np
        cases np
      have same3 : Same H H3 := fun b o z => by
        have nbx : b ≠ x := fun e => by rw [e, nx] at z; cases z
        exact kp3 b o (s3 b o (s2 b o z)) nbx
      -- given.append(len(answer)); given.extend(answer)
      have l3 : ((row (act S q).2).map V.int).length = (row (act S q).2).length := List.length_map ..
      refine ⟨_, rfl, .inl ⟨rfl, _, SqL.of hg3⟩, ?_⟩
      refine ⟨_, rfl, p, _, rfl, .inl (SqL.of hp3), g, _, _, rfl, rfl, hg3, ?_, ?_⟩
      · refine small (m := 100000) ?_ (by decide)
        rw [List.length_map]
        omega
      have hp4 : ∀ o, (upd H3 g o) p = some (.lst ((row (act S q).2).map V.int)) := fun o => by
        rw [upd_ne npg]
        exact hp3
      refine ⟨_, rfl, .inl ⟨rfl, _, SqL.of upd_same⟩, ?_⟩
      refine ⟨_, rfl, g, p, _, _, rfl, rfl, upd_same, hp4 _, ?_, ?_⟩
      · refine Nat.le_of_lt (small (m := 100000) ?_ (by decide))
        simp only [List.length_append, List.length_map, List.length_singleton]
        omega
      refine ⟨_, rfl, ?_⟩
      have hx3 : x ≠ g := hgx.symm
      refine ⟨_, _, rfl, same_set ng (same_set ng same3), ?_, ?_, ?_⟩
      · exact hG _ _ _ _ _ (hG _ _ _ _ _ hH3)
      · rw [upd_same]
        simp [ansQ]
      · show (told ++ (((ansQ S q).length : Int) :: ansQ S q)).length ≤ _
        rw [List.length_append, List.length_cons]
        have : (ansQ S q).length ≤ 64 := hl3
        omega
    · have ej : j = qs.length := by omega
      subst ej
      rw [List.take_length] at hg2 ⊢
      refine iteN (decide_eq_false ?_) ?_
      · rw [List.length_map]
        omega
      · exact ⟨_, rfl, k H2 g hg2⟩
end
end LL
namespace LL
open PySem PySem.Spec PyProof.Rows L2
open Kv402 (Line Net at_ Ans State act Call Abs okT flat lineList say num table)
open Kv402Neutral (row)
/-! ### the object's values -/
theorem n_sj : ¬ (("size" : Str) = "joined") := by decide +kernel
theorem n_se : ¬ (("size" : Str) = "earlier") := by decide +kernel
theorem n_js : ¬ (("joined" : Str) = "size") := by decide +kernel
theorem n_je : ¬ (("joined" : Str) = "earlier") := by decide +kernel
theorem n_es : ¬ (("earlier" : Str) = "size") := by decide +kernel
theorem n_ej : ¬ (("earlier" : Str) = "joined") := by decide +kernel
def pf (n : Nat) (j e : Addr) : List (Str × V) := [("size", vN n), ("joined", .ref j), ("earlier", .ref e)]
theorem pf_put_size (n m : Nat) (j e : Addr) : putF "size" (vN m) (pf n j e) = pf m j e := by
  show (if ("size" : Str) = "size" then (("size" : Str), vN m) :: _ else _) = _
  rw [if_pos rfl]
  rfl
theorem pf_put_joined (n : Nat) (j e i : Addr) : putF "joined" (.ref i) (pf n j e) = pf n i e := by
  show (if ("size" : Str) = "joined" then _ else (("size" : Str), vN n) :: (if ("joined" : Str) = "joined" then (("joined" : Str), V.ref i) :: _ else _)) = _
  rw [if_neg n_sj, if_pos rfl]
  rfl
theorem pf_put_earlier (n : Nat) (j e i : Addr) : putF "earlier" (.ref i) (pf n j e) = pf n j i := by
  show (if ("size" : Str) = "earlier" then _ else (("size" : Str), vN n) :: (if ("joined" : Str) = "earlier" then _ else (("joined" : Str), V.ref j) :: (if ("earlier" : Str) = "earlier" then (("earlier" : Str), V.ref i) :: _ else _))) = _
  rw [if_neg n_se, if_neg n_je, if_pos rfl]
  rfl
theorem pf_new (n : Nat) (j e : Addr) : putF "earlier" (.ref e) (putF "joined" (.ref j) (putF "size" (vN n) [])) = pf n j e := by
  have h1 : putF "joined" (.ref j) (putF "size" (vN n) []) = [(("size" : Str), vN n), ("joined", .ref j)] := by
    show (if ("size" : Str) = "joined" then _ else (("size" : Str), vN n) :: _) = _
    rw [if_neg n_sj]
    rfl
  rw [h1]
  show (if ("size" : Str) = "earlier" then _ else (("size" : Str), vN n) :: (if ("joined" : Str) = "earlier" then _ else (("joined" : Str), V.ref j) :: _)) = _
  rw [if_neg n_se, if_neg n_je]
  rfl
theorem pf_size (n : Nat) (j e : Addr) : (pf n j e).lookup ("size" : Str) = some (vN n) := by
  rw [← pf_new, lookup_putF, if_neg n_se, lookup_putF, if_neg n_sj, lookup_putF, if_pos rfl]
theorem pf_joined (n : Nat) (j e : Addr) : (pf n j e).lookup ("joined" : Str) = some (.ref j) := by
  rw [← pf_new, lookup_putF, if_neg n_je, lookup_putF, if_pos rfl]
theorem pf_earlier (n : Nat) (j e : Addr) : (pf n j e).lookup ("earlier" : Str) = some (.ref e) := by
  rw [← pf_new, lookup_putF, if_pos rfl]
theorem pf_no (n : Nat) (j e : Addr) {m : Str} (h1 : ¬ m = "size") (h2 : ¬ m = "joined") (h3 : ¬ m = "earlier") : (pf n j e).lookup m = none := by
  rw [← pf_new, lookup_putF, if_neg h3, lookup_putF, if_neg h2, lookup_putF, if_neg h1]
  rfl
theorem pf_few (n : Nat) (j e : Addr) : (pf n j e).length < 1000 := by
  show 3 < 1000
  decide
/-- lists of lines, none of them at g -/
def Pst (H : Hp) (g : Addr) : List Addr → List (List Line) → Prop
  | [], [] => True
  | t :: ts, l :: s => (LinesAt H t l ∧ t ≠ g) ∧ Pst H g ts s
  | _, _ => False
theorem Pst.imp {H H' : Hp} {g : Addr} (h : ∀ t l, LinesAt H t l → t ≠ g → LinesAt H' t l) : ∀ {ts : List Addr} {s : List (List Line)}, Pst H g ts s → Pst H' g ts s
  | [], [], x => x
  | _ :: _, _ :: _, ⟨⟨a, b⟩, r⟩ => ⟨⟨h _ _ a b, b⟩, Pst.imp h r⟩
  | [], _ :: _, x => x.elim
  | _ :: _, [], x => x.elim
theorem Pst.len {H : Hp} {g : Addr} : ∀ {ts : List Addr} {s : List (List Line)}, Pst H g ts s → ts.length = s.length
  | [], [], _ => rfl
  | _ :: _, _ :: _, ⟨_, r⟩ => congrArg (· + 1) (Pst.len r)
  | [], _ :: _, h => h.elim
  | _ :: _, [], h => h.elim
theorem Pst.app {H : Hp} {g : Addr} : ∀ {ts us : List Addr} {s r : List (List Line)}, Pst H g ts s → Pst H g us r → Pst H g (ts ++ us) (s ++ r)
  | [], _, [], _, _, h => h
  | _ :: _, _, _ :: _, _, ⟨h, k⟩, h2 => ⟨h, Pst.app k h2⟩
  | [], _, _ :: _, _, h, _ => h.elim
  | _ :: _, _, [], _, h, _ => h.elim
theorem Pst.drop {H : Hp} {g : Addr} : ∀ (i : Nat) {ts : List Addr} {s : List (List Line)}, Pst H g ts s → Pst H g (ts.drop i) (s.drop i)
  | 0, _, _, h => h
  | _ + 1, [], [], h => h
  | i + 1, _ :: _, _ :: _, ⟨_, r⟩ => Pst.drop i r
  | _ + 1, [], _ :: _, h => h.elim
  | _ + 1, _ :: _, [], h => h.elim
theorem Pst.split {H : Hp} {g : Addr} {l : List Line} : ∀ {ts : List Addr} {s : List (List Line)}, Pst H g ts (s ++ [l]) → ∃ us t, ts = us ++ [t] ∧ Pst H g us s ∧ LinesAt H t l ∧ t ≠ g
  | [], [], h => h.elim
  | [], _ :: _, h => h.elim
  | t :: [], [], ⟨⟨a, b⟩, _⟩ => ⟨[], t, rfl, trivial, a, b⟩
  | _ :: _ :: _, [], ⟨_, r⟩ => r.elim
  | t :: ts, l' :: s, ⟨h, r⟩ => by
    obtain ⟨us, u, e, p, q⟩ := Pst.split r
    exact ⟨t :: us, u, by rw [e]; rfl, ⟨h, p⟩, q⟩
/-- the object at x: so many places, its lines, its earlier lines (the last one behind); the list at g is none of its parts -/
def Obj (C : Addr) (H : Hp) (g x : Addr) (n : Nat) (s : List Line) (ear : List (List Line)) : Prop :=
  (∃ xs, H g = some (.lst xs)) ∧ ∃ (dx j e : Addr) (es : List Addr), H x = some (.ins C dx (pf n j e)) ∧ (LinesAt H j s ∧ j ≠ g) ∧ (H e = some (.lst (es.map V.ref)) ∧ e ≠ g) ∧ Pst H g es ear
theorem LinesAt.keep {C x dx : Addr} {fs : List (Str × V)} {H H' : Hp} (hx : H x = some (.ins C dx fs)) (k : Keep x H H') {a : Addr} {s : List Line} : LinesAt H a s → LinesAt H' a s
  | ⟨ts, h, r⟩ => by
    have ht : ∀ {ts : List Addr} {s : List Line}, Tups H ts s → Tups H' ts s := fun {ts} => by
      induction ts with
      | nil => intro s h; cases s with
        | nil => trivial
        | cons => exact h.elim
      | cons t ts ih =>
        intro s h
        cases s with
        | nil => exact h.elim
        | cons l s => exact ⟨k _ _ h.1 (ne_of h.1 hx (by intro z; cases z)), ih h.2⟩
    exact ⟨ts, k _ _ h (ne_of h hx (by intro z; cases z)), ht r⟩
theorem LinesAt.atg {H : Hp} {g : Addr} {xs : List V} {o : HO} (hg : H g = some (.lst xs)) {a : Addr} {s : List Line} (ne : a ≠ g) : LinesAt H a s → LinesAt (upd H g o) a s
  | ⟨ts, h, r⟩ => ⟨ts, by rw [upd_ne ne]; exact h, Tups.upd hg r⟩
theorem Obj.same {C : Addr} {H H' : Hp} {g x : Addr} {n : Nat} {s : List Line} {ear : List (List Line)} (sm : Same H H') : Obj C H g x n s ear → Obj C H' g x n s ear
  | ⟨⟨xs, hg⟩, dx, j, e, es, h1, ⟨h2, n2⟩, ⟨h3, n3⟩, h4⟩ => ⟨⟨xs, sm _ _ hg⟩, dx, j, e, es, sm _ _ h1, ⟨h2.same sm, n2⟩, ⟨sm _ _ h3, n3⟩, h4.imp fun _ _ a _ => a.same sm⟩
theorem Obj.atg {C : Addr} {H : Hp} {g x : Addr} {n : Nat} {s : List Line} {ear : List (List Line)} {xs : List V} : Obj C H g x n s ear → Obj C (upd H g (.lst xs)) g x n s ear
  | ⟨⟨ys, hg⟩, dx, j, e, es, h1, ⟨h2, n2⟩, ⟨h3, n3⟩, h4⟩ => ⟨⟨xs, upd_same⟩, dx, j, e, es, by rw [upd_ne (ne_of h1 hg (by intro z; cases z))]; exact h1, ⟨h2.atg hg n2, n2⟩, ⟨by rw [upd_ne n3]; exact h3, n3⟩, h4.imp fun _ _ a b => a.atg hg b⟩
/-- what the class and its values are found by -/
structure Txt (K : PySem.W.Frag) (mg : Str → Option Value) (C : Addr) : Prop where
  cl : Cls K C
  nS : NoAttr K C "size"
  nJ : NoAttr K C "joined"
  nE : NoAttr K C "earlier"
  mgC : mg "Places" = some (.ref C)
/-- where a method stands -/
structure Mt (P : Program) (w : World) (K : PySem.W.Frag) (mg : Str → Option Value) (base : Heap) (C : Addr) (k : Nat) (x : Str) (ps : List Str) (sp : Sp) (f : Addr) (fd : FuncData) : Prop where
  ok : FnOk P w K mg base CX0 k f fd ps sp
  me : Meth K C x f
  bi : Binds K fd ps []
theorem keep_same {x : Addr} {H H' : Hp} (s : Same H H') : Keep x H H' := fun b o h _ => s b o h
theorem keep_tr {x : Addr} {H H1 H2 : Hp} (s : Keep x H H1) (t : Keep x H1 H2) : Keep x H H2 := fun b o h n => t b o (s b o h n) n
theorem keep_new {x p : Addr} {o : HO} {H H1 : Hp} (s : Keep x H H1) (h : H1 p = none) : Keep x H (upd H1 p o) := fun b z e n => by
  rw [upd_ne (ne_of_none (s b z e n) h)]
  exact s b z e n
theorem keep_at {x : Addr} {o : HO} {H H1 : Hp} (s : Keep x H H1) : Keep x H (upd H1 x o) := fun b z e n => by
  rw [upd_ne n]
  exact s b z e n
def HeldN (C : Addr) (H : Hp) (x : Addr) : Prop := ∃ dx j e, H x = some (.ins C dx (pf 0 j e)) ∧ H j = some (.lst []) ∧ H e = some (.lst [])
abbrev s_init : Stmt := inClass (top 34) 0
theorem sc_init : FnScope ["self"] ["self"] (defScope s_init) := ⟨rfl, rfl, rfl, by decide +kernel, rfl, by decide +kernel, by decide +kernel⟩
abbrev s_lacks : Stmt := inClass (top 34) 1
theorem sc_lacks : FnScope ["self", "u", "v"] ["self", "u", "v"] (defScope s_lacks) := ⟨rfl, rfl, rfl, by decide +kernel, rfl, by decide +kernel, by decide +kernel⟩
def spLacks (C : Addr) : Sp := fun vs H Q _ => ∃ (x dx j e : Addr) (n u v : Nat), vs = [.ref x, vN u, vN v] ∧ H x = some (.ins C dx (pf n j e)) ∧ Q (.bl (decide (n ≤ u) || decide (n ≤ v))) H
abbrev s_begin : Stmt := inClass (top 34) 2
theorem sc_begin : FnScope ["self", "n"] ["self", "n"] (defScope s_begin) := ⟨rfl, rfl, rfl, by decide +kernel, rfl, by decide +kernel, by decide +kernel⟩
def spBegin (C : Addr) : Sp := fun vs H Q _ => ∃ (g x : Addr) (n n0 : Nat) (s : List Line) (ear : List (List Line)), vs = [.ref x, vN n] ∧ Obj C H g x n0 s ear ∧
  (n = 0 ∨ 8 < n → Gives H Q (say (-22))) ∧ (1 ≤ n → n ≤ 8 → ∀ H' p, Keep x H H' → H p = none → Obj C H' g x n [] [] → H' p = some (.lst ((row (say 0)).map V.int)) → Q (.ref p) H')
section
variable {P : Program} {w : World} {K : PySem.W.Frag} {mg : Str → Option Value} {base : Heap}
theorem ok_init {f C : Addr} {fd : FuncData} (F : Fun K "__init__" "Places.__init__" s_init f fd) (T : Txt K mg C) : FnOk P w K mg base CX0 1 f fd ["self"] (spInitO (HeldN C) C) := by
  refine F.ok sc_init (fun vs H Q E h => ?_) (fun cdv A outer s H vs Q E hr h => ?_)
  · obtain ⟨x, dx, rfl, _⟩ := h
    rfl
  · obtain ⟨x, dx, rfl, hx, k⟩ := h
    refine ⟨_, (pss_cons (ps_fld (pv 0) (pe_int) rfl)
    (pss_cons (ps_fld (pv 0) (pe_lst (pa_nil)) rfl)
    (pss_one (ps_fld (pv 0) (pe_lst (pa_nil)) rfl)))), ?_⟩
    refine ⟨_, rfl, x, C, dx, _, rfl, hx, T.cl, T.nS, (by show 0 < 1000; decide), ?_⟩
    refine ⟨Nat.zero_le _, fun j hj => ?_⟩
    have nxj : x ≠ j := fun e => by rw [← e, upd_same] at hj; cases hj
    refine ⟨_, rfl, x, C, dx, _, rfl, Eq.trans (upd_ne nxj) upd_same, T.cl, T.nJ, (by show 1 < 1000; decide), ?_⟩
    refine ⟨Nat.zero_le _, fun e he => ?_⟩
    have nxe : x ≠ e := fun z => by rw [← z, upd_same] at he; cases he
    have nje : j ≠ e := fun z => by rw [← z, upd_ne nxj.symm, upd_same] at he; cases he
    refine ⟨_, rfl, x, C, dx, _, rfl, Eq.trans (upd_ne nxe) upd_same, T.cl, T.nE, ?_, ?_⟩
    · have : putF "joined" (.ref j) (putF "size" (vN 0) []) = [(("size" : Str), vN 0), ("joined", .ref j)] := by
        show (if ("size" : Str) = "joined" then _ else (("size" : Str), vN 0) :: _) = _
        rw [if_neg n_sj]
        rfl
      show (putF "joined" (.ref j) (putF "size" (vN 0) [])).length < 1000
      rw [this]
      show 2 < 1000
      decide
    · refine k _ ⟨dx, j, e, ?_, ?_, ?_⟩ ?_
      · rw [upd_same]
        exact congrArg (fun z => some (HO.ins C dx z)) (pf_new 0 j e)
      · rw [upd_ne nxj.symm, upd_ne nje, upd_ne nxj.symm, upd_same]
      · rw [upd_ne nxe.symm, upd_same]
      · have k1 : Keep x H (upd H x (.ins C dx (putF "size" (V.int 0) []))) := keep_at (fun _ _ h _ => h)
        exact keep_at (keep_new (keep_at (keep_new k1 hj)) he)
theorem ok_lacks {f C : Addr} {fd : FuncData} (F : Fun K "lacks" "Places.lacks" s_lacks f fd) (T : Txt K mg C) : FnOk P w K mg base CX0 1 f fd ["self", "u", "v"] (spLacks C) := by
  refine F.ok sc_lacks (fun vs H Q E h => ?_) (fun cdv A outer s H vs Q E hr h => ?_)
  · obtain ⟨x, dx, j, e, n, u, v, rfl, _⟩ := h
    rfl
  · obtain ⟨x, dx, j, e, n, u, v, rfl, hx, k⟩ := h
    refine ⟨_, (pss_one (ps_ret (pe_or (pe_cmpR op_ge (pv 1) (pe_fld (pv 0) rfl) (nomark _)) (pe_one (pe_cmpR op_ge (pv 2) (pe_fld (pv 0) rfl) (nomark _)))))), ?_⟩
    refine ⟨_, rfl, _, rfl, x, C, dx, _, _, rfl, hx, T.cl, T.nS, pf_size n j e, _, _, rfl, rfl, _, rfl, ?_⟩
    have e1 : ∀ m : Nat, decide ((n : Int) ≤ (m : Int)) = decide (n ≤ m) := fun m => decide_eq_decide.mpr (by omega)
    rw [e1]
    refine ite2 (fun c => ?_) (fun c => ?_)
    · rw [c] at k
      exact k
    · refine ⟨_, rfl, _, rfl, x, C, dx, _, _, rfl, hx, T.cl, T.nS, pf_size n j e, _, _, rfl, rfl, ?_⟩
      show Q (V.bl (decide ((n : Int) ≤ (v : Int)))) H
      rw [e1]
      rw [Bool.eq_false_iff.mpr c, Bool.false_or] at k
      exact k
theorem ok_begin {f C : Addr} {fd : FuncData} (F : Fun K "begin" "Places.begin" s_begin f fd) (G : Gtop mg) (T : Txt K mg C) : FnOk P w K mg base CX0 1 f fd ["self", "n"] (spBegin C) := by
  refine F.ok sc_begin (fun vs H Q E h => ?_) (fun cdv A outer s H vs Q E hr h => ?_)
  · obtain ⟨g, x, n, n0, s, ear, rfl, _⟩ := h
    rfl
  · obtain ⟨g, x, n, n0, ls, ear, rfl, ⟨⟨xs, hg⟩, dx, j0, e0, es, hx, _⟩, k0, k1⟩ := h
    refine ⟨_, (pss_cons (ps_if (PW.pt (pw_or (pt_cmpR op_lt (pv 1) (pe_int) (nomark _)) (pw_or1 (pt_cmpR op_gt (pv 1) (pe_gl rfl G.g_MOST_PLACES) (nomark _)))))
      (pss_one (ps_ret (pe_lst (pa_cons (pe_gl rfl G.g_OUT_OF_RANGE) pa_nil))))
      pss_nil)
    (pss_cons (ps_fld (pv 0) (pv 1) rfl)
    (pss_cons (ps_fld (pv 0) (pe_lst (pa_nil)) rfl)
    (pss_cons (ps_fld (pv 0) (pe_lst (pa_nil)) rfl)
    (pss_one (ps_ret (pe_lst (pa_cons (pe_int) pa_nil)))))))), ?_⟩
    have bad : n = 0 ∨ 8 < n → ∀ p, H p = none → Q (.ref p) (upd H p (.lst [V.int (-22)])) := fun c p hp => k0 c _ p (same_upd hp) hp upd_same
    refine ⟨_, rfl, _, _, rfl, rfl, _, rfl, ?_⟩
    refine ite2 (fun c => ?_) (fun c => ?_)
    · have c := of_decide_eq_true c
      exact ⟨(by show 1 ≤ sizeLine; decide), fun p hp => bad (by omega) p hp⟩
    · have c : ¬ (n : Int) < 1 := fun z => c (decide_eq_true z)
      refine ⟨_, rfl, _, _, rfl, rfl, _, rfl, ?_⟩
      refine ite2 (fun d => ?_) (fun d => ?_)
      · have d := of_decide_eq_true d
        exact ⟨(by show 1 ≤ sizeLine; decide), fun p hp => bad (by omega) p hp⟩
      · have d : ¬ (8 : Int) < (n : Int) := fun z => d (decide_eq_true z)
        refine ⟨_, rfl, _, rfl, x, C, dx, _, rfl, hx, T.cl, T.nS, pf_few _ _ _, ?_⟩
        rw [pf_put_size]
        refine ⟨Nat.zero_le _, fun j hj => ?_⟩
        have nxj : x ≠ j := fun e => by rw [← e, upd_same] at hj; cases hj
        have hj0 : H j = none := by rw [upd_ne nxj.symm] at hj; exact hj
        refine ⟨_, rfl, x, C, dx, _, rfl, Eq.trans (upd_ne nxj) upd_same, T.cl, T.nJ, pf_few _ _ _, ?_⟩
        rw [pf_put_joined]
        refine ⟨Nat.zero_le _, fun e he => ?_⟩
        have nxe : x ≠ e := fun z => by rw [← z, upd_same] at he; cases he
        have nje : j ≠ e := fun z => by rw [← z, upd_ne nxj.symm, upd_same] at he; cases he
        have he0 : H e = none := by rw [upd_ne nxe.symm, upd_ne nje.symm, upd_ne nxe.symm] at he; exact he
        refine ⟨_, rfl, x, C, dx, _, rfl, Eq.trans (upd_ne nxe) upd_same, T.cl, T.nE, pf_few _ _ _, ?_⟩
        rw [pf_put_earlier]
        have kk : Keep x H (upd (upd (upd (upd (upd H x (.ins C dx (pf n j0 e0))) j (.lst [])) x (.ins C dx (pf n j e0))) e (.lst [])) x (.ins C dx (pf n j e))) :=
          keep_at (keep_new (keep_at (keep_new (keep_at (fun _ _ h _ => h)) hj)) he)
        have h1 : (upd (upd (upd (upd (upd H x (.ins C dx (pf n j0 e0))) j (.lst [])) x (.ins C dx (pf n j e0))) e (.lst [])) x (.ins C dx (pf n j e))) x = some (.ins C dx (pf n j e)) := upd_same
        have h2 : (upd (upd (upd (upd (upd H x (.ins C dx (pf n j0 e0))) j (.lst [])) x (.ins C dx (pf n j e0))) e (.lst [])) x (.ins C dx (pf n j e))) j = some (.lst []) := by rw [upd_ne nxj.symm, upd_ne nje, upd_ne nxj.symm, upd_same]
        have h3 : (upd (upd (upd (upd (upd H x (.ins C dx (pf n j0 e0))) j (.lst [])) x (.ins C dx (pf n j e0))) e (.lst [])) x (.ins C dx (pf n j e))) e = some (.lst []) := by rw [upd_ne nxe.symm, upd_same]
        generalize (upd (upd (upd (upd (upd H x (.ins C dx (pf n j0 e0))) j (.lst [])) x (.ins C dx (pf n j e0))) e (.lst [])) x (.ins C dx (pf n j e))) = H5 at kk h1 h2 h3
        have hgx : g ≠ x := ne_of hg hx (by intro z; cases z)
        have ob : Obj C H5 g x n [] [] := ⟨⟨xs, kk _ _ hg hgx⟩, dx, j, e, [], h1, ⟨⟨[], h2, trivial⟩, (ne_of_none hg hj0).symm⟩, ⟨h3, (ne_of_none hg he0).symm⟩, trivial⟩
        refine ⟨(by show 1 ≤ sizeLine; decide), fun p hp => ?_⟩
        have hp0 : H p = none := by
          cases q : H p with
          | none => rfl
          | some o =>
            by_cases z : p = x
            · rw [z, h1] at hp; cases hp
            · rw [kk _ _ q z] at hp; cases hp
        exact k1 (by omega) (by omega) _ p (keep_new kk hp) hp0 (ob.same (same_upd hp)) upd_same
end
end LL
namespace LL
open PySem PySem.Spec PyProof.Rows L2
open Kv402 (Line Net at_ Ans State act Call Abs okT flat lineList say num table)
open Kv402Neutral (row)
theorem keep_free {x : Addr} {H H' : Hp} (k : Keep x H H') {o : HO} (hx : H' x = some o) {p : Addr} (hp : H' p = none) : H p = none := by
  cases q : H p with
  | none => rfl
  | some z =>
    by_cases c : p = x
    · rw [c, hx] at hp
      cases hp
    · rw [k _ _ q c] at hp
      cases hp
theorem cut_last (b : Nat) (xs : List V) (hb : 1 ≤ b) : cutV xs (some (-(b : Int))) none = xs.drop (xs.length - b) := by
  unfold cutV
  have e : HT.sIx xs.length 0 (some (-(b : Int))) = xs.length - b := by
    show (if (-(b : Int)) < 0 then ((-(b : Int)) + ((xs.length : Nat) : Int)).toNat else min (-(b : Int)).toNat xs.length) = _
    rw [if_pos (by omega)]
    omega
  rw [e, HT.sIx_none, List.take_of_length_le (by rw [List.length_drop]; exact Nat.le_refl _)]
theorem cut_init (xs : List V) (y : V) : cutV (xs ++ [y]) none (some (-1)) = xs := by
  unfold cutV
  have e : HT.sIx (xs ++ [y]).length (xs ++ [y]).length (some (-1)) = xs.length := by
    show (if (-1 : Int) < 0 then ((-1 : Int) + (((xs ++ [y]).length : Nat) : Int)).toNat else min (-1 : Int).toNat (xs ++ [y]).length) = _
    rw [if_pos (by decide), List.length_append, List.length_singleton]
    omega
  rw [HT.sIx_none, e, List.drop_zero, Nat.sub_zero, List.take_append_of_le_length (Nat.le_refl _), List.take_length]
abbrev s_changed_to : Stmt := inClass (top 34) 3
theorem sc_changed_to : FnScope ["self", "lines"] ["self", "lines"] (defScope s_changed_to) := ⟨rfl, rfl, rfl, by decide +kernel, rfl, by decide +kernel, by decide +kernel⟩
def spChanged (C : Addr) : Sp := fun vs H Q _ => ∃ (g x p : Addr) (n : Nat) (s s' : List Line) (ear : List (List Line)), vs = [.ref x, .ref p] ∧ Obj C H g x n s ear ∧ LinesAt H p s' ∧ p ≠ g ∧ ear.length ≤ 100 ∧
  ∀ H' q, Keep x H H' → H q = none → Obj C H' g x n s' ((ear ++ [s]).drop (ear.length + 1 - 10)) → H' q = some (.lst [vN s'.length]) → Q (.ref q) H'
abbrev s_back : Stmt := inClass (top 34) 4
theorem sc_back : FnScope ["self"] ["self"] (defScope s_back) := ⟨rfl, rfl, rfl, by decide +kernel, rfl, by decide +kernel, by decide +kernel⟩
def spBack (C : Addr) : Sp := fun vs H Q _ => ∃ (g x : Addr) (n : Nat) (s : List Line) (ear : List (List Line)), vs = [.ref x] ∧ Obj C H g x n s ear ∧ (ear = [] → Gives H Q (say (-6))) ∧
  ∀ l ear', ear = ear' ++ [l] → ∀ H' p, Keep x H H' → H p = none → Obj C H' g x n l ear' → H' p = some (.lst [vN ear'.length]) → Q (.ref p) H'
abbrev s_state : Stmt := inClass (top 34) 5
theorem sc_state : FnScope ["self"] ["self"] (defScope s_state) := ⟨rfl, rfl, rfl, by decide +kernel, rfl, by decide +kernel, by decide +kernel⟩
def spState (C : Addr) : Sp := fun vs H Q _ => ∃ (g x : Addr) (n : Nat) (s : List Line) (ear : List (List Line)), vs = [.ref x] ∧ Obj C H g x n s ear ∧ Gives H Q ⟨(n : Nat), [s.length, ear.length]⟩
abbrev s_kept_for : Stmt := inClass (top 34) 13
theorem sc_kept_for : FnScope ["self", "t"] ["self", "t"] (defScope s_kept_for) := ⟨rfl, rfl, rfl, by decide +kernel, rfl, by decide +kernel, by decide +kernel⟩
def spKeptFor (C : Addr) : Sp := fun vs H Q _ => ∃ (x dx j e : Addr) (n t : Nat) (s : List Line), vs = [.ref x, vN t] ∧ H x = some (.ins C dx (pf n j e)) ∧ LinesAt H j s ∧ Ok n s ∧ n ≤ 8 ∧ t < 2 ^ 63 ∧ s.length ≤ 100 ∧
  ∀ H' p, Same H H' → H p = none → LinesAt H' p (keep n s t) → Q (.ref p) H'
section
variable {P : Program} {w : World} {K : PySem.W.Frag} {mg : Str → Option Value} {base : Heap}
theorem ok_changed {f C : Addr} {fd : FuncData} (F : Fun K "changed_to" "Places.changed_to" s_changed_to f fd) (G : Gtop mg) (T : Txt K mg C) : FnOk P w K mg base CX0 1 f fd ["self", "lines"] (spChanged C) := by
  refine F.ok sc_changed_to (fun vs H Q E h => ?_) (fun cdv A outer s H vs Q E hr h => ?_)
  · obtain ⟨g, x, p, n, s, s', ear, rfl, _⟩ := h
    rfl
  · obtain ⟨g, x, p, n, ls, ls', ear, rfl, ⟨⟨xs, hg⟩, dx, j, e, es, hx, ⟨hJ, nj⟩, ⟨hE, ne⟩, hP⟩, hL, np, hear, k⟩ := h
    refine ⟨_, (pss_cons (ps_fld (pv 0) (pe_slice sl_list (pe_op op_cat (pe_fld (pv 0) rfl) (pe_lst (pa_cons (pe_fld (pv 0) rfl) pa_nil))) (po_some (pe_un un_neg (pe_gl rfl G.g_MOST_BACK))) po_none) rfl)
    (pss_cons (ps_fld (pv 0) (pv 1) rfl)
    (pss_one (ps_ret (pe_lst (pa_cons (pe_callB call_len_seq (by rfl) G.b_len PySem.boot_len (pa_cons (pv 1) pa_nil)) pa_nil)))))), ?_⟩
    have hgx : g ≠ x := ne_of hg hx (by intro z; cases z)
    refine ⟨_, rfl, x, C, dx, _, _, rfl, hx, T.cl, T.nE, pf_earlier n j e, _, rfl, x, C, dx, _, _, rfl, hx, T.cl, T.nJ, pf_joined n j e, (by show 1 ≤ sizeLine; decide), fun q hq => ?_⟩
    have sq : Same H (upd H q (.lst [V.ref j])) := same_upd hq
    refine ⟨e, q, _, _, rfl, rfl, sq _ _ hE, upd_same, ?_, fun r hr' => ?_⟩
    · refine Nat.le_of_lt (small (m := 1000) ?_ (by decide))
      rw [List.length_map, hP.len]
      show ear.length + 1 ≤ 1000
      omega
    have sr := same_new (o := .lst (es.map V.ref ++ [V.ref j])) sq hr'
    refine ⟨_, rfl, _, rfl, r, _, rfl, SqL.of upd_same, fun m hm => ?_⟩
    have sm := same_new (o := .lst (cutV (es.map V.ref ++ [V.ref j]) (some (-10)) none)) sr hm
    have ec : cutV (es.map V.ref ++ [V.ref j]) (some (-10)) none = ((es ++ [j]).drop (ear.length + 1 - 10)).map V.ref := by
      refine (cut_last 10 _ (by decide)).trans ?_
      rw [List.length_append, List.length_map, hP.len, List.length_singleton, List.map_drop, List.map_append]
      rfl
    have nm : H m = none := (same_new sq hr').free hm
    have hm2 : (upd (upd (upd H q (.lst [V.ref j])) r (.lst (es.map V.ref ++ [V.ref j]))) m (.lst (cutV (es.map V.ref ++ [V.ref j]) (some (-10)) none))) m = some (.lst (((es ++ [j]).drop (ear.length + 1 - 10)).map V.ref)) := by rw [upd_same, ec]
    generalize (upd (upd (upd H q (.lst [V.ref j])) r (.lst (es.map V.ref ++ [V.ref j]))) m (.lst (cutV (es.map V.ref ++ [V.ref j]) (some (-10)) none))) = H3 at sm hm2
    refine ⟨_, rfl, x, C, dx, _, rfl, sm _ _ hx, T.cl, T.nE, pf_few _ _ _, ?_⟩
    rw [pf_put_earlier]
    refine ⟨_, rfl, _, rfl, x, C, dx, _, rfl, upd_same, T.cl, T.nJ, pf_few _ _ _, ?_⟩
    rw [pf_put_joined]
    have kk : Keep x H3 (upd (upd H3 x (.ins C dx (pf n j m))) x (.ins C dx (pf n p m))) := keep_at (keep_at (fun _ _ h _ => h))
    have h1 : (upd (upd H3 x (.ins C dx (pf n j m))) x (.ins C dx (pf n p m))) x = some (.ins C dx (pf n p m)) := upd_same
    generalize (upd (upd H3 x (.ins C dx (pf n j m))) x (.ins C dx (pf n p m))) = H5 at kk h1
    have k2 : Keep x H H5 := keep_tr (keep_same sm) kk
    obtain ⟨ts, hA, hT⟩ := id hL
    have hA5 := k2 _ _ hA (ne_of hA hx (by intro z; cases z))
    refine ⟨_, rfl, p, _, rfl, .inl (SqL.of hA5), (by show 1 ≤ sizeLine; decide), fun u hu => ?_⟩
    have hmx : m ≠ x := (ne_of_none hx nm).symm
    have ob : Obj C H5 g x n ls' ((ear ++ [ls]).drop (ear.length + 1 - 10)) :=
      ⟨⟨xs, k2 _ _ hg hgx⟩, dx, p, m, _, h1, ⟨hL.keep hx k2, np⟩, ⟨kk _ _ hm2 hmx, (ne_of_none hg nm).symm⟩, Pst.drop _ (Pst.app (hP.imp fun _ _ a _ => a.keep hx k2) ⟨⟨hJ.keep hx k2, nj⟩, trivial⟩)⟩
    refine k _ u (keep_new k2 hu) (keep_free k2 h1 hu) (ob.same (same_upd hu)) ?_
    rw [upd_same, List.length_map, hT.len]
theorem ok_back {f C : Addr} {fd : FuncData} (F : Fun K "back" "Places.back" s_back f fd) (G : Gtop mg) (T : Txt K mg C) : FnOk P w K mg base CX0 1 f fd ["self"] (spBack C) := by
  refine F.ok sc_back (fun vs H Q E h => ?_) (fun cdv A outer s H vs Q E hr h => ?_)
  · obtain ⟨g, x, n, s, ear, rfl, _⟩ := h
    rfl
  · obtain ⟨g, x, n, ls, ear, rfl, ⟨⟨xs, hg⟩, dx, j, e, es, hx, ⟨hJ, nj⟩, ⟨hE, ne⟩, hP⟩, k0, k⟩ := h
    refine ⟨_, (pss_cons (ps_if (pt_cmpR op_eq (pe_callB call_len_seq (by rfl) G.b_len PySem.boot_len (pa_cons (pe_fld (pv 0) rfl) pa_nil)) (pe_int) (nomark _))
      (pss_one (ps_ret (pe_lst (pa_cons (pe_gl rfl G.g_NO_CHANGE) pa_nil))))
      pss_nil)
    (pss_cons (ps_fld (pv 0) (pe_ix ix_list (pe_fld (pv 0) rfl) (pe_un un_neg (pe_int)) (fun _ _ => rfl)) rfl)
    (pss_cons (ps_fld (pv 0) (pe_slice sl_list (pe_fld (pv 0) rfl) po_none (po_some (pe_un un_neg (pe_int)))) rfl)
    (pss_one (ps_ret (pe_lst (pa_cons (pe_callB call_len_seq (by rfl) G.b_len PySem.boot_len (pa_cons (pe_fld (pv 0) rfl) pa_nil)) pa_nil))))))), ?_⟩
    have hgx : g ≠ x := ne_of hg hx (by intro z; cases z)
    have lP := hP.len
    refine ⟨_, rfl, x, C, dx, _, _, rfl, hx, T.cl, T.nE, pf_earlier n j e, e, _, rfl, .inl (SqL.of hE), rfl, _, rfl, ?_⟩
    rcases List.eq_nil_or_concat ear with hn | ⟨ear', l, hn⟩
    · refine iteP (decide_eq_true ?_) ?_
      · rw [List.length_map, lP, hn]
        rfl
      · exact ⟨(by show 1 ≤ sizeLine; decide), fun p hp => k0 hn _ p (same_upd hp) hp upd_same⟩
    · rw [List.concat_eq_append] at hn
      refine iteN (decide_eq_false ?_) ?_
      · rw [List.length_map, lP, hn, List.length_append, List.length_singleton]
        intro z
        injection z with z
        omega
      rw [hn] at hP
      obtain ⟨us, t, rfl, hU, hTl, nt⟩ := hP.split
      have last : atI ((us ++ [t]).map V.ref) (-1) = some (V.ref t) := by
        rw [List.map_append]
        exact atI_last _ _
      refine ⟨_, rfl, x, C, dx, _, _, rfl, hx, T.cl, T.nE, pf_earlier n j e, _, rfl, e, _, _, _, rfl, rfl, SqL.of hE, last, _, rfl, x, C, dx, _, rfl, hx, T.cl, T.nJ, pf_few _ _ _, ?_⟩
      rw [pf_put_joined]
      have k1 : Keep x H (upd H x (.ins C dx (pf n t e))) := keep_at (fun _ _ h _ => h)
      have hex : e ≠ x := ne_of hE hx (by intro z; cases z)
      refine ⟨_, rfl, x, C, dx, _, _, rfl, upd_same, T.cl, T.nE, pf_earlier n t e, _, rfl, _, rfl, e, _, rfl, SqL.of (k1 _ _ hE hex), fun m hm => ?_⟩
      have ec : cutV ((us ++ [t]).map V.ref) none (some (-1)) = us.map V.ref := by
        rw [List.map_append]
        exact cut_init _ _
      have nmx : m ≠ x := fun z => by rw [z, upd_same] at hm; cases hm
      have nm : H m = none := keep_free k1 upd_same hm
      refine ⟨_, rfl, x, C, dx, _, rfl, Eq.trans (upd_ne nmx.symm) upd_same, T.cl, T.nE, pf_few _ _ _, ?_⟩
      rw [pf_put_earlier]
      have k2 : Keep x H (upd (upd (upd H x (.ins C dx (pf n t e))) m (.lst (cutV ((us ++ [t]).map V.ref) none (some (-1))))) x (.ins C dx (pf n t m))) := keep_at (keep_new k1 hm)
      have h1 : (upd (upd (upd H x (.ins C dx (pf n t e))) m (.lst (cutV ((us ++ [t]).map V.ref) none (some (-1))))) x (.ins C dx (pf n t m))) x = some (.ins C dx (pf n t m)) := upd_same
      have h2 : (upd (upd (upd H x (.ins C dx (pf n t e))) m (.lst (cutV ((us ++ [t]).map V.ref) none (some (-1))))) x (.ins C dx (pf n t m))) m = some (.lst (us.map V.ref)) := by rw [upd_ne nmx, upd_same, ec]
      generalize (upd (upd (upd H x (.ins C dx (pf n t e))) m (.lst (cutV ((us ++ [t]).map V.ref) none (some (-1))))) x (.ins C dx (pf n t m))) = H5 at k2 h1 h2
      refine ⟨_, rfl, x, C, dx, _, _, rfl, h1, T.cl, T.nE, pf_earlier n t m, m, _, rfl, .inl (SqL.of h2), (by show 1 ≤ sizeLine; decide), fun u hu => ?_⟩
      have ob : Obj C H5 g x n l ear' := ⟨⟨xs, k2 _ _ hg hgx⟩, dx, t, m, us, h1, ⟨hTl.keep hx k2, nt⟩, ⟨h2, (ne_of_none hg nm).symm⟩, hU.imp fun _ _ a _ => a.keep hx k2⟩
      refine k l ear' hn _ u (keep_new k2 hu) (keep_free k2 h1 hu) (ob.same (same_upd hu)) ?_
      rw [upd_same, List.length_map, hU.len]
theorem ok_state {f C : Addr} {fd : FuncData} (F : Fun K "state" "Places.state" s_state f fd) (G : Gtop mg) (T : Txt K mg C) : FnOk P w K mg base CX0 1 f fd ["self"] (spState C) := by
  refine F.ok sc_state (fun vs H Q E h => ?_) (fun cdv A outer s H vs Q E hr h => ?_)
  · obtain ⟨g, x, n, s, ear, rfl, _⟩ := h
    rfl
  · obtain ⟨g, x, n, ls, ear, rfl, ⟨_, dx, j, e, es, hx, ⟨⟨ts, hA, hT⟩, _⟩, ⟨hE, _⟩, hP⟩, k⟩ := h
    refine ⟨_, (pss_one (ps_ret (pe_lst (pa_cons (pe_fld (pv 0) rfl) (pa_cons (pe_callB call_len_seq (by rfl) G.b_len PySem.boot_len (pa_cons (pe_fld (pv 0) rfl) pa_nil)) (pa_cons (pe_callB call_len_seq (by rfl) G.b_len PySem.boot_len (pa_cons (pe_fld (pv 0) rfl) pa_nil)) pa_nil)))))), ?_⟩
    refine ⟨_, rfl, x, C, dx, _, _, rfl, hx, T.cl, T.nS, pf_size n j e, _, rfl, x, C, dx, _, _, rfl, hx, T.cl, T.nJ, pf_joined n j e, j, _, rfl, .inl (SqL.of hA), _, rfl, x, C, dx, _, _, rfl, hx, T.cl, T.nE, pf_earlier n j e, e, _, rfl, .inl (SqL.of hE), (by show 3 ≤ sizeLine; decide), fun p hp => ?_⟩
    refine k _ p (same_upd hp) hp ?_
    rw [upd_same, List.length_map, List.length_map, hT.len, hP.len]
    rfl
theorem ok_keptfor {f fK C : Addr} {fd fdK : FuncData} (F : Fun K "kept_for" "Places.kept_for" s_kept_for f fd) (T : Txt K mg C)
    (A_kept_lines : At P w K mg base 2 "kept_lines" ["size", "lines", "times"] spKept fK fdK) : FnOk P w K mg base CX0 3 f fd ["self", "t"] (spKeptFor C) := by
  refine F.ok sc_kept_for (fun vs H Q E h => ?_) (fun cdv A outer s H vs Q E hr h => ?_)
  · obtain ⟨x, dx, j, e, n, t, s, rfl, _⟩ := h
    rfl
  · obtain ⟨x, dx, j, e, n, t, ls, rfl, hx, hL, o, n8, ht, hlen, k⟩ := h
    refine ⟨_, (pss_one (ps_ret (pe_call A_kept_lines.ok (hr.mono (by decide)) rfl A_kept_lines.gl A_kept_lines.kp A_kept_lines.bi .nil pass0 (pa_cons (pe_fld (pv 0) rfl) (pa_cons (pe_fld (pv 0) rfl) (pa_cons (pv 1) pa_nil)))))), ?_⟩
    exact ⟨_, rfl, x, C, dx, _, _, rfl, hx, T.cl, T.nS, pf_size n j e, _, rfl, x, C, dx, _, _, rfl, hx, T.cl, T.nJ, pf_joined n j e, _, rfl, n, t, j, ls, rfl, hL, o, n8, ht, hlen, k⟩
end
end LL
namespace LL
open PySem PySem.Spec PyProof.Rows L2
open Kv402 (Line Net at_ Ans State act Call Abs okT flat lineList say num table)
open Kv402Neutral (row)
/-- a call that looks: the object stands, the answer is wanted -/
def Lk (C : Addr) (H : Hp) (Q : VK) (x : Addr) (a : Abs) (c : Call) : Prop := (∃ g ear, Obj C H g x a.now.n a.now.lines ear) ∧ Good a.now ∧ Gives H Q (a.does c).2
/-! ### what the specification says -/
section
variable {a : Abs}
theorem lk_dist0 {u v : Nat} (h : a.now.n ≤ u ∨ a.now.n ≤ v) : (a.does (.dist u v)).2 = say (-2) := congrArg Prod.snd (if_pos h)
theorem lk_dist1 {u v : Nat} (h : ¬ (a.now.n ≤ u ∨ a.now.n ≤ v)) : (a.does (.dist u v)).2 = distAns a.now.n a.now.lines u v := by
  refine (congrArg Prod.snd (if_neg h)).trans ?_
  unfold distAns
  show (match at_ (table a.now.n a.now.lines) u v with
    | none => (a, say (-33))
    | some d => (a, num d)).2 = _
  cases at_ (table a.now.n a.now.lines) u v <;> rfl
theorem lk_next0 {u v : Nat} (h : a.now.n ≤ u ∨ a.now.n ≤ v) : (a.does (.next u v)).2 = say (-2) := congrArg Prod.snd (if_pos h)
theorem lk_next1 {u v : Nat} (h : ¬ (a.now.n ≤ u ∨ a.now.n ≤ v)) (e : u = v) : (a.does (.next u v)).2 = say (-22) := congrArg Prod.snd ((if_neg h).trans (if_pos e))
theorem lk_next2 {u v : Nat} (h : ¬ (a.now.n ≤ u ∨ a.now.n ≤ v)) (e : ¬ u = v) : (a.does (.next u v)).2 = match a.now.step a.now.table u v with
    | none => say (-33)
    | some x => num x := by
  refine (congrArg Prod.snd ((if_neg h).trans (if_neg e))).trans ?_
  cases a.now.step a.now.table u v <;> rfl
theorem lk_way0 {u v : Nat} (h : a.now.n ≤ u ∨ a.now.n ≤ v) : (a.does (.way u v)).2 = say (-2) := congrArg Prod.snd (if_pos h)
theorem lk_way1 {u v : Nat} (h : ¬ (a.now.n ≤ u ∨ a.now.n ≤ v)) : (a.does (.way u v)).2 = if (at_ a.now.table u v).isNone then say (-33) else Kv402.list (a.now.go a.now.table v a.now.n u) := by
  refine (congrArg Prod.snd (if_neg h)).trans ?_
  by_cases c : (at_ a.now.table u v).isNone = true
  · rw [if_pos c, if_pos c]
  · rw [if_neg c, if_neg c]
theorem lk_kept0 {t : Nat} (h : okT t = false) : (a.does (.kept t)).2 = say (-22) := congrArg Prod.snd (if_pos h)
theorem lk_kept1 {t : Nat} (h : ¬ okT t = false) : (a.does (.kept t)).2 = lineList (a.now.kept t) := congrArg Prod.snd (if_neg h)
theorem lk_kd0 {t u v : Nat} (h : a.now.n ≤ u ∨ a.now.n ≤ v) : (a.does (.keptdist t u v)).2 = say (-2) := congrArg Prod.snd (if_pos h)
theorem lk_kd1 {t u v : Nat} (h : ¬ (a.now.n ≤ u ∨ a.now.n ≤ v)) (h2 : okT t = false) : (a.does (.keptdist t u v)).2 = say (-22) := congrArg Prod.snd ((if_neg h).trans (if_pos h2))
theorem lk_kd2 {t u v : Nat} (h : ¬ (a.now.n ≤ u ∨ a.now.n ≤ v)) (h2 : ¬ okT t = false) : (a.does (.keptdist t u v)).2 = distAns a.now.n (a.now.kept t) u v := by
  refine (congrArg Prod.snd ((if_neg h).trans (if_neg h2))).trans ?_
  unfold distAns
  cases at_ (table a.now.n (a.now.kept t)) u v <;> rfl
theorem lk_kw0 {t : Nat} (h : okT t = false) : (a.does (.keptweight t)).2 = say (-22) := congrArg Prod.snd (if_pos h)
theorem lk_kw1 {t : Nat} (h : ¬ okT t = false) : (a.does (.keptweight t)).2 = ⟨(Kv402.weight (a.now.kept t) : Nat), [Kv402.weight a.now.lines]⟩ := congrArg Prod.snd (if_neg h)
theorem lk_worst0 {t : Nat} (h : okT t = false) : (a.does (.worst t)).2 = say (-22) := congrArg Prod.snd (if_pos h)
theorem lk_worst1 {t : Nat} (h : ¬ okT t = false) : (a.does (.worst t)).2 = match a.now.worst (a.now.kept t) with
    | none => say (-33)
    | some q => ⟨0, [q.1, q.2.1, q.2.2.1, q.2.2.2]⟩ := by
  refine (congrArg Prod.snd (if_neg h)).trans ?_
  cases a.now.worst (a.now.kept t) <;> rfl
theorem lk_ring0 {t : Nat} (h : okT t = false) : (a.does (.ring t)).2 = say (-22) := congrArg Prod.snd (if_pos h)
theorem lk_ring1 {t : Nat} (h : ¬ okT t = false) : (a.does (.ring t)).2 = match Kv402.ringOf a.now.n (a.now.kept t) with
    | none => say (-33)
    | some k => num k := by
  refine (congrArg Prod.snd (if_neg h)).trans ?_
  cases Kv402.ringOf a.now.n (a.now.kept t) <;> rfl
theorem lk_does0 {t : Nat} {l : List Nat} (h : okT t = false) : (a.does (.does t l)).2 = say (-22) := congrArg Prod.snd (if_pos h)
theorem lk_does1 {t : Nat} {l : List Nat} (h : ¬ okT t = false) (h2 : (l.any fun i => decide (a.now.lines.length ≤ i)) = true) : (a.does (.does t l)).2 = say (-2) := congrArg Prod.snd ((if_neg h).trans (if_pos h2))
theorem lk_does2 {t : Nat} {l : List Nat} (h : ¬ okT t = false) (h2 : ¬ (l.any fun i => decide (a.now.lines.length ≤ i)) = true) : (a.does (.does t l)).2 = num (Kv402.bit (a.now.does t (pick a.now.lines l))) := congrArg Prod.snd ((if_neg h).trans (if_neg h2))
theorem lk_few0 {t : Nat} (h : okT t = false) : (a.does (.fewest t)).2 = say (-22) := congrArg Prod.snd (if_pos h)
theorem lk_few1 {t : Nat} (h : ¬ okT t = false) (h2 : 10 < a.now.lines.length) : (a.does (.fewest t)).2 = say (-28) := congrArg Prod.snd ((if_neg h).trans (if_pos h2))
theorem lk_few2 {t : Nat} (h : ¬ okT t = false) (h2 : ¬ 10 < a.now.lines.length) : (a.does (.fewest t)).2 = lineList (a.now.fewest t) := congrArg Prod.snd ((if_neg h).trans (if_neg h2))
end
theorem okT_iff {t : Nat} : ¬ okT t = false ↔ 1 ≤ t ∧ t ≤ 9 := by
  unfold okT
  simp
theorem few_len {g : Net} (t : Nat) : (g.fewest t).length ≤ g.lines.length := by
  unfold Net.fewest
  cases e : (List.range (g.lines.length + 1)).findSome? (fun m => (Kv402.choose m g.lines).find? (g.does t)) with
  | none => exact Nat.zero_le _
  | some x =>
    obtain ⟨m, _, hm⟩ := List.exists_of_findSome?_eq_some e
    have := List.mem_of_find?_eq_some hm
    rw [choose_chs] at this
    exact (chs_sub _ _ _ this).1.length_le
theorem lacks_iff {n u v : Nat} : (decide (n ≤ u) || decide (n ≤ v)) = true ↔ n ≤ u ∨ n ≤ v := by simp
theorem path_head {g : Net} {v u : Nat} {p : List Nat} (h : Path g v u p) : ∃ q, p = u :: q := by
  cases h
  · exact ⟨[], rfl⟩
  · exact ⟨_, rfl⟩
/-- the first step, by the way's places -/
theorem Net8.way_next {g : Net} (N : Net8 g) {u v : Nat} (hu : u < g.n) (hv : v < g.n) (c : u ≠ v) : (wayOf g u v = [] ∧ g.step g.table u v = none) ∨ ∃ x q, wayOf g u v = u :: x :: q ∧ g.step g.table u v = some x := by
  cases e : at_ g.table u v with
  | none =>
    refine .inl ⟨?_, step_none e⟩
    unfold wayOf
    rw [e]
    rfl
  | some d =>
    obtain ⟨p, hp, hg, _⟩ := N.way hu hv e
    have hw : wayOf g u v = p := by
      unfold wayOf
      rw [e]
      exact hg
    cases hp with
    | nil => exact absurd rfl c
    | cons _ hs r =>
      obtain ⟨q, rfl⟩ := path_head r
      exact .inr ⟨_, q, hw, hs⟩
theorem ints_nat (l : List Nat) : (Kv402Neutral.ints l).map V.int = l.map vN := by
  unfold Kv402Neutral.ints
  rw [List.map_map]
  rfl
abbrev s_lines : Stmt := inClass (top 34) 9
theorem sc_lines : FnScope ["self"] ["self"] (defScope s_lines) := ⟨rfl, rfl, rfl, by decide +kernel, rfl, by decide +kernel, by decide +kernel⟩
def spLines (C : Addr) : Sp := fun vs H Q _ => ∃ (x : Addr) (a : Abs), vs = [.ref x] ∧ Lk C H Q x a .lines
abbrev s_dist : Stmt := inClass (top 34) 10
theorem sc_dist : FnScope ["self", "u", "v"] ["self", "u", "v"] (defScope s_dist) := ⟨rfl, rfl, rfl, by decide +kernel, rfl, by decide +kernel, by decide +kernel⟩
def spDistM (C : Addr) : Sp := fun vs H Q _ => ∃ (x : Addr) (a : Abs) (u v : Nat), vs = [.ref x, vN u, vN v] ∧ Lk C H Q x a (.dist u v)
abbrev s_next_place : Stmt := inClass (top 34) 11
theorem sc_next_place : FnScope ["self", "u", "v", "passed"] ["self", "u", "v"] (defScope s_next_place) := ⟨rfl, rfl, rfl, by decide +kernel, rfl, by decide +kernel, by decide +kernel⟩
def spNext (C : Addr) : Sp := fun vs H Q _ => ∃ (x : Addr) (a : Abs) (u v : Nat), vs = [.ref x, vN u, vN v] ∧ Lk C H Q x a (.next u v)
abbrev s_way : Stmt := inClass (top 34) 12
theorem sc_way : FnScope ["self", "u", "v", "passed"] ["self", "u", "v"] (defScope s_way) := ⟨rfl, rfl, rfl, by decide +kernel, rfl, by decide +kernel, by decide +kernel⟩
def spWay (C : Addr) : Sp := fun vs H Q _ => ∃ (x : Addr) (a : Abs) (u v : Nat), vs = [.ref x, vN u, vN v] ∧ Lk C H Q x a (.way u v)
abbrev s_kept : Stmt := inClass (top 34) 14
theorem sc_kept : FnScope ["self", "t"] ["self", "t"] (defScope s_kept) := ⟨rfl, rfl, rfl, by decide +kernel, rfl, by decide +kernel, by decide +kernel⟩
def spKeptM (C : Addr) : Sp := fun vs H Q _ => ∃ (x : Addr) (a : Abs) (t : Nat), vs = [.ref x, vN t] ∧ Lk C H Q x a (.kept t)
abbrev s_keptdist : Stmt := inClass (top 34) 15
theorem sc_keptdist : FnScope ["self", "t", "u", "v"] ["self", "t", "u", "v"] (defScope s_keptdist) := ⟨rfl, rfl, rfl, by decide +kernel, rfl, by decide +kernel, by decide +kernel⟩
def spKeptdist (C : Addr) : Sp := fun vs H Q _ => ∃ (x : Addr) (a : Abs) (t u v : Nat), vs = [.ref x, vN t, vN u, vN v] ∧ Lk C H Q x a (.keptdist t u v)
abbrev s_keptweight : Stmt := inClass (top 34) 16
theorem sc_keptweight : FnScope ["self", "t"] ["self", "t"] (defScope s_keptweight) := ⟨rfl, rfl, rfl, by decide +kernel, rfl, by decide +kernel, by decide +kernel⟩
def spKeptweight (C : Addr) : Sp := fun vs H Q _ => ∃ (x : Addr) (a : Abs) (t : Nat), vs = [.ref x, vN t] ∧ Lk C H Q x a (.keptweight t)
abbrev s_worst : Stmt := inClass (top 34) 17
theorem sc_worst : FnScope ["self", "t", "most"] ["self", "t"] (defScope s_worst) := ⟨rfl, rfl, rfl, by decide +kernel, rfl, by decide +kernel, by decide +kernel⟩
def spWorst (C : Addr) : Sp := fun vs H Q _ => ∃ (x : Addr) (a : Abs) (t : Nat), vs = [.ref x, vN t] ∧ Lk C H Q x a (.worst t)
abbrev s_ring : Stmt := inClass (top 34) 18
theorem sc_ring : FnScope ["self", "t", "many"] ["self", "t"] (defScope s_ring) := ⟨rfl, rfl, rfl, by decide +kernel, rfl, by decide +kernel, by decide +kernel⟩
def spRingM (C : Addr) : Sp := fun vs H Q _ => ∃ (x : Addr) (a : Abs) (t : Nat), vs = [.ref x, vN t] ∧ Lk C H Q x a (.ring t)
section
variable {P : Program} {w : World} {K : PySem.W.Frag} {mg : Str → Option Value} {base : Heap}
theorem ok_lines {f fT C : Addr} {fd fdT : FuncData} (F : Fun K "lines" "Places.lines" s_lines f fd) (T : Txt K mg C)
    (A_told : At P w K mg base 1 "told" ["lines"] spTold fT fdT) : FnOk P w K mg base CX0 2 f fd ["self"] (spLines C) := by
  refine F.ok sc_lines (fun vs H Q E h => ?_) (fun cdv A outer s H vs Q E hr h => ?_)
  · obtain ⟨x, a, rfl, _⟩ := h
    rfl
  · obtain ⟨x, a, rfl, ⟨g, ear, _, dx, j, e, es, hx, ⟨hJ, _⟩, _⟩, N, k⟩ := h
    refine ⟨_, (pss_one (ps_ret (pe_call A_told.ok (hr.mono (by decide)) rfl A_told.gl A_told.kp A_told.bi .nil pass0 (pa_cons (pe_fld (pv 0) rfl) pa_nil)))), ?_⟩
    have := N.few
    exact ⟨_, rfl, x, C, dx, _, _, rfl, hx, T.cl, T.nJ, pf_joined _ j e, j, a.now.lines, rfl, hJ, by omega, k⟩
theorem ok_distM {f fL fT C : Addr} {fd fdL fdT : FuncData} (F : Fun K "dist" "Places.dist" s_dist f fd) (G : Gtop mg) (T : Txt K mg C)
    (M_lacks : Mt P w K mg base C 1 "lacks" ["self", "u", "v"] (spLacks C) fL fdL) (A_distance_told : At P w K mg base 2 "distance_told" ["size", "lines", "u", "v"] spDTold fT fdT) : FnOk P w K mg base CX0 3 f fd ["self", "u", "v"] (spDistM C) := by
  refine F.ok sc_dist (fun vs H Q E h => ?_) (fun cdv A outer s H vs Q E hr h => ?_)
  · obtain ⟨x, a, u, v, rfl, _⟩ := h
    rfl
  · obtain ⟨x, a, u, v, rfl, ⟨g, ear, _, dx, j, e, es, hx, ⟨hJ, _⟩, _⟩, N, k⟩ := h
    refine ⟨_, (pss_cons (ps_if (pt_val (pe_meth (pv 0) T.cl M_lacks.me M_lacks.ok (hr.mono (by decide)) M_lacks.bi .nil pass0 (pa_cons (pv 1) (pa_cons (pv 2) pa_nil))))
      (pss_one (ps_ret (pe_lst (pa_cons (pe_gl rfl G.g_NO_SUCH) pa_nil))))
      pss_nil)
    (pss_one (ps_ret (pe_call A_distance_told.ok (hr.mono (by decide)) rfl A_distance_told.gl A_distance_told.kp A_distance_told.bi .nil pass0 (pa_cons (pe_fld (pv 0) rfl) (pa_cons (pe_fld (pv 0) rfl) (pa_cons (pv 1) (pa_cons (pv 2) pa_nil)))))))), ?_⟩
    refine ⟨_, rfl, x, dx, _, rfl, hx, pf_no _ j e (by decide +kernel) (by decide +kernel) (by decide +kernel), _, rfl, _, rfl, x, dx, j, e, a.now.n, u, v, rfl, hx, _, rfl, ?_⟩
    refine ite2 (fun c => ?_) (fun c => ?_)
    · have c := lacks_iff.mp c
      rw [lk_dist0 c] at k
      exact ⟨(by show 1 ≤ sizeLine; decide), fun p hp => k _ p (same_upd hp) hp upd_same⟩
    · have c : ¬ (a.now.n ≤ u ∨ a.now.n ≤ v) := fun z => c (lacks_iff.mpr z)
      rw [lk_dist1 c] at k
      exact ⟨_, rfl, x, C, dx, _, _, rfl, hx, T.cl, T.nS, pf_size _ j e, _, rfl, x, C, dx, _, _, rfl, hx, T.cl, T.nJ, pf_joined _ j e, _, rfl, _, rfl, a.now.n, u, v, j, a.now.lines, rfl, hJ, N.ok, N.w99, N.n8, by omega, by omega, k⟩
theorem ok_next {f fL fW C : Addr} {fd fdL fdW : FuncData} (F : Fun K "next_place" "Places.next_place" s_next_place f fd) (G : Gtop mg) (T : Txt K mg C)
    (M_lacks : Mt P w K mg base C 1 "lacks" ["self", "u", "v"] (spLacks C) fL fdL) (A_way_between : At P w K mg base 2 "way_between" ["size", "lines", "start", "goal"] spBetw fW fdW) : FnOk P w K mg base CX0 3 f fd ["self", "u", "v"] (spNext C) := by
  refine F.ok sc_next_place (fun vs H Q E h => ?_) (fun cdv A outer s H vs Q E hr h => ?_)
  · obtain ⟨x, a, u, v, rfl, _⟩ := h
    rfl
  · obtain ⟨x, a, u, v, rfl, ⟨g, ear, _, dx, j, e, es, hx, ⟨hJ, _⟩, _⟩, N, k⟩ := h
    refine ⟨_, (pss_cons (ps_if (pt_val (pe_meth (pv 0) T.cl M_lacks.me M_lacks.ok (hr.mono (by decide)) M_lacks.bi .nil pass0 (pa_cons (pv 1) (pa_cons (pv 2) pa_nil))))
      (pss_one (ps_ret (pe_lst (pa_cons (pe_gl rfl G.g_NO_SUCH) pa_nil))))
      pss_nil)
    (pss_cons (ps_if (pt_cmpR op_eq (pv 1) (pv 2) (nomark _))
      (pss_one (ps_ret (pe_lst (pa_cons (pe_gl rfl G.g_OUT_OF_RANGE) pa_nil))))
      pss_nil)
    (pss_cons (ps_set (i := 3) sc_next_place.nd rfl (.inl rfl) (pe_call A_way_between.ok (hr.mono (by decide)) rfl A_way_between.gl A_way_between.kp A_way_between.bi .nil pass0 (pa_cons (pe_fld (pv 0) rfl) (pa_cons (pe_fld (pv 0) rfl) (pa_cons (pv 1) (pa_cons (pv 2) pa_nil))))))
    (pss_cons (ps_if (pt_cmpR op_eq (pe_callB call_len_seq (by rfl) G.b_len PySem.boot_len (pa_cons (pv 3) pa_nil)) (pe_int) (nomark _))
      (pss_one (ps_ret (pe_lst (pa_cons (pe_gl rfl G.g_NONE_THERE) pa_nil))))
      pss_nil)
    (pss_one (ps_ret (pe_lst (pa_cons (pe_ix ix_list (pv 3) (pe_int) (fun _ _ => rfl)) pa_nil)))))))), ?_⟩
    have few := N.few
    refine ⟨_, rfl, x, dx, _, rfl, hx, pf_no _ j e (by decide +kernel) (by decide +kernel) (by decide +kernel), _, rfl, _, rfl, x, dx, j, e, a.now.n, u, v, rfl, hx, _, rfl, ?_⟩
    refine ite2 (fun c => ?_) (fun c => ?_)
    · have c := lacks_iff.mp c
      rw [lk_next0 c] at k
      exact ⟨(by show 1 ≤ sizeLine; decide), fun p hp => k _ p (same_upd hp) hp upd_same⟩
    · have c : ¬ (a.now.n ≤ u ∨ a.now.n ≤ v) := fun z => c (lacks_iff.mpr z)
      refine ⟨_, rfl, _, rfl, rfl, _, rfl, ?_⟩
      refine ite2 (fun d => ?_) (fun d => ?_)
      · have d := vN_true.mp d
        rw [lk_next1 c d] at k
        exact ⟨(by show 1 ≤ sizeLine; decide), fun p hp => k _ p (same_upd hp) hp upd_same⟩
      · have d : ¬ u = v := fun z => d (vN_true.mpr z)
        rw [lk_next2 c d] at k
        refine ⟨_, rfl, x, C, dx, _, _, rfl, hx, T.cl, T.nS, pf_size _ j e, _, rfl, x, C, dx, _, _, rfl, hx, T.cl, T.nJ, pf_joined _ j e, _, rfl, _, rfl, a.now, u, v, j, rfl, hJ, N.toNet8, by omega, by omega, by omega, fun H1 q s1 nq hq => ?_⟩
        refine ⟨_, rfl, q, _, rfl, .inl (SqL.of hq), rfl, _, rfl, ?_⟩
        rcases N.toNet8.way_next (u := u) (v := v) (by omega) (by omega) d with ⟨e1, e2⟩ | ⟨y, qq, e1, e2⟩
        · rw [e1] at hq ⊢
          rw [e2] at k
          refine iteP (decide_eq_true rfl) ?_
          exact ⟨(by show 1 ≤ sizeLine; decide), fun p hp => k _ p (same_new s1 hp) (s1.free hp) upd_same⟩
        · rw [e1] at hq ⊢
          rw [e2] at k
          refine iteN (decide_eq_false (by
            intro z
            injection z with z
            rw [List.length_map, List.length_cons] at z
            omega)) ?_
          have h1 : atI ((u :: y :: qq).map vN) ((1 : Nat) : Int) = some (vN y) := atI_nat rfl
          exact ⟨_, rfl, q, _, _, vN y, rfl, rfl, SqL.of hq, h1, (by show 1 ≤ sizeLine; decide), fun p hp => k _ p (same_new s1 hp) (s1.free hp) upd_same⟩
theorem ok_way {f fL fW C : Addr} {fd fdL fdW : FuncData} (F : Fun K "way" "Places.way" s_way f fd) (G : Gtop mg) (T : Txt K mg C)
    (M_lacks : Mt P w K mg base C 1 "lacks" ["self", "u", "v"] (spLacks C) fL fdL) (A_way_between : At P w K mg base 2 "way_between" ["size", "lines", "start", "goal"] spBetw fW fdW) : FnOk P w K mg base CX0 3 f fd ["self", "u", "v"] (spWay C) := by
  refine F.ok sc_way (fun vs H Q E h => ?_) (fun cdv A outer s H vs Q E hr h => ?_)
  · obtain ⟨x, a, u, v, rfl, _⟩ := h
    rfl
  · obtain ⟨x, a, u, v, rfl, ⟨g, ear, _, dx, j, e, es, hx, ⟨hJ, _⟩, _⟩, N, k⟩ := h
    refine ⟨_, (pss_cons (ps_if (pt_val (pe_meth (pv 0) T.cl M_lacks.me M_lacks.ok (hr.mono (by decide)) M_lacks.bi .nil pass0 (pa_cons (pv 1) (pa_cons (pv 2) pa_nil))))
      (pss_one (ps_ret (pe_lst (pa_cons (pe_gl rfl G.g_NO_SUCH) pa_nil))))
      pss_nil)
    (pss_cons (ps_set (i := 3) sc_way.nd rfl (.inl rfl) (pe_call A_way_between.ok (hr.mono (by decide)) rfl A_way_between.gl A_way_between.kp A_way_between.bi .nil pass0 (pa_cons (pe_fld (pv 0) rfl) (pa_cons (pe_fld (pv 0) rfl) (pa_cons (pv 1) (pa_cons (pv 2) pa_nil))))))
    (pss_cons (ps_if (pt_cmpR op_eq (pe_callB call_len_seq (by rfl) G.b_len PySem.boot_len (pa_cons (pv 3) pa_nil)) (pe_int) (nomark _))
      (pss_one (ps_ret (pe_lst (pa_cons (pe_gl rfl G.g_NONE_THERE) pa_nil))))
      pss_nil)
    (pss_one (ps_ret (pe_op op_cat (pe_lst (pa_cons (pe_callB call_len_seq (by rfl) G.b_len PySem.boot_len (pa_cons (pv 3) pa_nil)) pa_nil)) (pv 3))))))), ?_⟩
    have few := N.few
    refine ⟨_, rfl, x, dx, _, rfl, hx, pf_no _ j e (by decide +kernel) (by decide +kernel) (by decide +kernel), _, rfl, _, rfl, x, dx, j, e, a.now.n, u, v, rfl, hx, _, rfl, ?_⟩
    refine ite2 (fun c => ?_) (fun c => ?_)
    · have c := lacks_iff.mp c
      rw [lk_way0 c] at k
      exact ⟨(by show 1 ≤ sizeLine; decide), fun p hp => k _ p (same_upd hp) hp upd_same⟩
    · have c : ¬ (a.now.n ≤ u ∨ a.now.n ≤ v) := fun z => c (lacks_iff.mpr z)
      rw [lk_way1 c] at k
      refine ⟨_, rfl, x, C, dx, _, _, rfl, hx, T.cl, T.nS, pf_size _ j e, _, rfl, x, C, dx, _, _, rfl, hx, T.cl, T.nJ, pf_joined _ j e, _, rfl, _, rfl, a.now, u, v, j, rfl, hJ, N.toNet8, by omega, by omega, by omega, fun H1 q s1 nq hq => ?_⟩
      refine ⟨_, rfl, q, _, rfl, .inl (SqL.of hq), rfl, _, rfl, ?_⟩
      cases ew : at_ a.now.table u v with
      | none =>
        have e1 : wayOf a.now u v = [] := by
          unfold wayOf
          rw [ew]
          rfl
        rw [e1] at hq ⊢
        rw [ew] at k
        refine iteP (decide_eq_true rfl) ?_
        exact ⟨(by show 1 ≤ sizeLine; decide), fun p hp => k _ p (same_new s1 hp) (s1.free hp) upd_same⟩
      | some d =>
        obtain ⟨pth, hpth, hgo, hpl⟩ := N.toNet8.way (u := u) (v := v) (by omega) (by omega) ew
        have e1 : wayOf a.now u v = pth := by
          unfold wayOf
          rw [ew]
          exact hgo
        rw [ew, hgo] at k
        rw [e1] at hq ⊢
        have pp := path_pos hpth
        have n8 := N.n8
        refine iteN (decide_eq_false (by
          intro z
          injection z with z
          rw [List.length_map] at z
          omega)) ?_
        refine ⟨_, rfl, q, _, rfl, .inl (SqL.of hq), (by show 1 ≤ sizeLine; decide), fun m hm => ?_⟩
        have nqm : q ≠ m := ne_of_none hq hm
        refine ⟨_, rfl, m, q, _, _, rfl, rfl, upd_same, by rw [upd_ne nqm]; exact hq, ?_, fun p hp => ?_⟩
        · refine Nat.le_of_lt (small (m := 100) ?_ (by decide))
          rw [List.length_map]
          show 1 + pth.length ≤ 100
          omega
        · refine k _ p (same_new (same_new s1 hm) hp) ((same_new s1 hm).free hp) ?_
          rw [upd_same, List.length_map]
          show _ = some (HO.lst (V.int (pth.length : Nat) :: (Kv402Neutral.ints pth).map V.int))
          rw [ints_nat]
          rfl
end
end LL
namespace LL
open PySem PySem.Spec PyProof.Rows L2
open Kv402 (Line Net at_ Ans State act Call Abs okT flat lineList say num table)
open Kv402Neutral (row)
abbrev s_does : Stmt := inClass (top 34) 19
theorem sc_does : FnScope ["self", "t", "row", "number"] ["self", "t", "row"] (defScope s_does) := ⟨rfl, rfl, rfl, by decide +kernel, rfl, by decide +kernel, by decide +kernel⟩
def spDoes (C : Addr) : Sp := fun vs H Q _ => ∃ (x r : Addr) (a : Abs) (t : Nat) (l : List Nat), vs = [.ref x, vN t, .ref r] ∧ H r = some (.lst (l.map vN)) ∧ l.length ≤ 200 ∧ Lk C H Q x a (.does t l)
abbrev s_fewest : Stmt := inClass (top 34) 20
theorem sc_fewest : FnScope ["self", "t"] ["self", "t"] (defScope s_fewest) := ⟨rfl, rfl, rfl, by decide +kernel, rfl, by decide +kernel, by decide +kernel⟩
def spFewest (C : Addr) : Sp := fun vs H Q _ => ∃ (x : Addr) (a : Abs) (t : Nat), vs = [.ref x, vN t] ∧ Lk C H Q x a (.fewest t)
abbrev s_least : Stmt := inClass (top 34) 21
theorem sc_least : FnScope ["self"] ["self"] (defScope s_least) := ⟨rfl, rfl, rfl, by decide +kernel, rfl, by decide +kernel, by decide +kernel⟩
def spLeast (C : Addr) : Sp := fun vs H Q _ => ∃ (x : Addr) (a : Abs), vs = [.ref x] ∧ Lk C H Q x a .least
section
variable {P : Program} {w : World} {K : PySem.W.Frag} {mg : Str → Option Value} {base : Heap}
theorem ok_keptM {f fW fT fK C : Addr} {fd fdW fdT fdK : FuncData} (F : Fun K "kept" "Places.kept" s_kept f fd) (G : Gtop mg) (T : Txt K mg C)
    (A_wrong_times : At P w K mg base 1 "wrong_times" ["t"] spWrong fW fdW) (A_told : At P w K mg base 1 "told" ["lines"] spTold fT fdT) (M_kept_for : Mt P w K mg base C 3 "kept_for" ["self", "t"] (spKeptFor C) fK fdK) : FnOk P w K mg base CX0 4 f fd ["self", "t"] (spKeptM C) := by
  refine F.ok sc_kept (fun vs H Q E h => ?_) (fun cdv A outer s H vs Q E hr h => ?_)
  · obtain ⟨x, a, t, rfl, _⟩ := h
    rfl
  · obtain ⟨x, a, t, rfl, ⟨g, ear, _, dx, j, e, es, hx, ⟨hJ, _⟩, _⟩, N, k⟩ := h
    refine ⟨_, (pss_cons (ps_if (pt_val (pe_call A_wrong_times.ok (hr.mono (by decide)) rfl A_wrong_times.gl A_wrong_times.kp A_wrong_times.bi .nil pass0 (pa_cons (pv 1) pa_nil)))
      (pss_one (ps_ret (pe_lst (pa_cons (pe_gl rfl G.g_OUT_OF_RANGE) pa_nil))))
      pss_nil)
    (pss_one (ps_ret (pe_call A_told.ok (hr.mono (by decide)) rfl A_told.gl A_told.kp A_told.bi .nil pass0 (pa_cons (pe_meth (pv 0) T.cl M_kept_for.me M_kept_for.ok (hr.mono (by decide)) M_kept_for.bi .nil pass0 (pa_cons (pv 1) pa_nil)) pa_nil))))), ?_⟩
    have few := N.few
    refine ⟨_, rfl, t, rfl, _, rfl, ?_⟩
    by_cases c : okT t = false
    · rw [lk_kept0 c] at k
      refine iteP (by rw [c]; rfl) ?_
      exact ⟨(by show 1 ≤ sizeLine; decide), fun p hp => k _ p (same_upd hp) hp upd_same⟩
    · rw [lk_kept1 c] at k
      obtain ⟨t1, t9⟩ := okT_iff.mp c
      obtain ⟨ek, sub⟩ := N.toNet8.kept t9
      refine iteN (by rw [Bool.not_eq_false', ← Bool.not_eq_false]; exact c) ?_
      refine ⟨_, rfl, x, dx, _, rfl, hx, pf_no _ j e (by decide +kernel) (by decide +kernel) (by decide +kernel), _, rfl, x, dx, j, e, a.now.n, t, a.now.lines, rfl, hx, hJ, N.ok, N.n8, by omega, by omega, fun H1 q s1 nq hq => ?_⟩
      rw [ek] at hq
      have := sub.length_le
      exact ⟨q, a.now.kept t, rfl, hq, by omega, fun H' p s' np hp => k H' p (same_tr s1 s') (s1.free np) hp⟩
theorem ok_keptdist {f fL fW fT fK C : Addr} {fd fdL fdW fdT fdK : FuncData} (F : Fun K "keptdist" "Places.keptdist" s_keptdist f fd) (G : Gtop mg) (T : Txt K mg C)
    (M_lacks : Mt P w K mg base C 1 "lacks" ["self", "u", "v"] (spLacks C) fL fdL) (A_wrong_times : At P w K mg base 1 "wrong_times" ["t"] spWrong fW fdW) (A_distance_told : At P w K mg base 2 "distance_told" ["size", "lines", "u", "v"] spDTold fT fdT)
    (M_kept_for : Mt P w K mg base C 3 "kept_for" ["self", "t"] (spKeptFor C) fK fdK) : FnOk P w K mg base CX0 4 f fd ["self", "t", "u", "v"] (spKeptdist C) := by
  refine F.ok sc_keptdist (fun vs H Q E h => ?_) (fun cdv A outer s H vs Q E hr h => ?_)
  · obtain ⟨x, a, t, u, v, rfl, _⟩ := h
    rfl
  · obtain ⟨x, a, t, u, v, rfl, ⟨g, ear, _, dx, j, e, es, hx, ⟨hJ, _⟩, _⟩, N, k⟩ := h
    refine ⟨_, (pss_cons (ps_if (pt_val (pe_meth (pv 0) T.cl M_lacks.me M_lacks.ok (hr.mono (by decide)) M_lacks.bi .nil pass0 (pa_cons (pv 2) (pa_cons (pv 3) pa_nil))))
      (pss_one (ps_ret (pe_lst (pa_cons (pe_gl rfl G.g_NO_SUCH) pa_nil))))
      pss_nil)
    (pss_cons (ps_if (pt_val (pe_call A_wrong_times.ok (hr.mono (by decide)) rfl A_wrong_times.gl A_wrong_times.kp A_wrong_times.bi .nil pass0 (pa_cons (pv 1) pa_nil)))
      (pss_one (ps_ret (pe_lst (pa_cons (pe_gl rfl G.g_OUT_OF_RANGE) pa_nil))))
      pss_nil)
    (pss_one (ps_ret (pe_call A_distance_told.ok (hr.mono (by decide)) rfl A_distance_told.gl A_distance_told.kp A_distance_told.bi .nil pass0 (pa_cons (pe_fld (pv 0) rfl) (pa_cons (pe_meth (pv 0) T.cl M_kept_for.me M_kept_for.ok (hr.mono (by decide)) M_kept_for.bi .nil pass0 (pa_cons (pv 1) pa_nil)) (pa_cons (pv 2) (pa_cons (pv 3) pa_nil))))))))), ?_⟩
    have few := N.few
    refine ⟨_, rfl, x, dx, _, rfl, hx, pf_no _ j e (by decide +kernel) (by decide +kernel) (by decide +kernel), _, rfl, _, rfl, x, dx, j, e, a.now.n, u, v, rfl, hx, _, rfl, ?_⟩
    refine ite2 (fun d => ?_) (fun d => ?_)
    · have d := lacks_iff.mp d
      rw [lk_kd0 d] at k
      exact ⟨(by show 1 ≤ sizeLine; decide), fun p hp => k _ p (same_upd hp) hp upd_same⟩
    · have d : ¬ (a.now.n ≤ u ∨ a.now.n ≤ v) := fun z => d (lacks_iff.mpr z)
      refine ⟨_, rfl, t, rfl, _, rfl, ?_⟩
      by_cases c : okT t = false
      · rw [lk_kd1 d c] at k
        refine iteP (by rw [c]; rfl) ?_
        exact ⟨(by show 1 ≤ sizeLine; decide), fun p hp => k _ p (same_upd hp) hp upd_same⟩
      · rw [lk_kd2 d c] at k
        obtain ⟨t1, t9⟩ := okT_iff.mp c
        obtain ⟨ek, sub⟩ := N.toNet8.kept t9
        refine iteN (by rw [Bool.not_eq_false', ← Bool.not_eq_false]; exact c) ?_
        refine ⟨_, rfl, x, C, dx, _, _, rfl, hx, T.cl, T.nS, pf_size _ j e, _, rfl, x, dx, _, rfl, hx, pf_no _ j e (by decide +kernel) (by decide +kernel) (by decide +kernel), _, rfl, x, dx, j, e, a.now.n, t, a.now.lines, rfl, hx, hJ, N.ok, N.n8, by omega, by omega, fun H1 q s1 nq hq => ?_⟩
        rw [ek] at hq
        exact ⟨_, rfl, _, rfl, a.now.n, u, v, q, a.now.kept t, rfl, hq, N.ok.sub sub, fun l hl => N.w99 l (sub.subset hl), N.n8, by omega, by omega, fun H' p s' np hp => k H' p (same_tr s1 s') (s1.free np) hp⟩
theorem ok_keptweight {f fW fT fK C : Addr} {fd fdW fdT fdK : FuncData} (F : Fun K "keptweight" "Places.keptweight" s_keptweight f fd) (G : Gtop mg) (T : Txt K mg C)
    (A_wrong_times : At P w K mg base 1 "wrong_times" ["t"] spWrong fW fdW) (A_total_length : At P w K mg base 1 "total_length" ["lines"] spTotal fT fdT) (M_kept_for : Mt P w K mg base C 3 "kept_for" ["self", "t"] (spKeptFor C) fK fdK) : FnOk P w K mg base CX0 4 f fd ["self", "t"] (spKeptweight C) := by
  refine F.ok sc_keptweight (fun vs H Q E h => ?_) (fun cdv A outer s H vs Q E hr h => ?_)
  · obtain ⟨x, a, t, rfl, _⟩ := h
    rfl
  · obtain ⟨x, a, t, rfl, ⟨g, ear, _, dx, j, e, es, hx, ⟨hJ, _⟩, _⟩, N, k⟩ := h
    refine ⟨_, (pss_cons (ps_if (pt_val (pe_call A_wrong_times.ok (hr.mono (by decide)) rfl A_wrong_times.gl A_wrong_times.kp A_wrong_times.bi .nil pass0 (pa_cons (pv 1) pa_nil)))
      (pss_one (ps_ret (pe_lst (pa_cons (pe_gl rfl G.g_OUT_OF_RANGE) pa_nil))))
      pss_nil)
    (pss_one (ps_ret (pe_lst (pa_cons (pe_call A_total_length.ok (hr.mono (by decide)) rfl A_total_length.gl A_total_length.kp A_total_length.bi .nil pass0 (pa_cons (pe_meth (pv 0) T.cl M_kept_for.me M_kept_for.ok (hr.mono (by decide)) M_kept_for.bi .nil pass0 (pa_cons (pv 1) pa_nil)) pa_nil)) (pa_cons (pe_call A_total_length.ok (hr.mono (by decide)) rfl A_total_length.gl A_total_length.kp A_total_length.bi .nil pass0 (pa_cons (pe_fld (pv 0) rfl) pa_nil)) pa_nil)))))), ?_⟩
    have few := N.few
    refine ⟨_, rfl, t, rfl, _, rfl, ?_⟩
    by_cases c : okT t = false
    · rw [lk_kw0 c] at k
      refine iteP (by rw [c]; rfl) ?_
      exact ⟨(by show 1 ≤ sizeLine; decide), fun p hp => k _ p (same_upd hp) hp upd_same⟩
    · rw [lk_kw1 c] at k
      obtain ⟨t1, t9⟩ := okT_iff.mp c
      obtain ⟨ek, sub⟩ := N.toNet8.kept t9
      refine iteN (by rw [Bool.not_eq_false', ← Bool.not_eq_false]; exact c) ?_
      refine ⟨_, rfl, x, dx, _, rfl, hx, pf_no _ j e (by decide +kernel) (by decide +kernel) (by decide +kernel), _, rfl, x, dx, j, e, a.now.n, t, a.now.lines, rfl, hx, hJ, N.ok, N.n8, by omega, by omega, fun H1 q s1 nq hq => ?_⟩
      rw [ek] at hq
      have := sub.length_le
      refine ⟨q, a.now.kept t, rfl, hq, by omega, fun H2 s2 => ?_⟩
      have s12 := same_tr s1 s2
      refine ⟨_, rfl, x, C, dx, _, _, rfl, s12 _ _ hx, T.cl, T.nJ, pf_joined _ j e, j, a.now.lines, rfl, hJ.same s12, by omega, fun H3 s3 => ?_⟩
      have s13 := same_tr s12 s3
      exact ⟨(by show 2 ≤ sizeLine; decide), fun p hp => k _ p (same_new s13 hp) (s13.free hp) upd_same⟩
theorem ok_worst {f fW fT fK C : Addr} {fd fdW fdT fdK : FuncData} (F : Fun K "worst" "Places.worst" s_worst f fd) (G : Gtop mg) (T : Txt K mg C)
    (A_wrong_times : At P w K mg base 1 "wrong_times" ["t"] spWrong fW fdW) (A_most_stretched : At P w K mg base 2 "most_stretched" ["size", "lines", "kept"] spMost fT fdT) (M_kept_for : Mt P w K mg base C 3 "kept_for" ["self", "t"] (spKeptFor C) fK fdK) : FnOk P w K mg base CX0 4 f fd ["self", "t"] (spWorst C) := by
  refine F.ok sc_worst (fun vs H Q E h => ?_) (fun cdv A outer s H vs Q E hr h => ?_)
  · obtain ⟨x, a, t, rfl, _⟩ := h
    rfl
  · obtain ⟨x, a, t, rfl, ⟨g, ear, _, dx, j, e, es, hx, ⟨hJ, _⟩, _⟩, N, k⟩ := h
    refine ⟨_, (pss_cons (ps_if (pt_val (pe_call A_wrong_times.ok (hr.mono (by decide)) rfl A_wrong_times.gl A_wrong_times.kp A_wrong_times.bi .nil pass0 (pa_cons (pv 1) pa_nil)))
      (pss_one (ps_ret (pe_lst (pa_cons (pe_gl rfl G.g_OUT_OF_RANGE) pa_nil))))
      pss_nil)
    (pss_cons (ps_set (i := 2) sc_worst.nd rfl (.inl rfl) (pe_call A_most_stretched.ok (hr.mono (by decide)) rfl A_most_stretched.gl A_most_stretched.kp A_most_stretched.bi .nil pass0 (pa_cons (pe_fld (pv 0) rfl) (pa_cons (pe_fld (pv 0) rfl) (pa_cons (pe_meth (pv 0) T.cl M_kept_for.me M_kept_for.ok (hr.mono (by decide)) M_kept_for.bi .nil pass0 (pa_cons (pv 1) pa_nil)) pa_nil)))))
    (pss_cons (ps_if (pt_cmpR op_eq (pe_callB call_len_seq (by rfl) G.b_len PySem.boot_len (pa_cons (pv 2) pa_nil)) (pe_int) (nomark _))
      (pss_one (ps_ret (pe_lst (pa_cons (pe_gl rfl G.g_NONE_THERE) pa_nil))))
      pss_nil)
    (pss_one (ps_ret (pe_op op_cat (pe_lst (pa_cons (pe_int) pa_nil)) (pv 2))))))), ?_⟩
    have few := N.few
    refine ⟨_, rfl, t, rfl, _, rfl, ?_⟩
    by_cases c : okT t = false
    · rw [lk_worst0 c] at k
      refine iteP (by rw [c]; rfl) ?_
      exact ⟨(by show 1 ≤ sizeLine; decide), fun p hp => k _ p (same_upd hp) hp upd_same⟩
    · rw [lk_worst1 c] at k
      obtain ⟨t1, t9⟩ := okT_iff.mp c
      obtain ⟨ek, sub⟩ := N.toNet8.kept t9
      refine iteN (by rw [Bool.not_eq_false', ← Bool.not_eq_false]; exact c) ?_
      refine ⟨_, rfl, x, C, dx, _, _, rfl, hx, T.cl, T.nS, pf_size _ j e, _, rfl, x, C, dx, _, _, rfl, hx, T.cl, T.nJ, pf_joined _ j e, _, rfl, x, dx, _, rfl, hx, pf_no _ j e (by decide +kernel) (by decide +kernel) (by decide +kernel), _, rfl, x, dx, j, e, a.now.n, t, a.now.lines, rfl, hx, hJ, N.ok, N.n8, by omega, by omega, fun H1 q s1 nq hq => ?_⟩
      rw [ek] at hq
      refine ⟨a.now.n, j, q, a.now.lines, a.now.kept t, rfl, hJ.same s1, hq, N.ok, N.ok.sub sub, N.n8, fun H2 m s2 nm hm => ?_⟩
      rw [N.toNet8.worst_is t9] at hm
      have s12 := same_tr s1 s2
      refine ⟨_, rfl, m, _, rfl, .inl (SqL.of hm), rfl, _, rfl, ?_⟩
      cases ew : a.now.worst (a.now.kept t) with
      | none =>
        rw [ew] at k hm
        refine iteP (decide_eq_true rfl) ?_
        exact ⟨(by show 1 ≤ sizeLine; decide), fun p hp => k _ p (same_new s12 hp) (s12.free hp) upd_same⟩
      | some z =>
        rw [ew] at k hm
        refine iteN (decide_eq_false (by intro e; cases e)) ?_
        refine ⟨(by show 1 ≤ sizeLine; decide), fun q2 hq2 => ?_⟩
        have nmq : m ≠ q2 := ne_of_none hm hq2
        refine ⟨_, rfl, q2, m, _, _, rfl, rfl, upd_same, by rw [upd_ne nmq]; exact hm, (by show 1 + 4 ≤ sizeLine; decide), fun p hp => ?_⟩
        exact k _ p (same_new (same_new s12 hq2) hp) ((same_new s12 hq2).free hp) upd_same
theorem ok_ringM {f fW fT fK C : Addr} {fd fdW fdT fdK : FuncData} (F : Fun K "ring" "Places.ring" s_ring f fd) (G : Gtop mg) (T : Txt K mg C)
    (A_wrong_times : At P w K mg base 1 "wrong_times" ["t"] spWrong fW fdW) (A_lines_in_shortest_ring : At P w K mg base 2 "lines_in_shortest_ring" ["size", "lines"] spRing fT fdT) (M_kept_for : Mt P w K mg base C 3 "kept_for" ["self", "t"] (spKeptFor C) fK fdK) : FnOk P w K mg base CX0 4 f fd ["self", "t"] (spRingM C) := by
  refine F.ok sc_ring (fun vs H Q E h => ?_) (fun cdv A outer s H vs Q E hr h => ?_)
  · obtain ⟨x, a, t, rfl, _⟩ := h
    rfl
  · obtain ⟨x, a, t, rfl, ⟨g, ear, _, dx, j, e, es, hx, ⟨hJ, _⟩, _⟩, N, k⟩ := h
    refine ⟨_, (pss_cons (ps_if (pt_val (pe_call A_wrong_times.ok (hr.mono (by decide)) rfl A_wrong_times.gl A_wrong_times.kp A_wrong_times.bi .nil pass0 (pa_cons (pv 1) pa_nil)))
      (pss_one (ps_ret (pe_lst (pa_cons (pe_gl rfl G.g_OUT_OF_RANGE) pa_nil))))
      pss_nil)
    (pss_cons (ps_set (i := 2) sc_ring.nd rfl (.inl rfl) (pe_call A_lines_in_shortest_ring.ok (hr.mono (by decide)) rfl A_lines_in_shortest_ring.gl A_lines_in_shortest_ring.kp A_lines_in_shortest_ring.bi .nil pass0 (pa_cons (pe_fld (pv 0) rfl) (pa_cons (pe_meth (pv 0) T.cl M_kept_for.me M_kept_for.ok (hr.mono (by decide)) M_kept_for.bi .nil pass0 (pa_cons (pv 1) pa_nil)) pa_nil))))
    (pss_cons (ps_if (pt_cmpR op_eq (pv 2) (pe_gl rfl G.g_FAR) (nomark _))
      (pss_one (ps_ret (pe_lst (pa_cons (pe_gl rfl G.g_NONE_THERE) pa_nil))))
      pss_nil)
    (pss_one (ps_ret (pe_lst (pa_cons (pv 2) pa_nil))))))), ?_⟩
    have few := N.few
    refine ⟨_, rfl, t, rfl, _, rfl, ?_⟩
    by_cases c : okT t = false
    · rw [lk_ring0 c] at k
      refine iteP (by rw [c]; rfl) ?_
      exact ⟨(by show 1 ≤ sizeLine; decide), fun p hp => k _ p (same_upd hp) hp upd_same⟩
    · rw [lk_ring1 c] at k
      obtain ⟨t1, t9⟩ := okT_iff.mp c
      obtain ⟨ek, sub⟩ := N.toNet8.kept t9
      refine iteN (by rw [Bool.not_eq_false', ← Bool.not_eq_false]; exact c) ?_
      refine ⟨_, rfl, x, C, dx, _, _, rfl, hx, T.cl, T.nS, pf_size _ j e, _, rfl, x, dx, _, rfl, hx, pf_no _ j e (by decide +kernel) (by decide +kernel) (by decide +kernel), _, rfl, x, dx, j, e, a.now.n, t, a.now.lines, rfl, hx, hJ, N.ok, N.n8, by omega, by omega, fun H1 q s1 nq hq => ?_⟩
      rw [ek] at hq
      have := sub.length_le
      refine ⟨a.now.n, q, a.now.kept t, rfl, hq, N.ok.sub sub, N.n8, by omega, fun H2 s2 => ?_⟩
      have s12 := same_tr s1 s2
      obtain ⟨er, rb⟩ := ring_is (N.ok.sub sub) N.n8
      rw [er]
      refine ⟨_, rfl, rfl, _, rfl, ?_⟩
      cases ew : Kv402.ringOf a.now.n (a.now.kept t) with
      | none =>
        rw [ew] at k
        refine iteP (decide_eq_true rfl) ?_
        exact ⟨(by show 1 ≤ sizeLine; decide), fun p hp => k _ p (same_new s12 hp) (s12.free hp) upd_same⟩
      | some z =>
        rw [ew] at k
        have := rb z ew
        refine iteN (decide_eq_false (by
          intro y
          injection y with y
          have y : (z : Int) = 10000 := y
          omega)) ?_
        exact ⟨_, rfl, (by show 1 ≤ sizeLine; decide), fun p hp => k _ p (same_new s12 hp) (s12.free hp) upd_same⟩
theorem ok_doesM {f fW fO fP fA C : Addr} {fd fdW fdO fdP fdA : FuncData} (F : Fun K "does" "Places.does" s_does f fd) (G : Gtop mg) (T : Txt K mg C)
    (A_wrong_times : At P w K mg base 1 "wrong_times" ["t"] spWrong fW fdW) (A_lines_do : At P w K mg base 2 "lines_do" ["chosen", "whole", "times"] spDo fO fdO) (A_picked : At P w K mg base 1 "picked" ["lines", "numbers"] spPick fP fdP)
    (A_all_distances : At P w K mg base 2 "all_distances" ["size", "lines"] spAll fA fdA) : FnOk P w K mg base CX0 3 f fd ["self", "t", "row"] (spDoes C) := by
  refine F.ok sc_does (fun vs H Q E h => ?_) (fun cdv A outer s H vs Q E hr h => ?_)
  · obtain ⟨x, r, a, t, l, rfl, _⟩ := h
    rfl
  · obtain ⟨x, r, a, t, l, rfl, hR, hl, ⟨g, ear, _, dx, j, e, es, hx, ⟨hJ, _⟩, _⟩, N, k⟩ := h
    refine ⟨_, (pss_cons (ps_if (pt_val (pe_call A_wrong_times.ok (hr.mono (by decide)) rfl A_wrong_times.gl A_wrong_times.kp A_wrong_times.bi .nil pass0 (pa_cons (pv 1) pa_nil)))
      (pss_one (ps_ret (pe_lst (pa_cons (pe_gl rfl G.g_OUT_OF_RANGE) pa_nil))))
      pss_nil)
    (pss_cons (ps_if (pt_val (pe_callB (cr_any rfl) (by rfl) G.b_any (by decide +kernel) (pa_cons (pe_lc (own := [("number", 3)]) (g := gName 3) (tt := tYes) (te := tOp (rI0 fun i j => .bl (decide (j ≤ i))) (tVar 3) (tCB (fun xs H Q => ∃ p ys, xs = [.ref p] ∧ (SqL K H p ys ∨ SqT K H p ys) ∧ Q (.int ys.length) H) (tCons (tFld K (tVar 0) "joined") tNil))) (by rfl) sc_does.nd (pi_list (pv 2)) (blkOk_by (own := [("number", 3)]) (N := ["self", "t", "row", "number"]) (sc := defScope s_does) (by decide +kernel)) (fun _ _ _ _ _ => pg_name (i := 3) sc_does.nd rfl (Or.inl rfl)) (fun _ _ _ _ _ => pts_nil) (fun _ _ _ _ _ => pe_cmpR op_ge (pv 3) (pe_callB call_len_seq (by rfl) G.b_len PySem.boot_len (pa_cons (pe_fld (pv 0) rfl) pa_nil)) (nomark _))) pa_nil)))
      (pss_one (ps_ret (pe_lst (pa_cons (pe_gl rfl G.g_NO_SUCH) pa_nil))))
      pss_nil)
    (pss_cons (ps_if (pt_val (pe_call A_lines_do.ok (hr.mono (by decide)) rfl A_lines_do.gl A_lines_do.kp A_lines_do.bi .nil pass0 (pa_cons (pe_call A_picked.ok (hr.mono (by decide)) rfl A_picked.gl A_picked.kp A_picked.bi .nil pass0 (pa_cons (pe_fld (pv 0) rfl) (pa_cons (pv 2) pa_nil))) (pa_cons (pe_call A_all_distances.ok (hr.mono (by decide)) rfl A_all_distances.gl A_all_distances.kp A_all_distances.bi .nil pass0 (pa_cons (pe_fld (pv 0) rfl) (pa_cons (pe_fld (pv 0) rfl) pa_nil))) (pa_cons (pv 1) pa_nil)))))
      (pss_one (ps_ret (pe_lst (pa_cons (pe_int) pa_nil))))
      pss_nil)
    (pss_one (ps_ret (pe_lst (pa_cons (pe_int) pa_nil))))))), ?_⟩
    have few := N.few
    refine ⟨_, rfl, t, rfl, _, rfl, ?_⟩
    by_cases c : okT t = false
    · rw [lk_does0 c] at k
      refine iteP (by rw [c]; rfl) ?_
      exact ⟨(by show 1 ≤ sizeLine; decide), fun p hp => k _ p (same_upd hp) hp upd_same⟩
    · obtain ⟨t1, t9⟩ := okT_iff.mp c
      refine iteN (by rw [Bool.not_eq_false', ← Bool.not_eq_false]; exact c) ?_
      obtain ⟨ts, hA, hT⟩ := id hJ
      have lT := hT.len
      refine ⟨_, rfl, r, rfl, ⟨_, SqL.of hR⟩, fun D hD => lc_list (K := K) (a := r) (xs := l.map vN) (fun i H' => Same H H' ∧ H' D = some (.lst (((l.take i).map fun m => decide (a.now.lines.length ≤ m)).map V.bl))) ⟨same_upd hD, upd_same⟩ (fun i H' _ h => SqL.of (h.1 _ _ hR)) ?_ ?_⟩
      · rintro i y H1 hi ⟨s1, hP⟩
        rw [List.getElem?_map] at hi
        obtain ⟨m, hm, rfl⟩ : ∃ m, l[i]? = some m ∧ vN m = y := by
          cases q : l[i]? with
          | none => rw [q] at hi; cases hi
          | some m => rw [q] at hi; exact ⟨m, rfl, Option.some.inj hi⟩
        refine ⟨rfl, ?_⟩
        refine ⟨_, rfl, _, rfl, x, C, dx, _, _, rfl, s1 _ _ hx, T.cl, T.nJ, pf_joined _ j e, j, _, rfl, .inl (SqL.of (s1 _ _ hA)), _, _, rfl, rfl, _, hP, ?_, same_set hD s1, ?_⟩
        · refine small (m := 200) ?_ (by decide)
          rw [List.length_map, List.length_map, List.length_take]
          omega
        · rw [upd_same, take_more hm, List.map_append, List.map_append]
          have e1 : decide ((((ts.map V.ref).length : Nat) : Int) ≤ (m : Int)) = decide (a.now.lines.length ≤ m) := by
            rw [List.length_map, lT]
            exact decide_eq_decide.mpr (by omega)
          show some (HO.lst (_ ++ [V.bl (decide ((((ts.map V.ref).length : Nat) : Int) ≤ (m : Int)))])) = _
          rw [e1]
          rfl
      · rintro H1 ⟨s1, hP⟩
        rw [List.length_map, List.take_length] at hP
        refine ⟨D, _, rfl, SqL.of hP, _, rfl, ?_⟩
        rw [any_ids]
        refine ite2 (fun d => ?_) (fun d => ?_)
        · rw [lk_does1 c d] at k
          exact ⟨(by show 1 ≤ sizeLine; decide), fun p hp => k _ p (same_new s1 hp) (s1.free hp) upd_same⟩
        · rw [lk_does2 c d] at k
          refine ⟨_, rfl, x, C, dx, _, _, rfl, s1 _ _ hx, T.cl, T.nJ, pf_joined _ j e, _, rfl, j, r, a.now.lines, l, rfl, hJ.same s1, s1 _ _ hR, by omega, fun H2 p s2 np hp => ?_⟩
          have s12 := same_tr s1 s2
          refine ⟨_, rfl, x, C, dx, _, _, rfl, s12 _ _ hx, T.cl, T.nS, pf_size _ j e, _, rfl, x, C, dx, _, _, rfl, s12 _ _ hx, T.cl, T.nJ, pf_joined _ j e, a.now.n, j, a.now.lines, rfl, hJ.same s12, N.ok, N.n8, fun H3 wq s3 nwq hwq => ?_⟩
          refine ⟨_, rfl, a.now.n, t, p, wq, pick a.now.lines l, rowsOf a.now.n a.now.lines, rfl, hp.same s3, hwq, rows_len _ _, fun r hr => ?_, N.ok.sub (pick_sub _ _), N.n8, by omega, fun H4 s4 => ?_⟩
          · obtain ⟨u, _, rfl⟩ := List.mem_map.mp hr
            exact dists_len _ u
          · rw [N.toNet8.does_is (pick_sub _ _) t1 t9]
            have s14 := same_tr s12 (same_tr s3 s4)
            refine ⟨_, rfl, ?_⟩
            cases ed : a.now.does t (pick a.now.lines l) with
            | true =>
              rw [ed] at k
              exact ⟨(by show 1 ≤ sizeLine; decide), fun p hp => k _ p (same_new s14 hp) (s14.free hp) upd_same⟩
            | false =>
              rw [ed] at k
              exact ⟨(by show 1 ≤ sizeLine; decide), fun p hp => k _ p (same_new s14 hp) (s14.free hp) upd_same⟩
theorem ok_fewest {f fW fT fF C : Addr} {fd fdW fdT fdF : FuncData} (F : Fun K "fewest" "Places.fewest" s_fewest f fd) (G : Gtop mg) (T : Txt K mg C)
    (A_wrong_times : At P w K mg base 1 "wrong_times" ["t"] spWrong fW fdW) (A_told : At P w K mg base 1 "told" ["lines"] spTold fT fdT) (A_fewest_lines : At P w K mg base 4 "fewest_lines" ["size", "lines", "times"] spFew fF fdF) : FnOk P w K mg base CX0 5 f fd ["self", "t"] (spFewest C) := by
  refine F.ok sc_fewest (fun vs H Q E h => ?_) (fun cdv A outer s H vs Q E hr h => ?_)
  · obtain ⟨x, a, t, rfl, _⟩ := h
    rfl
  · obtain ⟨x, a, t, rfl, ⟨g, ear, _, dx, j, e, es, hx, ⟨hJ, _⟩, _⟩, N, k⟩ := h
    refine ⟨_, (pss_cons (ps_if (pt_val (pe_call A_wrong_times.ok (hr.mono (by decide)) rfl A_wrong_times.gl A_wrong_times.kp A_wrong_times.bi .nil pass0 (pa_cons (pv 1) pa_nil)))
      (pss_one (ps_ret (pe_lst (pa_cons (pe_gl rfl G.g_OUT_OF_RANGE) pa_nil))))
      pss_nil)
    (pss_cons (ps_if (pt_cmpR op_gt (pe_callB call_len_seq (by rfl) G.b_len PySem.boot_len (pa_cons (pe_fld (pv 0) rfl) pa_nil)) (pe_gl rfl G.g_MOST_TO_CHOOSE_FROM) (nomark _))
      (pss_one (ps_ret (pe_lst (pa_cons (pe_gl rfl G.g_TOO_MANY) pa_nil))))
      pss_nil)
    (pss_one (ps_ret (pe_call A_told.ok (hr.mono (by decide)) rfl A_told.gl A_told.kp A_told.bi .nil pass0 (pa_cons (pe_call A_fewest_lines.ok (hr.mono (by decide)) rfl A_fewest_lines.gl A_fewest_lines.kp A_fewest_lines.bi .nil pass0 (pa_cons (pe_fld (pv 0) rfl) (pa_cons (pe_fld (pv 0) rfl) (pa_cons (pv 1) pa_nil)))) pa_nil)))))), ?_⟩
    have few := N.few
    refine ⟨_, rfl, t, rfl, _, rfl, ?_⟩
    by_cases c : okT t = false
    · rw [lk_few0 c] at k
      refine iteP (by rw [c]; rfl) ?_
      exact ⟨(by show 1 ≤ sizeLine; decide), fun p hp => k _ p (same_upd hp) hp upd_same⟩
    · obtain ⟨t1, t9⟩ := okT_iff.mp c
      refine iteN (by rw [Bool.not_eq_false', ← Bool.not_eq_false]; exact c) ?_
      obtain ⟨ts, hA, hT⟩ := id hJ
      have lT := hT.len
      refine ⟨_, rfl, x, C, dx, _, _, rfl, hx, T.cl, T.nJ, pf_joined _ j e, j, _, rfl, .inl (SqL.of hA), _, _, rfl, rfl, _, rfl, ?_⟩
      rw [List.length_map, lT]
      refine ite2 (fun d => ?_) (fun d => ?_)
      · have d := of_decide_eq_true d
        rw [lk_few1 c (by omega)] at k
        exact ⟨(by show 1 ≤ sizeLine; decide), fun p hp => k _ p (same_upd hp) hp upd_same⟩
      · have d : ¬ 10 < a.now.lines.length := fun z => d (decide_eq_true (by omega))
        rw [lk_few2 c d] at k
        refine ⟨_, rfl, x, C, dx, _, _, rfl, hx, T.cl, T.nS, pf_size _ j e, _, rfl, x, C, dx, _, _, rfl, hx, T.cl, T.nJ, pf_joined _ j e, _, rfl, a.now, t, j, rfl, hJ, N.toNet8, by omega, t1, t9, fun H1 q s1 nq hq => ?_⟩
        have := few_len (g := a.now) t
        exact ⟨q, a.now.fewest t, rfl, hq, by omega, fun H' p s' np hp => k H' p (same_tr s1 s') (s1.free np) hp⟩
theorem ok_least {f fT fF C : Addr} {fd fdT fdF : FuncData} (F : Fun K "least" "Places.least" s_least f fd) (T : Txt K mg C)
    (A_told : At P w K mg base 1 "told" ["lines"] spTold fT fdT) (A_lightest_lines : At P w K mg base 2 "lightest_lines" ["size", "lines"] spLight fF fdF) : FnOk P w K mg base CX0 3 f fd ["self"] (spLeast C) := by
  refine F.ok sc_least (fun vs H Q E h => ?_) (fun cdv A outer s H vs Q E hr h => ?_)
  · obtain ⟨x, a, rfl, _⟩ := h
    rfl
  · obtain ⟨x, a, rfl, ⟨g, ear, _, dx, j, e, es, hx, ⟨hJ, _⟩, _⟩, N, k⟩ := h
    refine ⟨_, (pss_one (ps_ret (pe_call A_told.ok (hr.mono (by decide)) rfl A_told.gl A_told.kp A_told.bi .nil pass0 (pa_cons (pe_call A_lightest_lines.ok (hr.mono (by decide)) rfl A_lightest_lines.gl A_lightest_lines.kp A_lightest_lines.bi .nil pass0 (pa_cons (pe_fld (pv 0) rfl) (pa_cons (pe_fld (pv 0) rfl) pa_nil))) pa_nil)))), ?_⟩
    have few := N.few
    obtain ⟨l1, l2, _⟩ := N.toNet8.light
    refine ⟨_, rfl, x, C, dx, _, _, rfl, hx, T.cl, T.nS, pf_size _ j e, _, rfl, x, C, dx, _, _, rfl, hx, T.cl, T.nJ, pf_joined _ j e, a.now.n, j, a.now.lines, rfl, hJ, N.ok, N.n8, by omega, fun H1 q s1 nq hq => ?_⟩
    have := l2.length_le
    refine ⟨q, _, rfl, hq, by omega, fun H' p s' np hp => k H' p (same_tr s1 s') (s1.free np) ?_⟩
    rw [l1] at hp
    exact hp
end
end LL
namespace LL
open PySem PySem.Spec PyProof.Rows L2
open Kv402 (Line Net at_ Ans State act Call Abs okT flat lineList say num table ends put)
open Kv402Neutral (row)
/-- the object in a state that has begun -/
def HeldA (C : Addr) (H : Hp) (g x : Addr) (a : Abs) : Prop := Obj C H g x a.now.n a.now.lines (a.past.map Net.lines).reverse ∧ Good a.now ∧ (∀ m ∈ a.past, Good m ∧ m.n = a.now.n) ∧ a.past.length ≤ 10
/-- a call that may change -/
def Ch (C : Addr) (H : Hp) (Q : VK) (g x : Addr) (a : Abs) (c : Call) : Prop := HeldA C H g x a ∧
  ∀ H' p, Keep x H H' → H p = none → HeldA C H' g x (a.does c).1 → H' p = some (.lst ((row (a.does c).2).map V.int)) → Q (.ref p) H'
theorem HeldA.same {C : Addr} {H H' : Hp} {g x : Addr} {a : Abs} (s : Same H H') (h : HeldA C H g x a) : HeldA C H' g x a := ⟨h.1.same s, h.2⟩
/-- refused: the object is as it was -/
theorem Ch.no {C : Addr} {H : Hp} {Q : VK} {g x : Addr} {a : Abs} {c : Call} {v : Int} (h : Ch C H Q g x a c) (e : a.does c = (a, say v)) {H1 : Hp} (s : Same H H1) {p : Addr} (hp : H1 p = none) : Q (.ref p) (upd H1 p (.lst [V.int v])) := by
  refine h.2 _ p (keep_same (same_new s hp)) (s.free hp) ?_ ?_
  · rw [e]
    exact h.1.same (same_new s hp)
  · rw [e]
    exact upd_same
theorem ear_more (L : Net → List Line) (now : Net) (past : List Net) : ((past.map L).reverse ++ [L now]).drop ((past.map L).reverse.length + 1 - 10) = (((now :: past).take 10).map L).reverse := by
  have e : (past.map L).reverse ++ [L now] = ((now :: past).map L).reverse := by
    rw [List.map_cons, List.reverse_cons]
  rw [e, List.drop_reverse, ← List.map_take]
  congr 2
  rw [List.length_reverse, List.length_map, List.length_map, List.length_cons]
  by_cases c : past.length + 1 ≤ 10
  · rw [List.take_of_length_le (by simp; omega), List.take_of_length_le (by simp; omega)]
  · rw [show past.length + 1 - (past.length + 1 - 10) = 10 by omega]
theorem past_good {a : Abs} (G : Good a.now) (h : ∀ m ∈ a.past, Good m ∧ m.n = a.now.n) {g : Net} (hg : g.n = a.now.n) : (∀ m ∈ (a.now :: a.past).take 10, Good m ∧ m.n = g.n) ∧ ((a.now :: a.past).take 10).length ≤ 10 := by
  refine ⟨fun m hm => ?_, by rw [List.length_take]; omega⟩
  rw [hg]
  rcases List.mem_cons.mp (List.mem_of_mem_take hm) with rfl | h2
  · exact ⟨G, rfl⟩
  · exact h m h2
/-- changed: what changed_to leaves is what is wanted -/
theorem Ch.yes {C : Addr} {H : Hp} {Q : VK} {g x : Addr} {a : Abs} {c : Call} (h : Ch C H Q g x a c) {s' : List Line} (e : a.does c = a.to_ { a.now with lines := s' } (num s'.length)) (G2 : Good { a.now with lines := s' }) {H1 : Hp} (s : Same H H1)
    {H' : Hp} {q : Addr} (k : Keep x H1 H') (nq : H1 q = none) (ob : Obj C H' g x a.now.n s' (((a.past.map Net.lines).reverse ++ [a.now.lines]).drop ((a.past.map Net.lines).reverse.length + 1 - 10))) (hq : H' q = some (.lst [vN s'.length])) : Q (.ref q) H' := by
  obtain ⟨p1, p2⟩ := past_good h.1.2.1 h.1.2.2.1 (g := { a.now with lines := s' }) rfl
  refine h.2 H' q (keep_tr (keep_same s) k) (s.free nq) ?_ ?_
  · rw [e]
    refine ⟨?_, G2, p1, p2⟩
    rw [ear_more] at ob
    exact ob
  · rw [e]
    exact hq
theorem perm_tups {H : Hp} {ys xs : List V} (h : ys.Perm xs) : ∀ (ts : List Addr) (s : List Line), xs = ts.map V.ref → Tups H ts s → ∃ ts' s', ys = ts'.map V.ref ∧ Tups H ts' s' ∧ s'.Perm s := by
  induction h with
  | nil =>
    intro ts s e hT
    cases ts with
    | nil => exact ⟨[], s, rfl, hT, List.Perm.refl _⟩
    | cons => cases e
  | @cons x l1 l2 _ ih =>
    intro ts s e hT
    cases ts with
    | nil => cases e
    | cons t ts =>
      cases s with
      | nil => exact hT.elim
      | cons l s =>
        obtain ⟨e1, e2⟩ := List.cons.inj e
        obtain ⟨ts', s', q1, q2, q3⟩ := ih ts s e2 hT.2
        exact ⟨t :: ts', l :: s', by rw [List.map_cons, ← q1, e1], ⟨hT.1, q2⟩, q3.cons l⟩
  | swap x y l =>
    intro ts s e hT
    match ts, s, hT, e with
    | t :: u :: ts, m :: k :: s, ⟨h1, h2, h3⟩, e =>
      obtain ⟨e1, e⟩ := List.cons.inj e
      obtain ⟨e2, e3⟩ := List.cons.inj e
      exact ⟨u :: t :: ts, k :: m :: s, by rw [e1, e2, e3]; rfl, ⟨h2, h1, h3⟩, List.Perm.swap ..⟩
    | t :: u :: ts, [m], ⟨_, h⟩, _ => exact h.elim
    | t :: u :: ts, [], h, _ => exact h.elim
    | [t], _, _, e => cases e
    | [], _, _, e => cases e
  | trans _ _ ih1 ih2 =>
    intro ts s e hT
    obtain ⟨ts2, s2, a1, a2, a3⟩ := ih2 ts s e hT
    obtain ⟨ts1, s1, b1, b2, b3⟩ := ih1 ts2 s2 a1 a2
    exact ⟨ts1, s1, b1, b2, b3.trans a3⟩
theorem code_key (l : Line) : TS.code 100 [(l.w : Int), (l.a : Int), (l.b : Int)] = ((key l : Nat) : Int) := by
  show (l.w : Int) * 100 ^ 2 + ((l.a : Int) * 100 ^ 1 + ((l.b : Int) * 100 ^ 0 + 0)) = _
  unfold key
  simp only [show (100 : Int) ^ 2 = 10000 from rfl, show (100 : Int) ^ 1 = 100 from rfl, show (100 : Int) ^ 0 = 1 from rfl]
  omega
theorem pw_key {K : PySem.W.Frag} {H : Hp} : ∀ {ts : List Addr} {s : List Line}, Tups H ts s → (ts.map V.ref).Pairwise (fun x y => ∀ n m, TupI K H x n → TupI K H y m → TS.code 100 n ≤ TS.code 100 m) → s.Pairwise KLe
  | [], [], _, _ => .nil
  | t :: ts, l :: s, ⟨h1, h2⟩, h => by
    rw [List.map_cons, List.pairwise_cons] at h
    refine List.pairwise_cons.mpr ⟨fun m hm => ?_, pw_key h2 h.2⟩
    obtain ⟨i, hi⟩ := List.getElem?_of_mem hm
    have hlt : i < (ts.map V.ref).length := by
      rw [List.length_map, h2.len]
      exact (List.getElem?_eq_some_iff.mp hi).1
    obtain ⟨t2, m2, e1, _, e2, e3⟩ := h2.get (List.getElem?_eq_getElem hlt)
    rw [hi] at e2
    cases e2
    have mem : V.ref t2 ∈ ts.map V.ref := by rw [← e1]; exact List.getElem_mem hlt
    have := h.1 _ mem [(l.w : Int), (l.a : Int), (l.b : Int)] [(m.w : Int), (m.a : Int), (m.b : Int)] ⟨t, rfl, SqT.of h1⟩ ⟨t2, rfl, SqT.of e3⟩
    rw [code_key, code_key] at this
    show key l ≤ key m
    omega
  | [], _ :: _, h, _ => h.elim
  | _ :: _, [], h, _ => h.elim
theorem Tups.mem {H : Hp} : ∀ {ts : List Addr} {s : List Line}, Tups H ts s → ∀ x ∈ ts.map V.ref, ∃ t l, x = .ref t ∧ l ∈ s ∧ H t = some (.tup (vL l))
  | [], [], _, x, h => by cases h
  | t :: ts, l :: s, ⟨h1, h2⟩, x, h => by
    rcases List.mem_cons.mp h with rfl | h
    · exact ⟨t, l, rfl, by simp, h1⟩
    · obtain ⟨t', l', e1, e2, e3⟩ := h2.mem x h
      exact ⟨t', l', e1, by simp [e2], e3⟩
  | [], _ :: _, h, _, _ => h.elim
  | _ :: _, [], h, _, _ => h.elim
theorem max_int {a b : Nat} : (if (a : Int) < ((b : Nat) : Int) then ((b : Nat) : Int) else (a : Int)) = ((max a b : Nat) : Int) := by
  by_cases c : a < b
  · rw [if_pos (by omega)]
    omega
  · rw [if_neg (by omega)]
    omega
theorem other_iff {m : Line} (h : m.a < m.b) {u v : Nat} (ne : u ≠ v) : (!ends m u v) = true ↔ (m.a ≠ min u v ∨ m.b ≠ max u v) := by
  have e := ends_iff (l := m) (u := u) (v := v)
  cases q : ends m u v with
  | true =>
    have := e.mp q
    constructor
    · intro z; cases z
    · intro z; omega
  | false =>
    have : ¬ ends m u v = true := by rw [q]; exact Bool.false_ne_true
    rw [e] at this
    constructor
    · intro _; omega
    · intro _; rfl
abbrev s_line : Stmt := inClass (top 34) 6
theorem sc_line : FnScope ["self", "a", "b", "w", "lesser", "other", "others", "one"] ["self", "a", "b", "w"] (defScope s_line) := ⟨rfl, rfl, rfl, by decide +kernel, rfl, by decide +kernel, by decide +kernel⟩
def spLine (C : Addr) : Sp := fun vs H Q _ => ∃ (g x : Addr) (a : Abs) (u v z : Nat), vs = [.ref x, vN u, vN v, vN z] ∧ Ch C H Q g x a (.line u v z)
abbrev s_cut : Stmt := inClass (top 34) 7
theorem sc_cut : FnScope ["self", "i"] ["self", "i"] (defScope s_cut) := ⟨rfl, rfl, rfl, by decide +kernel, rfl, by decide +kernel, by decide +kernel⟩
def spCut (C : Addr) : Sp := fun vs H Q _ => ∃ (g x : Addr) (a : Abs) (i : Nat), vs = [.ref x, vN i] ∧ Ch C H Q g x a (.cut i)
abbrev s_leave : Stmt := inClass (top 34) 8
theorem sc_leave : FnScope ["self", "t"] ["self", "t"] (defScope s_leave) := ⟨rfl, rfl, rfl, by decide +kernel, rfl, by decide +kernel, by decide +kernel⟩
def spLeave (C : Addr) : Sp := fun vs H Q _ => ∃ (g x : Addr) (a : Abs) (t : Nat), vs = [.ref x, vN t] ∧ Ch C H Q g x a (.leave t)
theorem cut_head (xs : List V) {i : Nat} (h : i ≤ xs.length) : cutV xs none (some (i : Int)) = xs.take i := by
  unfold cutV
  rw [HT.sIx_none, HT.sIx_nat, List.drop_zero, Nat.sub_zero, Nat.min_eq_left h]
theorem cut_tail (xs : List V) {i : Nat} (h : i ≤ xs.length) : cutV xs (some (i : Int)) none = xs.drop i := by
  unfold cutV
  rw [HT.sIx_none, HT.sIx_nat, Nat.min_eq_left h, List.take_of_length_le (by rw [List.length_drop]; exact Nat.le_refl _)]
theorem Tups.take {H : Hp} : ∀ (i : Nat) {ts : List Addr} {s : List Line}, Tups H ts s → Tups H (ts.take i) (s.take i)
  | 0, _, _, _ => trivial
  | _ + 1, [], [], h => h
  | i + 1, _ :: _, _ :: _, ⟨h, r⟩ => ⟨h, Tups.take i r⟩
  | _ + 1, [], _ :: _, h => h.elim
  | _ + 1, _ :: _, [], h => h.elim
theorem Tups.drop {H : Hp} : ∀ (i : Nat) {ts : List Addr} {s : List Line}, Tups H ts s → Tups H (ts.drop i) (s.drop i)
  | 0, _, _, h => h
  | _ + 1, [], [], h => h
  | i + 1, _ :: _, _ :: _, ⟨_, r⟩ => Tups.drop i r
  | _ + 1, [], _ :: _, h => h.elim
  | _ + 1, _ :: _, [], h => h.elim
section
variable {P : Program} {w : World} {K : PySem.W.Frag} {mg : Str → Option Value} {base : Heap}
theorem ok_leave {f fW fK fH C : Addr} {fd fdW fdK fdH : FuncData} (F : Fun K "leave" "Places.leave" s_leave f fd) (G : Gtop mg) (T : Txt K mg C)
    (A_wrong_times : At P w K mg base 1 "wrong_times" ["t"] spWrong fW fdW) (M_kept_for : Mt P w K mg base C 3 "kept_for" ["self", "t"] (spKeptFor C) fK fdK) (M_changed_to : Mt P w K mg base C 1 "changed_to" ["self", "lines"] (spChanged C) fH fdH) : FnOk P w K mg base CX0 4 f fd ["self", "t"] (spLeave C) := by
  refine F.ok sc_leave (fun vs H Q E h => ?_) (fun cdv A outer s H vs Q E hr h => ?_)
  · obtain ⟨g, x, a, t, rfl, _⟩ := h
    rfl
  · obtain ⟨g, x, a, t, rfl, h⟩ := h
    obtain ⟨⟨ob, N, hp, hl⟩, _⟩ := id h
    obtain ⟨⟨xs, hg⟩, dx, j, e, es, hx, ⟨hJ, _⟩, _⟩ := id ob
    refine ⟨_, (pss_cons (ps_if (pt_val (pe_call A_wrong_times.ok (hr.mono (by decide)) rfl A_wrong_times.gl A_wrong_times.kp A_wrong_times.bi .nil pass0 (pa_cons (pv 1) pa_nil)))
      (pss_one (ps_ret (pe_lst (pa_cons (pe_gl rfl G.g_OUT_OF_RANGE) pa_nil))))
      pss_nil)
    (pss_one (ps_ret (pe_meth (pv 0) T.cl M_changed_to.me M_changed_to.ok (hr.mono (by decide)) M_changed_to.bi .nil pass0 (pa_cons (pe_meth (pv 0) T.cl M_kept_for.me M_kept_for.ok (hr.mono (by decide)) M_kept_for.bi .nil pass0 (pa_cons (pv 1) pa_nil)) pa_nil))))), ?_⟩
    have few := N.few
    refine ⟨_, rfl, t, rfl, _, rfl, ?_⟩
    by_cases c : okT t = false
    · refine iteP (by rw [c]; rfl) ?_
      exact ⟨(by show 1 ≤ sizeLine; decide), fun p hp => h.no (v := -22) (if_pos c) (fun _ _ z => z) hp⟩
    · obtain ⟨t1, t9⟩ := okT_iff.mp c
      obtain ⟨ek, sub⟩ := N.toNet8.kept t9
      refine iteN (by rw [Bool.not_eq_false', ← Bool.not_eq_false]; exact c) ?_
      refine ⟨_, rfl, x, dx, _, rfl, hx, pf_no _ j e (by decide +kernel) (by decide +kernel) (by decide +kernel), _, rfl, x, dx, _, rfl, hx, pf_no _ j e (by decide +kernel) (by decide +kernel) (by decide +kernel), _, rfl, x, dx, j, e, a.now.n, t, a.now.lines, rfl, hx, hJ, N.ok, N.n8, by omega, by omega, fun H1 q s1 nq hq => ?_⟩
      rw [ek] at hq
      refine ⟨g, x, q, a.now.n, a.now.lines, a.now.kept t, _, rfl, ob.same s1, hq, (ne_of_none hg nq).symm, by rw [List.length_reverse, List.length_map]; omega, fun H2 r k2 nr ob2 hr2 => ?_⟩
      exact h.yes (s' := a.now.kept t) (if_neg c) (N.sub sub) s1 k2 nr ob2 hr2
theorem ok_cut {f fH C : Addr} {fd fdH : FuncData} (F : Fun K "cut" "Places.cut" s_cut f fd) (G : Gtop mg) (T : Txt K mg C)
    (M_changed_to : Mt P w K mg base C 1 "changed_to" ["self", "lines"] (spChanged C) fH fdH) : FnOk P w K mg base CX0 2 f fd ["self", "i"] (spCut C) := by
  refine F.ok sc_cut (fun vs H Q E h => ?_) (fun cdv A outer s H vs Q E hr h => ?_)
  · obtain ⟨g, x, a, i, rfl, _⟩ := h
    rfl
  · obtain ⟨g, x, a, i, rfl, h⟩ := h
    obtain ⟨⟨ob, N, hp, hl⟩, _⟩ := id h
    obtain ⟨⟨xs, hg⟩, dx, j, e, es, hx, ⟨⟨ts, hA, hT⟩, _⟩, _⟩ := id ob
    refine ⟨_, (pss_cons (ps_if (pt_cmpR op_ge (pv 1) (pe_callB call_len_seq (by rfl) G.b_len PySem.boot_len (pa_cons (pe_fld (pv 0) rfl) pa_nil)) (nomark _))
      (pss_one (ps_ret (pe_lst (pa_cons (pe_gl rfl G.g_NO_SUCH) pa_nil))))
      pss_nil)
    (pss_one (ps_ret (pe_meth (pv 0) T.cl M_changed_to.me M_changed_to.ok (hr.mono (by decide)) M_changed_to.bi .nil pass0 (pa_cons (pe_op op_cat (pe_slice sl_list (pe_fld (pv 0) rfl) po_none (po_some (pv 1))) (pe_slice sl_list (pe_fld (pv 0) rfl) (po_some (pe_op op_add (pv 1) (pe_int))) po_none)) pa_nil))))), ?_⟩
    have few := N.few
    have lT := hT.len
    refine ⟨_, rfl, _, rfl, x, C, dx, _, _, rfl, hx, T.cl, T.nJ, pf_joined _ j e, j, _, rfl, .inl (SqL.of hA), _, _, rfl, rfl, _, rfl, ?_⟩
    rw [List.length_map, lT]
    refine ite2 (fun c => ?_) (fun c => ?_)
    · have c := of_decide_eq_true c
      exact ⟨(by show 1 ≤ sizeLine; decide), fun p hp => h.no (v := -2) (if_pos (by omega)) (fun _ _ z => z) hp⟩
    · have c : ¬ a.now.lines.length ≤ i := fun z => c (decide_eq_true (by omega))
      refine ⟨_, rfl, x, dx, _, rfl, hx, pf_no _ j e (by decide +kernel) (by decide +kernel) (by decide +kernel), _, rfl, x, C, dx, _, _, rfl, hx, T.cl, T.nJ, pf_joined _ j e, _, rfl, _, rfl, j, _, rfl, SqL.of hA, fun q hq => ?_⟩
      rw [cut_head _ (by rw [List.length_map]; omega)]
      have s1 := same_upd (o := .lst ((ts.map V.ref).take i)) hq
      refine ⟨_, rfl, x, C, dx, _, _, rfl, s1 _ _ hx, T.cl, T.nJ, pf_joined _ j e, _, rfl, _, _, rfl, rfl, _, rfl, j, _, rfl, SqL.of (s1 _ _ hA), fun r hr' => ?_⟩
      have ec : cutV (ts.map V.ref) (some ((i : Int) + 1)) none = (ts.map V.ref).drop (i + 1) := cut_tail (i := i + 1) _ (by rw [List.length_map]; omega)
      rw [ec]
      have s2 := same_new (o := .lst ((ts.map V.ref).drop (i + 1))) s1 hr'
      have nqr : q ≠ r := fun z => by rw [← z, upd_same] at hr'; cases hr'
      refine ⟨q, r, _, _, rfl, rfl, by rw [upd_ne nqr, upd_same], upd_same, ?_, fun m hm => ?_⟩
      · refine Nat.le_of_lt (small (m := 100) ?_ (by decide))
        rw [List.length_take, List.length_drop, List.length_map]
        omega
      have s3 := same_new (o := .lst ((ts.map V.ref).take i ++ (ts.map V.ref).drop (i + 1))) s2 hm
      have nm : H m = none := s2.free hm
      have hL : LinesAt (upd (upd (upd H q (.lst ((ts.map V.ref).take i))) r (.lst ((ts.map V.ref).drop (i + 1)))) m (.lst ((ts.map V.ref).take i ++ (ts.map V.ref).drop (i + 1)))) m (a.now.lines.eraseIdx i) := by
        refine ⟨ts.take i ++ ts.drop (i + 1), ?_, ?_⟩
        · rw [upd_same, List.map_append, List.map_take, List.map_drop]
        · rw [List.eraseIdx_eq_take_drop_succ]
          exact Tups.app ((hT.same s3).take i) ((hT.same s3).drop (i + 1))
      refine ⟨g, x, m, a.now.n, a.now.lines, a.now.lines.eraseIdx i, _, rfl, ob.same s3, hL, (ne_of_none hg nm).symm, by rw [List.length_reverse, List.length_map]; omega, fun H2 y k2 ny ob2 hy2 => ?_⟩
      refine h.yes (s' := a.now.lines.eraseIdx i) ((if_neg c).trans ?_) (N.sub (List.eraseIdx_sublist ..)) s3 k2 ny ob2 hy2
      rw [List.length_eraseIdx_of_lt (by omega)]
theorem ok_line {f fL fH C : Addr} {fd fdL fdH : FuncData} (F : Fun K "line" "Places.line" s_line f fd) (G : Gtop mg) (T : Txt K mg C)
    (M_lacks : Mt P w K mg base C 1 "lacks" ["self", "u", "v"] (spLacks C) fL fdL) (M_changed_to : Mt P w K mg base C 1 "changed_to" ["self", "lines"] (spChanged C) fH fdH) : FnOk P w K mg base CX0 2 f fd ["self", "a", "b", "w"] (spLine C) := by
  refine F.ok sc_line (fun vs H Q E h => ?_) (fun cdv A outer s H vs Q E hr h => ?_)
  · obtain ⟨g, x, a, u, v, z, rfl, _⟩ := h
    rfl
  · obtain ⟨g, x, a, u, v, z, rfl, h⟩ := h
    obtain ⟨⟨ob, N, hp, hl⟩, _⟩ := id h
    obtain ⟨⟨xs, hg⟩, dx, j, e, es, hx, ⟨⟨ts, hA, hT⟩, _⟩, _⟩ := id ob
    refine ⟨_, (pss_cons (ps_if (pt_val (pe_meth (pv 0) T.cl M_lacks.me M_lacks.ok (hr.mono (by decide)) M_lacks.bi .nil pass0 (pa_cons (pv 1) (pa_cons (pv 2) pa_nil))))
      (pss_one (ps_ret (pe_lst (pa_cons (pe_gl rfl G.g_NO_SUCH) pa_nil))))
      pss_nil)
    (pss_cons (ps_if (PW.pt (pw_or (pt_cmpR op_eq (pv 1) (pv 2) (nomark _)) (pw_or (pt_cmpR op_lt (pv 3) (pe_int) (nomark _)) (pw_or1 (pt_cmpR op_gt (pv 3) (pe_gl rfl G.g_MOST_LENGTH) (nomark _))))))
      (pss_one (ps_ret (pe_lst (pa_cons (pe_gl rfl G.g_OUT_OF_RANGE) pa_nil))))
      pss_nil)
    (pss_cons (ps_set (i := 4) sc_line.nd rfl (.inr rfl) (pe_callB (call_min2 rfl) (by rfl) G.b_min (by decide +kernel) (pa_cons (pv 1) (pa_cons (pv 2) pa_nil))))
    (pss_cons (ps_set (i := 5) sc_line.nd rfl (.inr rfl) (pe_callB (call_max2 rfl) (by rfl) G.b_max (by decide +kernel) (pa_cons (pv 1) (pa_cons (pv 2) pa_nil))))
    (pss_cons (ps_setLc (i := 6) (own := [("one", 7)]) (g := gName 7) (tt := tOr (tTest (tOp rNe (tOp (rIxT K) (tVar 7) (tC (.int 1))) (tVar 4))) (tTest (tOp rNe (tOp (rIxT K) (tVar 7) (tC (.int 2))) (tVar 5)))) (te := tVar 7) (by rfl) sc_line.nd rfl rfl (sw_true rfl rfl rfl (by decide +kernel)) (pi_list (pe_fld (pv 0) rfl)) (blkOk_by (own := [("one", 7)]) (N := ["self", "a", "b", "w", "lesser", "other", "others", "one"]) (sc := defScope s_line) (by decide +kernel)) (fun _ _ _ _ _ => pg_name (i := 7) sc_line.nd rfl (Or.inl rfl)) (fun _ _ _ _ _ => pts_one (PW.pt (pw_or (pt_cmpR op_ne (pe_ix ix_tup (pv 7) (pe_int) (fun _ _ => rfl)) (pv 4) (nomark _)) (pw_or1 (pt_cmpR op_ne (pe_ix ix_tup (pv 7) (pe_int) (fun _ _ => rfl)) (pv 5) (nomark _)))))) (fun _ _ _ _ _ => pv 7))
    (pss_cons (ps_if (pt_cmpR op_ge (pe_callB call_len_seq (by rfl) G.b_len PySem.boot_len (pa_cons (pv 6) pa_nil)) (pe_gl rfl G.g_MOST_LINES) (nomark _))
      (pss_one (ps_ret (pe_lst (pa_cons (pe_gl rfl G.g_TOO_MANY) pa_nil))))
      pss_nil)
    (pss_one (ps_ret (pe_meth (pv 0) T.cl M_changed_to.me M_changed_to.ok (hr.mono (by decide)) M_changed_to.bi .nil pass0 (pa_cons (pe_callB (cr_sortT (d := 3) (B := 100) (by decide)) (by rfl) G.b_sorted (by decide +kernel) (pa_cons (pe_op op_cat (pv 6) (pe_lst (pa_cons (pe_tup (pa_cons (pv 3) (pa_cons (pv 4) (pa_cons (pv 5) pa_nil)))) pa_nil))) pa_nil)) pa_nil)))))))))), ?_⟩
    have few := N.few
    have n8 := N.n8
    have lT := hT.len
    refine ⟨_, rfl, x, dx, _, rfl, hx, pf_no _ j e (by decide +kernel) (by decide +kernel) (by decide +kernel), _, rfl, _, rfl, x, dx, j, e, a.now.n, u, v, rfl, hx, _, rfl, ?_⟩
    refine ite2 (fun c => ?_) (fun c => ?_)
    · have c := lacks_iff.mp c
      exact ⟨(by show 1 ≤ sizeLine; decide), fun p hp => h.no (v := -2) (if_pos c) (fun _ _ z => z) hp⟩
    have c : ¬ (a.now.n ≤ u ∨ a.now.n ≤ v) := fun y => c (lacks_iff.mpr y)
    have bad : u = v ∨ z = 0 ∨ 99 < z → ∀ p, H p = none → Q (.ref p) (upd H p (.lst [V.int (-22)])) := fun d p hp => h.no (v := -22) ((if_neg c).trans (if_pos d)) (fun _ _ z => z) hp
    refine ⟨_, rfl, _, rfl, rfl, _, rfl, ?_⟩
    refine ite2 (fun d1 => ?_) (fun d1 => ?_)
    · have d1 := vN_true.mp d1
      exact ⟨(by show 1 ≤ sizeLine; decide), fun p hp => bad (.inl d1) p hp⟩
    have d1 : ¬ u = v := fun y => d1 (vN_true.mpr y)
    refine ⟨_, rfl, _, _, rfl, rfl, _, rfl, ?_⟩
    refine ite2 (fun d2 => ?_) (fun d2 => ?_)
    · have d2 := of_decide_eq_true d2
      exact ⟨(by show 1 ≤ sizeLine; decide), fun p hp => bad (by omega) p hp⟩
    have d2 : ¬ (z : Int) < 1 := fun y => d2 (decide_eq_true y)
    refine ⟨_, rfl, _, _, rfl, rfl, _, rfl, ?_⟩
    refine ite2 (fun d3 => ?_) (fun d3 => ?_)
    · have d3 := of_decide_eq_true d3
      exact ⟨(by show 1 ≤ sizeLine; decide), fun p hp => bad (by omega) p hp⟩
    have d3 : ¬ (99 : Int) < (z : Int) := fun y => d3 (decide_eq_true y)
    have d : ¬ (u = v ∨ z = 0 ∨ 99 < z) := by omega
    -- lesser, other
    refine ⟨_, rfl, _, rfl, _, _, rfl, ?_⟩
    have em : (if (v : Int) < (u : Int) then (v : Int) else (u : Int)) = ((min u v : Nat) : Int) := min_int
    rw [em]
    refine ⟨_, rfl, _, rfl, _, _, rfl, ?_⟩
    have ex : (if (v : Int) > (u : Int) then (v : Int) else (u : Int)) = ((max u v : Nat) : Int) := max_int
    rw [ex]
    -- others
    refine ⟨_, rfl, x, C, dx, _, _, rfl, hx, T.cl, T.nJ, pf_joined _ j e, j, rfl, ⟨_, SqL.of hA⟩, fun O hO => lc_list (K := K) (a := j) (xs := ts.map V.ref) (fun i H' => Same H H' ∧ LinesAt H' O ((a.now.lines.take i).filter fun m => !ends m u v)) ⟨same_upd hO, [], upd_same, trivial⟩ (fun i H' _ y => SqL.of (y.1 _ _ hA)) ?_ ?_⟩
    · rintro i y H1 hi ⟨s1, us, hU, hUT⟩
      obtain ⟨t, m, rfl, _, hm, hTm⟩ := hT.get hi
      have mm := List.mem_of_getElem? hm
      have mab := N.ok.ab m mm
      have fm := filter_more (fun m => !ends m u v) hm
      have lw : ((a.now.lines.take i).filter fun m => !ends m u v).length ≤ 100 := by
        refine Nat.le_trans (List.length_filter_le _ _) ?_
        rw [List.length_take]
        omega
      generalize (a.now.lines.take i).filter (fun m => !ends m u v) = acc at hUT fm lw
      have oi := other_iff mab d1
      have hTm1 := s1 _ _ hTm
      have yes : (!ends m u v) = true → ∃ acc2, H1 O = some (.lst acc2) ∧ acc2.length < sizeLine ∧ (Same H (upd H1 O (.lst (acc2 ++ [V.ref t]))) ∧ LinesAt (upd H1 O (.lst (acc2 ++ [V.ref t]))) O ((a.now.lines.take (i + 1)).filter fun m => !ends m u v)) := fun hc => by
        refine ⟨_, hU, ?_, same_set hO s1, us ++ [t], ?_, ?_⟩
        · refine small (m := 100) ?_ (by decide)
          rw [List.length_map, hUT.len]
          exact lw
        · rw [upd_same, List.map_append]
          rfl
        · rw [fm, if_pos hc]
          exact Tups.upd hU (Tups.app hUT ⟨hTm1, trivial⟩)
      refine ⟨rfl, ?_⟩
      refine ⟨_, rfl, t, _, _, vN m.a, rfl, rfl, SqT.of hTm1, rfl, _, rfl, rfl, _, rfl, ?_⟩
      by_cases c1 : m.a = min u v
      · refine iteN ?_ ?_
        · have : decide (vN m.a = vN (min u v)) = true := vN_true.mpr c1
          show (!decide (vN m.a = vN (min u v))) = false
          rw [this]
          rfl
        · refine ⟨_, rfl, t, _, _, vN m.b, rfl, rfl, SqT.of hTm1, rfl, _, rfl, rfl, _, rfl, ?_⟩
          by_cases c2 : m.b = max u v
          · refine iteN ?_ ?_
            · have : decide (vN m.b = vN (max u v)) = true := vN_true.mpr c2
              show (!decide (vN m.b = vN (max u v))) = false
              rw [this]
              rfl
            · refine ⟨s1, us, hU, ?_⟩
              rw [fm, if_neg (fun q => by rcases oi.mp q with q | q; exact q c1; exact q c2), List.append_nil]
              exact hUT
          · refine iteP ?_ ?_
            · have : ¬ decide (vN m.b = vN (max u v)) = true := fun q => c2 (vN_true.mp q)
              show (!decide (vN m.b = vN (max u v))) = true
              simpa using this
            · exact ⟨_, rfl, yes (oi.mpr (.inr c2))⟩
      · refine iteP ?_ ?_
        · have : ¬ decide (vN m.a = vN (min u v)) = true := fun q => c1 (vN_true.mp q)
          show (!decide (vN m.a = vN (min u v))) = true
          simpa using this
        · exact ⟨_, rfl, yes (oi.mpr (.inl c1))⟩
    rintro H1 ⟨s1, hO1⟩
    rw [List.length_map, lT, List.take_length] at hO1
    obtain ⟨us, hU, hUT⟩ := hO1
    have lU := hUT.len
    have Gs := N.sub (s := a.now.lines.filter fun m => !ends m u v) List.filter_sublist
    have fl : (a.now.lines.filter fun m => !ends m u v).length ≤ 14 := Gs.few
    refine ⟨_, rfl, O, _, rfl, .inl (SqL.of hU), _, _, rfl, rfl, _, rfl, ?_⟩
    rw [List.length_map, lU]
    refine ite2 (fun b => ?_) (fun b => ?_)
    · have b := of_decide_eq_true b
      exact ⟨(by show 1 ≤ sizeLine; decide), fun p hp => h.no (v := -28) ((if_neg c).trans ((if_neg d).trans (if_pos (by omega)))) s1 hp⟩
    have b : ¬ 14 ≤ (a.now.lines.filter fun m => !ends m u v).length := fun y => b (decide_eq_true (by omega))
    -- self.changed_to(sorted(others + [(w, lesser, other)]))
    refine ⟨_, rfl, x, dx, _, rfl, s1 _ _ hx, pf_no _ j e (by decide +kernel) (by decide +kernel) (by decide +kernel), _, rfl, _, rfl, _, rfl, _, rfl, (by show 3 ≤ sizeLine; decide), fun tu ntu => ⟨(by show 1 ≤ sizeLine; decide), fun q hq => ?_⟩⟩
    have s2 := same_new (o := .tup (vL ⟨min u v, max u v, z⟩)) s1 ntu
    have s3 := same_new (o := .lst [V.ref tu]) s2 hq
    have nOt : O ≠ tu := ne_of_none hU ntu
    have s23 : Same H1 (upd (upd H1 tu (.tup (vL ⟨min u v, max u v, z⟩))) q (.lst [V.ref tu])) := same_new (same_upd ntu) hq
    refine ⟨O, q, _, _, rfl, rfl, s23 _ _ hU, upd_same, ?_, fun r hr' => ?_⟩
    · refine Nat.le_of_lt (small (m := 100) ?_ (by decide))
      rw [List.length_map, lU]
      show _ + 1 ≤ 100
      omega
    have s4 := same_new (o := .lst (us.map V.ref ++ [V.ref tu])) s3 hr'
    have s24 := same_new (o := .lst (us.map V.ref ++ [V.ref tu])) s23 hr'
    have nqt : tu ≠ q := fun y => by rw [← y, upd_same] at hq; cases hq
    have nrt : tu ≠ r := fun y => by rw [← y, upd_ne nqt, upd_same] at hr'; cases hr'
    have htu : (upd (upd (upd H1 tu (.tup (vL ⟨min u v, max u v, z⟩))) q (.lst [V.ref tu])) r (.lst (us.map V.ref ++ [V.ref tu]))) tu = some (.tup (vL ⟨min u v, max u v, z⟩)) := by rw [upd_ne nrt, upd_ne nqt, upd_same]
    have hr2 : (upd (upd (upd H1 tu (.tup (vL ⟨min u v, max u v, z⟩))) q (.lst [V.ref tu])) r (.lst (us.map V.ref ++ [V.ref tu]))) r = some (.lst (us.map V.ref ++ [V.ref tu])) := upd_same
    generalize (upd (upd (upd H1 tu (.tup (vL ⟨min u v, max u v, z⟩))) q (.lst [V.ref tu])) r (.lst (us.map V.ref ++ [V.ref tu]))) = H4 at s4 s24 htu hr2
    have hT4 : Tups H4 (us ++ [tu]) ((a.now.lines.filter fun m => !ends m u v) ++ [⟨min u v, max u v, z⟩]) := Tups.app (hUT.same s24) ⟨htu, trivial⟩
    have e4 : us.map V.ref ++ [V.ref tu] = (us ++ [tu]).map V.ref := by rw [List.map_append]; rfl
    rw [e4] at hr2
    have gsm := Gs.sm
    refine ⟨r, _, rfl, SqL.of hr2, ?_, fun y hy => ?_, fun ys p perm pw np => ?_⟩
    · rw [List.length_map, List.length_append, List.length_singleton, lU]
      omega
    · obtain ⟨t, l, rfl, hl, ht⟩ := hT4.mem y hy
      refine ⟨[(l.w : Int), (l.a : Int), (l.b : Int)], ⟨t, rfl, SqT.of ht⟩, rfl, fun n hn => ?_⟩
      have bd : l.w < 100 ∧ l.a < 100 ∧ l.b < 100 := by
        rcases List.mem_append.mp hl with hl | hl
        · have h1 := gsm l hl
          have h2 := Gs.w99 l hl
          exact ⟨by omega, h1.1, h1.2⟩
        · have : l = ⟨min u v, max u v, z⟩ := by simpa using hl
          subst this
          exact ⟨by show z < 100; omega, by show min u v < 100; omega, by show max u v < 100; omega⟩
      simp only [List.mem_cons, List.not_mem_nil, or_false] at hn
      rcases hn with rfl | rfl | rfl <;> omega
    obtain ⟨ts', s', ey, hT', ps'⟩ := perm_tups perm _ _ rfl hT4
    subst ey
    have sm : Kv402.put ⟨min u v, max u v, z⟩ (a.now.lines.filter fun m => !ends m u v) = s' :=
      (put_eq (l := ⟨min u v, max u v, z⟩) ⟨by show min u v < 100; omega, by show max u v < 100; omega⟩ gsm Gs.ord (pw_key hT' pw) ps').symm
    have len' : s'.length = (a.now.lines.filter fun m => !ends m u v).length + 1 := by rw [ps'.length_eq, List.length_append, List.length_singleton]
    have G2 := good_put N (x := u) (y := v) (w := z) (by omega) (by omega) d1 (by omega) (by omega) (by omega)
    rw [sm] at G2
    have s5 := same_new (o := .lst (ts'.map V.ref)) s4 np
    have np0 : H p = none := s4.free np
    refine ⟨g, x, p, a.now.n, a.now.lines, s', _, rfl, ob.same s5, ⟨ts', upd_same, hT'.same (same_upd np)⟩, (ne_of_none hg np0).symm, by rw [List.length_reverse, List.length_map]; omega, fun H6 y k6 ny ob6 hy6 => ?_⟩
    refine h.yes (s' := s') ((if_neg c).trans ((if_neg d).trans ((if_neg b).trans ?_))) G2 s5 k6 ny ob6 hy6
    show a.to_ { a.now with lines := Kv402.put ⟨min u v, max u v, z⟩ (a.now.lines.filter fun m => !ends m u v) } (num ((a.now.lines.filter fun m => !ends m u v).length + 1)) = _
    rw [sm, len']
end
end LL
namespace LL
open PySem PySem.Spec PyProof.Rows L2
open Kv402 (Line Net at_ Ans State act Call Abs okT flat lineList say num table ends put)
open Kv402Neutral (row)
theorem Ch.same {C : Addr} {H H1 : Hp} {Q : VK} {g x : Addr} {a : Abs} {c : Call} (h : Ch C H Q g x a c) (s : Same H H1) : Ch C H1 Q g x a c :=
  ⟨h.1.same s, fun H' p k np ho hp => h.2 H' p (keep_tr (keep_same s) k) (s.free np) ho hp⟩
theorem Ch.lk {C : Addr} {H : Hp} {Q : VK} {g x : Addr} {a : Abs} {c : Call} (h : Ch C H Q g x a c) (e : (a.does c).1 = a) : Lk C H Q x a c :=
  ⟨⟨g, _, h.1.1⟩, h.1.2.1, fun H' p s np hp => h.2 H' p (keep_same s) np (by rw [e]; exact h.1.same s) hp⟩
/-- the calls that change nothing -/
def looks : Call → Bool
  | .lines => true | .dist _ _ => true | .next _ _ => true | .way _ _ => true | .kept _ => true | .keptdist _ _ _ => true | .keptweight _ => true | .worst _ => true | .does _ _ => true | .fewest _ => true | .ring _ => true | .least => true | .state => true
  | _ => false
theorem look_fst {a : Abs} {q : Call} (h : looks q = true) : (a.does q).1 = a := by
  cases q <;> first | cases h | skip
  all_goals first | rfl | (simp only [Kv402.Abs.does]; (repeat' split) <;> rfl)
theorem dec_no {i j : Int} (h : i ≠ j) : decide (V.int i = V.int j) = false := decide_eq_false (fun z => h (by injection z))
theorem dec_yes {i j : Int} (h : i = j) : decide (V.int i = V.int j) = true := decide_eq_true (by rw [h])
theorem flat_3 (s : List Line) : (flat s).length = 3 * s.length := flat_len s
/-- no answer is long -/
theorem row_len {a : Abs} (G : Good a.now) (q : Call) : (row (a.does q).2).length ≤ 64 := by
  have few := G.few
  have n8 := G.n8
  have r1 : ∀ v : Int, (row (say v)).length ≤ 64 := fun v => by show 1 ≤ 64; decide
  have rn : ∀ v : Nat, (row (num v)).length ≤ 64 := fun v => by show 1 ≤ 64; decide
  have rl : ∀ s : List Line, s.length ≤ 14 → (row (lineList s)).length ≤ 64 := fun s hs => by
    show ((flat s).map Int.ofNat).length + 1 ≤ 64
    rw [List.length_map, flat_3]
    omega
  have kl : ∀ t, ¬ okT t = false → (a.now.kept t).length ≤ 14 := fun t ht => by
    have := (G.toNet8.kept (okT_iff.mp ht).2).2.length_le
    omega
  cases q with
  | begin_ n =>
    show (row (if n = 0 ∨ 8 < n then (a, say (-22)) else (⟨⟨n, []⟩, []⟩, say 0)).2).length ≤ 64
    split <;> exact r1 _
  | line u v z =>
    by_cases c : a.now.n ≤ u ∨ a.now.n ≤ v
    · rw [show a.does (.line u v z) = _ from if_pos c]; exact r1 _
    · by_cases d : u = v ∨ z = 0 ∨ 99 < z
      · rw [show a.does (.line u v z) = _ from (if_neg c).trans (if_pos d)]; exact r1 _
      · by_cases b : 14 ≤ (a.now.lines.filter fun m => !ends m u v).length
        · rw [show a.does (.line u v z) = _ from (if_neg c).trans ((if_neg d).trans (if_pos b))]; exact r1 _
        · rw [show a.does (.line u v z) = _ from (if_neg c).trans ((if_neg d).trans (if_neg b))]; exact rn _
  | cut i =>
    by_cases c : a.now.lines.length ≤ i
    · rw [show a.does (.cut i) = _ from if_pos c]; exact r1 _
    · rw [show a.does (.cut i) = _ from if_neg c]; exact rn _
  | lines => exact rl _ few
  | dist u v =>
    by_cases c : a.now.n ≤ u ∨ a.now.n ≤ v
    · rw [lk_dist0 c]; exact r1 _
    · rw [lk_dist1 c]
      unfold distAns
      split
      · exact r1 _
      · exact rn _
  | next u v =>
    by_cases c : a.now.n ≤ u ∨ a.now.n ≤ v
    · rw [lk_next0 c]; exact r1 _
    · by_cases d : u = v
      · rw [lk_next1 c d]; exact r1 _
      · rw [lk_next2 c d]
        split
        · exact r1 _
        · exact rn _
  | way u v =>
    by_cases c : a.now.n ≤ u ∨ a.now.n ≤ v
    · rw [lk_way0 c]; exact r1 _
    · rw [lk_way1 c]
      cases e : at_ a.now.table u v with
      | none => exact r1 _
      | some d =>
        obtain ⟨p, _, hg, hl⟩ := G.toNet8.way (u := u) (v := v) (by omega) (by omega) e
        show ((a.now.go a.now.table v a.now.n u).map Int.ofNat).length + 1 ≤ 64
        rw [List.length_map, hg]
        omega
  | kept t =>
    by_cases c : okT t = false
    · rw [lk_kept0 c]; exact r1 _
    · rw [lk_kept1 c]; exact rl _ (kl t c)
  | keptdist t u v =>
    by_cases c : a.now.n ≤ u ∨ a.now.n ≤ v
    · rw [lk_kd0 c]; exact r1 _
    · by_cases d : okT t = false
      · rw [lk_kd1 c d]; exact r1 _
      · rw [lk_kd2 c d]
        unfold distAns
        split
        · exact r1 _
        · exact rn _
  | keptweight t =>
    by_cases c : okT t = false
    · rw [lk_kw0 c]; exact r1 _
    · rw [lk_kw1 c]; show 2 ≤ 64; decide
  | worst t =>
    by_cases c : okT t = false
    · rw [lk_worst0 c]; exact r1 _
    · rw [lk_worst1 c]
      split
      · exact r1 _
      · show 5 ≤ 64; decide
  | leave t =>
    by_cases c : okT t = false
    · rw [show a.does (.leave t) = _ from if_pos c]; exact r1 _
    · rw [show a.does (.leave t) = _ from if_neg c]; exact rn _
  | does t l =>
    by_cases c : okT t = false
    · rw [lk_does0 c]; exact r1 _
    · by_cases d : (l.any fun i => decide (a.now.lines.length ≤ i)) = true
      · rw [lk_does1 c d]; exact r1 _
      · rw [lk_does2 c d]; exact rn _
  | fewest t =>
    by_cases c : okT t = false
    · rw [lk_few0 c]; exact r1 _
    · by_cases d : 10 < a.now.lines.length
      · rw [lk_few1 c d]; exact r1 _
      · rw [lk_few2 c d]
        have := few_len (g := a.now) t
        exact rl _ (by omega)
  | ring t =>
    by_cases c : okT t = false
    · rw [lk_ring0 c]; exact r1 _
    · rw [lk_ring1 c]
      split
      · exact r1 _
      · exact rn _
  | least =>
    obtain ⟨l1, l2, _⟩ := G.toNet8.light
    have := l2.length_le
    exact rl (a.now.kept 9999) (by rw [← l1]; omega)
  | back =>
    show (row (match a.past with
    | [] => (a, say (-6))
    | w :: l => (⟨w, l⟩, num l.length)).2).length ≤ 64
    split
    · exact r1 _
    · exact rn _
  | state => show 3 ≤ 64; decide
abbrev s_bare : Stmt := top 35
theorem sc_bare : FnScope ["held", "number"] ["held", "number"] (defScope s_bare) := ⟨rfl, rfl, rfl, by decide +kernel, rfl, by decide +kernel, by decide +kernel⟩
def spBare (C : Addr) : Sp := fun vs H Q _ => ∃ (g x : Addr) (a : Abs) (q : Call), vs = [.ref x, vN (code q)] ∧ (flatC q).length = 1 ∧ Ch C H Q g x a q
abbrev s_places : Stmt := top 36
theorem sc_places : FnScope ["held", "call", "number"] ["held", "call"] (defScope s_places) := ⟨rfl, rfl, rfl, by decide +kernel, rfl, by decide +kernel, by decide +kernel⟩
def isP : Call → Bool
  | .line _ _ _ => true | .cut _ => true | .dist _ _ => true | .next _ _ => true | .way _ _ => true | .keptdist _ _ _ => true
  | _ => false
def spPlaces (C : Addr) : Sp := fun vs H Q _ => ∃ (g x c : Addr) (a : Abs) (q : Call), vs = [.ref x, .ref c] ∧ H c = some (.lst ((flatC q).map vN)) ∧ isP q = true ∧ Ch C H Q g x a q
abbrev s_times : Stmt := top 37
theorem sc_times : FnScope ["held", "call", "number", "t"] ["held", "call"] (defScope s_times) := ⟨rfl, rfl, rfl, by decide +kernel, rfl, by decide +kernel, by decide +kernel⟩
def isT : Call → Bool
  | .kept _ => true | .keptweight _ => true | .worst _ => true | .leave _ => true | .does _ _ => true | .fewest _ => true | .ring _ => true
  | _ => false
def spTimes (C : Addr) : Sp := fun vs H Q _ => ∃ (g x c : Addr) (a : Abs) (q : Call), vs = [.ref x, .ref c] ∧ H c = some (.lst ((flatC q).map vN)) ∧ isT q = true ∧ (∀ t l, q = .does t l → l.length ≤ 200) ∧ Ch C H Q g x a q
section
variable {P : Program} {w : World} {K : PySem.W.Frag} {mg : Str → Option Value} {base : Heap}
theorem ok_bare {f C f_lines f_least f_back f_state : Addr} {fd fd_lines fd_least fd_back fd_state : FuncData} (F : Fun K "answer_to_bare" "answer_to_bare" s_bare f fd) (T : Txt K mg C) (M_lines : Mt P w K mg base C 2 "lines" ["self"] (spLines C) f_lines fd_lines) (M_least : Mt P w K mg base C 3 "least" ["self"] (spLeast C) f_least fd_least) (M_back : Mt P w K mg base C 1 "back" ["self"] (spBack C) f_back fd_back) (M_state : Mt P w K mg base C 1 "state" ["self"] (spState C) f_state fd_state) : FnOk P w K mg base CX0 4 f fd ["held", "number"] (spBare C) := by
  refine F.ok sc_bare (fun vs H Q E h => ?_) (fun cdv A outer s H vs Q E hr h => ?_)
  · obtain ⟨g, x, a, q, rfl, _⟩ := h
    rfl
  · obtain ⟨g, x, a, q, rfl, hq, h⟩ := h
    obtain ⟨⟨ob, N, hpast, hl⟩, kk⟩ := id h
    obtain ⟨⟨xs, hg⟩, dx, j, e, es, hx, _⟩ := id ob
    refine ⟨_, (pss_cons (ps_if (pt_cmpR op_eq (pv 1) (pe_int) (nomark _)) (pss_one (ps_ret (pe_meth0 (pv 0) T.cl M_lines.me M_lines.ok (hr.mono (by decide)) M_lines.bi .nil pass0))) pss_nil)
    (pss_cons (ps_if (pt_cmpR op_eq (pv 1) (pe_int) (nomark _)) (pss_one (ps_ret (pe_meth0 (pv 0) T.cl M_least.me M_least.ok (hr.mono (by decide)) M_least.bi .nil pass0))) pss_nil)
    (pss_cons (ps_if (pt_cmpR op_eq (pv 1) (pe_int) (nomark _)) (pss_one (ps_ret (pe_meth0 (pv 0) T.cl M_back.me M_back.ok (hr.mono (by decide)) M_back.bi .nil pass0))) pss_nil)
    (pss_one (ps_ret (pe_meth0 (pv 0) T.cl M_state.me M_state.ok (hr.mono (by decide)) M_state.bi .nil pass0)))))), ?_⟩
    cases q with
    | lines =>
      refine ⟨_, rfl, rfl, _, rfl, ?_⟩
      refine iteP (dec_yes (i := 3) (j := 3) rfl) ?_
      exact ⟨_, rfl, x, dx, _, rfl, hx, pf_no _ j e (by decide +kernel) (by decide +kernel) (by decide +kernel), x, a, rfl, h.lk rfl⟩
    | least =>
      refine ⟨_, rfl, rfl, _, rfl, ?_⟩
      refine iteN (dec_no (i := 15) (j := 3) (by decide)) ?_
      refine ⟨_, rfl, rfl, _, rfl, ?_⟩
      refine iteP (dec_yes (i := 15) (j := 15) rfl) ?_
      exact ⟨_, rfl, x, dx, _, rfl, hx, pf_no _ j e (by decide +kernel) (by decide +kernel) (by decide +kernel), x, a, rfl, h.lk rfl⟩
    | back =>
      refine ⟨_, rfl, rfl, _, rfl, ?_⟩
      refine iteN (dec_no (i := 16) (j := 3) (by decide)) ?_
      refine ⟨_, rfl, rfl, _, rfl, ?_⟩
      refine iteN (dec_no (i := 16) (j := 15) (by decide)) ?_
      refine ⟨_, rfl, rfl, _, rfl, ?_⟩
      refine iteP (dec_yes (i := 16) (j := 16) rfl) ?_
      refine ⟨_, rfl, x, dx, _, rfl, hx, pf_no _ j e (by decide +kernel) (by decide +kernel) (by decide +kernel), g, x, a.now.n, a.now.lines, _, rfl, ob, fun en => ?_, fun l ear en => ?_⟩
      · have ep : a.past = [] := by
          have := congrArg List.length en
          rw [List.length_reverse, List.length_map] at this
          exact List.length_eq_zero_iff.mp this
        have ed : a.does .back = (a, say (-6)) := by
          show (match a.past with
            | [] => (a, say (-6))
            | w :: l => (⟨w, l⟩, num l.length)) = _
          rw [ep]
        refine fun H' p s' np hp => kk H' p (keep_same s') np ?_ ?_
        · rw [ed]
          exact h.1.same s'
        · rw [ed]
          exact hp
      · cases ep : a.past with
        | nil =>
          rw [ep] at en
          exact absurd en (by simp)
        | cons m r =>
          rw [ep, List.map_cons, List.reverse_cons] at en
          obtain ⟨e1, e2⟩ := List.append_inj' en rfl
          have e2 : m.lines = l := by simpa using e2
          have ed : a.does .back = (⟨m, r⟩, num r.length) := by
            show (match a.past with
              | [] => (a, say (-6))
              | w :: l => (⟨w, l⟩, num l.length)) = _
            rw [ep]
          have pg := hpast m (by rw [ep]; simp)
          refine fun H' p k' np ob' hp => kk H' p k' np ?_ ?_
          · rw [ed]
            refine ⟨?_, pg.1, fun m2 hm2 => ?_, ?_⟩
            · show Obj C H' g x m.n m.lines (r.map Net.lines).reverse
              rw [pg.2, e2, e1]
              exact ob'
            · have := hpast m2 (by rw [ep]; simp [hm2])
              exact ⟨this.1, by rw [this.2, pg.2]⟩
            · rw [ep, List.length_cons] at hl
              show r.length ≤ 10
              omega
          · rw [ed, hp, ← e1, List.length_reverse, List.length_map]
            rfl
    | state =>
      refine ⟨_, rfl, rfl, _, rfl, ?_⟩
      refine iteN (dec_no (i := 17) (j := 3) (by decide)) ?_
      refine ⟨_, rfl, rfl, _, rfl, ?_⟩
      refine iteN (dec_no (i := 17) (j := 15) (by decide)) ?_
      refine ⟨_, rfl, rfl, _, rfl, ?_⟩
      refine iteN (dec_no (i := 17) (j := 16) (by decide)) ?_
      refine ⟨_, rfl, x, dx, _, rfl, hx, pf_no _ j e (by decide +kernel) (by decide +kernel) (by decide +kernel), g, x, a.now.n, a.now.lines, _, rfl, ob, ?_⟩
      have := (h.lk rfl).2.2
      rw [List.length_reverse, List.length_map]
      exact this
    | begin_ _ => cases hq
    | line _ _ _ => cases hq
    | cut _ => cases hq
    | dist _ _ => cases hq
    | next _ _ => cases hq
    | way _ _ => cases hq
    | kept _ => cases hq
    | keptdist _ _ _ => cases hq
    | keptweight _ => cases hq
    | worst _ => cases hq
    | leave _ => cases hq
    | does _ _ => cases hq
    | fewest _ => cases hq
    | ring _ => cases hq
theorem ok_places {f C f_line f_cut f_dist f_next_place f_way f_keptdist : Addr} {fd fd_line fd_cut fd_dist fd_next_place fd_way fd_keptdist : FuncData} (F : Fun K "answer_on_places" "answer_on_places" s_places f fd) (T : Txt K mg C) (M_line : Mt P w K mg base C 2 "line" ["self", "a", "b", "w"] (spLine C) f_line fd_line) (M_cut : Mt P w K mg base C 2 "cut" ["self", "i"] (spCut C) f_cut fd_cut) (M_dist : Mt P w K mg base C 3 "dist" ["self", "u", "v"] (spDistM C) f_dist fd_dist) (M_next_place : Mt P w K mg base C 3 "next_place" ["self", "u", "v"] (spNext C) f_next_place fd_next_place) (M_way : Mt P w K mg base C 3 "way" ["self", "u", "v"] (spWay C) f_way fd_way) (M_keptdist : Mt P w K mg base C 4 "keptdist" ["self", "t", "u", "v"] (spKeptdist C) f_keptdist fd_keptdist) : FnOk P w K mg base CX0 5 f fd ["held", "call"] (spPlaces C) := by
  refine F.ok sc_places (fun vs H Q E h => ?_) (fun cdv A outer s H vs Q E hr h => ?_)
  · obtain ⟨g, x, c, a, q, rfl, _⟩ := h
    rfl
  · obtain ⟨g, x, c, a, q, rfl, hc, hq, h⟩ := h
    obtain ⟨⟨ob, N, hpast, hl⟩, kk⟩ := id h
    obtain ⟨⟨xs, hg⟩, dx, j, e, es, hx, _⟩ := id ob
    refine ⟨_, (pss_cons (ps_set (i := 2) sc_places.nd rfl (.inl rfl) (pe_ix ix_list (pv 1) (pe_int) (fun _ _ => rfl)))
    (pss_cons (ps_if (pt_cmpR op_eq (pv 2) (pe_int) (nomark _)) (pss_one (ps_ret (pe_meth (pv 0) T.cl M_line.me M_line.ok (hr.mono (by decide)) M_line.bi .nil pass0 (pa_cons (pe_ix ix_list (pv 1) (pe_int) (fun _ _ => rfl)) (pa_cons (pe_ix ix_list (pv 1) (pe_int) (fun _ _ => rfl)) (pa_cons (pe_ix ix_list (pv 1) (pe_int) (fun _ _ => rfl)) pa_nil)))))) pss_nil)
    (pss_cons (ps_if (pt_cmpR op_eq (pv 2) (pe_int) (nomark _)) (pss_one (ps_ret (pe_meth (pv 0) T.cl M_cut.me M_cut.ok (hr.mono (by decide)) M_cut.bi .nil pass0 (pa_cons (pe_ix ix_list (pv 1) (pe_int) (fun _ _ => rfl)) pa_nil)))) pss_nil)
    (pss_cons (ps_if (pt_cmpR op_eq (pv 2) (pe_int) (nomark _)) (pss_one (ps_ret (pe_meth (pv 0) T.cl M_dist.me M_dist.ok (hr.mono (by decide)) M_dist.bi .nil pass0 (pa_cons (pe_ix ix_list (pv 1) (pe_int) (fun _ _ => rfl)) (pa_cons (pe_ix ix_list (pv 1) (pe_int) (fun _ _ => rfl)) pa_nil))))) pss_nil)
    (pss_cons (ps_if (pt_cmpR op_eq (pv 2) (pe_int) (nomark _)) (pss_one (ps_ret (pe_meth (pv 0) T.cl M_next_place.me M_next_place.ok (hr.mono (by decide)) M_next_place.bi .nil pass0 (pa_cons (pe_ix ix_list (pv 1) (pe_int) (fun _ _ => rfl)) (pa_cons (pe_ix ix_list (pv 1) (pe_int) (fun _ _ => rfl)) pa_nil))))) pss_nil)
    (pss_cons (ps_if (pt_cmpR op_eq (pv 2) (pe_int) (nomark _)) (pss_one (ps_ret (pe_meth (pv 0) T.cl M_way.me M_way.ok (hr.mono (by decide)) M_way.bi .nil pass0 (pa_cons (pe_ix ix_list (pv 1) (pe_int) (fun _ _ => rfl)) (pa_cons (pe_ix ix_list (pv 1) (pe_int) (fun _ _ => rfl)) pa_nil))))) pss_nil)
    (pss_one (ps_ret (pe_meth (pv 0) T.cl M_keptdist.me M_keptdist.ok (hr.mono (by decide)) M_keptdist.bi .nil pass0 (pa_cons (pe_ix ix_list (pv 1) (pe_int) (fun _ _ => rfl)) (pa_cons (pe_ix ix_list (pv 1) (pe_int) (fun _ _ => rfl)) (pa_cons (pe_ix ix_list (pv 1) (pe_int) (fun _ _ => rfl)) pa_nil)))))))))))), ?_⟩
    have h0 : atI ((flatC q).map vN) ((0 : Nat) : Int) = some (vN (code q)) := at_get (code_head q)
    refine ⟨_, rfl, c, _, _, _, rfl, rfl, SqL.of hc, h0, ?_⟩
    cases q with
    | line u v z =>
      refine ⟨_, rfl, rfl, _, rfl, ?_⟩
      refine iteP (dec_yes (i := 1) (j := 1) rfl) ?_
      exact ⟨_, rfl, x, dx, _, rfl, hx, pf_no _ j e (by decide +kernel) (by decide +kernel) (by decide +kernel), _, rfl, c, _, _, vN u, rfl, rfl, SqL.of hc, rfl, _, rfl, c, _, _, vN v, rfl, rfl, SqL.of hc, rfl, _, rfl, c, _, _, vN z, rfl, rfl, SqL.of hc, rfl, g, x, a, u, v, z, rfl, h⟩
    | cut i =>
      refine ⟨_, rfl, rfl, _, rfl, ?_⟩
      refine iteN (dec_no (i := 2) (j := 1) (by decide)) ?_
      refine ⟨_, rfl, rfl, _, rfl, ?_⟩
      refine iteP (dec_yes (i := 2) (j := 2) rfl) ?_
      exact ⟨_, rfl, x, dx, _, rfl, hx, pf_no _ j e (by decide +kernel) (by decide +kernel) (by decide +kernel), _, rfl, c, _, _, vN i, rfl, rfl, SqL.of hc, rfl, g, x, a, i, rfl, h⟩
    | dist u v =>
      refine ⟨_, rfl, rfl, _, rfl, ?_⟩
      refine iteN (dec_no (i := 4) (j := 1) (by decide)) ?_
      refine ⟨_, rfl, rfl, _, rfl, ?_⟩
      refine iteN (dec_no (i := 4) (j := 2) (by decide)) ?_
      refine ⟨_, rfl, rfl, _, rfl, ?_⟩
      refine iteP (dec_yes (i := 4) (j := 4) rfl) ?_
      exact ⟨_, rfl, x, dx, _, rfl, hx, pf_no _ j e (by decide +kernel) (by decide +kernel) (by decide +kernel), _, rfl, c, _, _, vN u, rfl, rfl, SqL.of hc, rfl, _, rfl, c, _, _, vN v, rfl, rfl, SqL.of hc, rfl, x, a, u, v, rfl, h.lk (look_fst rfl)⟩
    | next u v =>
      refine ⟨_, rfl, rfl, _, rfl, ?_⟩
      refine iteN (dec_no (i := 5) (j := 1) (by decide)) ?_
      refine ⟨_, rfl, rfl, _, rfl, ?_⟩
      refine iteN (dec_no (i := 5) (j := 2) (by decide)) ?_
      refine ⟨_, rfl, rfl, _, rfl, ?_⟩
      refine iteN (dec_no (i := 5) (j := 4) (by decide)) ?_
      refine ⟨_, rfl, rfl, _, rfl, ?_⟩
      refine iteP (dec_yes (i := 5) (j := 5) rfl) ?_
      exact ⟨_, rfl, x, dx, _, rfl, hx, pf_no _ j e (by decide +kernel) (by decide +kernel) (by decide +kernel), _, rfl, c, _, _, vN u, rfl, rfl, SqL.of hc, rfl, _, rfl, c, _, _, vN v, rfl, rfl, SqL.of hc, rfl, x, a, u, v, rfl, h.lk (look_fst rfl)⟩
    | way u v =>
      refine ⟨_, rfl, rfl, _, rfl, ?_⟩
      refine iteN (dec_no (i := 6) (j := 1) (by decide)) ?_
      refine ⟨_, rfl, rfl, _, rfl, ?_⟩
      refine iteN (dec_no (i := 6) (j := 2) (by decide)) ?_
      refine ⟨_, rfl, rfl, _, rfl, ?_⟩
      refine iteN (dec_no (i := 6) (j := 4) (by decide)) ?_
      refine ⟨_, rfl, rfl, _, rfl, ?_⟩
      refine iteN (dec_no (i := 6) (j := 5) (by decide)) ?_
      refine ⟨_, rfl, rfl, _, rfl, ?_⟩
      refine iteP (dec_yes (i := 6) (j := 6) rfl) ?_
      exact ⟨_, rfl, x, dx, _, rfl, hx, pf_no _ j e (by decide +kernel) (by decide +kernel) (by decide +kernel), _, rfl, c, _, _, vN u, rfl, rfl, SqL.of hc, rfl, _, rfl, c, _, _, vN v, rfl, rfl, SqL.of hc, rfl, x, a, u, v, rfl, h.lk (look_fst rfl)⟩
    | keptdist t u v =>
      refine ⟨_, rfl, rfl, _, rfl, ?_⟩
      refine iteN (dec_no (i := 8) (j := 1) (by decide)) ?_
      refine ⟨_, rfl, rfl, _, rfl, ?_⟩
      refine iteN (dec_no (i := 8) (j := 2) (by decide)) ?_
      refine ⟨_, rfl, rfl, _, rfl, ?_⟩
      refine iteN (dec_no (i := 8) (j := 4) (by decide)) ?_
      refine ⟨_, rfl, rfl, _, rfl, ?_⟩
      refine iteN (dec_no (i := 8) (j := 5) (by decide)) ?_
      refine ⟨_, rfl, rfl, _, rfl, ?_⟩
      refine iteN (dec_no (i := 8) (j := 6) (by decide)) ?_
      exact ⟨_, rfl, x, dx, _, rfl, hx, pf_no _ j e (by decide +kernel) (by decide +kernel) (by decide +kernel), _, rfl, c, _, _, vN t, rfl, rfl, SqL.of hc, rfl, _, rfl, c, _, _, vN u, rfl, rfl, SqL.of hc, rfl, _, rfl, c, _, _, vN v, rfl, rfl, SqL.of hc, rfl, x, a, t, u, v, rfl, h.lk (look_fst rfl)⟩
    | begin_ _ => cases hq
    | lines => cases hq
    | kept _ => cases hq
    | keptweight _ => cases hq
    | worst _ => cases hq
    | leave _ => cases hq
    | does _ _ => cases hq
    | fewest _ => cases hq
    | ring _ => cases hq
    | least => cases hq
    | back => cases hq
    | state => cases hq
theorem ok_times {f C f_kept f_keptweight f_worst f_leave f_does f_fewest f_ring : Addr} {fd fd_kept fd_keptweight fd_worst fd_leave fd_does fd_fewest fd_ring : FuncData} (F : Fun K "answer_for_times" "answer_for_times" s_times f fd) (G : Gtop mg) (T : Txt K mg C) (M_kept : Mt P w K mg base C 4 "kept" ["self", "t"] (spKeptM C) f_kept fd_kept) (M_keptweight : Mt P w K mg base C 4 "keptweight" ["self", "t"] (spKeptweight C) f_keptweight fd_keptweight) (M_worst : Mt P w K mg base C 4 "worst" ["self", "t"] (spWorst C) f_worst fd_worst) (M_leave : Mt P w K mg base C 4 "leave" ["self", "t"] (spLeave C) f_leave fd_leave) (M_does : Mt P w K mg base C 3 "does" ["self", "t", "row"] (spDoes C) f_does fd_does) (M_fewest : Mt P w K mg base C 5 "fewest" ["self", "t"] (spFewest C) f_fewest fd_fewest) (M_ring : Mt P w K mg base C 4 "ring" ["self", "t"] (spRingM C) f_ring fd_ring) : FnOk P w K mg base CX0 6 f fd ["held", "call"] (spTimes C) := by
  refine F.ok sc_times (fun vs H Q E h => ?_) (fun cdv A outer s H vs Q E hr h => ?_)
  · obtain ⟨g, x, c, a, q, rfl, _⟩ := h
    rfl
  · obtain ⟨g, x, c, a, q, rfl, hc, hq, hrow, h⟩ := h
    obtain ⟨⟨ob, N, hpast, hl⟩, kk⟩ := id h
    obtain ⟨⟨xs, hg⟩, dx, j, e, es, hx, _⟩ := id ob
    refine ⟨_, (pss_cons (ps_set (i := 2) sc_times.nd rfl (.inl rfl) (pe_ix ix_list (pv 1) (pe_int) (fun _ _ => rfl)))
    (pss_cons (ps_set (i := 3) sc_times.nd rfl (.inl rfl) (pe_ix ix_list (pv 1) (pe_int) (fun _ _ => rfl)))
    (pss_cons (ps_if (pt_cmpR op_eq (pv 2) (pe_int) (nomark _)) (pss_one (ps_ret (pe_meth (pv 0) T.cl M_kept.me M_kept.ok (hr.mono (by decide)) M_kept.bi .nil pass0 (pa_cons (pv 3) pa_nil)))) pss_nil)
    (pss_cons (ps_if (pt_cmpR op_eq (pv 2) (pe_int) (nomark _)) (pss_one (ps_ret (pe_meth (pv 0) T.cl M_keptweight.me M_keptweight.ok (hr.mono (by decide)) M_keptweight.bi .nil pass0 (pa_cons (pv 3) pa_nil)))) pss_nil)
    (pss_cons (ps_if (pt_cmpR op_eq (pv 2) (pe_int) (nomark _)) (pss_one (ps_ret (pe_meth (pv 0) T.cl M_worst.me M_worst.ok (hr.mono (by decide)) M_worst.bi .nil pass0 (pa_cons (pv 3) pa_nil)))) pss_nil)
    (pss_cons (ps_if (pt_cmpR op_eq (pv 2) (pe_int) (nomark _)) (pss_one (ps_ret (pe_meth (pv 0) T.cl M_leave.me M_leave.ok (hr.mono (by decide)) M_leave.bi .nil pass0 (pa_cons (pv 3) pa_nil)))) pss_nil)
    (pss_cons (ps_if (pt_cmpR op_eq (pv 2) (pe_gl rfl G.g_DOES) (nomark _)) (pss_one (ps_ret (pe_meth (pv 0) T.cl M_does.me M_does.ok (hr.mono (by decide)) M_does.bi .nil pass0 (pa_cons (pv 3) (pa_cons (pe_slice sl_list (pv 1) (po_some (pe_int)) po_none) pa_nil))))) pss_nil)
    (pss_cons (ps_if (pt_cmpR op_eq (pv 2) (pe_int) (nomark _)) (pss_one (ps_ret (pe_meth (pv 0) T.cl M_fewest.me M_fewest.ok (hr.mono (by decide)) M_fewest.bi .nil pass0 (pa_cons (pv 3) pa_nil)))) pss_nil)
    (pss_one (ps_ret (pe_meth (pv 0) T.cl M_ring.me M_ring.ok (hr.mono (by decide)) M_ring.bi .nil pass0 (pa_cons (pv 3) pa_nil)))))))))))), ?_⟩
    have h0 : atI ((flatC q).map vN) ((0 : Nat) : Int) = some (vN (code q)) := at_get (code_head q)
    refine ⟨_, rfl, c, _, _, _, rfl, rfl, SqL.of hc, h0, ?_⟩
    cases q with
    | kept t =>
      have h1 : atI ((flatC (.kept t)).map vN) ((1 : Nat) : Int) = some (vN t) := at_get rfl
      refine ⟨_, rfl, c, _, _, _, rfl, rfl, SqL.of hc, h1, ?_⟩
      refine ⟨_, rfl, rfl, _, rfl, ?_⟩
      refine iteP (dec_yes (i := 7) (j := 7) rfl) ?_
      exact ⟨_, rfl, x, dx, _, rfl, hx, pf_no _ j e (by decide +kernel) (by decide +kernel) (by decide +kernel), _, rfl, x, a, t, rfl, h.lk (look_fst rfl)⟩
    | keptweight t =>
      have h1 : atI ((flatC (.keptweight t)).map vN) ((1 : Nat) : Int) = some (vN t) := at_get rfl
      refine ⟨_, rfl, c, _, _, _, rfl, rfl, SqL.of hc, h1, ?_⟩
      refine ⟨_, rfl, rfl, _, rfl, ?_⟩
      refine iteN (dec_no (i := 9) (j := 7) (by decide)) ?_
      refine ⟨_, rfl, rfl, _, rfl, ?_⟩
      refine iteP (dec_yes (i := 9) (j := 9) rfl) ?_
      exact ⟨_, rfl, x, dx, _, rfl, hx, pf_no _ j e (by decide +kernel) (by decide +kernel) (by decide +kernel), _, rfl, x, a, t, rfl, h.lk (look_fst rfl)⟩
    | worst t =>
      have h1 : atI ((flatC (.worst t)).map vN) ((1 : Nat) : Int) = some (vN t) := at_get rfl
      refine ⟨_, rfl, c, _, _, _, rfl, rfl, SqL.of hc, h1, ?_⟩
      refine ⟨_, rfl, rfl, _, rfl, ?_⟩
      refine iteN (dec_no (i := 10) (j := 7) (by decide)) ?_
      refine ⟨_, rfl, rfl, _, rfl, ?_⟩
      refine iteN (dec_no (i := 10) (j := 9) (by decide)) ?_
      refine ⟨_, rfl, rfl, _, rfl, ?_⟩
      refine iteP (dec_yes (i := 10) (j := 10) rfl) ?_
      exact ⟨_, rfl, x, dx, _, rfl, hx, pf_no _ j e (by decide +kernel) (by decide +kernel) (by decide +kernel), _, rfl, x, a, t, rfl, h.lk (look_fst rfl)⟩
    | leave t =>
      have h1 : atI ((flatC (.leave t)).map vN) ((1 : Nat) : Int) = some (vN t) := at_get rfl
      refine ⟨_, rfl, c, _, _, _, rfl, rfl, SqL.of hc, h1, ?_⟩
      refine ⟨_, rfl, rfl, _, rfl, ?_⟩
      refine iteN (dec_no (i := 11) (j := 7) (by decide)) ?_
      refine ⟨_, rfl, rfl, _, rfl, ?_⟩
      refine iteN (dec_no (i := 11) (j := 9) (by decide)) ?_
      refine ⟨_, rfl, rfl, _, rfl, ?_⟩
      refine iteN (dec_no (i := 11) (j := 10) (by decide)) ?_
      refine ⟨_, rfl, rfl, _, rfl, ?_⟩
      refine iteP (dec_yes (i := 11) (j := 11) rfl) ?_
      exact ⟨_, rfl, x, dx, _, rfl, hx, pf_no _ j e (by decide +kernel) (by decide +kernel) (by decide +kernel), _, rfl, g, x, a, t, rfl, h⟩
    | does t l =>
      have h1 : atI ((flatC (.does t l)).map vN) ((1 : Nat) : Int) = some (vN t) := at_get rfl
      refine ⟨_, rfl, c, _, _, _, rfl, rfl, SqL.of hc, h1, ?_⟩
      refine ⟨_, rfl, rfl, _, rfl, ?_⟩
      refine iteN (dec_no (i := 12) (j := 7) (by decide)) ?_
      refine ⟨_, rfl, rfl, _, rfl, ?_⟩
      refine iteN (dec_no (i := 12) (j := 9) (by decide)) ?_
      refine ⟨_, rfl, rfl, _, rfl, ?_⟩
      refine iteN (dec_no (i := 12) (j := 10) (by decide)) ?_
      refine ⟨_, rfl, rfl, _, rfl, ?_⟩
      refine iteN (dec_no (i := 12) (j := 11) (by decide)) ?_
      refine ⟨_, rfl, rfl, _, rfl, ?_⟩
      refine iteP (dec_yes (i := 12) (j := 12) rfl) ?_
      refine ⟨_, rfl, x, dx, _, rfl, hx, pf_no _ j e (by decide +kernel) (by decide +kernel) (by decide +kernel), _, rfl, _, rfl, _, rfl, c, _, rfl, SqL.of hc, fun r hr' => ?_⟩
      have ec : cutV ((flatC (.does t l)).map vN) (some ((3 : Nat) : Int)) none = l.map vN := by
        refine (cut_tail (i := 3) _ ?_).trans rfl
        rw [List.length_map]
        show 3 ≤ l.length + 3
        omega
      have s1 := same_upd (o := .lst (cutV ((flatC (.does t l)).map vN) (some ((3 : Nat) : Int)) none)) hr'
      have hr2 : (upd H r (.lst (cutV ((flatC (.does t l)).map vN) (some ((3 : Nat) : Int)) none))) r = some (.lst (l.map vN)) := by rw [upd_same, ec]
      exact ⟨x, r, a, t, l, rfl, hr2, hrow t l rfl, (h.same s1).lk (look_fst rfl)⟩
    | fewest t =>
      have h1 : atI ((flatC (.fewest t)).map vN) ((1 : Nat) : Int) = some (vN t) := at_get rfl
      refine ⟨_, rfl, c, _, _, _, rfl, rfl, SqL.of hc, h1, ?_⟩
      refine ⟨_, rfl, rfl, _, rfl, ?_⟩
      refine iteN (dec_no (i := 13) (j := 7) (by decide)) ?_
      refine ⟨_, rfl, rfl, _, rfl, ?_⟩
      refine iteN (dec_no (i := 13) (j := 9) (by decide)) ?_
      refine ⟨_, rfl, rfl, _, rfl, ?_⟩
      refine iteN (dec_no (i := 13) (j := 10) (by decide)) ?_
      refine ⟨_, rfl, rfl, _, rfl, ?_⟩
      refine iteN (dec_no (i := 13) (j := 11) (by decide)) ?_
      refine ⟨_, rfl, rfl, _, rfl, ?_⟩
      refine iteN (dec_no (i := 13) (j := 12) (by decide)) ?_
      refine ⟨_, rfl, rfl, _, rfl, ?_⟩
      refine iteP (dec_yes (i := 13) (j := 13) rfl) ?_
      exact ⟨_, rfl, x, dx, _, rfl, hx, pf_no _ j e (by decide +kernel) (by decide +kernel) (by decide +kernel), _, rfl, x, a, t, rfl, h.lk (look_fst rfl)⟩
    | ring t =>
      have h1 : atI ((flatC (.ring t)).map vN) ((1 : Nat) : Int) = some (vN t) := at_get rfl
      refine ⟨_, rfl, c, _, _, _, rfl, rfl, SqL.of hc, h1, ?_⟩
      refine ⟨_, rfl, rfl, _, rfl, ?_⟩
      refine iteN (dec_no (i := 14) (j := 7) (by decide)) ?_
      refine ⟨_, rfl, rfl, _, rfl, ?_⟩
      refine iteN (dec_no (i := 14) (j := 9) (by decide)) ?_
      refine ⟨_, rfl, rfl, _, rfl, ?_⟩
      refine iteN (dec_no (i := 14) (j := 10) (by decide)) ?_
      refine ⟨_, rfl, rfl, _, rfl, ?_⟩
      refine iteN (dec_no (i := 14) (j := 11) (by decide)) ?_
      refine ⟨_, rfl, rfl, _, rfl, ?_⟩
      refine iteN (dec_no (i := 14) (j := 12) (by decide)) ?_
      refine ⟨_, rfl, rfl, _, rfl, ?_⟩
      refine iteN (dec_no (i := 14) (j := 13) (by decide)) ?_
      exact ⟨_, rfl, x, dx, _, rfl, hx, pf_no _ j e (by decide +kernel) (by decide +kernel) (by decide +kernel), _, rfl, x, a, t, rfl, h.lk (look_fst rfl)⟩
    | begin_ _ => cases hq
    | line _ _ _ => cases hq
    | cut _ => cases hq
    | lines => cases hq
    | dist _ _ => cases hq
    | next _ _ => cases hq
    | way _ _ => cases hq
    | keptdist _ _ _ => cases hq
    | least => cases hq
    | back => cases hq
    | state => cases hq
end
end LL
namespace LL
open PySem PySem.Spec PyProof.Rows L2
open Kv402 (Line Net at_ Ans State act Call Abs okT flat lineList say num table ends put)
open Kv402Neutral (row)
/-- the object in a state -/
def HeldS (C : Addr) (H : Hp) (g x : Addr) : State → Prop
  | none => Obj C H g x 0 [] []
  | some a => HeldA C H g x a
theorem HeldS.obj {C : Addr} {H : Hp} {g x : Addr} {s : State} (h : HeldS C H g x s) : ∃ n ls ear, Obj C H g x n ls ear := by
  cases s with
  | none => exact ⟨_, _, _, h⟩
  | some a => exact ⟨_, _, _, h.1⟩
theorem HeldS.same {C : Addr} {H H' : Hp} {g x : Addr} {s : State} (h : HeldS C H g x s) (e : Same H H') : HeldS C H' g x s := by
  cases s with
  | none => exact Obj.same e h
  | some a => exact HeldA.same e h
theorem HeldS.atg {C : Addr} {H : Hp} {g x : Addr} {s : State} {xs : List V} (h : HeldS C H g x s) : HeldS C (upd H g (.lst xs)) g x s := by
  cases s with
  | none => exact Obj.atg h
  | some a => exact ⟨Obj.atg h.1, h.2⟩
theorem heldN_new {C : Addr} {H : Hp} {g x : Addr} (h : HeldN C H x) (ng : H g = none) : HeldS C (upd H g (.lst [])) g x none := by
  obtain ⟨dx, j, e, h1, h2, h3⟩ := h
  have n1 : x ≠ g := ne_of_none h1 ng
  have n2 : j ≠ g := ne_of_none h2 ng
  have n3 : e ≠ g := ne_of_none h3 ng
  exact ⟨⟨_, upd_same⟩, dx, j, e, [], by rw [upd_ne n1]; exact h1, ⟨⟨[], by rw [upd_ne n2]; exact h2, trivial⟩, n2⟩, ⟨by rw [upd_ne n3]; exact h3, n3⟩, trivial⟩
theorem act_none {q : Call} (h : code q ≠ 0) : act none q = (none, say (-11)) := by
  cases q <;> first | rfl | exact absurd rfl h
theorem act_some (a : Abs) (q : Call) : act (some a) q = (some (a.does q).1, (a.does q).2) := by cases q <;> rfl
theorem act_bad {n : Nat} (h : n = 0 ∨ 8 < n) (s : State) : act s (.begin_ n) = (s, say (-22)) := by
  cases s with
  | none =>
    have e : (Abs.mk ⟨1, []⟩ []).does (.begin_ n) = (_, say (-22)) := if_pos h
    show (if ((Abs.mk ⟨1, []⟩ []).does (.begin_ n)).2.ret < 0 then (none, ((Abs.mk ⟨1, []⟩ []).does (.begin_ n)).2) else (some ((Abs.mk ⟨1, []⟩ []).does (.begin_ n)).1, ((Abs.mk ⟨1, []⟩ []).does (.begin_ n)).2)) = _
    rw [e]
    exact if_pos (by show (-22 : Int) < 0; decide)
  | some a =>
    rw [act_some, show a.does (.begin_ n) = _ from if_pos h]
theorem act_new {n : Nat} (h : ¬ (n = 0 ∨ 8 < n)) (s : State) : act s (.begin_ n) = (some ⟨⟨n, []⟩, []⟩, say 0) := by
  cases s with
  | none =>
    have e : (Abs.mk ⟨1, []⟩ []).does (.begin_ n) = (⟨⟨n, []⟩, []⟩, say 0) := if_neg h
    show (if ((Abs.mk ⟨1, []⟩ []).does (.begin_ n)).2.ret < 0 then (none, ((Abs.mk ⟨1, []⟩ []).does (.begin_ n)).2) else (some ((Abs.mk ⟨1, []⟩ []).does (.begin_ n)).1, ((Abs.mk ⟨1, []⟩ []).does (.begin_ n)).2)) = _
    rw [e]
    exact if_neg (by show ¬ (0 : Int) < 0; decide)
  | some a =>
    rw [act_some, show a.does (.begin_ n) = _ from if_neg h]
theorem isP_in (q : Call) : [1, 2, 4, 5, 6, 8].contains (code q) = isP q := by cases q <;> rfl
theorem isT_of {q : Call} (h0 : code q ≠ 0) (h1 : (flatC q).length ≠ 1) (h2 : isP q = false) : isT q = true := by
  cases q <;> first | rfl | exact absurd rfl h0 | exact absurd rfl h1 | cases h2
abbrev s_answer_to : Stmt := top 38
theorem sc_answer_to : FnScope ["held", "call", "number"] ["held", "call"] (defScope s_answer_to) := ⟨rfl, rfl, rfl, by decide +kernel, rfl, by decide +kernel, by decide +kernel⟩
section
variable {P : Program} {w : World} {K : PySem.W.Frag} {mg : Str → Option Value} {base : Heap}
theorem ok_answer_to {f fB fR fP fT C : Addr} {fd fdB fdR fdP fdT : FuncData} (F : Fun K "answer_to" "answer_to" s_answer_to f fd) (G : Gtop mg) (T : Txt K mg C)
    (M_begin : Mt P w K mg base C 1 "begin" ["self", "n"] (spBegin C) fB fdB) (A_bare : At P w K mg base 4 "answer_to_bare" ["held", "number"] (spBare C) fR fdR) (A_places : At P w K mg base 5 "answer_on_places" ["held", "call"] (spPlaces C) fP fdP)
    (A_times : At P w K mg base 6 "answer_for_times" ["held", "call"] (spTimes C) fT fdT) : FnOk P w K mg base CX0 7 f fd ["held", "call"] (spAnswerTo (HeldS C)) := by
  refine F.ok sc_answer_to (fun vs H Q E h => ?_) (fun cdv A outer s H vs Q E hr h => ?_)
  · obtain ⟨g, x, c, s, q, rfl, _⟩ := h
    rfl
  · obtain ⟨g, x, c, st, q, rfl, hH, hc, hB, k⟩ := h
    obtain ⟨n0, ls0, ear0, ob⟩ := hH.obj
    obtain ⟨⟨xs, hg⟩, dx, j, e, es, hx, _⟩ := id ob
    refine ⟨_, (pss_cons (ps_set (i := 2) sc_answer_to.nd rfl (.inl rfl) (pe_ix ix_list (pv 1) (pe_int) (fun _ _ => rfl)))
    (pss_cons (ps_if (pt_cmpR op_eq (pv 2) (pe_int) (nomark _))
      (pss_one (ps_ret (pe_meth (pv 0) T.cl M_begin.me M_begin.ok (hr.mono (by decide)) M_begin.bi .nil pass0 (pa_cons (pe_ix ix_list (pv 1) (pe_int) (fun _ _ => rfl)) pa_nil))))
      pss_nil)
    (pss_cons (ps_if (pt_cmpR op_eq (pe_fld (pv 0) rfl) (pe_int) (nomark _))
      (pss_one (ps_ret (pe_lst (pa_cons (pe_gl rfl G.g_NOT_BEGUN) pa_nil))))
      pss_nil)
    (pss_cons (ps_if (pt_cmpR op_eq (pe_callB call_len_seq (by rfl) G.b_len PySem.boot_len (pa_cons (pv 1) pa_nil)) (pe_int) (nomark _))
      (pss_one (ps_ret (pe_call A_bare.ok (hr.mono (by decide)) rfl A_bare.gl A_bare.kp A_bare.bi .nil pass0 (pa_cons (pv 0) (pa_cons (pv 2) pa_nil)))))
      pss_nil)
    (pss_cons (ps_if (pt_cmpR op_in_seq (pv 2) (pe_tup (pa_cons (pe_int) (pa_cons (pe_int) (pa_cons (pe_int) (pa_cons (pe_int) (pa_cons (pe_int) (pa_cons (pe_int) pa_nil))))))) (by rfl))
      (pss_one (ps_ret (pe_call A_places.ok (hr.mono (by decide)) rfl A_places.gl A_places.kp A_places.bi .nil pass0 (pa_cons (pv 0) (pa_cons (pv 1) pa_nil)))))
      pss_nil)
    (pss_one (ps_ret (pe_call A_times.ok (hr.mono (by decide)) rfl A_times.gl A_times.kp A_times.bi .nil pass0 (pa_cons (pv 0) (pa_cons (pv 1) pa_nil)))))))))), ?_⟩
    have h0 : atI ((flatC q).map vN) ((0 : Nat) : Int) = some (vN (code q)) := at_get (code_head q)
    refine ⟨_, rfl, c, _, _, _, rfl, rfl, SqL.of hc, h0, ?_⟩
    refine ⟨_, rfl, rfl, _, rfl, ?_⟩
    by_cases hq0 : code q = 0
    · refine iteP (dec_yes (by omega)) ?_
      cases q with
      | begin_ n =>
        refine ⟨_, rfl, x, dx, _, rfl, hx, pf_no _ j e (by decide +kernel) (by decide +kernel) (by decide +kernel), _, rfl, c, _, _, vN n, rfl, rfl, SqL.of hc, rfl, g, x, n, n0, ls0, ear0, rfl, ob, fun bad => ?_, fun n1 n8 => ?_⟩
        · rw [act_bad bad] at k
          exact fun H' p s' np hp => k H' p (keep_same s') np (hH.same s') hp (by show 1 ≤ 64; decide)
        · rw [act_new (by omega)] at k
          exact fun H' p k' np ob' hp => k H' p k' np ⟨ob', good_new n1 n8, (fun _ hm => nomatch hm), Nat.zero_le _⟩ hp (by show 1 ≤ 64; decide)
      | _ => cases hq0
    · refine iteN (dec_no (by omega)) ?_
      cases st with
      | none =>
        obtain ⟨_, dx, j, e, es, hx, _⟩ := id hH
        refine ⟨_, rfl, x, C, dx, _, _, rfl, hx, T.cl, T.nS, pf_size 0 j e, rfl, _, rfl, ?_⟩
        refine iteP (dec_yes rfl) ?_
        rw [act_none hq0] at k
        exact ⟨(by show 1 ≤ sizeLine; decide), fun p hp => k _ p (keep_same (same_upd hp)) hp (HeldS.same (s := none) hH (same_upd hp)) upd_same (by show 1 ≤ 64; decide)⟩
      | some a =>
        obtain ⟨obA, N, _, _⟩ := id hH
        obtain ⟨_, dx, j, e, es, hx, _⟩ := id obA
        have n1 := N.n1
        refine ⟨_, rfl, x, C, dx, _, _, rfl, hx, T.cl, T.nS, pf_size _ j e, rfl, _, rfl, ?_⟩
        refine iteN (dec_no (by omega)) ?_
        rw [act_some] at k
        have ch : Ch C H Q g x a q := ⟨hH, fun H' p k' np ho hp => k H' p k' np ho hp (row_len N q)⟩
        refine ⟨_, rfl, c, _, rfl, .inl (SqL.of hc), rfl, _, rfl, ?_⟩
        rw [List.length_map]
        by_cases hl : (flatC q).length = 1
        · refine iteP (dec_yes (by omega)) ?_
          exact ⟨_, rfl, _, rfl, g, x, a, q, rfl, hl, ch⟩
        · refine iteN (dec_no (by omega)) ?_
          refine ⟨_, rfl, (by show 6 ≤ sizeLine; decide), fun t ht => ?_⟩
          have s1 := same_upd (o := .tup [V.int 1, V.int 2, V.int 4, V.int 5, V.int 6, V.int 8]) ht
          refine ⟨t, _, rfl, .inr (SqT.of upd_same), rfl, rfl, _, rfl, ?_⟩
          have ei : (if false = true then !inV (vN (code q)) [V.int 1, V.int 2, V.int 4, V.int 5, V.int 6, V.int 8] else inV (vN (code q)) [V.int 1, V.int 2, V.int 4, V.int 5, V.int 6, V.int 8]) = isP q := by
            rw [if_neg Bool.false_ne_true, ← isP_in]
            exact in_nats (code q) [1, 2, 4, 5, 6, 8]
          rw [ei]
          cases hP : isP q with
          | true => exact ⟨_, rfl, _, rfl, g, x, c, a, q, rfl, s1 _ _ hc, hP, ch.same s1⟩
          | false => exact ⟨_, rfl, _, rfl, g, x, c, a, q, rfl, s1 _ _ hc, isT_of hq0 hl hP, fun t l e => (hB.row t l e).1, ch.same s1⟩
end
end LL
namespace LL
open PySem PySem.Spec PyProof.Rows L2
open PySem.W (Codec)
def intOf : Value → Option Int
  | .int i _ => some i
  | _ => none
theorem vals_nat : ∀ (l : List Nat) (us : List Value), us.map intOf = l.map (fun k : Nat => some (k : Int)) → Vals (l.map vN) us
  | [], [], _ => .nil
  | [], _ :: _, h => by simp at h
  | _ :: _, [], h => by simp at h
  | k :: l, u :: us, h => by
    rw [List.map_cons, List.map_cons] at h
    obtain ⟨h1, h2⟩ := List.cons.inj h
    refine .cons ?_ (vals_nat l us h2)
    cases u <;> first | (cases h1; exact ⟨_, rfl⟩) | cases h1
/-- a def of the top, as the top has left it -/
structure DefAt (K : PySem.W.Frag) (x : Str) (st : Stmt) (f : Addr) (fd : FuncData) : Prop where
  gl : PySem.W.nsIn K mainGlobals x = some (some (.ref f))
  fn : Fun K x x st f fd
theorem defAt_mk {K : PySem.W.Frag} {x : Str} {st : Stmt} {f : Addr} {oc : Value} {od an : Option Addr} {osl : Array (Option Value)} {kV doc pm cdv ct : Value} (g : PySem.W.nsIn K mainGlobals x = some (some (.ref f)))
    (l : K.lookup f = some ⟨oc, od, .func (PySem.W.fnOf x x (defArgs st) (defBody st) (defScope st) .none kV doc pm an cdv ct), osl⟩)
    (c : PySem.W.codeIn K cdv x = true) (k : PySem.W.keepIn K (.ref f) = true) : DefAt K x st f (PySem.W.fnOf x x (defArgs st) (defBody st) (defScope st) .none kV doc pm an cdv ct) := ⟨g, fun_mk l c k⟩
/-- a method -/
structure MetAt (K : PySem.W.Frag) (C : Addr) (x qual : Str) (st : Stmt) (f : Addr) (fd : FuncData) : Prop where
  at_ : PySem.W.findIn K (.ref C) x = some (some (.ref f))
  is : PySem.W.isFn K (.ref f) = true
  fn : Fun K x qual st f fd
theorem metAt_mk {K : PySem.W.Frag} {C : Addr} {x qual : Str} {st : Stmt} {f : Addr} {oc : Value} {od an : Option Addr} {osl : Array (Option Value)} {kV doc pm cdv ct : Value} (a : PySem.W.findIn K (.ref C) x = some (some (.ref f))) (i : PySem.W.isFn K (.ref f) = true)
    (l : K.lookup f = some ⟨oc, od, .func (PySem.W.fnOf x qual (defArgs st) (defBody st) (defScope st) .none kV doc pm an cdv ct), osl⟩)
    (c : PySem.W.codeIn K cdv qual = true) (k : PySem.W.keepIn K (.ref f) = true) : MetAt K C x qual st f (PySem.W.fnOf x qual (defArgs st) (defBody st) (defScope st) .none kV doc pm an cdv ct) := ⟨a, i, fun_mk l c k⟩
theorem all_mk {P : Program} {w : World} {K : PySem.W.Frag} {h : Heap} {mg : Str → Option Value} {fa : Addr} (X : K.In h) (GG : h.Ns mainGlobals mg) (hfa : mg "answers" = some (.ref fa))
    {t_FAR : Tok} (g_FAR : PySem.W.nsIn K mainGlobals "FAR" = some (some (.int (10000) t_FAR)))
    {t_NO_SUCH : Tok} (g_NO_SUCH : PySem.W.nsIn K mainGlobals "NO_SUCH" = some (some (.int (-2) t_NO_SUCH)))
    {t_NO_CHANGE : Tok} (g_NO_CHANGE : PySem.W.nsIn K mainGlobals "NO_CHANGE" = some (some (.int (-6) t_NO_CHANGE)))
    {t_NOT_BEGUN : Tok} (g_NOT_BEGUN : PySem.W.nsIn K mainGlobals "NOT_BEGUN" = some (some (.int (-11) t_NOT_BEGUN)))
    {t_OUT_OF_RANGE : Tok} (g_OUT_OF_RANGE : PySem.W.nsIn K mainGlobals "OUT_OF_RANGE" = some (some (.int (-22) t_OUT_OF_RANGE)))
    {t_TOO_MANY : Tok} (g_TOO_MANY : PySem.W.nsIn K mainGlobals "TOO_MANY" = some (some (.int (-28) t_TOO_MANY)))
    {t_NONE_THERE : Tok} (g_NONE_THERE : PySem.W.nsIn K mainGlobals "NONE_THERE" = some (some (.int (-33) t_NONE_THERE)))
    {t_MOST_PLACES : Tok} (g_MOST_PLACES : PySem.W.nsIn K mainGlobals "MOST_PLACES" = some (some (.int (8) t_MOST_PLACES)))
    {t_MOST_LINES : Tok} (g_MOST_LINES : PySem.W.nsIn K mainGlobals "MOST_LINES" = some (some (.int (14) t_MOST_LINES)))
    {t_MOST_LENGTH : Tok} (g_MOST_LENGTH : PySem.W.nsIn K mainGlobals "MOST_LENGTH" = some (some (.int (99) t_MOST_LENGTH)))
    {t_MOST_TIMES : Tok} (g_MOST_TIMES : PySem.W.nsIn K mainGlobals "MOST_TIMES" = some (some (.int (9) t_MOST_TIMES)))
    {t_MOST_BACK : Tok} (g_MOST_BACK : PySem.W.nsIn K mainGlobals "MOST_BACK" = some (some (.int (10) t_MOST_BACK)))
    {t_MOST_TO_CHOOSE_FROM : Tok} (g_MOST_TO_CHOOSE_FROM : PySem.W.nsIn K mainGlobals "MOST_TO_CHOOSE_FROM" = some (some (.int (10) t_MOST_TO_CHOOSE_FROM)))
    {t_DOES : Tok} (g_DOES : PySem.W.nsIn K mainGlobals "DOES" = some (some (.int (12) t_DOES)))
    (b_range : PySem.W.nsIn K mainGlobals "range" = some none)
    (b_min : PySem.W.nsIn K mainGlobals "min" = some none)
    (b_max : PySem.W.nsIn K mainGlobals "max" = some none)
    (b_len : PySem.W.nsIn K mainGlobals "len" = some none)
    (b_sorted : PySem.W.nsIn K mainGlobals "sorted" = some none)
    (b_list : PySem.W.nsIn K mainGlobals "list" = some none)
    (b_sum : PySem.W.nsIn K mainGlobals "sum" = some none)
    (b_any : PySem.W.nsIn K mainGlobals "any" = some none)
    (b_enumerate : PySem.W.nsIn K mainGlobals "enumerate" = some none)
    {aT : Addr} {odT : Option Addr} {itsT : Array Value} {nT : Nat} {slT : Array (Option Value)} (gT : PySem.W.nsIn K mainGlobals "ARGUMENTS" = some (some (.ref aT))) (lT : K.lookup aT = some ⟨.type "tuple", odT, .seq itsT nT, slT⟩) (zT : itsT.size ≤ sizeLine) (hv : Vals (argL.map vN) itsT.toList)
    {C : Addr} (aC : PySem.W.nsIn K mainGlobals "Places" = some (some (.ref C))) (pg : PySem.W.plainGet K C Str.empty = true) (hd : PySem.W.hasDictIn K C = true) (po : PySem.W.plainOver K C = true) (sa : PySem.W.findIn K (.ref C) "__setattr__" = some (some (.builtin "object.__setattr__"))) (mk : PySem.W.makesIn K C = true) (kc : PySem.W.keepIn K (.ref C) = true) (nS : PySem.W.findIn K (.ref C) "size" = some none) (nJ : PySem.W.findIn K (.ref C) "joined" = some none) (nE : PySem.W.findIn K (.ref C) "earlier" = some none)
    {f_distances : Addr} {fd_distances : FuncData} (D_distances : DefAt K "distances" sDist f_distances fd_distances)
    {f_all_distances : Addr} {fd_all_distances : FuncData} (D_all_distances : DefAt K "all_distances" s_all_distances f_all_distances fd_all_distances)
    {f_step : Addr} {fd_step : FuncData} (D_step : DefAt K "step" sStep f_step fd_step)
    {f_way_between : Addr} {fd_way_between : FuncData} (D_way_between : DefAt K "way_between" sBetw f_way_between fd_way_between)
    {f_kept_lines : Addr} {fd_kept_lines : FuncData} (D_kept_lines : DefAt K "kept_lines" sKept f_kept_lines fd_kept_lines)
    {f_lightest_lines : Addr} {fd_lightest_lines : FuncData} (D_lightest_lines : DefAt K "lightest_lines" s_lightest_lines f_lightest_lines fd_lightest_lines)
    {f_total_length : Addr} {fd_total_length : FuncData} (D_total_length : DefAt K "total_length" s_total_length f_total_length fd_total_length)
    {f_most_stretched : Addr} {fd_most_stretched : FuncData} (D_most_stretched : DefAt K "most_stretched" s_most_stretched f_most_stretched fd_most_stretched)
    {f_lines_in_shortest_ring : Addr} {fd_lines_in_shortest_ring : FuncData} (D_lines_in_shortest_ring : DefAt K "lines_in_shortest_ring" s_lines_in_shortest_ring f_lines_in_shortest_ring fd_lines_in_shortest_ring)
    {f_lines_do : Addr} {fd_lines_do : FuncData} (D_lines_do : DefAt K "lines_do" s_lines_do f_lines_do fd_lines_do)
    {f_picked : Addr} {fd_picked : FuncData} (D_picked : DefAt K "picked" s_picked f_picked fd_picked)
    {f_with_one_more : Addr} {fd_with_one_more : FuncData} (D_with_one_more : DefAt K "with_one_more" s_with_one_more f_with_one_more fd_with_one_more)
    {f_first_that_does : Addr} {fd_first_that_does : FuncData} (D_first_that_does : DefAt K "first_that_does" s_first_that_does f_first_that_does fd_first_that_does)
    {f_fewest_lines : Addr} {fd_fewest_lines : FuncData} (D_fewest_lines : DefAt K "fewest_lines" s_fewest_lines f_fewest_lines fd_fewest_lines)
    {f_wrong_times : Addr} {fd_wrong_times : FuncData} (D_wrong_times : DefAt K "wrong_times" s_wrong_times f_wrong_times fd_wrong_times)
    {f_told : Addr} {fd_told : FuncData} (D_told : DefAt K "told" s_told f_told fd_told)
    {f_distance_told : Addr} {fd_distance_told : FuncData} (D_distance_told : DefAt K "distance_told" s_distance_told f_distance_told fd_distance_told)
    {f_answer_to_bare : Addr} {fd_answer_to_bare : FuncData} (D_answer_to_bare : DefAt K "answer_to_bare" s_bare f_answer_to_bare fd_answer_to_bare)
    {f_answer_on_places : Addr} {fd_answer_on_places : FuncData} (D_answer_on_places : DefAt K "answer_on_places" s_places f_answer_on_places fd_answer_on_places)
    {f_answer_for_times : Addr} {fd_answer_for_times : FuncData} (D_answer_for_times : DefAt K "answer_for_times" s_times f_answer_for_times fd_answer_for_times)
    {f_answer_to : Addr} {fd_answer_to : FuncData} (D_answer_to : DefAt K "answer_to" s_answer_to f_answer_to fd_answer_to)
    {f_end_of_call : Addr} {fd_end_of_call : FuncData} (D_end_of_call : DefAt K "end_of_call" s_end_of_call f_end_of_call fd_end_of_call)
    {f_answers : Addr} {fd_answers : FuncData} (D_answers : DefAt K "answers" s_answers f_answers fd_answers)
    {m_init : Addr} {md_init : FuncData} (E_init : MetAt K C "__init__" "Places.__init__" s_init m_init md_init)
    {m_lacks : Addr} {md_lacks : FuncData} (E_lacks : MetAt K C "lacks" "Places.lacks" s_lacks m_lacks md_lacks)
    {m_begin : Addr} {md_begin : FuncData} (E_begin : MetAt K C "begin" "Places.begin" s_begin m_begin md_begin)
    {m_changed_to : Addr} {md_changed_to : FuncData} (E_changed_to : MetAt K C "changed_to" "Places.changed_to" s_changed_to m_changed_to md_changed_to)
    {m_back : Addr} {md_back : FuncData} (E_back : MetAt K C "back" "Places.back" s_back m_back md_back)
    {m_state : Addr} {md_state : FuncData} (E_state : MetAt K C "state" "Places.state" s_state m_state md_state)
    {m_line : Addr} {md_line : FuncData} (E_line : MetAt K C "line" "Places.line" s_line m_line md_line)
    {m_cut : Addr} {md_cut : FuncData} (E_cut : MetAt K C "cut" "Places.cut" s_cut m_cut md_cut)
    {m_kept_for : Addr} {md_kept_for : FuncData} (E_kept_for : MetAt K C "kept_for" "Places.kept_for" s_kept_for m_kept_for md_kept_for)
    {m_leave : Addr} {md_leave : FuncData} (E_leave : MetAt K C "leave" "Places.leave" s_leave m_leave md_leave)
    {m_lines : Addr} {md_lines : FuncData} (E_lines : MetAt K C "lines" "Places.lines" s_lines m_lines md_lines)
    {m_dist : Addr} {md_dist : FuncData} (E_dist : MetAt K C "dist" "Places.dist" s_dist m_dist md_dist)
    {m_next_place : Addr} {md_next_place : FuncData} (E_next_place : MetAt K C "next_place" "Places.next_place" s_next_place m_next_place md_next_place)
    {m_way : Addr} {md_way : FuncData} (E_way : MetAt K C "way" "Places.way" s_way m_way md_way)
    {m_kept : Addr} {md_kept : FuncData} (E_kept : MetAt K C "kept" "Places.kept" s_kept m_kept md_kept)
    {m_keptdist : Addr} {md_keptdist : FuncData} (E_keptdist : MetAt K C "keptdist" "Places.keptdist" s_keptdist m_keptdist md_keptdist)
    {m_keptweight : Addr} {md_keptweight : FuncData} (E_keptweight : MetAt K C "keptweight" "Places.keptweight" s_keptweight m_keptweight md_keptweight)
    {m_worst : Addr} {md_worst : FuncData} (E_worst : MetAt K C "worst" "Places.worst" s_worst m_worst md_worst)
    {m_ring : Addr} {md_ring : FuncData} (E_ring : MetAt K C "ring" "Places.ring" s_ring m_ring md_ring)
    {m_does : Addr} {md_does : FuncData} (E_does : MetAt K C "does" "Places.does" s_does m_does md_does)
    {m_fewest : Addr} {md_fewest : FuncData} (E_fewest : MetAt K C "fewest" "Places.fewest" s_fewest m_fewest md_fewest)
    {m_least : Addr} {md_least : FuncData} (E_least : MetAt K C "least" "Places.least" s_least m_least md_least)
    : ∃ fd : FuncData, (∀ (s : Shared) (us : List Value), us.length = (["calls"] : List Str).length → BindsTo s fd ⟨us, []⟩ ((["calls"] : List Str).zip us)) ∧ ∀ base : Heap, K.In base → base.Ns mainGlobals mg → FnOk P w K mg base CX0 8 fa fd ["calls"] (spAnswers K) := by
  have eqf := hfa.symm.trans (PySem.W.mg_of X GG D_answers.gl)
  cases eqf
  have G : Gtop mg := ⟨⟨_, PySem.W.mg_of X GG g_FAR⟩, ⟨_, PySem.W.mg_of X GG g_NO_SUCH⟩, ⟨_, PySem.W.mg_of X GG g_NO_CHANGE⟩, ⟨_, PySem.W.mg_of X GG g_NOT_BEGUN⟩, ⟨_, PySem.W.mg_of X GG g_OUT_OF_RANGE⟩, ⟨_, PySem.W.mg_of X GG g_TOO_MANY⟩, ⟨_, PySem.W.mg_of X GG g_NONE_THERE⟩, ⟨_, PySem.W.mg_of X GG g_MOST_PLACES⟩, ⟨_, PySem.W.mg_of X GG g_MOST_LINES⟩, ⟨_, PySem.W.mg_of X GG g_MOST_LENGTH⟩, ⟨_, PySem.W.mg_of X GG g_MOST_TIMES⟩, ⟨_, PySem.W.mg_of X GG g_MOST_BACK⟩, ⟨_, PySem.W.mg_of X GG g_MOST_TO_CHOOSE_FROM⟩, ⟨_, PySem.W.mg_of X GG g_DOES⟩, PySem.W.mg_none_of X GG b_range, PySem.W.mg_none_of X GG b_min, PySem.W.mg_none_of X GG b_max, PySem.W.mg_none_of X GG b_len, PySem.W.mg_none_of X GG b_sorted, PySem.W.mg_none_of X GG b_list, PySem.W.mg_none_of X GG b_sum, PySem.W.mg_none_of X GG b_any, PySem.W.mg_none_of X GG b_enumerate⟩
  have T : Txt K mg C := ⟨⟨pg, hd, po, sa⟩, nS, nJ, nE, PySem.W.mg_of X GG aC⟩
  have B : Tab K mg aT := ⟨PySem.W.mg_of X GG gT, fun H => .inr ⟨_, itsT, nT, lT, rfl, rfl, zT, hv⟩⟩
  have b_d_distances := D_distances.fn.binds (ps := ["size", "lines", "start"]) fun _ _ _ _ _ _ us hl => match us, hl with | [_, _, _], _ => rfl
  have b_d_all_distances := D_all_distances.fn.binds (ps := ["size", "lines"]) fun _ _ _ _ _ _ us hl => match us, hl with | [_, _], _ => rfl
  have b_d_step := D_step.fn.binds (ps := ["lines", "far", "place"]) fun _ _ _ _ _ _ us hl => match us, hl with | [_, _, _], _ => rfl
  have b_d_way_between := D_way_between.fn.binds (ps := ["size", "lines", "start", "goal"]) fun _ _ _ _ _ _ us hl => match us, hl with | [_, _, _, _], _ => rfl
  have b_d_kept_lines := D_kept_lines.fn.binds (ps := ["size", "lines", "times"]) fun _ _ _ _ _ _ us hl => match us, hl with | [_, _, _], _ => rfl
  have b_d_lightest_lines := D_lightest_lines.fn.binds (ps := ["size", "lines"]) fun _ _ _ _ _ _ us hl => match us, hl with | [_, _], _ => rfl
  have b_d_total_length := D_total_length.fn.binds (ps := ["lines"]) fun _ _ _ _ _ _ us hl => match us, hl with | [_], _ => rfl
  have b_d_most_stretched := D_most_stretched.fn.binds (ps := ["size", "lines", "kept"]) fun _ _ _ _ _ _ us hl => match us, hl with | [_, _, _], _ => rfl
  have b_d_lines_in_shortest_ring := D_lines_in_shortest_ring.fn.binds (ps := ["size", "lines"]) fun _ _ _ _ _ _ us hl => match us, hl with | [_, _], _ => rfl
  have b_d_lines_do := D_lines_do.fn.binds (ps := ["chosen", "whole", "times"]) fun _ _ _ _ _ _ us hl => match us, hl with | [_, _, _], _ => rfl
  have b_d_picked := D_picked.fn.binds (ps := ["lines", "numbers"]) fun _ _ _ _ _ _ us hl => match us, hl with | [_, _], _ => rfl
  have b_d_with_one_more := D_with_one_more.fn.binds (ps := ["choices", "limit"]) fun _ _ _ _ _ _ us hl => match us, hl with | [_, _], _ => rfl
  have b_d_first_that_does := D_first_that_does.fn.binds (ps := ["lines", "choices", "whole", "times"]) fun _ _ _ _ _ _ us hl => match us, hl with | [_, _, _, _], _ => rfl
  have b_d_fewest_lines := D_fewest_lines.fn.binds (ps := ["size", "lines", "times"]) fun _ _ _ _ _ _ us hl => match us, hl with | [_, _, _], _ => rfl
  have b_d_wrong_times := D_wrong_times.fn.binds (ps := ["t"]) fun _ _ _ _ _ _ us hl => match us, hl with | [_], _ => rfl
  have b_d_told := D_told.fn.binds (ps := ["lines"]) fun _ _ _ _ _ _ us hl => match us, hl with | [_], _ => rfl
  have b_d_distance_told := D_distance_told.fn.binds (ps := ["size", "lines", "u", "v"]) fun _ _ _ _ _ _ us hl => match us, hl with | [_, _, _, _], _ => rfl
  have b_d_answer_to_bare := D_answer_to_bare.fn.binds (ps := ["held", "number"]) fun _ _ _ _ _ _ us hl => match us, hl with | [_, _], _ => rfl
  have b_d_answer_on_places := D_answer_on_places.fn.binds (ps := ["held", "call"]) fun _ _ _ _ _ _ us hl => match us, hl with | [_, _], _ => rfl
  have b_d_answer_for_times := D_answer_for_times.fn.binds (ps := ["held", "call"]) fun _ _ _ _ _ _ us hl => match us, hl with | [_, _], _ => rfl
  have b_d_answer_to := D_answer_to.fn.binds (ps := ["held", "call"]) fun _ _ _ _ _ _ us hl => match us, hl with | [_, _], _ => rfl
  have b_d_end_of_call := D_end_of_call.fn.binds (ps := ["calls", "at"]) fun _ _ _ _ _ _ us hl => match us, hl with | [_, _], _ => rfl
  have b_d_answers := D_answers.fn.binds (ps := ["calls"]) fun _ _ _ _ _ _ us hl => match us, hl with | [_], _ => rfl
  have e_init := E_init.fn.binds (ps := ["self"]) fun _ _ _ _ _ _ us hl => match us, hl with | [_], _ => rfl
  have e_lacks := E_lacks.fn.binds (ps := ["self", "u", "v"]) fun _ _ _ _ _ _ us hl => match us, hl with | [_, _, _], _ => rfl
  have e_begin := E_begin.fn.binds (ps := ["self", "n"]) fun _ _ _ _ _ _ us hl => match us, hl with | [_, _], _ => rfl
  have e_changed_to := E_changed_to.fn.binds (ps := ["self", "lines"]) fun _ _ _ _ _ _ us hl => match us, hl with | [_, _], _ => rfl
  have e_back := E_back.fn.binds (ps := ["self"]) fun _ _ _ _ _ _ us hl => match us, hl with | [_], _ => rfl
  have e_state := E_state.fn.binds (ps := ["self"]) fun _ _ _ _ _ _ us hl => match us, hl with | [_], _ => rfl
  have e_line := E_line.fn.binds (ps := ["self", "a", "b", "w"]) fun _ _ _ _ _ _ us hl => match us, hl with | [_, _, _, _], _ => rfl
  have e_cut := E_cut.fn.binds (ps := ["self", "i"]) fun _ _ _ _ _ _ us hl => match us, hl with | [_, _], _ => rfl
  have e_kept_for := E_kept_for.fn.binds (ps := ["self", "t"]) fun _ _ _ _ _ _ us hl => match us, hl with | [_, _], _ => rfl
  have e_leave := E_leave.fn.binds (ps := ["self", "t"]) fun _ _ _ _ _ _ us hl => match us, hl with | [_, _], _ => rfl
  have e_lines := E_lines.fn.binds (ps := ["self"]) fun _ _ _ _ _ _ us hl => match us, hl with | [_], _ => rfl
  have e_dist := E_dist.fn.binds (ps := ["self", "u", "v"]) fun _ _ _ _ _ _ us hl => match us, hl with | [_, _, _], _ => rfl
  have e_next_place := E_next_place.fn.binds (ps := ["self", "u", "v"]) fun _ _ _ _ _ _ us hl => match us, hl with | [_, _, _], _ => rfl
  have e_way := E_way.fn.binds (ps := ["self", "u", "v"]) fun _ _ _ _ _ _ us hl => match us, hl with | [_, _, _], _ => rfl
  have e_kept := E_kept.fn.binds (ps := ["self", "t"]) fun _ _ _ _ _ _ us hl => match us, hl with | [_, _], _ => rfl
  have e_keptdist := E_keptdist.fn.binds (ps := ["self", "t", "u", "v"]) fun _ _ _ _ _ _ us hl => match us, hl with | [_, _, _, _], _ => rfl
  have e_keptweight := E_keptweight.fn.binds (ps := ["self", "t"]) fun _ _ _ _ _ _ us hl => match us, hl with | [_, _], _ => rfl
  have e_worst := E_worst.fn.binds (ps := ["self", "t"]) fun _ _ _ _ _ _ us hl => match us, hl with | [_, _], _ => rfl
  have e_ring := E_ring.fn.binds (ps := ["self", "t"]) fun _ _ _ _ _ _ us hl => match us, hl with | [_, _], _ => rfl
  have e_does := E_does.fn.binds (ps := ["self", "t", "row"]) fun _ _ _ _ _ _ us hl => match us, hl with | [_, _, _], _ => rfl
  have e_fewest := E_fewest.fn.binds (ps := ["self", "t"]) fun _ _ _ _ _ _ us hl => match us, hl with | [_, _], _ => rfl
  have e_least := E_least.fn.binds (ps := ["self"]) fun _ _ _ _ _ _ us hl => match us, hl with | [_], _ => rfl
  obtain ⟨oc, od, kV, doc, pm, an, cdv, ct, osl, efd, _, _⟩ := D_answers.fn.ex
  refine ⟨fd_answers, fun s us hl => ?_, fun base _ _ => ?_⟩
  rotate_left
  have A_distances : At P w K mg base 1 "distances" ["size", "lines", "start"] spDist f_distances fd_distances := ⟨ok_dist D_distances.fn G, PySem.W.mg_of X GG D_distances.gl, D_distances.fn.kp, b_d_distances⟩
  have A_all_distances : At P w K mg base 2 "all_distances" ["size", "lines"] spAll f_all_distances fd_all_distances := ⟨ok_all D_all_distances.fn G A_distances, PySem.W.mg_of X GG D_all_distances.gl, D_all_distances.fn.kp, b_d_all_distances⟩
  have A_step : At P w K mg base 1 "step" ["lines", "far", "place"] spStep f_step fd_step := ⟨ok_step D_step.fn G, PySem.W.mg_of X GG D_step.gl, D_step.fn.kp, b_d_step⟩
  have A_way_between : At P w K mg base 2 "way_between" ["size", "lines", "start", "goal"] spBetw f_way_between fd_way_between := ⟨ok_betw D_way_between.fn G A_distances A_step, PySem.W.mg_of X GG D_way_between.gl, D_way_between.fn.kp, b_d_way_between⟩
  have A_kept_lines : At P w K mg base 2 "kept_lines" ["size", "lines", "times"] spKept f_kept_lines fd_kept_lines := ⟨ok_kept D_kept_lines.fn G A_distances, PySem.W.mg_of X GG D_kept_lines.gl, D_kept_lines.fn.kp, b_d_kept_lines⟩
  have A_lightest_lines : At P w K mg base 2 "lightest_lines" ["size", "lines"] spLight f_lightest_lines fd_lightest_lines := ⟨ok_light D_lightest_lines.fn G A_distances, PySem.W.mg_of X GG D_lightest_lines.gl, D_lightest_lines.fn.kp, b_d_lightest_lines⟩
  have A_total_length : At P w K mg base 1 "total_length" ["lines"] spTotal f_total_length fd_total_length := ⟨ok_total D_total_length.fn G, PySem.W.mg_of X GG D_total_length.gl, D_total_length.fn.kp, b_d_total_length⟩
  have A_most_stretched : At P w K mg base 2 "most_stretched" ["size", "lines", "kept"] spMost f_most_stretched fd_most_stretched := ⟨ok_most D_most_stretched.fn G A_distances, PySem.W.mg_of X GG D_most_stretched.gl, D_most_stretched.fn.kp, b_d_most_stretched⟩
  have A_lines_in_shortest_ring : At P w K mg base 2 "lines_in_shortest_ring" ["size", "lines"] spRing f_lines_in_shortest_ring fd_lines_in_shortest_ring := ⟨ok_ring D_lines_in_shortest_ring.fn G A_distances, PySem.W.mg_of X GG D_lines_in_shortest_ring.gl, D_lines_in_shortest_ring.fn.kp, b_d_lines_in_shortest_ring⟩
  have A_lines_do : At P w K mg base 2 "lines_do" ["chosen", "whole", "times"] spDo f_lines_do fd_lines_do := ⟨ok_do D_lines_do.fn G A_distances, PySem.W.mg_of X GG D_lines_do.gl, D_lines_do.fn.kp, b_d_lines_do⟩
  have A_picked : At P w K mg base 1 "picked" ["lines", "numbers"] spPick f_picked fd_picked := ⟨ok_pick D_picked.fn G, PySem.W.mg_of X GG D_picked.gl, D_picked.fn.kp, b_d_picked⟩
  have A_with_one_more : At P w K mg base 1 "with_one_more" ["choices", "limit"] spMore f_with_one_more fd_with_one_more := ⟨ok_more D_with_one_more.fn G, PySem.W.mg_of X GG D_with_one_more.gl, D_with_one_more.fn.kp, b_d_with_one_more⟩
  have A_first_that_does : At P w K mg base 3 "first_that_does" ["lines", "choices", "whole", "times"] spFirst f_first_that_does fd_first_that_does := ⟨ok_first D_first_that_does.fn G A_picked A_lines_do, PySem.W.mg_of X GG D_first_that_does.gl, D_first_that_does.fn.kp, b_d_first_that_does⟩
  have A_fewest_lines : At P w K mg base 4 "fewest_lines" ["size", "lines", "times"] spFew f_fewest_lines fd_fewest_lines := ⟨ok_few D_fewest_lines.fn G A_all_distances A_lightest_lines A_with_one_more A_first_that_does, PySem.W.mg_of X GG D_fewest_lines.gl, D_fewest_lines.fn.kp, b_d_fewest_lines⟩
  have A_wrong_times : At P w K mg base 1 "wrong_times" ["t"] spWrong f_wrong_times fd_wrong_times := ⟨ok_wrong D_wrong_times.fn G, PySem.W.mg_of X GG D_wrong_times.gl, D_wrong_times.fn.kp, b_d_wrong_times⟩
  have A_told : At P w K mg base 1 "told" ["lines"] spTold f_told fd_told := ⟨ok_told D_told.fn G, PySem.W.mg_of X GG D_told.gl, D_told.fn.kp, b_d_told⟩
  have A_distance_told : At P w K mg base 2 "distance_told" ["size", "lines", "u", "v"] spDTold f_distance_told fd_distance_told := ⟨ok_dtold D_distance_told.fn G A_distances, PySem.W.mg_of X GG D_distance_told.gl, D_distance_told.fn.kp, b_d_distance_told⟩
  have M_init : Mt P w K mg base C 1 "__init__" ["self"] (spInitO (HeldN C) C) m_init md_init := ⟨ok_init E_init.fn T, ⟨E_init.at_, E_init.is, E_init.fn.kp⟩, e_init⟩
  have M_lacks : Mt P w K mg base C 1 "lacks" ["self", "u", "v"] (spLacks C) m_lacks md_lacks := ⟨ok_lacks E_lacks.fn T, ⟨E_lacks.at_, E_lacks.is, E_lacks.fn.kp⟩, e_lacks⟩
  have M_begin : Mt P w K mg base C 1 "begin" ["self", "n"] (spBegin C) m_begin md_begin := ⟨ok_begin E_begin.fn G T, ⟨E_begin.at_, E_begin.is, E_begin.fn.kp⟩, e_begin⟩
  have M_changed_to : Mt P w K mg base C 1 "changed_to" ["self", "lines"] (spChanged C) m_changed_to md_changed_to := ⟨ok_changed E_changed_to.fn G T, ⟨E_changed_to.at_, E_changed_to.is, E_changed_to.fn.kp⟩, e_changed_to⟩
  have M_back : Mt P w K mg base C 1 "back" ["self"] (spBack C) m_back md_back := ⟨ok_back E_back.fn G T, ⟨E_back.at_, E_back.is, E_back.fn.kp⟩, e_back⟩
  have M_state : Mt P w K mg base C 1 "state" ["self"] (spState C) m_state md_state := ⟨ok_state E_state.fn G T, ⟨E_state.at_, E_state.is, E_state.fn.kp⟩, e_state⟩
  have M_line : Mt P w K mg base C 2 "line" ["self", "a", "b", "w"] (spLine C) m_line md_line := ⟨ok_line E_line.fn G T M_lacks M_changed_to, ⟨E_line.at_, E_line.is, E_line.fn.kp⟩, e_line⟩
  have M_cut : Mt P w K mg base C 2 "cut" ["self", "i"] (spCut C) m_cut md_cut := ⟨ok_cut E_cut.fn G T M_changed_to, ⟨E_cut.at_, E_cut.is, E_cut.fn.kp⟩, e_cut⟩
  have M_kept_for : Mt P w K mg base C 3 "kept_for" ["self", "t"] (spKeptFor C) m_kept_for md_kept_for := ⟨ok_keptfor E_kept_for.fn T A_kept_lines, ⟨E_kept_for.at_, E_kept_for.is, E_kept_for.fn.kp⟩, e_kept_for⟩
  have M_leave : Mt P w K mg base C 4 "leave" ["self", "t"] (spLeave C) m_leave md_leave := ⟨ok_leave E_leave.fn G T A_wrong_times M_kept_for M_changed_to, ⟨E_leave.at_, E_leave.is, E_leave.fn.kp⟩, e_leave⟩
  have M_lines : Mt P w K mg base C 2 "lines" ["self"] (spLines C) m_lines md_lines := ⟨ok_lines E_lines.fn T A_told, ⟨E_lines.at_, E_lines.is, E_lines.fn.kp⟩, e_lines⟩
  have M_dist : Mt P w K mg base C 3 "dist" ["self", "u", "v"] (spDistM C) m_dist md_dist := ⟨ok_distM E_dist.fn G T M_lacks A_distance_told, ⟨E_dist.at_, E_dist.is, E_dist.fn.kp⟩, e_dist⟩
  have M_next_place : Mt P w K mg base C 3 "next_place" ["self", "u", "v"] (spNext C) m_next_place md_next_place := ⟨ok_next E_next_place.fn G T M_lacks A_way_between, ⟨E_next_place.at_, E_next_place.is, E_next_place.fn.kp⟩, e_next_place⟩
  have M_way : Mt P w K mg base C 3 "way" ["self", "u", "v"] (spWay C) m_way md_way := ⟨ok_way E_way.fn G T M_lacks A_way_between, ⟨E_way.at_, E_way.is, E_way.fn.kp⟩, e_way⟩
  have M_kept : Mt P w K mg base C 4 "kept" ["self", "t"] (spKeptM C) m_kept md_kept := ⟨ok_keptM E_kept.fn G T A_wrong_times A_told M_kept_for, ⟨E_kept.at_, E_kept.is, E_kept.fn.kp⟩, e_kept⟩
  have M_keptdist : Mt P w K mg base C 4 "keptdist" ["self", "t", "u", "v"] (spKeptdist C) m_keptdist md_keptdist := ⟨ok_keptdist E_keptdist.fn G T M_lacks A_wrong_times A_distance_told M_kept_for, ⟨E_keptdist.at_, E_keptdist.is, E_keptdist.fn.kp⟩, e_keptdist⟩
  have M_keptweight : Mt P w K mg base C 4 "keptweight" ["self", "t"] (spKeptweight C) m_keptweight md_keptweight := ⟨ok_keptweight E_keptweight.fn G T A_wrong_times A_total_length M_kept_for, ⟨E_keptweight.at_, E_keptweight.is, E_keptweight.fn.kp⟩, e_keptweight⟩
  have M_worst : Mt P w K mg base C 4 "worst" ["self", "t"] (spWorst C) m_worst md_worst := ⟨ok_worst E_worst.fn G T A_wrong_times A_most_stretched M_kept_for, ⟨E_worst.at_, E_worst.is, E_worst.fn.kp⟩, e_worst⟩
  have M_ring : Mt P w K mg base C 4 "ring" ["self", "t"] (spRingM C) m_ring md_ring := ⟨ok_ringM E_ring.fn G T A_wrong_times A_lines_in_shortest_ring M_kept_for, ⟨E_ring.at_, E_ring.is, E_ring.fn.kp⟩, e_ring⟩
  have M_does : Mt P w K mg base C 3 "does" ["self", "t", "row"] (spDoes C) m_does md_does := ⟨ok_doesM E_does.fn G T A_wrong_times A_lines_do A_picked A_all_distances, ⟨E_does.at_, E_does.is, E_does.fn.kp⟩, e_does⟩
  have M_fewest : Mt P w K mg base C 5 "fewest" ["self", "t"] (spFewest C) m_fewest md_fewest := ⟨ok_fewest E_fewest.fn G T A_wrong_times A_told A_fewest_lines, ⟨E_fewest.at_, E_fewest.is, E_fewest.fn.kp⟩, e_fewest⟩
  have M_least : Mt P w K mg base C 3 "least" ["self"] (spLeast C) m_least md_least := ⟨ok_least E_least.fn T A_told A_lightest_lines, ⟨E_least.at_, E_least.is, E_least.fn.kp⟩, e_least⟩
  have A_answer_to_bare : At P w K mg base 4 "answer_to_bare" ["held", "number"] (spBare C) f_answer_to_bare fd_answer_to_bare := ⟨ok_bare D_answer_to_bare.fn T M_lines M_least M_back M_state, PySem.W.mg_of X GG D_answer_to_bare.gl, D_answer_to_bare.fn.kp, b_d_answer_to_bare⟩
  have A_answer_on_places : At P w K mg base 5 "answer_on_places" ["held", "call"] (spPlaces C) f_answer_on_places fd_answer_on_places := ⟨ok_places D_answer_on_places.fn T M_line M_cut M_dist M_next_place M_way M_keptdist, PySem.W.mg_of X GG D_answer_on_places.gl, D_answer_on_places.fn.kp, b_d_answer_on_places⟩
  have A_answer_for_times : At P w K mg base 6 "answer_for_times" ["held", "call"] (spTimes C) f_answer_for_times fd_answer_for_times := ⟨ok_times D_answer_for_times.fn G T M_kept M_keptweight M_worst M_leave M_does M_fewest M_ring, PySem.W.mg_of X GG D_answer_for_times.gl, D_answer_for_times.fn.kp, b_d_answer_for_times⟩
  have A_answer_to : At P w K mg base 7 "answer_to" ["held", "call"] (spAnswerTo (HeldS C)) f_answer_to fd_answer_to := ⟨ok_answer_to D_answer_to.fn G T M_begin A_answer_to_bare A_answer_on_places A_answer_for_times, PySem.W.mg_of X GG D_answer_to.gl, D_answer_to.fn.kp, b_d_answer_to⟩
  have A_end_of_call : At P w K mg base 1 "end_of_call" ["calls", "at"] (spEnd K) f_end_of_call fd_end_of_call := ⟨ok_end D_end_of_call.fn G B, PySem.W.mg_of X GG D_end_of_call.gl, D_end_of_call.fn.kp, b_d_end_of_call⟩
  exact ok_answers (Held0 := HeldN C) (Held := HeldS C) (fun _ _ _ _ _ a b => HeldS.same a b) (fun _ _ _ _ a => by obtain ⟨_, _, _, _, dx, j, e, _, hx, _⟩ := HeldS.obj a; exact ⟨_, _, _, hx⟩) (fun _ _ _ a b => heldN_new a b) (fun _ _ _ _ _ a => HeldS.atg a)
    D_answers.fn G T.mgC ⟨mk, E_init.at_, E_init.is, kc⟩ M_init.ok M_init.bi A_end_of_call A_answer_to
  · rw [efd]
    match us, hl with
    | [_], _ => exact .of_eq rfl
end LL
open PySem PySem.W PyProof.Rows
set_option maxRecDepth 100000 in
set_option maxHeartbeats 0 in
theorem PySem.Challenge.cw_linesleft_s01_answers_holds : PySem.Challenge.rw_linesleft_s01_answers.Holds := by
  w_on; k_headS; (case hw => exact ⟨[.list [.int 0, .int 1]], by decide +kernel, by decide +kernel⟩)
  k_fillS
  refine L2.walk_specK (r := PySem.Challenge.rw_linesleft_s01_answers) (k := 8) (CX := L2.CX0) (ps := ["calls"]) (sp := LL.spAnswers) (by decide +kernel) rfl rfl ⟨rfl, by decide, by decide⟩ (fun w h Y => PySem.W.kIn_of Y) ?F ?S (fun _ _ _ _ z => z)
  case F =>
    intro w mg fa h Y KX G hmg
    refine' LL.all_mk KX G hmg ?g_FAR ?g_NO_SUCH ?g_NO_CHANGE ?g_NOT_BEGUN ?g_OUT_OF_RANGE ?g_TOO_MANY ?g_NONE_THERE ?g_MOST_PLACES ?g_MOST_LINES ?g_MOST_LENGTH ?g_MOST_TIMES ?g_MOST_BACK ?g_MOST_TO_CHOOSE_FROM ?g_DOES ?b_range ?b_min ?b_max ?b_len ?b_sorted ?b_list ?b_sum ?b_any ?b_enumerate ?gT ?lT ?zT ?hv ?aC ?pg ?hd ?po ?sa ?mk ?kc ?nS ?nJ ?nE (LL.defAt_mk ?x_distances_g ?x_distances_l ?x_distances_c ?x_distances_k) (LL.defAt_mk ?x_all_distances_g ?x_all_distances_l ?x_all_distances_c ?x_all_distances_k) (LL.defAt_mk ?x_step_g ?x_step_l ?x_step_c ?x_step_k) (LL.defAt_mk ?x_way_between_g ?x_way_between_l ?x_way_between_c ?x_way_between_k) (LL.defAt_mk ?x_kept_lines_g ?x_kept_lines_l ?x_kept_lines_c ?x_kept_lines_k) (LL.defAt_mk ?x_lightest_lines_g ?x_lightest_lines_l ?x_lightest_lines_c ?x_lightest_lines_k) (LL.defAt_mk ?x_total_length_g ?x_total_length_l ?x_total_length_c ?x_total_length_k) (LL.defAt_mk ?x_most_stretched_g ?x_most_stretched_l ?x_most_stretched_c ?x_most_stretched_k) (LL.defAt_mk ?x_lines_in_shortest_ring_g ?x_lines_in_shortest_ring_l ?x_lines_in_shortest_ring_c ?x_lines_in_shortest_ring_k) (LL.defAt_mk ?x_lines_do_g ?x_lines_do_l ?x_lines_do_c ?x_lines_do_k) (LL.defAt_mk ?x_picked_g ?x_picked_l ?x_picked_c ?x_picked_k) (LL.defAt_mk ?x_with_one_more_g ?x_with_one_more_l ?x_with_one_more_c ?x_with_one_more_k) (LL.defAt_mk ?x_first_that_does_g ?x_first_that_does_l ?x_first_that_does_c ?x_first_that_does_k) (LL.defAt_mk ?x_fewest_lines_g ?x_fewest_lines_l ?x_fewest_lines_c ?x_fewest_lines_k) (LL.defAt_mk ?x_wrong_times_g ?x_wrong_times_l ?x_wrong_times_c ?x_wrong_times_k) (LL.defAt_mk ?x_told_g ?x_told_l ?x_told_c ?x_told_k) (LL.defAt_mk ?x_distance_told_g ?x_distance_told_l ?x_distance_told_c ?x_distance_told_k) (LL.defAt_mk ?x_answer_to_bare_g ?x_answer_to_bare_l ?x_answer_to_bare_c ?x_answer_to_bare_k) (LL.defAt_mk ?x_answer_on_places_g ?x_answer_on_places_l ?x_answer_on_places_c ?x_answer_on_places_k) (LL.defAt_mk ?x_answer_for_times_g ?x_answer_for_times_l ?x_answer_for_times_c ?x_answer_for_times_k) (LL.defAt_mk ?x_answer_to_g ?x_answer_to_l ?x_answer_to_c ?x_answer_to_k) (LL.defAt_mk ?x_end_of_call_g ?x_end_of_call_l ?x_end_of_call_c ?x_end_of_call_k) (LL.defAt_mk ?x_answers_g ?x_answers_l ?x_answers_c ?x_answers_k) (LL.metAt_mk ?y_init_a ?y_init_i ?y_init_l ?y_init_c ?y_init_k) (LL.metAt_mk ?y_lacks_a ?y_lacks_i ?y_lacks_l ?y_lacks_c ?y_lacks_k) (LL.metAt_mk ?y_begin_a ?y_begin_i ?y_begin_l ?y_begin_c ?y_begin_k) (LL.metAt_mk ?y_changed_to_a ?y_changed_to_i ?y_changed_to_l ?y_changed_to_c ?y_changed_to_k) (LL.metAt_mk ?y_back_a ?y_back_i ?y_back_l ?y_back_c ?y_back_k) (LL.metAt_mk ?y_state_a ?y_state_i ?y_state_l ?y_state_c ?y_state_k) (LL.metAt_mk ?y_line_a ?y_line_i ?y_line_l ?y_line_c ?y_line_k) (LL.metAt_mk ?y_cut_a ?y_cut_i ?y_cut_l ?y_cut_c ?y_cut_k) (LL.metAt_mk ?y_kept_for_a ?y_kept_for_i ?y_kept_for_l ?y_kept_for_c ?y_kept_for_k) (LL.metAt_mk ?y_leave_a ?y_leave_i ?y_leave_l ?y_leave_c ?y_leave_k) (LL.metAt_mk ?y_lines_a ?y_lines_i ?y_lines_l ?y_lines_c ?y_lines_k) (LL.metAt_mk ?y_dist_a ?y_dist_i ?y_dist_l ?y_dist_c ?y_dist_k) (LL.metAt_mk ?y_next_place_a ?y_next_place_i ?y_next_place_l ?y_next_place_c ?y_next_place_k) (LL.metAt_mk ?y_way_a ?y_way_i ?y_way_l ?y_way_c ?y_way_k) (LL.metAt_mk ?y_kept_a ?y_kept_i ?y_kept_l ?y_kept_c ?y_kept_k) (LL.metAt_mk ?y_keptdist_a ?y_keptdist_i ?y_keptdist_l ?y_keptdist_c ?y_keptdist_k) (LL.metAt_mk ?y_keptweight_a ?y_keptweight_i ?y_keptweight_l ?y_keptweight_c ?y_keptweight_k) (LL.metAt_mk ?y_worst_a ?y_worst_i ?y_worst_l ?y_worst_c ?y_worst_k) (LL.metAt_mk ?y_ring_a ?y_ring_i ?y_ring_l ?y_ring_c ?y_ring_k) (LL.metAt_mk ?y_does_a ?y_does_i ?y_does_l ?y_does_c ?y_does_k) (LL.metAt_mk ?y_fewest_a ?y_fewest_i ?y_fewest_l ?y_fewest_c ?y_fewest_k) (LL.metAt_mk ?y_least_a ?y_least_i ?y_least_l ?y_least_c ?y_least_k)
    (case g_FAR => k_is)
    (case g_NO_SUCH => k_is)
    (case g_NO_CHANGE => k_is)
    (case g_NOT_BEGUN => k_is)
    (case g_OUT_OF_RANGE => k_is)
    (case g_TOO_MANY => k_is)
    (case g_NONE_THERE => k_is)
    (case g_MOST_PLACES => k_is)
    (case g_MOST_LINES => k_is)
    (case g_MOST_LENGTH => k_is)
    (case g_MOST_TIMES => k_is)
    (case g_MOST_BACK => k_is)
    (case g_MOST_TO_CHOOSE_FROM => k_is)
    (case g_DOES => k_is)
    (case b_range => k_is)
    (case b_min => k_is)
    (case b_max => k_is)
    (case b_len => k_is)
    (case b_sorted => k_is)
    (case b_list => k_is)
    (case b_sum => k_is)
    (case b_any => k_is)
    (case b_enumerate => k_is)
    (case gT => k_is)
    (case lT => k_is)
    (case zT => decide)
    (case hv => exact LL.vals_nat LL.argL _ rfl)
    (case aC => k_is)
    (case pg => k_is)
    (case hd => k_is)
    (case po => k_is)
    (case sa => k_is)
    (case mk => k_is)
    (case kc => k_is)
    (case nS => k_is)
    (case nJ => k_is)
    (case nE => k_is)
    (case x_distances_g => k_is)
    (case x_distances_l => k_is)
    (case x_distances_c => k_is)
    (case x_distances_k => k_is)
    (case x_all_distances_g => k_is)
    (case x_all_distances_l => k_is)
    (case x_all_distances_c => k_is)
    (case x_all_distances_k => k_is)
    (case x_step_g => k_is)
    (case x_step_l => k_is)
    (case x_step_c => k_is)
    (case x_step_k => k_is)
    (case x_way_between_g => k_is)
    (case x_way_between_l => k_is)
    (case x_way_between_c => k_is)
    (case x_way_between_k => k_is)
    (case x_kept_lines_g => k_is)
    (case x_kept_lines_l => k_is)
    (case x_kept_lines_c => k_is)
    (case x_kept_lines_k => k_is)
    (case x_lightest_lines_g => k_is)
    (case x_lightest_lines_l => k_is)
    (case x_lightest_lines_c => k_is)
    (case x_lightest_lines_k => k_is)
    (case x_total_length_g => k_is)
    (case x_total_length_l => k_is)
    (case x_total_length_c => k_is)
    (case x_total_length_k => k_is)
    (case x_most_stretched_g => k_is)
    (case x_most_stretched_l => k_is)
    (case x_most_stretched_c => k_is)
    (case x_most_stretched_k => k_is)
    (case x_lines_in_shortest_ring_g => k_is)
    (case x_lines_in_shortest_ring_l => k_is)
    (case x_lines_in_shortest_ring_c => k_is)
    (case x_lines_in_shortest_ring_k => k_is)
    (case x_lines_do_g => k_is)
    (case x_lines_do_l => k_is)
    (case x_lines_do_c => k_is)
    (case x_lines_do_k => k_is)
    (case x_picked_g => k_is)
    (case x_picked_l => k_is)
    (case x_picked_c => k_is)
    (case x_picked_k => k_is)
    (case x_with_one_more_g => k_is)
    (case x_with_one_more_l => k_is)
    (case x_with_one_more_c => k_is)
    (case x_with_one_more_k => k_is)
    (case x_first_that_does_g => k_is)
    (case x_first_that_does_l => k_is)
    (case x_first_that_does_c => k_is)
    (case x_first_that_does_k => k_is)
    (case x_fewest_lines_g => k_is)
    (case x_fewest_lines_l => k_is)
    (case x_fewest_lines_c => k_is)
    (case x_fewest_lines_k => k_is)
    (case x_wrong_times_g => k_is)
    (case x_wrong_times_l => k_is)
    (case x_wrong_times_c => k_is)
    (case x_wrong_times_k => k_is)
    (case x_told_g => k_is)
    (case x_told_l => k_is)
    (case x_told_c => k_is)
    (case x_told_k => k_is)
    (case x_distance_told_g => k_is)
    (case x_distance_told_l => k_is)
    (case x_distance_told_c => k_is)
    (case x_distance_told_k => k_is)
    (case x_answer_to_bare_g => k_is)
    (case x_answer_to_bare_l => k_is)
    (case x_answer_to_bare_c => k_is)
    (case x_answer_to_bare_k => k_is)
    (case x_answer_on_places_g => k_is)
    (case x_answer_on_places_l => k_is)
    (case x_answer_on_places_c => k_is)
    (case x_answer_on_places_k => k_is)
    (case x_answer_for_times_g => k_is)
    (case x_answer_for_times_l => k_is)
    (case x_answer_for_times_c => k_is)
    (case x_answer_for_times_k => k_is)
    (case x_answer_to_g => k_is)
    (case x_answer_to_l => k_is)
    (case x_answer_to_c => k_is)
    (case x_answer_to_k => k_is)
    (case x_end_of_call_g => k_is)
    (case x_end_of_call_l => k_is)
    (case x_end_of_call_c => k_is)
    (case x_end_of_call_k => k_is)
    (case x_answers_g => k_is)
    (case x_answers_l => k_is)
    (case x_answers_c => k_is)
    (case x_answers_k => k_is)
    (case y_init_a => k_is)
    (case y_init_i => k_is)
    (case y_init_l => k_is)
    (case y_init_c => k_is)
    (case y_init_k => k_is)
    (case y_lacks_a => k_is)
    (case y_lacks_i => k_is)
    (case y_lacks_l => k_is)
    (case y_lacks_c => k_is)
    (case y_lacks_k => k_is)
    (case y_begin_a => k_is)
    (case y_begin_i => k_is)
    (case y_begin_l => k_is)
    (case y_begin_c => k_is)
    (case y_begin_k => k_is)
    (case y_changed_to_a => k_is)
    (case y_changed_to_i => k_is)
    (case y_changed_to_l => k_is)
    (case y_changed_to_c => k_is)
    (case y_changed_to_k => k_is)
    (case y_back_a => k_is)
    (case y_back_i => k_is)
    (case y_back_l => k_is)
    (case y_back_c => k_is)
    (case y_back_k => k_is)
    (case y_state_a => k_is)
    (case y_state_i => k_is)
    (case y_state_l => k_is)
    (case y_state_c => k_is)
    (case y_state_k => k_is)
    (case y_line_a => k_is)
    (case y_line_i => k_is)
    (case y_line_l => k_is)
    (case y_line_c => k_is)
    (case y_line_k => k_is)
    (case y_cut_a => k_is)
    (case y_cut_i => k_is)
    (case y_cut_l => k_is)
    (case y_cut_c => k_is)
    (case y_cut_k => k_is)
    (case y_kept_for_a => k_is)
    (case y_kept_for_i => k_is)
    (case y_kept_for_l => k_is)
    (case y_kept_for_c => k_is)
    (case y_kept_for_k => k_is)
    (case y_leave_a => k_is)
    (case y_leave_i => k_is)
    (case y_leave_l => k_is)
    (case y_leave_c => k_is)
    (case y_leave_k => k_is)
    (case y_lines_a => k_is)
    (case y_lines_i => k_is)
    (case y_lines_l => k_is)
    (case y_lines_c => k_is)
    (case y_lines_k => k_is)
    (case y_dist_a => k_is)
    (case y_dist_i => k_is)
    (case y_dist_l => k_is)
    (case y_dist_c => k_is)
    (case y_dist_k => k_is)
    (case y_next_place_a => k_is)
    (case y_next_place_i => k_is)
    (case y_next_place_l => k_is)
    (case y_next_place_c => k_is)
    (case y_next_place_k => k_is)
    (case y_way_a => k_is)
    (case y_way_i => k_is)
    (case y_way_l => k_is)
    (case y_way_c => k_is)
    (case y_way_k => k_is)
    (case y_kept_a => k_is)
    (case y_kept_i => k_is)
    (case y_kept_l => k_is)
    (case y_kept_c => k_is)
    (case y_kept_k => k_is)
    (case y_keptdist_a => k_is)
    (case y_keptdist_i => k_is)
    (case y_keptdist_l => k_is)
    (case y_keptdist_c => k_is)
    (case y_keptdist_k => k_is)
    (case y_keptweight_a => k_is)
    (case y_keptweight_i => k_is)
    (case y_keptweight_l => k_is)
    (case y_keptweight_c => k_is)
    (case y_keptweight_k => k_is)
    (case y_worst_a => k_is)
    (case y_worst_i => k_is)
    (case y_worst_l => k_is)
    (case y_worst_c => k_is)
    (case y_worst_k => k_is)
    (case y_ring_a => k_is)
    (case y_ring_i => k_is)
    (case y_ring_l => k_is)
    (case y_ring_c => k_is)
    (case y_ring_k => k_is)
    (case y_does_a => k_is)
    (case y_does_i => k_is)
    (case y_does_l => k_is)
    (case y_does_c => k_is)
    (case y_does_k => k_is)
    (case y_fewest_a => k_is)
    (case y_fewest_i => k_is)
    (case y_fewest_l => k_is)
    (case y_fewest_c => k_is)
    (case y_fewest_k => k_is)
    (case y_least_a => k_is)
    (case y_least_i => k_is)
    (case y_least_l => k_is)
    (case y_least_c => k_is)
    (case y_least_k => k_is)
  case S =>
    intro K H xs a hO hwi hask hx
    cases hx with
    | cons h1 h2 =>
      cases h2
      cases h1 with
      | lst hs ha =>
        have e := L2.ints_dw a.1 _ ha
        subst e
        obtain ⟨qs, e1, e2, e3, e4⟩ := LL.parse (l := a.1) hask
        refine ⟨_, qs, rfl, ?_, e2, e3, fun H' p hp => .lst (L2.SqL.of hp) ?_⟩
        · rw [e1] at hs
          rw [List.map_map] at hs
          exact hs
        · rw [← e4]
          exact L2.dw_ints _
