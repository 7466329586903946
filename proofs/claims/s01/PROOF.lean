import PyProof.Rows.All
import Wide.All
import OpenK.AllK
import Wide.FinOn
import Open.SpecLaws
import KE.OsHead
import KE.OsGo
import HandS.ForSpec
import HandS.ForMost
import HandS.Conv
import HandS.Walk
import PySem.Challenge.RW_bucketrow_s01_answers
set_option Elab.async false
set_option maxRecDepth 100000
set_option maxHeartbeats 2000000
set_option linter.all false
namespace BR
open Mu58 (Q Person Row frac less whole)
/-! ### amounts: what is divided, by what, not in lowest terms -/
abbrev Am := Nat × Nat
def fr (x : Am) : Q := frac x.1 x.2
theorem frac_scale (k n d : Nat) (hk : 0 < k) : frac (k * n) (k * d) = frac n d := by
  unfold frac
  by_cases hd : d = 0
  · subst hd; simp
  · have h1 : ¬ k * d = 0 := by
      intro h
      rcases Nat.mul_eq_zero.mp h with h | h <;> omega
    rw [if_neg h1, if_neg hd, Nat.gcd_mul_left, Nat.mul_div_mul_left _ _ hk, Nat.mul_div_mul_left _ _ hk]
theorem frac_parts (n d : Nat) (hd : 0 < d) : ∃ g n' d', 0 < g ∧ 0 < d' ∧ n = g * n' ∧ d = g * d' ∧ frac n d = ⟨n', d'⟩ := by
  have hg : 0 < Nat.gcd n d := Nat.gcd_pos_of_pos_right _ hd
  refine ⟨Nat.gcd n d, n / Nat.gcd n d, d / Nat.gcd n d, hg, ?_, ?_, ?_, ?_⟩
  · exact Nat.div_pos (Nat.le_of_dvd hd (Nat.gcd_dvd_right n d)) hg
  · exact (Nat.mul_div_cancel' (Nat.gcd_dvd_left n d)).symm
  · exact (Nat.mul_div_cancel' (Nat.gcd_dvd_right n d)).symm
  · unfold frac; rw [if_neg (by omega)]
theorem fr_whole (x : Nat) : fr (x, 1) = whole x := by
  show frac x 1 = ⟨x, 1⟩
  unfold frac
  rw [if_neg (by decide), Nat.gcd_one_right, Nat.div_one, Nat.div_one]
def passU (p : Person) (x : Am) : Am := if x.1 ≤ p.spills * x.2 then (0, 1) else ((x.1 - p.spills * x.2) * p.a, x.2 * p.b)
def needU (p : Person) (x : Am) : Am := (x.1 * p.b + p.spills * (x.2 * p.a), x.2 * p.a)
/-- as told -/
structure Ok (p : Person) : Prop where
  s : p.spills ≤ 50
  a1 : 1 ≤ p.a
  ab : p.a ≤ p.b
  b9 : p.b ≤ 9
  t1 : 1 ≤ p.time
  t50 : p.time ≤ 50
theorem pass_fr (p : Person) (x : Am) (hd : 0 < x.2) : Mu58.pass p (fr x) = fr (passU p x) := by
  obtain ⟨n, d⟩ := x
  obtain ⟨g, n', d', hg, hd', rfl, rfl, e⟩ := frac_parts n d hd
  show Mu58.pass p (frac (g * n') (g * d')) = fr (passU p (g * n', g * d'))
  rw [e]
  have em : p.spills * (g * d') = g * (p.spills * d') := Nat.mul_left_comm _ _ _
  unfold Mu58.pass passU
  dsimp only
  rw [em]
  by_cases h : n' ≤ p.spills * d'
  · rw [if_pos h, if_pos (Nat.mul_le_mul_left g h)]
    exact (fr_whole 0).symm
  · rw [if_neg h, if_neg (by intro h2; exact h (Nat.le_of_mul_le_mul_left h2 hg))]
    show _ = frac ((g * n' - g * (p.spills * d')) * p.a) (g * d' * p.b)
    rw [← Nat.mul_sub, Nat.mul_assoc, Nat.mul_assoc, frac_scale _ _ _ hg]
theorem need_fr (p : Person) (x : Am) (hd : 0 < x.2) : Mu58.before p (fr x) = fr (needU p x) := by
  obtain ⟨n, d⟩ := x
  obtain ⟨g, n', d', hg, hd', rfl, rfl, e⟩ := frac_parts n d hd
  show Mu58.before p (frac (g * n') (g * d')) = frac (g * n' * p.b + p.spills * (g * d' * p.a)) (g * d' * p.a)
  rw [e]
  unfold Mu58.before
  dsimp only
  rw [Nat.mul_assoc g, Nat.mul_assoc g, Nat.mul_left_comm p.spills g, ← Nat.mul_add, frac_scale _ _ _ hg]
theorem less_fr (x y : Am) (hx : 0 < x.2) (hy : 0 < y.2) : less (fr x) (fr y) = decide (x.1 * y.2 < y.1 * x.2) := by
  obtain ⟨n, d⟩ := x
  obtain ⟨m, c⟩ := y
  obtain ⟨g, n', d', hg, hd', rfl, rfl, e⟩ := frac_parts n d hx
  obtain ⟨f, m', c', hf, hc', rfl, rfl, e2⟩ := frac_parts m c hy
  show less (frac (g * n') (g * d')) (frac (f * m') (f * c')) = _
  rw [e, e2]
  unfold less
  dsimp only
  refine decide_eq_decide.mpr ?_
  have e3 : g * n' * (f * c') = (g * f) * (n' * c') := by
    rw [Nat.mul_mul_mul_comm]
  have e4 : f * m' * (g * d') = (g * f) * (m' * d') := by
    rw [Nat.mul_mul_mul_comm, Nat.mul_comm f g]
  rw [e3, e4]
  exact ⟨fun h => Nat.mul_lt_mul_of_pos_left h (Nat.mul_pos hg hf), fun h => Nat.lt_of_mul_lt_mul_left h⟩
theorem passU_pos {p : Person} (h : Ok p) {x : Am} (hx : 0 < x.2) : 0 < (passU p x).2 := by
  unfold passU
  split
  · exact Nat.one_pos
  · have := h.a1
    have := h.ab
    exact Nat.mul_pos hx (by omega)
theorem passU_le {p : Person} (h : Ok p) {x : Am} {k : Nat} (hx : x.2 ≤ 9 ^ k) : (passU p x).2 ≤ 9 ^ (k + 1) := by
  unfold passU
  split
  · exact Nat.one_le_pow _ _ (by decide)
  · rw [Nat.pow_succ]
    exact Nat.mul_le_mul hx h.b9
theorem needU_pos {p : Person} (h : Ok p) {x : Am} (hx : 0 < x.2) : 0 < (needU p x).2 := Nat.mul_pos hx h.a1
theorem needU_le {p : Person} (h : Ok p) {x : Am} {k : Nat} (hx : x.2 ≤ 9 ^ k) : (needU p x).2 ≤ 9 ^ (k + 1) := by
  show x.2 * p.a ≤ _
  rw [Nat.pow_succ]
  have := h.ab
  have := h.b9
  exact Nat.mul_le_mul hx (by omega)
/-! ### along a row -/
def comesU (r : Row) (x : Am) : Am := r.foldl (fun y p => passU p y) x
def needsU (r : Row) (x : Am) : Am := r.foldr (fun p y => needU p y) x
def AllOk (r : Row) : Prop := ∀ p ∈ r, Ok p
structure Fine (k : Nat) (x : Am) : Prop where
  pos : 0 < x.2
  le : x.2 ≤ 9 ^ k
theorem Fine.pass {p : Person} (h : Ok p) {k : Nat} {x : Am} (f : Fine k x) : Fine (k + 1) (passU p x) := ⟨passU_pos h f.pos, passU_le h f.le⟩
theorem Fine.need {p : Person} (h : Ok p) {k : Nat} {x : Am} (f : Fine k x) : Fine (k + 1) (needU p x) := ⟨needU_pos h f.pos, needU_le h f.le⟩
theorem Fine.mono {k j : Nat} {x : Am} (f : Fine k x) (h : k ≤ j) : Fine j x := ⟨f.pos, Nat.le_trans f.le (Nat.pow_le_pow_right (by decide) h)⟩
theorem fine_one (x : Nat) : Fine 0 (x, 1) := ⟨Nat.one_pos, Nat.le_refl _⟩
theorem comesU_fine : ∀ (r : Row) {x : Am} {k : Nat}, AllOk r → Fine k x → Fine (k + r.length) (comesU r x)
  | [], _, _, _, f => f
  | p :: r, x, k, h, f => by
    have := comesU_fine r (x := passU p x) (k := k + 1) (fun q hq => h q (List.mem_cons_of_mem _ hq)) (f.pass (h p List.mem_cons_self))
    rw [List.length_cons, Nat.add_comm r.length 1, ← Nat.add_assoc]
    exact this
theorem needsU_fine : ∀ (r : Row) {x : Am} {k : Nat}, AllOk r → Fine k x → Fine (k + r.length) (needsU r x)
  | [], _, _, _, f => f
  | p :: r, x, k, h, f => by
    have := needsU_fine r (x := x) (k := k) (fun q hq => h q (List.mem_cons_of_mem _ hq)) f
    exact this.need (h p List.mem_cons_self)
theorem comes_fr : ∀ (r : Row) (x : Am), AllOk r → 0 < x.2 → Mu58.comes r (fr x) = fr (comesU r x)
  | [], _, _, _ => rfl
  | p :: r, x, h, hx => by
    show Mu58.comes r (Mu58.pass p (fr x)) = fr (comesU r (passU p x))
    rw [pass_fr p x hx]
    exact comes_fr r _ (fun q hq => h q (List.mem_cons_of_mem _ hq)) (passU_pos (h p List.mem_cons_self) hx)
theorem needsU_pos : ∀ (r : Row) (x : Am), AllOk r → 0 < x.2 → 0 < (needsU r x).2
  | [], _, _, hx => hx
  | p :: r, x, h, hx => needU_pos (h p List.mem_cons_self) (needsU_pos r x (fun q hq => h q (List.mem_cons_of_mem _ hq)) hx)
theorem needs_fr : ∀ (r : Row) (x : Am), AllOk r → 0 < x.2 → Mu58.needs r (fr x) = fr (needsU r x)
  | [], _, _, _ => rfl
  | p :: r, x, h, hx => by
    show Mu58.before p (Mu58.needs r (fr x)) = fr (needU p (needsU r x))
    rw [needs_fr r x (fun q hq => h q (List.mem_cons_of_mem _ hq)) hx]
    exact need_fr p _ (needsU_pos r x (fun q hq => h q (List.mem_cons_of_mem _ hq)) hx)
/-! ### an order: people by their numbers -/
def InRow (r : Row) (o : List Nat) : Prop := ∀ i ∈ o, i < r.length
theorem placed_ok {r : Row} (h : AllOk r) (o : List Nat) : AllOk (Mu58.placed r o) := by
  intro p hp
  unfold Mu58.placed at hp
  obtain ⟨i, _, hi⟩ := List.mem_filterMap.mp hp
  exact h p (List.mem_of_getElem? hi)
theorem placed_cons {r : Row} {i : Nat} {p : Person} (o : List Nat) (h : r[i]? = some p) : Mu58.placed r (i :: o) = p :: Mu58.placed r o := by
  unfold Mu58.placed
  rw [List.filterMap_cons, h]
theorem placed_append (r : Row) (o q : List Nat) : Mu58.placed r (o ++ q) = Mu58.placed r o ++ Mu58.placed r q := by
  unfold Mu58.placed
  rw [List.filterMap_append]
theorem placed_len {r : Row} : ∀ {o : List Nat}, InRow r o → (Mu58.placed r o).length = o.length
  | [], _ => rfl
  | i :: o, h => by
    have hl : i < r.length := h i List.mem_cons_self
    have hi : r[i]? = some r[i] := List.getElem?_eq_getElem hl
    rw [placed_cons o hi, List.length_cons, List.length_cons, placed_len fun j hj => h j (List.mem_cons_of_mem _ hj)]
theorem placed_range (r : Row) : Mu58.placed r (List.range r.length) = r := by
  apply List.ext_getElem?
  intro i
  have : ∀ (n : Nat), n ≤ r.length → Mu58.placed r (List.range n) = r.take n := by
    intro n
    induction n with
    | zero => intro _; rfl
    | succ n ih =>
      intro hn
      have hi : r[n]? = some r[n] := List.getElem?_eq_getElem (by omega)
      rw [List.range_succ, placed_append, ih (by omega), placed_cons [] hi, List.take_add_one, hi]
      rfl
  rw [this r.length (Nat.le_refl _), List.take_length]
end BR
namespace BR
open Mu58 (Q Person Row frac less whole)
/-! ### all orders, one longer at a time -/
def longer (l : List Nat) (os : List (List Nat)) : List (List Nat) := os.flatMap fun o => (l.filter fun x => !o.contains x).map fun x => o ++ [x]
def grown (l : List Nat) : Nat → List (List Nat) → List (List Nat)
  | 0, os => os
  | k + 1, os => grown l k (longer l os)
theorem grown_append (l : List Nat) : ∀ (k : Nat) (os qs : List (List Nat)), grown l k (os ++ qs) = grown l k os ++ grown l k qs
  | 0, _, _ => rfl
  | k + 1, os, qs => by
    show grown l k (longer l (os ++ qs)) = grown l k (longer l os) ++ grown l k (longer l qs)
    rw [← grown_append l k]
    unfold longer
    rw [List.flatMap_append]
theorem grown_nil (l : List Nat) : ∀ k, grown l k [] = []
  | 0 => rfl
  | k + 1 => grown_nil l k
theorem grown_flat (l : List Nat) (k : Nat) : ∀ (os : List (List Nat)), grown l k os = os.flatMap fun o => grown l k [o]
  | [] => grown_nil l k
  | o :: os => by
    rw [List.flatMap_cons, ← grown_flat l k os, ← grown_append]
    rfl
theorem filter_more (l o : List Nat) (x : Nat) : (l.filter fun y => !o.contains y).filter (fun y => y != x) = l.filter fun y => !(o ++ [x]).contains y := by
  rw [List.filter_filter]
  apply List.filter_congr
  intro y _
  rw [Bool.eq_iff_iff]
  simp
  constructor <;> (intro h; simp_all)
theorem grown_orders (l : List Nat) : ∀ (k : Nat) (o : List Nat), grown l k [o] = (Mu58.orders k (l.filter fun x => !o.contains x)).map fun r => o ++ r
  | 0, o => by
    show [o] = [o ++ []]
    rw [List.append_nil]
  | k + 1, o => by
    show grown l k (longer l [o]) = _
    have e : longer l [o] = (l.filter fun x => !o.contains x).map fun x => o ++ [x] := by
      unfold longer
      rw [List.flatMap_cons, List.flatMap_nil, List.append_nil]
    rw [e, grown_flat, List.flatMap_map]
    show _ = ((l.filter fun x => !o.contains x).flatMap fun x => (Mu58.orders k ((l.filter fun x => !o.contains x).filter fun y => y != x)).map fun r => x :: r).map fun r => o ++ r
    rw [List.map_flatMap]
    congr 1
    funext x
    rw [grown_orders l k, filter_more, List.map_map]
    congr 1
    funext r
    show o ++ [x] ++ r = o ++ x :: r
    rw [List.append_assoc]
    rfl
theorem grown_all (n : Nat) : grown (List.range n) n [[]] = Mu58.orders n (List.range n) := by
  rw [grown_orders]
  have e : (List.range n).filter (fun x => !([] : List Nat).contains x) = List.range n := by
    apply List.filter_eq_self.mpr
    intro x _
    rfl
  rw [e]
  simp
end BR
namespace BR
open Mu58 (Q Person Row frac less whole)
theorem grown_succ (l : List Nat) : ∀ (k : Nat) (os : List (List Nat)), grown l (k + 1) os = longer l (grown l k os)
  | 0, _ => rfl
  | k + 1, os => by
    show grown l (k + 1) (longer l os) = longer l (grown l k (longer l os))
    exact grown_succ l k (longer l os)
structure Ordr (n k : Nat) (o : List Nat) : Prop where
  len : o.length = k
  lt : ∀ i ∈ o, i < n
theorem longer_ordr {n k : Nat} {os : List (List Nat)} (h : ∀ o ∈ os, Ordr n k o) : ∀ o ∈ longer (List.range n) os, Ordr n (k + 1) o := by
  intro o ho
  obtain ⟨q, hq, hx⟩ := List.mem_flatMap.mp ho
  obtain ⟨x, hf, rfl⟩ := List.mem_map.mp hx
  have hx := List.mem_range.mp (List.mem_filter.mp hf).1
  refine ⟨by rw [List.length_append, (h q hq).len]; rfl, fun i hi => ?_⟩
  rcases List.mem_append.mp hi with hi | hi
  · exact (h q hq).lt i hi
  · rw [List.mem_singleton.mp hi]; exact hx
theorem grown_ordr (n : Nat) : ∀ (k : Nat), ∀ o ∈ grown (List.range n) k [[]], Ordr n k o
  | 0 => by
    intro o ho
    rw [List.mem_singleton.mp ho]
    exact ⟨rfl, fun i hi => nomatch hi⟩
  | k + 1 => by
    rw [grown_succ]
    exact longer_ordr (grown_ordr n k)
theorem longer_len_le (n : Nat) : ∀ (os : List (List Nat)), (longer (List.range n) os).length ≤ os.length * n
  | [] => Nat.le_of_eq (by simp [longer])
  | o :: os => by
    have ih := longer_len_le n os
    unfold longer at ih ⊢
    rw [List.flatMap_cons, List.length_append, List.length_cons, Nat.succ_mul, List.length_map]
    have := List.length_filter_le (fun x => !o.contains x) (List.range n)
    rw [List.length_range] at this
    omega
theorem grown_len_le (n : Nat) : ∀ (k : Nat), (grown (List.range n) k [[]]).length ≤ n ^ k
  | 0 => Nat.le_refl 1
  | k + 1 => by
    rw [grown_succ, Nat.pow_succ]
    exact Nat.le_trans (longer_len_le n _) (Nat.mul_le_mul_right n (grown_len_le n k))
theorem orders_pos : ∀ (l : List Nat), l.Nodup → 0 < (Mu58.orders l.length l).length
  | [], _ => Nat.one_pos
  | x :: l, h => by
    show 0 < ((x :: l).flatMap fun y => (Mu58.orders l.length ((x :: l).filter fun z => z != y)).map fun r => y :: r).length
    have e : (x :: l).filter (fun z => z != x) = l := by
      rw [List.filter_cons, if_neg (by simp)]
      apply List.filter_eq_self.mpr
      intro a ha
      have := (List.nodup_cons.mp h).1
      simp
      intro q
      rw [q] at ha
      exact this ha
    rw [List.flatMap_cons, List.length_append, List.length_map, e]
    have := orders_pos l (List.nodup_cons.mp h).2
    omega
theorem grown_pos (n : Nat) : 0 < (grown (List.range n) n [[]]).length := by
  rw [grown_all]
  have := orders_pos (List.range n) List.nodup_range
  rw [List.length_range] at this
  exact this
/-! ### the first of some by which the most comes -/
def mstep {α : Type} (f : α → Q) (m : Option (Q × α)) (x : α) : Option (Q × α) := match m with
  | none => some (f x, x)
  | some y => if less y.1 (f x) = true then some (f x, x) else some y
theorem mostOf_snoc {α : Type} (f : α → Q) (l : List α) (x : α) : Mu58.mostOf f (l ++ [x]) = mstep f (Mu58.mostOf f l) x := by
  unfold Mu58.mostOf
  rw [List.foldl_append]
  rfl
/-- behind i items: at the place b stands the best of them, m comes of it -/
structure Top {α : Type} (f : α → Am) (l : List α) (i b : Nat) (m : Am) : Prop where
  here : ∃ x, l[b]? = some x ∧ m = f x ∧ (Mu58.mostOf (fun x => fr (f x)) (l.take i) = some (fr m, x) ∨ i = 0 ∧ b = 0)
theorem Top.start {α : Type} (f : α → Am) {l : List α} {x : α} (h : l[0]? = some x) : Top f l 0 0 (f x) := ⟨x, h, rfl, .inr ⟨rfl, rfl⟩⟩
theorem take_more {α : Type} {l : List α} {i : Nat} {x : α} (h : l[i]? = some x) : l.take (i + 1) = l.take i ++ [x] := by
  rw [List.take_add_one, h]
  rfl
theorem Top.yes {α : Type} {f : α → Am} {l : List α} {i b : Nat} {m : Am} {x : α} (pos : ∀ x ∈ l, 0 < (f x).2) (h : Top f l i b m) (hx : l[i]? = some x) (hm : m.1 * (f x).2 < (f x).1 * m.2) : Top f l (i + 1) i (f x) := by
  obtain ⟨y, hy, rfl, h⟩ := h.here
  refine ⟨x, hx, rfl, .inl ?_⟩
  rw [take_more hx, mostOf_snoc]
  rcases h with h | ⟨rfl, rfl⟩
  · rw [h]
    show (if less (fr (f y)) (fr (f x)) = true then _ else _) = _
    rw [less_fr _ _ (pos y (List.mem_of_getElem? hy)) (pos x (List.mem_of_getElem? hx)), if_pos (decide_eq_true hm)]
  · rfl
theorem Top.no {α : Type} {f : α → Am} {l : List α} {i b : Nat} {m : Am} {x : α} (pos : ∀ x ∈ l, 0 < (f x).2) (h : Top f l i b m) (hx : l[i]? = some x) (hm : ¬ m.1 * (f x).2 < (f x).1 * m.2) : Top f l (i + 1) b m := by
  obtain ⟨y, hy, rfl, h⟩ := h.here
  refine ⟨y, hy, rfl, .inl ?_⟩
  rw [take_more hx, mostOf_snoc]
  rcases h with h | ⟨rfl, rfl⟩
  · rw [h]
    show (if less (fr (f y)) (fr (f x)) = true then _ else _) = _
    rw [less_fr _ _ (pos y (List.mem_of_getElem? hy)) (pos x (List.mem_of_getElem? hx)), if_neg (by rw [decide_eq_false hm]; decide)]
  · have e : x = y := Option.some.inj (hx.symm.trans hy)
    subst e
    rfl
theorem Top.done {α : Type} {f : α → Am} {l : List α} {b : Nat} {m : Am} (h : Top f l l.length b m) (hl : 0 < l.length) : ∃ x, l[b]? = some x ∧ m = f x ∧ Mu58.mostOf (fun x => fr (f x)) l = some (fr (f x), x) := by
  obtain ⟨x, hx, hm, h⟩ := h.here
  rw [List.take_length] at h
  rcases h with h | ⟨h, _⟩
  · exact ⟨x, hx, hm, by rw [← hm]; exact h⟩
  · omega
theorem mostOf_congr {α : Type} {f g : α → Q} : ∀ (l : List α), (∀ x ∈ l, f x = g x) → Mu58.mostOf f l = Mu58.mostOf g l := by
  intro l h
  have : ∀ (l : List α) (m : Option (Q × α)), (∀ x ∈ l, f x = g x) → l.foldl (mstep f) m = l.foldl (mstep g) m := by
    intro l
    induction l with
    | nil => intro m _; rfl
    | cons a l ih =>
      intro m h
      rw [List.foldl_cons, List.foldl_cons]
      have e : mstep f m a = mstep g m a := by
        unfold mstep
        rw [h a List.mem_cons_self]
      rw [e]
      exact ih _ fun x hx => h x (List.mem_cons_of_mem _ hx)
  exact this l none h
theorem best_eq (r : Row) (x : Nat) (h : AllOk r) : Mu58.best r (whole x) = Mu58.mostOf (fun o => fr (comesU (Mu58.placed r o) (x, 1))) (grown (List.range r.length) r.length [[]]) := by
  unfold Mu58.best
  rw [grown_all]
  refine mostOf_congr _ fun o _ => ?_
  rw [← fr_whole, comes_fr _ _ (placed_ok h o) Nat.one_pos]
/-! ### pairs -/
def pairsFrom (n i : Nat) : List (Nat × Nat) := (List.range (n - (i + 1))).map fun k => (i, i + 1 + k)
def pairs (n : Nat) : List (Nat × Nat) := (List.range n).flatMap (pairsFrom n)
theorem range_above (n i : Nat) : ((List.range n).filter fun j => decide (i < j)) = (List.range (n - (i + 1))).map fun k => i + 1 + k := by
  induction n with
  | zero => simp
  | succ n ih =>
    rw [List.range_succ, List.filter_append, ih]
    by_cases h : i < n
    · rw [show n + 1 - (i + 1) = (n - (i + 1)) + 1 by omega, List.range_succ, List.map_append, List.filter_cons, if_pos (decide_eq_true h)]
      show _ ++ [n] = _ ++ [i + 1 + (n - (i + 1))]
      rw [show i + 1 + (n - (i + 1)) = n by omega]
    · rw [List.filter_cons, if_neg (by simp; omega), List.filter_nil, List.append_nil, show n + 1 - (i + 1) = 0 by omega, show n - (i + 1) = 0 by omega]
theorem pairs_eq (n : Nat) : ((List.range n).flatMap fun (i : Nat) => ((List.range n).filter fun (j : Nat) => decide (i < j)).map fun (j : Nat) => (i, j)) = pairs n := by
  unfold pairs
  congr 1
  funext i
  rw [range_above, List.map_map]
  rfl
theorem pairs_lt {n : Nat} {z : Nat × Nat} (h : z ∈ pairs n) : z.1 < z.2 ∧ z.2 < n := by
  obtain ⟨i, hi, hz⟩ := List.mem_flatMap.mp h
  obtain ⟨k, hk, rfl⟩ := List.mem_map.mp hz
  have := List.mem_range.mp hi
  have := List.mem_range.mp hk
  exact ⟨by show i < i + 1 + k; omega, by show i + 1 + k < n; omega⟩
def swapO (n : Nat) (z : Nat × Nat) : List Nat := ((List.range n).set z.1 z.2).set z.2 z.1
theorem swapO_len (n : Nat) (z : Nat × Nat) : (swapO n z).length = n := by
  unfold swapO
  rw [List.length_set, List.length_set, List.length_range]
theorem swapO_lt {n : Nat} {z : Nat × Nat} (h : z.1 < n ∧ z.2 < n) : ∀ i ∈ swapO n z, i < n := by
  intro i hi
  unfold swapO at hi
  rcases List.mem_or_eq_of_mem_set hi with hi | rfl
  · rcases List.mem_or_eq_of_mem_set hi with hi | rfl
    · exact List.mem_range.mp hi
    · exact h.2
  · exact h.1
theorem placed_map {r : Row} : ∀ {o : List Nat} (_ : InRow r o) (i : Nat), (Mu58.placed r o)[i]? = o[i]?.bind fun k => r[k]?
  | [], _, i => by simp [Mu58.placed]
  | k :: o, h, i => by
    have hl : k < r.length := h k List.mem_cons_self
    have hi : r[k]? = some r[k] := List.getElem?_eq_getElem hl
    rw [placed_cons o hi]
    match i with
    | 0 => show some r[k] = r[k]?; exact hi.symm
    | i + 1 =>
      show (Mu58.placed r o)[i]? = (o[i]?).bind fun k => r[k]?
      exact placed_map (fun j hj => h j (List.mem_cons_of_mem _ hj)) i
theorem placed_swapO {r : Row} {z : Nat × Nat} (h : z.1 < z.2 ∧ z.2 < r.length) : Mu58.placed r (swapO r.length z) = Mu58.swapped r z.1 z.2 := by
  obtain ⟨i, j⟩ := z
  obtain ⟨h1, h2⟩ := h
  dsimp only at h1 h2
  have hi : r[i]? = some (r[i]'(by omega)) := List.getElem?_eq_getElem (by omega)
  have hj : r[j]? = some r[j] := List.getElem?_eq_getElem h2
  have inr : InRow r (swapO r.length (i, j)) := swapO_lt (z := (i, j)) ⟨by show i < _; omega, by show j < _; omega⟩
  apply List.ext_getElem?
  intro k
  rw [placed_map inr]
  unfold Mu58.swapped
  dsimp only
  rw [hi, hj]
  dsimp only
  unfold swapO
  dsimp only
  by_cases hkj : j = k
  · subst hkj
    rw [List.getElem?_set_self (by rw [List.length_set, List.length_range]; exact h2), List.getElem?_set_self (by rw [List.length_set]; exact h2)]
    exact hi
  · rw [List.getElem?_set_ne hkj, List.getElem?_set_ne hkj]
    by_cases hki : i = k
    · subst hki
      rw [List.getElem?_set_self (by rw [List.length_range]; omega), List.getElem?_set_self (by omega)]
      exact hj
    · rw [List.getElem?_set_ne hki, List.getElem?_set_ne hki]
      by_cases hk : k < r.length
      · rw [List.getElem?_range hk]
        rfl
      · rw [List.getElem?_eq_none (by rw [List.length_range]; omega), List.getElem?_eq_none (by omega)]
        rfl
theorem exchange_eq (r : Row) (x : Nat) (h : AllOk r) : Mu58.exchange r (whole x) = Mu58.mostOf (fun z => fr (comesU (Mu58.placed r (swapO r.length z)) (x, 1))) (pairs r.length) := by
  unfold Mu58.exchange
  rw [pairs_eq]
  refine mostOf_congr _ fun z hz => ?_
  rw [← placed_swapO (pairs_lt hz), ← fr_whole, comes_fr _ _ (placed_ok h _) Nat.one_pos]
/-! ### time -/
theorem total_cons (a : Nat) (l : List Nat) : Mu58.total (a :: l) = a + Mu58.total l := by
  have : ∀ (l : List Nat) (k : Nat), l.foldl (fun a b => a + b) k = k + l.foldl (fun a b => a + b) 0 := by
    intro l
    induction l with
    | nil => intro k; rfl
    | cons b l ih =>
      intro k
      rw [List.foldl_cons, List.foldl_cons, ih (k + b), ih (0 + b)]
      omega
  unfold Mu58.total
  rw [List.foldl_cons, this l (0 + a)]
  omega
theorem total_snoc (l : List Nat) (a : Nat) : Mu58.total (l ++ [a]) = Mu58.total l + a := by
  unfold Mu58.total
  rw [List.foldl_append]
  rfl
theorem most_snoc (l : List Nat) (a : Nat) : Mu58.most (l ++ [a]) = max (Mu58.most l) a := by
  unfold Mu58.most
  rw [List.foldl_append]
  rfl
/-! ### in lowest terms -/
theorem told_fr (x : Am) (h : 0 < x.2) : Mu58.told (fr x) = [x.1 / Nat.gcd x.1 x.2, x.2 / Nat.gcd x.1 x.2] := by
  unfold fr frac Mu58.told
  rw [if_neg (by omega)]
end BR
namespace BR
open Mu58 (Q Person Row frac less whole)
theorem erase_le : ∀ (n : Nat) (l : List Nat), l.length ≤ n → l.eraseDups.length ≤ l.length ∧ (l.eraseDups.length = l.length ↔ l.Nodup)
  | _, [], _ => ⟨Nat.le_refl _, by simp⟩
  | 0, _ :: _, h => absurd h (by simp)
  | n + 1, a :: l, h => by
    have hl : l.length ≤ n := by rw [List.length_cons] at h; omega
    have hf := List.length_filter_le (fun b => !b == a) l
    obtain ⟨i1, i2⟩ := erase_le n (l.filter fun b => !b == a) (by omega)
    rw [List.eraseDups_cons, List.length_cons, List.length_cons]
    refine ⟨by omega, ?_⟩
    rw [List.nodup_cons]
    constructor
    · intro e
      have e1 : (l.filter fun b => !b == a).length = l.length := by omega
      have e2 : l.filter (fun b => !b == a) = l := List.filter_eq_self.mpr (List.length_filter_eq_length_iff.mp e1)
      rw [e2] at i2
      refine ⟨fun ha => ?_, i2.mp (by rw [e2] at e; omega)⟩
      have := List.length_filter_eq_length_iff.mp e1 a ha
      simp at this
    · rintro ⟨ha, hn⟩
      have e2 : l.filter (fun b => !b == a) = l := by
        apply List.filter_eq_self.mpr
        intro b hb
        simp
        intro q
        rw [q] at hb
        exact ha hb
      rw [e2] at i2 ⊢
      rw [i2.mpr hn]
theorem isOrder_iff (s : Row) (o : List Nat) : Mu58.isOrder s o = true ↔ o.Nodup ∧ ∀ i ∈ o, i < s.length := by
  unfold Mu58.isOrder
  rw [Bool.and_eq_true, beq_iff_eq, (erase_le o.length o (Nat.le_refl _)).2, List.all_eq_true]
  simp
theorem nodup_len : ∀ (n : Nat) {o : List Nat}, o.Nodup → (∀ i ∈ o, i < n) → o.length ≤ n
  | 0, [], _, _ => Nat.le_refl _
  | 0, a :: _, _, h => absurd (h a List.mem_cons_self) (by omega)
  | n + 1, o, hn, hl => by
    by_cases h : n ∈ o
    · have h1 := nodup_len n (o := o.erase n) (List.Nodup.erase n hn) (fun i hi => by
        have := (List.Nodup.mem_erase_iff hn).mp hi
        have := hl i this.2
        omega)
      rw [List.length_erase_of_mem h] at h1
      omega
    · have h1 := nodup_len n hn (fun i hi => by
        have h2 := hl i hi
        have : i ≠ n := fun q => h (q ▸ hi)
        omega)
      omega
end BR
namespace BR
open Mu58 (Q Person Row frac less whole)
def intL (o : List Nat) : List Int := o.map fun (n : Nat) => (n : Int)
/-- a call as it is written: the list from there on, the call, what is behind it -/
inductive Rd : List Int → Mu58.Call → List Int → Prop
  | begin_ (t : List Int) : Rd (0 :: t) .begin_ t
  | person (s a b m : Nat) (t : List Int) : Rd (1 :: (s : Int) :: (a : Int) :: (b : Int) :: (m : Int) :: t) (.person s a b m) t
  | comes (x : Nat) (o : List Nat) (t : List Int) (h : x ≤ 2000) (ho : o.length ≤ 8) : Rd (2 :: (x : Int) :: (o.length : Int) :: (intL o ++ t)) (.comes x o) t
  | needs (x : Nat) (o : List Nat) (t : List Int) (h : x ≤ 2000) (ho : o.length ≤ 8) : Rd (3 :: (x : Int) :: (o.length : Int) :: (intL o ++ t)) (.needs x o) t
  | best (x : Nat) (t : List Int) : Rd (4 :: (x : Int) :: t) (.best x) t
  | exchange (x : Nat) (t : List Int) : Rd (5 :: (x : Int) :: t) (.exchange x) t
  | soon (k : Nat) (t : List Int) : Rd (6 :: (k : Int) :: t) (.soon k) t
  | come (m : Nat) (t : List Int) : Rd (7 :: (m : Int) :: t) (.come m) t
  | water (x m : Nat) (t : List Int) : Rd (8 :: (x : Int) :: (m : Int) :: t) (.water x m) t
  | swap (i j : Nat) (t : List Int) : Rd (9 :: (i : Int) :: (j : Int) :: t) (.swap i j) t
  | leave (i : Nat) (t : List Int) : Rd (10 :: (i : Int) :: t) (.leave i) t
  | order (x : Nat) (t : List Int) : Rd (11 :: (x : Int) :: t) (.order x) t
  | look (t : List Int) : Rd (12 :: t) .look t
inductive Rds : List Int → List Mu58.Call → Prop
  | nil : Rds [] []
  | cons {l t : List Int} {c : Mu58.Call} {cs : List Mu58.Call} (h : Rd l c t) (r : Rds t cs) : Rds l (c :: cs)
def playedM : Mu58.Abs → List Mu58.Call → List (List Int)
  | _, [] => []
  | s, c :: r => (Mu58.step s c).2 :: playedM (Mu58.step s c).1 r
theorem nat_of {z lo hi : Int} (h : NeutralIO.within z lo hi = true) (h0 : 0 ≤ lo) : z = (z.toNat : Int) ∧ (z.toNat : Int) ≤ hi := by
  unfold NeutralIO.within at h
  simp at h
  omega
theorem ints_of : ∀ {o : List Int}, (∀ z ∈ o, 0 ≤ z) → o = intL (Mu58Neutral.nats o)
  | [], _ => rfl
  | z :: o, h => by
    have hz := h z List.mem_cons_self
    have ih := ints_of fun y hy => h y (List.mem_cons_of_mem z hy)
    show z :: o = (z.toNat : Int) :: intL (Mu58Neutral.nats o)
    rw [← ih, Int.toNat_of_nonneg hz]
theorem callOf_order {x : Int} {o : List Int} (h : (Mu58Neutral.much x && Mu58Neutral.order o) = true) : x = (x.toNat : Int) ∧ x.toNat ≤ 2000 ∧ o = intL (Mu58Neutral.nats o) ∧ (Mu58Neutral.nats o).length ≤ 8 ∧ o.length = (Mu58Neutral.nats o).length := by
  rw [Bool.and_eq_true] at h
  obtain ⟨h1, h2⟩ := h
  have ⟨e1, e2⟩ := nat_of h1 (by decide)
  unfold Mu58Neutral.order at h2
  rw [Bool.and_eq_true, List.all_eq_true] at h2
  have h3 := of_decide_eq_true h2.1
  have h4 : o.length = (Mu58Neutral.nats o).length := by unfold Mu58Neutral.nats; rw [List.length_map]
  refine ⟨e1, by omega, ints_of fun z hz => ?_, by omega, h4⟩
  have := nat_of (h2.2 z hz) (by decide)
  omega
theorem row_one {n : Int} {r xs t : List Int} (h : PyFlat.row (n :: r) = some (xs, t)) : n = (xs.length : Int) ∧ r = xs ++ t := by
  unfold PyFlat.row at h
  dsimp only at h
  split at h
  · rename_i hn
    have e := Option.some.inj h
    have e1 : r.take n.toNat = xs := congrArg Prod.fst e
    have e2 : r.drop n.toNat = t := congrArg Prod.snd e
    refine ⟨?_, by rw [← e1, ← e2, List.take_append_drop]⟩
    rw [← e1, List.length_take, Nat.min_eq_left hn.2]
    omega
  · cases h
theorem rows_one {r : List Int} {xs : List (List Int)} {t : List Int} (h : PyFlat.rows 1 r = some (xs, t)) : ∃ o, xs = [o] ∧ r = (o.length : Int) :: (o ++ t) := by
  unfold PyFlat.rows at h
  match r, h with
  | [], h => cases h
  | n :: r, h =>
    cases e : PyFlat.row (n :: r) with
    | none => rw [e] at h; cases h
    | some y =>
      obtain ⟨o, s⟩ := y
      rw [e] at h
      have e2 := Option.some.inj h
      have e3 : [o] = xs := congrArg Prod.fst e2
      have e4 : s = t := congrArg Prod.snd e2
      subst e3 e4
      obtain ⟨h1, h2⟩ := row_one e
      exact ⟨o, rfl, by rw [h1, h2]⟩
theorem call_some {p : Int} {r : List Int} {n k : Nat} {c : List (List Int)} {t : List Int} (hs : PyMu58.shape p = some (n, k)) (h : PyFlat.call PyMu58.shape (p :: r) = some (c, t)) :
    ∃ a xs, a.length = n ∧ PyFlat.rows k (r.drop n) = some (xs, t) ∧ c = (p :: a) :: xs ∧ r = a ++ r.drop n := by
  unfold PyFlat.call at h
  dsimp only at h
  rw [hs] at h
  dsimp only at h
  split at h
  · cases h
  · rename_i hl
    cases e : PyFlat.rows k (r.drop n) with
    | none => rw [e] at h; cases h
    | some y =>
      obtain ⟨xs, s⟩ := y
      rw [e] at h
      have e2 := Option.some.inj h
      have e3 : (p :: r.take n) :: xs = c := congrArg Prod.fst e2
      have e4 : s = t := congrArg Prod.snd e2
      subst e4
      exact ⟨r.take n, xs, by rw [List.length_take]; omega, rfl, e3.symm, (List.take_append_drop n r).symm⟩
theorem len1 {l : List Int} (h : l.length = 1) : ∃ x, l = [x] := by
  match l, h with
  | [x], _ => exact ⟨x, rfl⟩
theorem len2 {l : List Int} (h : l.length = 2) : ∃ x y, l = [x, y] := by
  match l, h with
  | [x, y], _ => exact ⟨x, y, rfl⟩
theorem len4 {l : List Int} (h : l.length = 4) : ∃ x y z w, l = [x, y, z, w] := by
  match l, h with
  | [x, y, z, w], _ => exact ⟨x, y, z, w, rfl⟩
theorem rows_zero {r : List Int} {xs : List (List Int)} {t : List Int} (h : PyFlat.rows 0 r = some (xs, t)) : xs = [] ∧ r = t := by
  have e := Option.some.inj (show some ([], r) = some (xs, t) from h)
  exact ⟨(congrArg Prod.fst e).symm, congrArg Prod.snd e⟩
theorem call_rd {l t : List Int} {c : List (List Int)} (h : PyFlat.call PyMu58.shape l = some (c, t)) (ha : Mu58Neutral.asked1 (PyMu58.whole c) = true) :
    ∃ m, Mu58Neutral.callOf (PyMu58.whole c) = some m ∧ Rd l m t := by
  match l, h with
  | [], h => cases h
  | p :: r, h =>
    by_cases h0 : p = 0
    · subst h0
      obtain ⟨a, xs, e1, e2, rfl, e4⟩ := call_some (n := 0) (k := 0) rfl h
      obtain ⟨rfl, e5⟩ := rows_zero e2
      rw [List.length_eq_zero_iff.mp e1] at e4 ⊢
      rw [e5] at e4
      subst e4
      exact ⟨_, rfl, .begin_ _⟩
    by_cases h1 : p = 1
    · subst h1
      obtain ⟨a, xs, e1, e2, rfl, e4⟩ := call_some (n := 4) (k := 0) rfl h
      obtain ⟨rfl, e5⟩ := rows_zero e2
      obtain ⟨x, y, z, w, rfl⟩ := len4 e1
      rw [e5] at e4
      subst e4
      have ha : (Mu58Neutral.small x && (Mu58Neutral.twenty y && (Mu58Neutral.twenty z && Mu58Neutral.small w))) = true := ha
      rw [Bool.and_eq_true, Bool.and_eq_true, Bool.and_eq_true] at ha
      have f1 := (nat_of ha.1 (by decide)).1
      have f2 := (nat_of ha.2.1 (by decide)).1
      have f3 := (nat_of ha.2.2.1 (by decide)).1
      have f4 := (nat_of ha.2.2.2 (by decide)).1
      refine ⟨_, rfl, ?_⟩
      have q := Rd.person x.toNat y.toNat z.toNat w.toNat t
      rw [← f1, ← f2, ← f3, ← f4] at q
      exact q
    by_cases h2 : p = 2
    · subst h2
      obtain ⟨a, xs, e1, e2, rfl, e4⟩ := call_some (n := 1) (k := 1) rfl h
      obtain ⟨o, rfl, e5⟩ := rows_one e2
      obtain ⟨x, rfl⟩ := len1 e1
      rw [e5] at e4
      subst e4
      obtain ⟨f1, f2, f3, f4, f5⟩ := callOf_order (show (Mu58Neutral.much x && Mu58Neutral.order o) = true from ha)
      refine ⟨_, rfl, ?_⟩
      have q := Rd.comes x.toNat (Mu58Neutral.nats o) t f2 f4
      rw [← f1, ← f3, ← f5] at q
      exact q
    by_cases h3 : p = 3
    · subst h3
      obtain ⟨a, xs, e1, e2, rfl, e4⟩ := call_some (n := 1) (k := 1) rfl h
      obtain ⟨o, rfl, e5⟩ := rows_one e2
      obtain ⟨x, rfl⟩ := len1 e1
      rw [e5] at e4
      subst e4
      obtain ⟨f1, f2, f3, f4, f5⟩ := callOf_order (show (Mu58Neutral.much x && Mu58Neutral.order o) = true from ha)
      refine ⟨_, rfl, ?_⟩
      have q := Rd.needs x.toNat (Mu58Neutral.nats o) t f2 f4
      rw [← f1, ← f3, ← f5] at q
      exact q
    by_cases h4 : p = 4
    · subst h4
      obtain ⟨a, xs, e1, e2, rfl, e4⟩ := call_some (n := 1) (k := 0) rfl h
      obtain ⟨rfl, e5⟩ := rows_zero e2
      obtain ⟨x, rfl⟩ := len1 e1
      rw [e5] at e4
      subst e4
      have f1 := (nat_of (show Mu58Neutral.much x = true from ha) (by decide)).1
      refine ⟨_, rfl, ?_⟩
      have q := Rd.best x.toNat t
      rw [← f1] at q
      exact q
    by_cases h5 : p = 5
    · subst h5
      obtain ⟨a, xs, e1, e2, rfl, e4⟩ := call_some (n := 1) (k := 0) rfl h
      obtain ⟨rfl, e5⟩ := rows_zero e2
      obtain ⟨x, rfl⟩ := len1 e1
      rw [e5] at e4
      subst e4
      have f1 := (nat_of (show Mu58Neutral.much x = true from ha) (by decide)).1
      refine ⟨_, rfl, ?_⟩
      have q := Rd.exchange x.toNat t
      rw [← f1] at q
      exact q
    by_cases h6 : p = 6
    · subst h6
      obtain ⟨a, xs, e1, e2, rfl, e4⟩ := call_some (n := 1) (k := 0) rfl h
      obtain ⟨rfl, e5⟩ := rows_zero e2
      obtain ⟨x, rfl⟩ := len1 e1
      rw [e5] at e4
      subst e4
      have f1 := (nat_of (show Mu58Neutral.much x = true from ha) (by decide)).1
      refine ⟨_, rfl, ?_⟩
      have q := Rd.soon x.toNat t
      rw [← f1] at q
      exact q
    by_cases h7 : p = 7
    · subst h7
      obtain ⟨a, xs, e1, e2, rfl, e4⟩ := call_some (n := 1) (k := 0) rfl h
      obtain ⟨rfl, e5⟩ := rows_zero e2
      obtain ⟨x, rfl⟩ := len1 e1
      rw [e5] at e4
      subst e4
      have f1 := (nat_of (show Mu58Neutral.late x = true from ha) (by decide)).1
      refine ⟨_, rfl, ?_⟩
      have q := Rd.come x.toNat t
      rw [← f1] at q
      exact q
    by_cases h8 : p = 8
    · subst h8
      obtain ⟨a, xs, e1, e2, rfl, e4⟩ := call_some (n := 2) (k := 0) rfl h
      obtain ⟨rfl, e5⟩ := rows_zero e2
      obtain ⟨x, y, rfl⟩ := len2 e1
      rw [e5] at e4
      subst e4
      have ha : (Mu58Neutral.much x && Mu58Neutral.late y) = true := ha
      rw [Bool.and_eq_true] at ha
      have f1 := (nat_of ha.1 (by decide)).1
      have f2 := (nat_of ha.2 (by decide)).1
      refine ⟨_, rfl, ?_⟩
      have q := Rd.water x.toNat y.toNat t
      rw [← f1, ← f2] at q
      exact q
    by_cases h9 : p = 9
    · subst h9
      obtain ⟨a, xs, e1, e2, rfl, e4⟩ := call_some (n := 2) (k := 0) rfl h
      obtain ⟨rfl, e5⟩ := rows_zero e2
      obtain ⟨x, y, rfl⟩ := len2 e1
      rw [e5] at e4
      subst e4
      have ha : (Mu58Neutral.nine x && Mu58Neutral.nine y) = true := ha
      rw [Bool.and_eq_true] at ha
      have f1 := (nat_of ha.1 (by decide)).1
      have f2 := (nat_of ha.2 (by decide)).1
      refine ⟨_, rfl, ?_⟩
      have q := Rd.swap x.toNat y.toNat t
      rw [← f1, ← f2] at q
      exact q
    by_cases h10 : p = 10
    · subst h10
      obtain ⟨a, xs, e1, e2, rfl, e4⟩ := call_some (n := 1) (k := 0) rfl h
      obtain ⟨rfl, e5⟩ := rows_zero e2
      obtain ⟨x, rfl⟩ := len1 e1
      rw [e5] at e4
      subst e4
      have f1 := (nat_of (show Mu58Neutral.nine x = true from ha) (by decide)).1
      refine ⟨_, rfl, ?_⟩
      have q := Rd.leave x.toNat t
      rw [← f1] at q
      exact q
    by_cases h11 : p = 11
    · subst h11
      obtain ⟨a, xs, e1, e2, rfl, e4⟩ := call_some (n := 1) (k := 0) rfl h
      obtain ⟨rfl, e5⟩ := rows_zero e2
      obtain ⟨x, rfl⟩ := len1 e1
      rw [e5] at e4
      subst e4
      have f1 := (nat_of (show Mu58Neutral.much x = true from ha) (by decide)).1
      refine ⟨_, rfl, ?_⟩
      have q := Rd.order x.toNat t
      rw [← f1] at q
      exact q
    by_cases h12 : p = 12
    · subst h12
      obtain ⟨a, xs, e1, e2, rfl, e4⟩ := call_some (n := 0) (k := 0) rfl h
      obtain ⟨rfl, e5⟩ := rows_zero e2
      rw [List.length_eq_zero_iff.mp e1] at e4 ⊢
      rw [e5] at e4
      subst e4
      exact ⟨_, rfl, .look _⟩
    · have e : PyMu58.shape p = none := by
        unfold PyMu58.shape
        rw [if_neg h0, if_neg h1, if_neg h2, if_neg h3, if_neg h4, if_neg h5, if_neg h6, if_neg h7, if_neg h8, if_neg h9, if_neg h10, if_neg h11, if_neg h12]
      unfold PyFlat.call at h
      dsimp only at h
      rw [e] at h
      cases h
theorem calls_rds : ∀ (f : Nat) (l : List Int) (raw : List (List (List Int))), PyFlat.calls PyMu58.shape f l = some raw → (raw.map PyMu58.whole).all Mu58Neutral.asked1 = true →
    ∃ cs, Rds l cs ∧ ∀ s, PyFlat.played Mu58Neutral.step s (raw.map PyMu58.whole) = playedM s cs
  | _, [], raw, h, _ => by
    unfold PyFlat.calls at h
    have e := Option.some.inj h
    subst e
    exact ⟨[], .nil, fun _ => rfl⟩
  | 0, _ :: _, _, h, _ => by
    unfold PyFlat.calls at h
    cases h
  | f + 1, p :: r, raw, h, ha => by
    unfold PyFlat.calls at h
    cases e : PyFlat.call PyMu58.shape (p :: r) with
    | none => rw [e] at h; cases h
    | some y =>
      obtain ⟨c, t⟩ := y
      rw [e] at h
      dsimp only at h
      cases e2 : PyFlat.calls PyMu58.shape f t with
      | none => rw [e2] at h; cases h
      | some cs =>
        rw [e2] at h
        have e3 := Option.some.inj h
        subst e3
        rw [List.map_cons, List.all_cons, Bool.and_eq_true] at ha
        obtain ⟨m, hm, hr⟩ := call_rd e ha.1
        obtain ⟨ms, hms, hp⟩ := calls_rds f t cs e2 ha.2
        refine ⟨m :: ms, .cons hr hms, fun s => ?_⟩
        show (Mu58Neutral.step s (PyMu58.whole c)).2 :: PyFlat.played Mu58Neutral.step (Mu58Neutral.step s (PyMu58.whole c)).1 (cs.map PyMu58.whole) = (Mu58.step s m).2 :: playedM (Mu58.step s m).1 ms
        have es : Mu58Neutral.step s (PyMu58.whole c) = Mu58.step s m := by
          unfold Mu58Neutral.step
          rw [hm]
        rw [es, hp]
/-- what is asked is read, and what is due is told by the calls as they are read -/
theorem asked_rds {ns : List Int} (h : PyMu58.answers_asked ns = true) : ∃ cs, Rds ns cs ∧ PyMu58.answers ns = PyFlat.told (playedM none cs) ∧ (PyMu58.answers ns).length ≤ 10000000 := by
  unfold PyMu58.answers_asked at h
  cases e : PyFlat.calls PyMu58.shape ns.length ns with
  | none => rw [e] at h; cases h
  | some raw =>
    rw [e] at h
    dsimp only at h
    rw [Bool.and_eq_true, Bool.and_eq_true, Bool.and_eq_true, Bool.and_eq_true] at h
    obtain ⟨⟨_, h1⟩, h2⟩ := h
    unfold Mu58Neutral.asked at h1
    rw [Bool.and_eq_true, Bool.and_eq_true] at h1
    obtain ⟨cs, hr, hp⟩ := calls_rds _ _ _ e h1.2.2
    refine ⟨cs, hr, ?_, of_decide_eq_true h2⟩
    unfold PyMu58.answers PyMu58.calls
    rw [e]
    dsimp only
    rw [hp]
    rfl
end BR
namespace BR
open Mu58 (Q Person frac whole)
theorem frac_times (k : Nat) (x : Am) (h : 0 < x.2) : frac (k * (fr x).n) (fr x).d = fr (k * x.1, x.2) := by
  obtain ⟨n, d⟩ := x
  obtain ⟨g, n', d', hg, hd', rfl, rfl, e⟩ := frac_parts n d h
  show frac (k * (frac (g * n') (g * d')).n) (frac (g * n') (g * d')).d = frac (k * (g * n')) (g * d')
  rw [e, Nat.mul_left_comm k g n', frac_scale _ _ _ hg]
theorem placed_all {r : List Person} {o : List Nat} (h : InRow r o) (hl : o.length = r.length) : (Mu58.placed r o).length = r.length := by
  rw [placed_len h, hl]
theorem swapped_some {r : List Person} {i j : Nat} {p q : Person} (hi : r[i]? = some p) (hj : r[j]? = some q) : Mu58.swapped r i j = (r.set i q).set j p := by
  unfold Mu58.swapped
  rw [hi, hj]
theorem swapped_len (r : List Person) (i j : Nat) : (Mu58.swapped r i j).length = r.length := by
  unfold Mu58.swapped
  split
  · rw [List.length_set, List.length_set]
  · rfl
theorem swapped_ok {r : List Person} (h : AllOk r) (i j : Nat) : AllOk (Mu58.swapped r i j) := by
  unfold Mu58.swapped
  split
  · rename_i p q hi hj
    intro x hx
    rcases List.mem_or_eq_of_mem_set hx with hx | rfl
    · rcases List.mem_or_eq_of_mem_set hx with hx | rfl
      · exact h x hx
      · exact h x (List.mem_of_getElem? hj)
    · exact h x (List.mem_of_getElem? hi)
  · exact h
theorem erase_ok {r : List Person} (h : AllOk r) (i : Nat) : AllOk (r.eraseIdx i) := fun x hx => h x ((List.eraseIdx_sublist r i).subset hx)
theorem most_pos {r : List Person} (h : AllOk r) (hr : 0 < r.length) : 0 < Mu58.most (r.map fun p => p.time) := by
  match r, hr with
  | p :: r, _ =>
    have h1 := (h p List.mem_cons_self).t1
    have : ∀ (l : List Nat) (k : Nat), k ≤ l.foldl (fun (a b : Nat) => max a b) k := by
      intro l
      induction l with
      | nil => intro k; exact Nat.le_refl _
      | cons a l ih =>
        intro k
        rw [List.foldl_cons]
        have := ih (max k a)
        omega
    have h2 := this (r.map fun p => p.time) (max 0 p.time)
    show 0 < ((p :: r).map fun p => p.time).foldl (fun (a b : Nat) => max a b) 0
    rw [List.map_cons, List.foldl_cons]
    omega
end BR
namespace BR
open PySem PySem.Spec PyProof.Rows L2
open PySem.W (Codec)
open Mu58 (Person)
def top (i : Nat) : Stmt := PySem.Challenge.pw_bucketrow_s01_answers.main.body.getD i (.Pass ⟨0, 0, 0, 0⟩)
abbrev sInitP : Stmt := inClass (top 1) 0
abbrev sInitA : Stmt := inClass (top 2) 0
abbrev sGcd : Stmt := top 3
abbrev sLow : Stmt := top 4
abbrev sMore : Stmt := top 5
abbrev sPassed : Stmt := top 6
abbrev sTaken : Stmt := top 7
abbrev sComes : Stmt := top 8
abbrev sNeeds : Stmt := top 9
abbrev sLonger : Stmt := top 10
abbrev sAllO : Stmt := top 11
abbrev sAllP : Stmt := top 12
abbrev sStand : Stmt := top 13
abbrev sSwapO : Stmt := top 14
abbrev sPlace : Stmt := top 15
abbrev sBestO : Stmt := top 16
abbrev sStandIn : Stmt := top 17
abbrev sSlow : Stmt := top 18
abbrev sMoment : Stmt := top 19
abbrev sHowMany : Stmt := top 20
abbrev sHasCome : Stmt := top 21
abbrev sTold : Stmt := top 48
abbrev sIsOrd : Stmt := top 49
abbrev sInitL : Stmt := inClass (top 50) 0
abbrev sBegin : Stmt := inClass (top 50) 1
abbrev sPerson : Stmt := inClass (top 50) 2
abbrev sMComes : Stmt := inClass (top 50) 3
abbrev sMNeeds : Stmt := inClass (top 50) 4
abbrev sMBest : Stmt := inClass (top 50) 5
abbrev sMExch : Stmt := inClass (top 50) 6
abbrev sMSoon : Stmt := inClass (top 50) 7
abbrev sMCome : Stmt := inClass (top 50) 8
abbrev sMWater : Stmt := inClass (top 50) 9
abbrev sMSwap : Stmt := inClass (top 50) 10
abbrev sMLeave : Stmt := inClass (top 50) 11
abbrev sMOrder : Stmt := inClass (top 50) 12
abbrev sMLook : Stmt := inClass (top 50) 13
abbrev sTo : Stmt := top 51
abbrev sEnd : Stmt := top 52
abbrev sAns : Stmt := top 53
/-! ### small words -/
theorem lk_here {k : Str} {v : V} {r : List (Str × V)} : List.lookup k ((k, v) :: r) = some v := by
  have e : (k == k) = true := beq_self_eq_true k
  simp only [List.lookup, e]
theorem lk_past {k g : Str} {v : V} {r : List (Str × V)} (h : (k == g) = false) : List.lookup k ((g, v) :: r) = List.lookup k r := by
  simp only [List.lookup, h]
theorem put_here {f : Str} {v x : V} {r : List (Str × V)} : putF f v ((f, x) :: r) = (f, v) :: r := if_pos rfl
theorem put_past {f g : Str} {v x : V} {r : List (Str × V)} (h : ¬ g = f) : putF f v ((g, x) :: r) = (g, x) :: putF f v r := if_neg h
theorem if_true_of {c : Bool} {A B : Prop} (hc : c = true) (h : A) : if c = true then A else B := by
  rw [if_pos hc]
  exact h
theorem if_false_of {c : Bool} {A B : Prop} (hc : c = false) (h : B) : if c = true then A else B := by
  rw [hc, if_neg Bool.false_ne_true]
  exact h
theorem same_upd {H : Hp} {p : Addr} {o : HO} (h : H p = none) : Same H (upd H p o) := fun b q e => by
  rw [upd_ne (ne_of_none e h)]
  exact e
/-! ### the objects -/
def pF (p : Person) : List (Str × V) := [("spills", .int p.spills), ("a", .int p.a), ("b", .int p.b), ("moments", .int p.time)]
def PersonAt (C : Addr) (H : Hp) (a : Addr) (p : Person) : Prop := ∃ dx, H a = some (.ins C dx (pF p))
def aF (x : Am) : List (Str × V) := [("divided", .int x.1), ("by", .int x.2)]
def AmAt (C : Addr) (H : Hp) (a : Addr) (x : Am) : Prop := ∃ dx, H a = some (.ins C dx (aF x))
theorem aF_divided (x : Am) : (aF x).lookup ("divided" : Str) = some (.int x.1) := lk_here
theorem aF_by (x : Am) : (aF x).lookup ("by" : Str) = some (.int x.2) := (lk_past (by decide +kernel)).trans lk_here
theorem pF_spills (p : Person) : (pF p).lookup ("spills" : Str) = some (.int p.spills) := lk_here
theorem pF_a (p : Person) : (pF p).lookup ("a" : Str) = some (.int p.a) := (lk_past (by decide +kernel)).trans lk_here
theorem pF_b (p : Person) : (pF p).lookup ("b" : Str) = some (.int p.b) := (lk_past (by decide +kernel)).trans ((lk_past (by decide +kernel)).trans lk_here)
theorem pF_moments (p : Person) : (pF p).lookup ("moments" : Str) = some (.int p.time) := (lk_past (by decide +kernel)).trans ((lk_past (by decide +kernel)).trans ((lk_past (by decide +kernel)).trans lk_here))
def vn (n : Nat) : V := .int (n : Int)
def vns (o : List Nat) : List V := o.map vn
/-- a list of objects, each as it should be -/
structure LAt {α : Type} (R : Hp → Addr → α → Prop) (H : Hp) (l : Addr) (as : List Addr) (xs : List α) : Prop where
  lst : H l = some (.lst (as.map V.ref))
  len : as.length = xs.length
  at_ : ∀ (j : Nat) (a : Addr) (x : α), as[j]? = some a → xs[j]? = some x → R H a x
theorem LAt.get {α : Type} {R : Hp → Addr → α → Prop} {H : Hp} {l : Addr} {as : List Addr} {xs : List α} (h : LAt R H l as xs) {j : Nat} {x : α} (hx : xs[j]? = some x) : ∃ a, as[j]? = some a ∧ R H a x := by
  have hj : j < xs.length := (List.getElem?_eq_some_iff.mp hx).1
  have ha : as[j]? = some (as[j]'(by rw [h.len]; exact hj)) := List.getElem?_eq_getElem _
  exact ⟨_, ha, h.at_ j _ x ha hx⟩
theorem LAt.keep {α : Type} {R : Hp → Addr → α → Prop} {H H' : Hp} {l : Addr} {as : List Addr} {xs : List α} (h : LAt R H l as xs) (s : Same H H') (hR : ∀ a x, R H a x → R H' a x) : LAt R H' l as xs :=
  ⟨s _ _ h.lst, h.len, fun j a x ha hx => hR a x (h.at_ j a x ha hx)⟩
theorem PersonAt.keep {C : Addr} {H H' : Hp} (s : Same H H') {a : Addr} {p : Person} (h : PersonAt C H a p) : PersonAt C H' a p := by
  obtain ⟨dx, h⟩ := h
  exact ⟨dx, s _ _ h⟩
theorem AmAt.keep {C : Addr} {H H' : Hp} (s : Same H H') {a : Addr} {x : Am} (h : AmAt C H a x) : AmAt C H' a x := by
  obtain ⟨dx, h⟩ := h
  exact ⟨dx, s _ _ h⟩
def OrdAt (H : Hp) (a : Addr) (o : List Nat) : Prop := H a = some (.lst (vns o))
def RowAt (C : Addr) (H : Hp) (l : Addr) (r : List Person) : Prop := ∃ as, LAt (PersonAt C) H l as r
def OrdsAt (H : Hp) (l : Addr) (os : List (List Nat)) : Prop := ∃ as, LAt OrdAt H l as os
theorem RowAt.keep {C : Addr} {H H' : Hp} (s : Same H H') {l : Addr} {r : List Person} (h : RowAt C H l r) : RowAt C H' l r := by
  obtain ⟨as, h⟩ := h
  exact ⟨as, h.keep s fun _ _ => PersonAt.keep s⟩
theorem OrdsAt.keep {H H' : Hp} (s : Same H H') {l : Addr} {os : List (List Nat)} (h : OrdsAt H l os) : OrdsAt H' l os := by
  obtain ⟨as, h⟩ := h
  exact ⟨as, h.keep s fun _ _ e => s _ _ e⟩
/-! ### what the top has written -/
structure Cal (P : Program) (w : World) (K : PySem.W.Frag) (mg : Str → Option Value) (base : Heap) (k : Nat) (x : Str) (ps : List Str) (sp : Sp) : Prop where
  ex : ∃ f fd, FnOk P w K mg base CX0 k f fd ps sp ∧ mg x = some (.ref f) ∧ PySem.W.keepIn K (.ref f) = true ∧ Binds K fd ps []
structure MkC (P : Program) (w : World) (K : PySem.W.Frag) (mg : Str → Option Value) (base : Heap) (k : Nat) (x : Str) (C : Addr) (ps : List Str) (sp : Sp) : Prop where
  ex : ∃ f fd, FnOk P w K mg base CX0 k f fd ps sp ∧ Mk K C f ∧ mg x = some (.ref C) ∧ Binds K fd ps []
structure MtC (P : Program) (w : World) (K : PySem.W.Frag) (mg : Str → Option Value) (base : Heap) (k : Nat) (x : Str) (C : Addr) (ps : List Str) (sp : Sp) : Prop where
  ex : ∃ f fd, FnOk P w K mg base CX0 k f fd ps sp ∧ Meth K C x f ∧ Binds K fd ps []
structure TxtP (K : PySem.W.Frag) (C : Addr) : Prop where
  cl : Cls K C
  nS : NoAttr K C "spills"
  nA : NoAttr K C "a"
  nB : NoAttr K C "b"
  nM : NoAttr K C "moments"
structure TxtA (K : PySem.W.Frag) (C : Addr) : Prop where
  cl : Cls K C
  nD : NoAttr K C "divided"
  nB : NoAttr K C "by"
theorem ne_str {a b : Str} (h : (a == b) = false) : ¬ a = b := fun e => by rw [e, beq_self_eq_true] at h; cases h
end BR
namespace BR
open PySem PySem.Spec PyProof.Rows L2
open PySem.W (Codec)
open Mu58 (Person)
def spInitP (C : Addr) : Sp := fun vs H Q _ => ∃ (p dx : Addr) (s a b m : Nat), vs = [.ref p, .int s, .int a, .int b, .int m] ∧ H p = some (.ins C dx []) ∧
  ∀ H' : Hp, PersonAt C H' p ⟨s, a, b, m⟩ → (∀ c o, H c = some o → c ≠ p → H' c = some o) → Q .non H'
def spInitA (C : Addr) : Sp := fun vs H Q _ => ∃ (p dx : Addr) (n d : Nat), vs = [.ref p, .int n, .int d] ∧ H p = some (.ins C dx []) ∧
  ∀ H' : Hp, AmAt C H' p (n, d) → (∀ c o, H c = some o → c ≠ p → H' c = some o) → Q .non H'
def spGcd : Sp := fun vs H Q _ => ∃ (n d : Nat), vs = [.int n, .int d] ∧ Q (.int (Nat.gcd n d : Nat)) H
def spLow (C : Addr) : Sp := fun vs H Q _ => ∃ (a : Addr) (x : Am), vs = [.ref a] ∧ AmAt C H a x ∧ 0 < x.2 ∧ x.2 < 1073741824 ∧
  ∀ (H' : Hp) (p : Addr), Same H H' → H p = none → H' p = some (.lst (vns [x.1 / Nat.gcd x.1 x.2, x.2 / Nat.gcd x.1 x.2])) → Q (.ref p) H'
def spMore (C : Addr) : Sp := fun vs H Q _ => ∃ (a b : Addr) (x y : Am), vs = [.ref a, .ref b] ∧ AmAt C H a x ∧ AmAt C H b y ∧ x.2 < 1073741824 ∧ y.2 < 1073741824 ∧
  Q (.bl (decide (y.1 * x.2 < x.1 * y.2))) H
def spPassed (CP CA : Addr) (f : Person → Am → Am) : Sp := fun vs H Q _ => ∃ (a b : Addr) (x : Am) (p : Person), vs = [.ref a, .ref b] ∧ AmAt CA H a x ∧ PersonAt CP H b p ∧ Ok p ∧ 0 < x.2 ∧
  ∀ (H' : Hp) (c : Addr), Same H H' → H c = none → AmAt CA H' c (f p x) → Q (.ref c) H'
section
variable {P : Program} {w : World} {K : PySem.W.Frag} {mg : Str → Option Value} {base : Heap} {CP CA : Addr}
theorem scInitP : FnScope ["self", "spills", "a", "b", "moments"] ["self", "spills", "a", "b", "moments"] (defScope sInitP) := ⟨rfl, rfl, rfl, by decide +kernel, rfl, by decide +kernel, by decide +kernel⟩
theorem pF_new (s a b m : Nat) : putF "moments" (.int m) (putF "b" (.int b) (putF "a" (.int a) (putF "spills" (.int s) []))) = pF ⟨s, a, b, m⟩ := by
  show putF "moments" (.int m) (putF "b" (.int b) (putF "a" (.int a) [("spills", .int s)])) = _
  rw [put_past (ne_str (by decide +kernel))]
  show putF "moments" (.int m) (putF "b" (.int b) [("spills", .int s), ("a", .int a)]) = _
  rw [put_past (ne_str (by decide +kernel)), put_past (ne_str (by decide +kernel))]
  show putF "moments" (.int m) [("spills", .int s), ("a", .int a), ("b", .int b)] = _
  rw [put_past (ne_str (by decide +kernel)), put_past (ne_str (by decide +kernel)), put_past (ne_str (by decide +kernel))]
  rfl
theorem aF_new (n d : Nat) : putF "by" (.int d) (putF "divided" (.int n) []) = aF (n, d) := by
  show putF "by" (.int d) [("divided", .int n)] = _
  rw [put_past (ne_str (by decide +kernel))]
  rfl
theorem ok_initP {f : Addr} {fd : FuncData} (F : Fun K "__init__" "Person.__init__" sInitP f fd) (T : TxtP K CP) : FnOk P w K mg base CX0 1 f fd ["self", "spills", "a", "b", "moments"] (spInitP CP) := by
  refine F.ok scInitP (fun vs H Q E h => ?_) (fun cdv A outer s H vs Q E hr h => ?_)
  · obtain ⟨p, dx, s, a, b, m, rfl, _⟩ := h
    rfl
  · obtain ⟨p, dx, s, a, b, m, rfl, hp, k⟩ := h
    refine ⟨_, pss_cons (ps_fld (pv 0) (pv 1) rfl) (pss_cons (ps_fld (pv 0) (pv 2) rfl) (pss_cons (ps_fld (pv 0) (pv 3) rfl) (pss_one (ps_fld (pv 0) (pv 4) rfl)))), ?_⟩
    refine ⟨_, rfl, _, rfl, p, CP, dx, [], rfl, hp, T.cl, T.nS, (by show 0 < 1000; decide), ?_⟩
    refine ⟨_, rfl, _, rfl, p, CP, dx, _, rfl, upd_same, T.cl, T.nA, (by show 1 < 1000; decide), ?_⟩
    refine ⟨_, rfl, _, rfl, p, CP, dx, _, rfl, upd_same, T.cl, T.nB, (by show 2 < 1000; decide), ?_⟩
    refine ⟨_, rfl, _, rfl, p, CP, dx, _, rfl, upd_same, T.cl, T.nM, (by show 3 < 1000; decide), ?_⟩
    exact k _ ⟨dx, Eq.trans upd_same (congrArg (fun q => some (HO.ins CP dx q)) (pF_new s a b m))⟩ fun b o e hb => by
      rw [upd_ne hb, upd_ne hb, upd_ne hb, upd_ne hb]
      exact e
theorem scInitA : FnScope ["self", "divided", "by"] ["self", "divided", "by"] (defScope sInitA) := ⟨rfl, rfl, rfl, by decide +kernel, rfl, by decide +kernel, by decide +kernel⟩
theorem ok_initA {f : Addr} {fd : FuncData} (F : Fun K "__init__" "Amount.__init__" sInitA f fd) (T : TxtA K CA) : FnOk P w K mg base CX0 1 f fd ["self", "divided", "by"] (spInitA CA) := by
  refine F.ok scInitA (fun vs H Q E h => ?_) (fun cdv A outer s H vs Q E hr h => ?_)
  · obtain ⟨p, dx, n, d, rfl, _⟩ := h
    rfl
  · obtain ⟨p, dx, n, d, rfl, hp, k⟩ := h
    refine ⟨_, pss_cons (ps_fld (pv 0) (pv 1) rfl) (pss_one (ps_fld (pv 0) (pv 2) rfl)), ?_⟩
    refine ⟨_, rfl, _, rfl, p, CA, dx, [], rfl, hp, T.cl, T.nD, (by show 0 < 1000; decide), ?_⟩
    refine ⟨_, rfl, _, rfl, p, CA, dx, _, rfl, upd_same, T.cl, T.nB, (by show 1 < 1000; decide), ?_⟩
    exact k _ ⟨dx, Eq.trans upd_same (congrArg (fun q => some (HO.ins CA dx q)) (aF_new n d))⟩ fun b o e hb => by
      rw [upd_ne hb, upd_ne hb]
      exact e
theorem ne_int {y z : Int} (h : y ≠ z) : (!decide (V.int y = V.int z)) = true := by
  rw [decide_eq_false (fun e => h (V.int.inj e))]
  rfl
theorem scGcd : FnScope ["one", "other", "rest"] ["one", "other"] (defScope sGcd) := ⟨rfl, rfl, rfl, by decide +kernel, rfl, by decide +kernel, by decide +kernel⟩
theorem ok_gcd {f : Addr} {fd : FuncData} (F : Fun K "greatest_divisor" "greatest_divisor" sGcd f fd) : FnOk P w K mg base CX0 1 f fd ["one", "other"] spGcd := by
  refine F.ok scGcd (fun vs H Q E h => ?_) (fun cdv A outer s H vs Q E hr h => ?_)
  · obtain ⟨n, d, rfl, _⟩ := h
    rfl
  · obtain ⟨n, d, rfl, k⟩ := h
    refine ⟨_, pss_cons (ps_while PassesOwn.never (pt_cmpR op_ne (pv 1) pe_int (nomark _))
      (pss_cons (ps_set (i := 2) scGcd.nd rfl (Or.inl rfl) (pe_op op_modN (pv 0) (pv 1)))
      (pss_cons (ps_set (i := 0) scGcd.nd rfl (Or.inl rfl) (pv 1))
      (pss_one (ps_set (i := 1) scGcd.nd rfl (Or.inl rfl) (pv 2))))))
      (pss_one (ps_ret (pv 0))), ?_⟩
    refine while_by (fun σ H' => ∃ (x y : Nat) (z : Option V), σ = [some (.int x), some (.int y), z] ∧ H' = H ∧ Nat.gcd x y = Nat.gcd n d) (fun σ _ => match σ with | [_, some (.int y), _] => y.toNat | _ => 0) ⟨n, d, none, rfl, rfl, rfl⟩ ?_ ?_
    · rintro σ H' ⟨x, y, z, rfl, rfl, e⟩
      refine ⟨_, rfl, rfl, _, rfl, ?_⟩
      by_cases hy : y = 0
      · refine if_false_of (by subst hy; rfl) ?_
        refine ⟨_, rfl, ?_⟩
        subst hy
        rw [Nat.gcd_zero_right] at e
        rw [← e] at k
        exact k
      · refine if_true_of (ne_int (by omega)) ?_
        refine ⟨_, rfl, _, rfl, _, _, rfl, rfl, by omega, ?_⟩
        refine ⟨_, rfl, _, rfl, ?_⟩
        have em : (Int.fmod (x : Int) (y : Int)) = ((x % y : Nat) : Int) := by
          rw [Int.fmod_eq_emod_of_nonneg _ (Int.natCast_nonneg y), Int.natCast_emod]
        refine ⟨⟨y, x % y, some (V.int (x % y : Nat)), ?_, rfl, ?_⟩, ?_⟩
        · show [some (V.int y), some (V.int (Int.fmod x y)), some (V.int (Int.fmod x y))] = _
          rw [em]
        · rw [← e, Nat.gcd_comm x y, Nat.gcd_rec y x, Nat.gcd_comm]
        · show (Int.fmod x y).toNat < (y : Int).toNat
          rw [em]
          have := Nat.mod_lt x (Nat.pos_of_ne_zero hy)
          omega
    · intro σ H Q Q' hq h
      obtain ⟨v, e1, e2, b, e3, h⟩ := h
      exact ⟨v, e1, e2, b, e3, hq _ _ h⟩
theorem fdiv_nat (a b : Nat) : Int.fdiv (a : Int) (b : Int) = ((a / b : Nat) : Int) := by
  rw [Int.fdiv_eq_ediv_of_nonneg _ (Int.natCast_nonneg b), Int.natCast_ediv]
theorem scLow : FnScope ["amount", "common"] ["amount"] (defScope sLow) := ⟨rfl, rfl, rfl, by decide +kernel, rfl, by decide +kernel, by decide +kernel⟩
theorem ok_low {f : Addr} {fd : FuncData} (F : Fun K "in_lowest_terms" "in_lowest_terms" sLow f fd) (T : TxtA K CA) (c1 : Cal P w K mg base 1 "greatest_divisor" ["one", "other"] spGcd) : FnOk P w K mg base CX0 2 f fd ["amount"] (spLow CA) := by
  obtain ⟨f1, fd1, G1, m1, k1, b1⟩ := c1.ex
  refine F.ok scLow (fun vs H Q E h => ?_) (fun cdv A outer s H vs Q E hr h => ?_)
  · obtain ⟨a, x, rfl, _⟩ := h
    rfl
  · obtain ⟨a, x, rfl, ⟨dx, ha⟩, hp, hb, k⟩ := h
    refine ⟨_, pss_cons (ps_set (i := 1) scLow.nd rfl (Or.inl rfl) (pe_call G1 hr rfl m1 k1 b1 .nil pass0 (pa_cons (pe_fld (pv 0) rfl) (pa_cons (pe_fld (pv 0) rfl) pa_nil))))
      (pss_one (ps_ret (pe_lst (pa_cons (pe_op op_fdivN (pe_fld (pv 0) rfl) (pv 1)) (pa_cons (pe_op op_fdivN (pe_fld (pv 0) rfl) (pv 1)) pa_nil))))), ?_⟩
    refine ⟨_, rfl, a, CA, dx, _, _, rfl, ha, T.cl, T.nD, aF_divided x, _, rfl, a, CA, dx, _, _, rfl, ha, T.cl, T.nB, aF_by x, x.1, x.2, rfl, ?_⟩
    have hg0 : 0 < Nat.gcd x.1 x.2 := Nat.gcd_pos_of_pos_right _ hp
    have hg1 : Nat.gcd x.1 x.2 ≤ x.2 := Nat.le_of_dvd hp (Nat.gcd_dvd_right _ _)
    refine ⟨_, rfl, a, CA, dx, _, _, rfl, ha, T.cl, T.nD, aF_divided x, _, rfl, _, _, rfl, rfl, ⟨by omega, by omega⟩, ?_⟩
    refine ⟨_, rfl, a, CA, dx, _, _, rfl, ha, T.cl, T.nB, aF_by x, _, rfl, _, _, rfl, rfl, ⟨by omega, by omega⟩, ?_⟩
    refine ⟨(by show 2 ≤ sizeLine; decide), fun p hp => ?_⟩
    refine k _ p (same_upd hp) hp ?_
    refine Eq.trans upd_same ?_
    show some (HO.lst [V.int (Int.fdiv x.1 (Nat.gcd x.1 x.2 : Nat)), V.int (Int.fdiv x.2 (Nat.gcd x.1 x.2 : Nat))]) = _
    rw [fdiv_nat, fdiv_nat]
    rfl
theorem scMore : FnScope ["one", "other"] ["one", "other"] (defScope sMore) := ⟨rfl, rfl, rfl, by decide +kernel, rfl, by decide +kernel, by decide +kernel⟩
theorem ok_more {f : Addr} {fd : FuncData} (F : Fun K "is_more" "is_more" sMore f fd) (T : TxtA K CA) : FnOk P w K mg base CX0 1 f fd ["one", "other"] (spMore CA) := by
  refine F.ok scMore (fun vs H Q E h => ?_) (fun cdv A outer s H vs Q E hr h => ?_)
  · obtain ⟨a, b, x, y, rfl, _⟩ := h
    rfl
  · obtain ⟨a, b, x, y, rfl, ⟨dx, ha⟩, ⟨dy, hb⟩, h1, h2, k⟩ := h
    refine ⟨_, pss_one (ps_ret (pe_cmpR op_gt (pe_op op_mul (pe_fld (pv 0) rfl) (pe_fld (pv 1) rfl)) (pe_op op_mul (pe_fld (pv 1) rfl) (pe_fld (pv 0) rfl)) (nomark _))), ?_⟩
    refine ⟨_, rfl, a, CA, dx, _, _, rfl, ha, T.cl, T.nD, aF_divided x, _, rfl, b, CA, dy, _, _, rfl, hb, T.cl, T.nB, aF_by y, _, _, rfl, rfl, .inr ⟨by omega, by omega⟩, ?_⟩
    refine ⟨_, rfl, b, CA, dy, _, _, rfl, hb, T.cl, T.nD, aF_divided y, _, rfl, a, CA, dx, _, _, rfl, ha, T.cl, T.nB, aF_by x, _, _, rfl, rfl, .inr ⟨by omega, by omega⟩, ?_⟩
    refine ⟨_, _, rfl, rfl, ?_⟩
    have e : decide ((y.1 : Int) * (x.2 : Int) < (x.1 : Int) * (y.2 : Int)) = decide (y.1 * x.2 < x.1 * y.2) := decide_eq_decide.mpr (by rw [← Int.natCast_mul, ← Int.natCast_mul]; exact Int.ofNat_lt)
    rw [← e] at k
    exact k
theorem scPassed : FnScope ["amount", "person", "rest"] ["amount", "person"] (defScope sPassed) := ⟨rfl, rfl, rfl, by decide +kernel, rfl, by decide +kernel, by decide +kernel⟩
theorem ok_passed {f : Addr} {fd : FuncData} (F : Fun K "passed_on" "passed_on" sPassed f fd) (TP : TxtP K CP) (T : TxtA K CA) (c1 : MkC P w K mg base 1 "Amount" CA ["self", "divided", "by"] (spInitA CA)) : FnOk P w K mg base CX0 3 f fd ["amount", "person"] (spPassed CP CA passU) := by
  obtain ⟨f1, fd1, G1, M1, m1, b1⟩ := c1.ex
  refine F.ok scPassed (fun vs H Q E h => ?_) (fun cdv A outer s H vs Q E hr h => ?_)
  · obtain ⟨a, b, x, y, rfl, _⟩ := h
    rfl
  · obtain ⟨a, b, x, p, rfl, ⟨dx, ha⟩, ⟨dy, hb⟩, hok, hx, k⟩ := h
    refine ⟨_, pss_cons (ps_set (i := 2) scPassed.nd rfl (Or.inl rfl) (pe_op op_sub (pe_fld (pv 0) rfl) (pe_op op_mul (pe_fld (pv 1) rfl) (pe_fld (pv 0) rfl))))
      (pss_cons (ps_if (pt_cmpR op_le (pv 2) pe_int (nomark _)) (pss_one (ps_ret (pe_make M1 G1 hr rfl m1 b1 .nil pass0 (pa_cons pe_int (pa_cons pe_int pa_nil))))) pss_nil)
      (pss_one (ps_ret (pe_make M1 G1 hr rfl m1 b1 .nil pass0 (pa_cons (pe_op op_mul (pv 2) (pe_fld (pv 1) rfl)) (pa_cons (pe_op op_mul (pe_fld (pv 0) rfl) (pe_fld (pv 1) rfl)) pa_nil)))))), ?_⟩
    have hs := hok.s
    have hab := hok.ab
    have hb9 := hok.b9
    refine ⟨_, rfl, a, CA, dx, _, _, rfl, ha, T.cl, T.nD, aF_divided x, _, rfl, b, CP, dy, _, _, rfl, hb, TP.cl, TP.nS, pF_spills p, _, rfl, a, CA, dx, _, _, rfl, ha, T.cl, T.nB, aF_by x, _, _, rfl, rfl, .inl ⟨by omega, by omega⟩, _, _, rfl, rfl, ?_⟩
    refine ⟨_, rfl, _, _, rfl, rfl, _, rfl, ?_⟩
    by_cases hc : x.1 ≤ p.spills * x.2
    · refine if_true_of (decide_eq_true (show (x.1 : Int) - (p.spills : Int) * (x.2 : Int) ≤ 0 by rw [← Int.natCast_mul]; omega)) ?_
      intro q dq nq nd ne
      refine ⟨q, dq, 0, 1, rfl, upd_same, fun H1 hA kp => ⟨rfl, ?_⟩⟩
      refine k H1 q (Same.made nq nd kp) nq ?_
      unfold passU
      rw [if_pos hc]
      exact hA
    · refine if_false_of (decide_eq_false (show ¬ (x.1 : Int) - (p.spills : Int) * (x.2 : Int) ≤ 0 by rw [← Int.natCast_mul]; omega)) ?_
      refine ⟨_, rfl, _, rfl, b, CP, dy, _, _, rfl, hb, TP.cl, TP.nA, pF_a p, _, _, rfl, rfl, .inr ⟨by omega, by omega⟩, ?_⟩
      refine ⟨_, rfl, a, CA, dx, _, _, rfl, ha, T.cl, T.nB, aF_by x, _, rfl, b, CP, dy, _, _, rfl, hb, TP.cl, TP.nB, pF_b p, _, _, rfl, rfl, .inr ⟨by omega, by omega⟩, ?_⟩
      intro q dq nq nd ne
      refine ⟨q, dq, (x.1 - p.spills * x.2) * p.a, x.2 * p.b, ?_, upd_same, fun H1 hA kp => ⟨rfl, ?_⟩⟩
      · show [V.ref q, V.int (((x.1 : Int) - (p.spills : Int) * (x.2 : Int)) * (p.a : Int)), V.int ((x.2 : Int) * (p.b : Int))] = _
        have e1 : ((x.1 : Int) - (p.spills : Int) * (x.2 : Int)) * (p.a : Int) = (((x.1 - p.spills * x.2) * p.a : Nat) : Int) := by
          rw [Int.natCast_mul, ← Int.natCast_mul p.spills, Int.natCast_sub (by omega)]
        rw [e1, ← Int.natCast_mul]
      · refine k H1 q (Same.made nq nd kp) nq ?_
        unfold passU
        rw [if_neg hc]
        exact hA
theorem scTaken : FnScope ["amount", "person", "by"] ["amount", "person"] (defScope sTaken) := ⟨rfl, rfl, rfl, by decide +kernel, rfl, by decide +kernel, by decide +kernel⟩
theorem ok_taken {f : Addr} {fd : FuncData} (F : Fun K "taken_to_pass_on" "taken_to_pass_on" sTaken f fd) (TP : TxtP K CP) (T : TxtA K CA) (c1 : MkC P w K mg base 1 "Amount" CA ["self", "divided", "by"] (spInitA CA)) : FnOk P w K mg base CX0 3 f fd ["amount", "person"] (spPassed CP CA needU) := by
  obtain ⟨f1, fd1, G1, M1, m1, b1⟩ := c1.ex
  refine F.ok scTaken (fun vs H Q E h => ?_) (fun cdv A outer s H vs Q E hr h => ?_)
  · obtain ⟨a, b, x, y, rfl, _⟩ := h
    rfl
  · obtain ⟨a, b, x, p, rfl, ⟨dx, ha⟩, ⟨dy, hb⟩, hok, hx, k⟩ := h
    refine ⟨_, pss_cons (ps_set (i := 2) scTaken.nd rfl (Or.inl rfl) (pe_op op_mul (pe_fld (pv 0) rfl) (pe_fld (pv 1) rfl)))
      (pss_one (ps_ret (pe_make M1 G1 hr rfl m1 b1 .nil pass0 (pa_cons (pe_op op_add (pe_op op_mul (pe_fld (pv 0) rfl) (pe_fld (pv 1) rfl)) (pe_op op_mul (pe_fld (pv 1) rfl) (pv 2))) (pa_cons (pv 2) pa_nil))))), ?_⟩
    have hs := hok.s
    have hab := hok.ab
    have hb9 := hok.b9
    refine ⟨_, rfl, a, CA, dx, _, _, rfl, ha, T.cl, T.nB, aF_by x, _, rfl, b, CP, dy, _, _, rfl, hb, TP.cl, TP.nA, pF_a p, _, _, rfl, rfl, .inr ⟨by omega, by omega⟩, ?_⟩
    refine ⟨_, rfl, a, CA, dx, _, _, rfl, ha, T.cl, T.nD, aF_divided x, _, rfl, b, CP, dy, _, _, rfl, hb, TP.cl, TP.nB, pF_b p, _, _, rfl, rfl, .inr ⟨by omega, by omega⟩, ?_⟩
    refine ⟨_, rfl, b, CP, dy, _, _, rfl, hb, TP.cl, TP.nS, pF_spills p, _, rfl, _, _, rfl, rfl, .inl ⟨by omega, by omega⟩, _, _, rfl, rfl, ?_⟩
    refine ⟨_, rfl, ?_⟩
    intro q dq nq nd ne
    refine ⟨q, dq, (needU p x).1, (needU p x).2, ?_, upd_same, fun H1 hA kp => ⟨rfl, ?_⟩⟩
    · show [V.ref q, V.int ((x.1 : Int) * (p.b : Int) + (p.spills : Int) * ((x.2 : Int) * (p.a : Int))), V.int ((x.2 : Int) * (p.a : Int))] = [V.ref q, V.int ((x.1 * p.b + p.spills * (x.2 * p.a) : Nat) : Int), V.int ((x.2 * p.a : Nat) : Int)]
      rw [Int.natCast_add, Int.natCast_mul, Int.natCast_mul, Int.natCast_mul]
    · exact k H1 q (Same.made nq nd kp) nq hA
end
end BR
namespace BR
open PySem PySem.Spec PyProof.Rows L2
open PySem.W (Codec)
open Mu58 (Person)
/-- how much by an order: f the mirror's -/
def spAlong (K : PySem.W.Frag) (CP CA : Addr) (f : List Person → Am → Am) : Sp := fun vs H Q _ => ∃ (l o : Addr) (m : Nat) (r : List Person) (ord : List Nat), vs = [.ref l, .ref o, .int m] ∧ RowAt CP H l r ∧ SqL K H o (vns ord) ∧ InRow r ord ∧ AllOk r ∧
  ∀ (H' : Hp) (c : Addr), Same H H' → H c = none → AmAt CA H' c (f (Mu58.placed r ord) (m, 1)) → Q (.ref c) H'
theorem vns_get {o : List Nat} {i : Nat} {y : V} (h : (vns o)[i]? = some y) : ∃ n, o[i]? = some n ∧ y = vn n := by
  unfold vns at h
  rw [List.getElem?_map] at h
  cases e : o[i]? with
  | none => rw [e] at h; cases h
  | some n => rw [e] at h; exact ⟨n, rfl, (Option.some.inj h).symm⟩
theorem refs_get {as : List Addr} {i : Nat} {y : V} (h : (as.map V.ref)[i]? = some y) : ∃ a, as[i]? = some a ∧ y = .ref a := by
  rw [List.getElem?_map] at h
  cases e : as[i]? with
  | none => rw [e] at h; cases h
  | some n => rw [e] at h; exact ⟨n, rfl, (Option.some.inj h).symm⟩
theorem refs_at {as : List Addr} {i : Nat} {a : Addr} (h : as[i]? = some a) : (as.map V.ref)[i]? = some (.ref a) := by
  rw [List.getElem?_map, h]
  rfl
theorem vns_len (o : List Nat) : (vns o).length = o.length := by unfold vns; rw [List.length_map]
theorem vns_at {o : List Nat} {i n : Nat} (h : o[i]? = some n) : (vns o)[i]? = some (vn n) := by
  unfold vns
  rw [List.getElem?_map, h]
  rfl
section
variable {P : Program} {w : World} {K : PySem.W.Frag} {mg : Str → Option Value} {base : Heap} {CP CA : Addr}
theorem scComes : FnScope ["people", "order", "measures", "amount", "number"] ["people", "order", "measures"] (defScope sComes) := ⟨rfl, rfl, rfl, by decide +kernel, rfl, by decide +kernel, by decide +kernel⟩
theorem ok_comes {f : Addr} {fd : FuncData} (F : Fun K "what_comes" "what_comes" sComes f fd) (c1 : MkC P w K mg base 1 "Amount" CA ["self", "divided", "by"] (spInitA CA)) (c2 : Cal P w K mg base 3 "passed_on" ["amount", "person"] (spPassed CP CA passU)) :
    FnOk P w K mg base CX0 4 f fd ["people", "order", "measures"] (spAlong K CP CA comesU) := by
  obtain ⟨f1, fd1, G1, M1, m1, b1⟩ := c1.ex
  obtain ⟨f2, fd2, G2, m2, k2, b2⟩ := c2.ex
  refine F.ok scComes (fun vs H Q E h => ?_) (fun cdv A outer s H vs Q E hr h => ?_)
  · obtain ⟨l, o, m, r, ord, rfl, _⟩ := h
    rfl
  · obtain ⟨l, o, m, r, ord, rfl, hR, hO, hin, hok, k⟩ := h
    refine ⟨_, pss_cons (ps_set (i := 3) scComes.nd rfl (Or.inl rfl) (pe_make M1 G1 (hr.mono (by decide)) rfl m1 b1 .nil pass0 (pa_cons (pv 2) (pa_cons pe_int pa_nil))))
      (pss_cons (ps_for PassesOwn.never rfl (pi_list (pv 1)) (pg_name (i := 4) scComes.nd rfl (Or.inl rfl))
        (pss_one (ps_set (i := 3) scComes.nd rfl (Or.inl rfl) (pe_call G2 hr rfl m2 k2 b2 .nil pass0 (pa_cons (pv 3) (pa_cons (pe_ix ix_list (pv 0) (pv 4) (fun _ _ => rfl)) pa_nil))))))
      (pss_one (ps_ret (pv 3)))), ?_⟩
    refine ⟨_, rfl, ?_⟩
    intro q dq nq nd ne
    refine ⟨q, dq, m, 1, rfl, upd_same, fun H1 hA kp => ⟨rfl, ?_⟩⟩
    have s1 : Same H H1 := Same.made nq nd kp
    refine ⟨_, rfl, o, rfl, ⟨_, s1.seq hO⟩, for_list (K := K) (a := o) (xs := vns ord) (fun i σ H' => ∃ (c : Addr) (v : Option V), σ = [some (.ref l), some (.ref o), some (.int m), some (.ref c), v] ∧ Same H H' ∧ H c = none ∧ AmAt CA H' c (comesU (Mu58.placed r (ord.take i)) (m, 1)))
      ⟨q, none, rfl, s1, nq, hA⟩ (fun i σ H' _ ⟨_, _, _, s5, _⟩ => s5.seq hO) ?_ ?_⟩
    · rintro i y σ H' hi ⟨c, v, rfl, s5, hc, hA⟩
      obtain ⟨n, hn, rfl⟩ := vns_get hi
      have hlt : n < r.length := hin n (List.mem_of_getElem? hn)
      have hp : r[n]? = some r[n] := List.getElem?_eq_getElem hlt
      obtain ⟨as, hR5⟩ := hR.keep s5
      obtain ⟨b, hb, hP⟩ := hR5.get hp
      refine ⟨_, rfl, _, rfl, _, rfl, l, _, _, _, rfl, rfl, SqL.of hR5.lst, atI_nat (refs_at hb), c, b, _, r[n], rfl, hA, hP, hok _ (List.mem_of_getElem? hp), ?_, fun H2 d s6 hd hB => ?_⟩
      · exact (comesU_fine (k := 0) _ (placed_ok hok _) (fine_one m)).pos
      · refine ⟨d, _, rfl, s5.trans s6, s5.free hd, ?_⟩
        rw [take_more hn, placed_append, placed_cons [] hp]
        unfold comesU
        rw [List.foldl_append]
        exact hB
    · rintro σ H' ⟨c, v, rfl, s5, hc, hA⟩
      rw [vns_len, List.take_length] at hA
      exact ⟨_, rfl, k H' c s5 hc hA⟩
theorem scNeeds : FnScope ["people", "order", "measures", "amount", "number"] ["people", "order", "measures"] (defScope sNeeds) := ⟨rfl, rfl, rfl, by decide +kernel, rfl, by decide +kernel, by decide +kernel⟩
theorem drop_more {α : Type} {l : List α} {i : Nat} {x : α} (hi : i < l.length) (h : l[l.length - 1 - i]? = some x) : l.drop (l.length - (i + 1)) = x :: l.drop (l.length - i) := by
  obtain ⟨hl, e⟩ := List.getElem?_eq_some_iff.mp h
  have e2 : l.length - (i + 1) = l.length - 1 - i := by omega
  rw [e2, List.drop_eq_getElem_cons hl, e]
  congr 2
  omega
theorem ok_needs {f : Addr} {fd : FuncData} (F : Fun K "what_is_needed" "what_is_needed" sNeeds f fd) (hrev : mg "reversed" = none) (c1 : MkC P w K mg base 1 "Amount" CA ["self", "divided", "by"] (spInitA CA)) (c2 : Cal P w K mg base 3 "taken_to_pass_on" ["amount", "person"] (spPassed CP CA needU)) :
    FnOk P w K mg base CX0 4 f fd ["people", "order", "measures"] (spAlong K CP CA needsU) := by
  obtain ⟨f1, fd1, G1, M1, m1, b1⟩ := c1.ex
  obtain ⟨f2, fd2, G2, m2, k2, b2⟩ := c2.ex
  refine F.ok scNeeds (fun vs H Q E h => ?_) (fun cdv A outer s H vs Q E hr h => ?_)
  · obtain ⟨l, o, m, r, ord, rfl, _⟩ := h
    rfl
  · obtain ⟨l, o, m, r, ord, rfl, hR, hO, hin, hok, k⟩ := h
    refine ⟨_, pss_cons (ps_set (i := 3) scNeeds.nd rfl (Or.inl rfl) (pe_make M1 G1 (hr.mono (by decide)) rfl m1 b1 .nil pass0 (pa_cons (pv 2) (pa_cons pe_int pa_nil))))
      (pss_cons (ps_for PassesOwn.never rfl (pi_reversed (by rfl) hrev (pa_cons (pv 1) pa_nil)) (pg_name (i := 4) scNeeds.nd rfl (Or.inl rfl))
        (pss_one (ps_set (i := 3) scNeeds.nd rfl (Or.inl rfl) (pe_call G2 hr rfl m2 k2 b2 .nil pass0 (pa_cons (pv 3) (pa_cons (pe_ix ix_list (pv 0) (pv 4) (fun _ _ => rfl)) pa_nil))))))
      (pss_one (ps_ret (pv 3)))), ?_⟩
    refine ⟨_, rfl, ?_⟩
    intro q dq nq nd ne
    refine ⟨q, dq, m, 1, rfl, upd_same, fun H1 hA kp => ⟨rfl, ?_⟩⟩
    have s1 : Same H H1 := Same.made nq nd kp
    refine ⟨_, rfl, o, _, rfl, s1.seq hO, for_it (walk_rev (K := K) (a := o) (xs := vns ord)) (fun i σ H' => ∃ (c : Addr) (v : Option V), σ = [some (.ref l), some (.ref o), some (.int m), some (.ref c), v] ∧ Same H H' ∧ H c = none ∧ AmAt CA H' c (needsU (Mu58.placed r (ord.drop (ord.length - i))) (m, 1)))
      ⟨q, none, rfl, s1, nq, ?_⟩ (fun i σ H' _ ⟨_, _, _, s5, _⟩ => s5.seq hO) ?_ ?_⟩
    · rw [Nat.sub_zero, List.drop_length]
      exact hA
    · rintro i y σ H' _ hlen ⟨c, v, rfl, s5, hc, hA⟩ ⟨rfl, hi⟩
      rw [vns_len] at hi hlen
      obtain ⟨n, hn, rfl⟩ := vns_get hi
      have hlt : n < r.length := hin n (List.mem_of_getElem? hn)
      have hp : r[n]? = some r[n] := List.getElem?_eq_getElem hlt
      obtain ⟨as, hR5⟩ := hR.keep s5
      obtain ⟨b, hb, hP⟩ := hR5.get hp
      refine ⟨_, rfl, _, rfl, _, rfl, l, _, _, _, rfl, rfl, SqL.of hR5.lst, atI_nat (refs_at hb), c, b, _, r[n], rfl, hA, hP, hok _ (List.mem_of_getElem? hp), ?_, fun H2 d s6 hd hB => ?_⟩
      · exact (needsU_fine (k := 0) _ (placed_ok hok _) (fine_one m)).pos
      · refine ⟨d, _, rfl, s5.trans s6, s5.free hd, ?_⟩
        rw [drop_more hlen hn, placed_cons _ hp]
        exact hB
    · rintro σ H' ⟨c, v, rfl, s5, hc, hA⟩
      rw [vns_len, Nat.sub_self, List.drop_zero] at hA
      exact ⟨_, rfl, k H' c s5 hc hA⟩
end
end BR
namespace BR
open PySem PySem.Spec PyProof.Rows L2
open PySem.W (Codec)
open Mu58 (Person)
def spLonger : Sp := fun vs H Q _ => ∃ (l : Addr) (os : List (List Nat)) (n : Nat), vs = [.ref l, .int n] ∧ OrdsAt H l os ∧ n ≤ 6 ∧ os.length ≤ 100000 ∧ (∀ o ∈ os, o.length ≤ 6) ∧
  ∀ (H' : Hp) (p : Addr), Same H H' → H p = none → OrdsAt H' p (longer (List.range n) os) → Q (.ref p) H'
def spAllO : Sp := fun vs H Q _ => ∃ (n : Nat), vs = [.int n] ∧ n ≤ 6 ∧
  ∀ (H' : Hp) (p : Addr), Same H H' → H p = none → OrdsAt H' p (grown (List.range n) n [[]]) → Q (.ref p) H'
def PairAt (H : Hp) (a : Addr) (z : Nat × Nat) : Prop := H a = some (.lst (vns [z.1, z.2]))
def PairsAt (H : Hp) (l : Addr) (zs : List (Nat × Nat)) : Prop := ∃ as, LAt PairAt H l as zs
theorem PairsAt.keep {H H' : Hp} (s : Same H H') {l : Addr} {zs : List (Nat × Nat)} (h : PairsAt H l zs) : PairsAt H' l zs := by
  obtain ⟨as, h⟩ := h
  exact ⟨as, h.keep s fun _ _ e => s _ _ e⟩
def spAllP : Sp := fun vs H Q _ => ∃ (n : Nat), vs = [.int n] ∧ n ≤ 6 ∧
  ∀ (H' : Hp) (p : Addr), Same H H' → H p = none → PairsAt H' p (pairs n) → Q (.ref p) H'
def spStand (CP : Addr) : Sp := fun vs H Q _ => ∃ (l : Addr) (r : List Person), vs = [.ref l] ∧ RowAt CP H l r ∧ r.length ≤ 6 ∧
  ∀ (H' : Hp) (p : Addr), Same H H' → H p = none → OrdAt H' p (List.range r.length) → Q (.ref p) H'
def spSwapO (CP : Addr) : Sp := fun vs H Q _ => ∃ (l a : Addr) (r : List Person) (z : Nat × Nat), vs = [.ref l, .ref a] ∧ RowAt CP H l r ∧ PairAt H a z ∧ z.1 < r.length ∧ z.2 < r.length ∧ r.length ≤ 6 ∧
  ∀ (H' : Hp) (p : Addr), Same H H' → H p = none → OrdAt H' p (swapO r.length z) → Q (.ref p) H'
theorem same_put {H H' : Hp} {q : Addr} {o : HO} (s : Same H H') (h : H q = none) : Same H (upd H' q o) := fun b u e => by
  rw [upd_ne (ne_of_none e h)]
  exact s b u e
theorem inV_vns (k : Nat) : ∀ (o : List Nat), inV (vn k) (vns o) = o.contains k
  | [] => rfl
  | a :: o => by
    have ih := inV_vns k o
    unfold inV vns at ih ⊢
    rw [List.map_cons, List.any_cons, ih, List.contains_cons]
    have e : eqV (vn a) (vn k) = (k == a) := by
      show ((a : Int) == (k : Int)) = (k == a)
      rw [Bool.eq_iff_iff]
      simp
      omega
    rw [e]
theorem flat_vns (o : List Nat) : (vns o).all flatV = true := by
  unfold vns
  rw [List.all_eq_true]
  intro v hv
  obtain ⟨n, _, rfl⟩ := List.mem_map.mp hv
  rfl
/-- one more at the end of a list that stands apart from its items -/
theorem LAt.push {α : Type} {R : Hp → Addr → α → Prop} {H H' : Hp} {q a : Addr} {as : List Addr} {xs : List α} {x : α} (h : LAt R H q as xs) (hR : ∀ b y, b ≠ q → R H b y → R H' b y) (hl : H' q = some (.lst ((as ++ [a]).map V.ref))) (nq : q ∉ as) (hx : R H' a x) :
    LAt R H' q (as ++ [a]) (xs ++ [x]) := by
  refine ⟨hl, by rw [List.length_append, List.length_append, h.len]; rfl, fun j b y hb hy => ?_⟩
  by_cases hj : j < as.length
  · rw [List.getElem?_append_left hj] at hb
    rw [List.getElem?_append_left (by rw [← h.len]; exact hj)] at hy
    exact hR b y (fun e => nq (e ▸ List.mem_of_getElem? hb)) (h.at_ j b y hb hy)
  · rw [List.getElem?_append_right (by omega)] at hb
    rw [List.getElem?_append_right (by rw [← h.len]; omega)] at hy
    rw [h.len] at hb
    have hj0 : j - xs.length = 0 := by
      have := (List.getElem?_eq_some_iff.mp hy).1
      rw [List.length_singleton] at this
      omega
    rw [hj0] at hb hy
    cases (Option.some.inj hb : a = b)
    cases (Option.some.inj hy : x = y)
    exact hx
theorem ordR {H : Hp} {q : Addr} {u : HO} : ∀ (b : Addr) (y : List Nat), b ≠ q → OrdAt H b y → OrdAt (upd H q u) b y := fun b y hb h => by
  show upd H q u b = _
  rw [upd_ne hb]
  exact h
theorem pairR {H : Hp} {q : Addr} {u : HO} : ∀ (b : Addr) (y : Nat × Nat), b ≠ q → PairAt H b y → PairAt (upd H q u) b y := fun b y hb h => by
  show upd H q u b = _
  rw [upd_ne hb]
  exact h
def longerOf (o : List Nat) (j : Nat) : List (List Nat) := ((List.range j).filter fun x => !o.contains x).map fun x => o ++ [x]
theorem longerOf_in {o : List Nat} {j : Nat} (h : o.contains j = true) : longerOf o (j + 1) = longerOf o j := by
  unfold longerOf
  rw [List.range_succ, List.filter_append, List.filter_cons, if_neg (by rw [h]; decide), List.filter_nil, List.append_nil]
theorem longerOf_out {o : List Nat} {j : Nat} (h : o.contains j = false) : longerOf o (j + 1) = longerOf o j ++ [o ++ [j]] := by
  unfold longerOf
  rw [List.range_succ, List.filter_append, List.filter_cons, if_pos (by rw [h]; rfl), List.filter_nil, List.map_append]
  rfl
theorem longerOf_len (o : List Nat) (j : Nat) : (longerOf o j).length ≤ j := by
  unfold longerOf
  rw [List.length_map]
  exact Nat.le_trans (List.length_filter_le _ _) (Nat.le_of_eq List.length_range)
theorem longer_snoc (l : List Nat) (os : List (List Nat)) (o : List Nat) : longer l (os ++ [o]) = longer l os ++ (l.filter fun x => !o.contains x).map fun x => o ++ [x] := by
  unfold longer
  rw [List.flatMap_append, List.flatMap_cons, List.flatMap_nil, List.append_nil]
section
variable {P : Program} {w : World} {K : PySem.W.Frag} {mg : Str → Option Value} {base : Heap}
theorem scLonger : FnScope ["orders", "count", "longer", "order", "number"] ["orders", "count"] (defScope sLonger) := ⟨rfl, rfl, rfl, by decide +kernel, rfl, by decide +kernel, by decide +kernel⟩
theorem ok_longer {f : Addr} {fd : FuncData} (F : Fun K "orders_one_longer" "orders_one_longer" sLonger f fd) (hrange : mg "range" = none) : FnOk P w K mg base CX0 1 f fd ["orders", "count"] spLonger := by
  refine F.ok scLonger (fun vs H Q E h => ?_) (fun cdv A outer s H vs Q E hr h => ?_)
  · obtain ⟨l, os, n, rfl, _⟩ := h
    rfl
  · obtain ⟨l, os, n, rfl, hO, hn, hlen, h6, k⟩ := h
    refine ⟨_, pss_cons (ps_set (i := 2) scLonger.nd rfl (Or.inl rfl) (pe_lst pa_nil))
      (pss_cons (ps_for PassesOwn.never rfl (pi_list (pv 0)) (pg_name (i := 3) scLonger.nd rfl (Or.inl rfl))
        (pss_one (ps_for PassesOwn.never rfl (pi_range1 rfl hrange (pa_cons (pv 1) pa_nil)) (pg_name (i := 4) scLonger.nd rfl (Or.inl rfl))
          (pss_one (ps_if (pt_cmpR op_notIn_seq (pv 4) (pv 3) (by rfl))
            (pss_one (ps_expr (pe_bm PySem.F.plainAttrs_list PySem.F.slot_list_append PySem.F.type_list_append mt_append (pv 2) (pa_cons (pe_op op_cat (pv 3) (pe_lst (pa_cons (pv 4) pa_nil))) pa_nil)))) pss_nil)))))
      (pss_one (ps_ret (pv 2)))), ?_⟩
    refine ⟨Nat.zero_le _, fun q hq => ?_⟩
    obtain ⟨as, hO⟩ := hO
    refine ⟨_, rfl, l, rfl, ⟨_, (same_upd hq).seq (SqL.of hO.lst)⟩, for_list (K := K) (a := l) (xs := as.map V.ref) (fun i σ H' => ∃ (v3 v4 : Option V) (bs : List Addr), σ = [some (.ref l), some (.int n), some (.ref q), v3, v4] ∧ Same H H' ∧ LAt OrdAt H' q bs (longer (List.range n) (os.take i)) ∧ q ∉ bs)
      ⟨none, none, [], rfl, same_upd hq, ⟨upd_same, rfl, fun j a x h => by simp at h⟩, by simp⟩ (fun i σ H' _ ⟨_, _, _, _, s5, _⟩ => s5.seq (SqL.of hO.lst)) ?_ ?_⟩
    · rintro i y σ H' hi ⟨v3, v4, bs, rfl, s5, hB, nq⟩
      obtain ⟨a, ha, rfl⟩ := refs_get hi
      have hil : i < os.length := by rw [← hO.len]; exact (List.getElem?_eq_some_iff.mp ha).1
      have ho : os[i]? = some os[i] := List.getElem?_eq_getElem hil
      have hA := hO.at_ i a _ ha ho
      generalize os[i] = o at ho hA
      have ho6 := h6 o (List.mem_of_getElem? ho)
      have L1 : (longer (List.range n) (os.take i)).length ≤ i * n := by
        have := longer_len_le n (os.take i)
        rw [List.length_take, Nat.min_eq_left (by omega)] at this
        exact this
      have L2 : i * n + 6 ≤ 700000 := by
        have : i * n ≤ 100000 * 6 := Nat.mul_le_mul (by omega) hn
        omega
      refine ⟨_, rfl, (n : Int), rfl, by omega, by omega, for_range (lo := 0) (n := (n : Int).toNat) (fun j σ H' => ∃ (v4 : Option V) (bs : List Addr), σ = [some (.ref l), some (.int n), some (.ref q), some (.ref a), v4] ∧ Same H H' ∧ LAt OrdAt H' q bs (longer (List.range n) (os.take i) ++ longerOf o j) ∧ q ∉ bs)
        ⟨v4, bs, rfl, s5, by show LAt OrdAt H' q bs (_ ++ []); rw [List.append_nil]; exact hB, nq⟩ ?_ ?_⟩
      · rintro j σ H5 hj ⟨v4, bs, rfl, s6, hB, nq⟩
        rw [Int.toNat_natCast] at hj
        have e0 : V.int ((0 : Int) + (j : Nat)) = vn j := by rw [Int.zero_add]; rfl
        rw [e0]
        have hA6 : H5 a = some (.lst (vns o)) := s6 _ _ hA
        refine ⟨_, rfl, _, rfl, a, _, rfl, .inl (SqL.of hA6), rfl, flat_vns o, _, rfl, ?_⟩
        cases hc : o.contains j with
        | true =>
          refine if_false_of (by show (!inV (vn j) (vns o)) = false; rw [inV_vns, hc]; rfl) ?_
          refine ⟨_, bs, rfl, s6, ?_, nq⟩
          rw [longerOf_in hc]
          exact hB
        | false =>
          refine if_true_of (by show (!inV (vn j) (vns o)) = true; rw [inV_vns, hc]; rfl) ?_
          have hBl : bs.length ≤ i * n + 6 := by
            rw [hB.len, List.length_append]
            have := longerOf_len o j
            omega
          refine ⟨_, rfl, .inl ⟨rfl, _, SqL.of hB.lst⟩, _, rfl, _, rfl, (by show 1 ≤ sizeLine; decide), fun t ht => ?_⟩
          have s7 : Same H5 (upd H5 t (.lst [vn j])) := same_upd ht
          refine ⟨a, t, _, _, rfl, rfl, s7 _ _ hA6, upd_same, ?_, fun u hu => ?_⟩
          · rw [vns_len]
            show o.length + 1 ≤ sizeLine
            rw [sizeLine_eq]
            omega
          have s8 := same_upd (o := .lst (vns o ++ [vn j])) hu
          have nqu : u ≠ q := (ne_of_none (s7 _ _ hB.lst) hu).symm
          refine ⟨q, _, _, rfl, rfl, s8 _ _ (s7 _ _ hB.lst), ?_, ?_⟩
          · rw [List.length_map, sizeLine_eq]
            omega
          have s9 : Same H (upd (upd H5 t (.lst [vn j])) u (.lst (vns o ++ [vn j]))) := (s6.trans s7).trans s8
          refine ⟨_, bs ++ [u], rfl, same_put s9 hq, ?_, ?_⟩
          · rw [longerOf_out hc, ← List.append_assoc]
            refine ((hB.keep s7 fun _ _ e => s7 _ _ e).keep s8 fun _ _ e => s8 _ _ e).push ordR ?_ nq ?_
            · rw [upd_same, List.map_append]
              rfl
            · show upd _ q _ u = _
              rw [upd_ne nqu, upd_same]
              unfold vns
              rw [List.map_append]
              rfl
          · intro hm
            rcases List.mem_append.mp hm with hm | hm
            · exact nq hm
            · exact nqu (List.mem_singleton.mp hm).symm
      · rintro σ H5 ⟨v4, bs, rfl, s6, hB, nq⟩
        refine ⟨_, v4, bs, rfl, s6, ?_, nq⟩
        rw [take_more ho, longer_snoc]
        rw [Int.toNat_natCast] at hB
        exact hB
    · rintro σ H' ⟨v3, v4, bs, rfl, s5, hB, nq⟩
      rw [List.length_map, hO.len, List.take_length] at hB
      exact ⟨_, rfl, k H' q s5 hq ⟨bs, hB⟩⟩
end
end BR
namespace BR
open PySem PySem.Spec PyProof.Rows L2
open PySem.W (Codec)
open Mu58 (Person)
section
variable {P : Program} {w : World} {K : PySem.W.Frag} {mg : Str → Option Value} {base : Heap} {CP : Addr}
theorem scAllO : FnScope ["count", "orders", "place"] ["count"] (defScope sAllO) := ⟨rfl, rfl, rfl, by decide +kernel, rfl, by decide +kernel, by decide +kernel⟩
theorem pow6 {n k : Nat} (hn : n ≤ 6) (hk : k ≤ 6) : n ^ k ≤ 100000 :=
  Nat.le_trans (Nat.pow_le_pow_left hn k) (Nat.le_trans (Nat.pow_le_pow_right (by decide) hk) (by decide))
theorem ok_allO {f : Addr} {fd : FuncData} (F : Fun K "all_orders" "all_orders" sAllO f fd) (hrange : mg "range" = none) (c1 : Cal P w K mg base 1 "orders_one_longer" ["orders", "count"] spLonger) : FnOk P w K mg base CX0 2 f fd ["count"] spAllO := by
  obtain ⟨f1, fd1, G1, m1, k1, b1⟩ := c1.ex
  refine F.ok scAllO (fun vs H Q E h => ?_) (fun cdv A outer s H vs Q E hr h => ?_)
  · obtain ⟨n, rfl, _⟩ := h
    rfl
  · obtain ⟨n, rfl, hn, k⟩ := h
    refine ⟨_, pss_cons (ps_set (i := 1) scAllO.nd rfl (Or.inl rfl) (pe_lst (pa_cons (pe_lst pa_nil) pa_nil)))
      (pss_cons (ps_for PassesOwn.never rfl (pi_range1 rfl hrange (pa_cons (pv 0) pa_nil)) (pg_name (i := 2) scAllO.nd rfl (Or.inl rfl))
        (pss_one (ps_set (i := 1) scAllO.nd rfl (Or.inl rfl) (pe_call G1 hr rfl m1 k1 b1 .nil pass0 (pa_cons (pv 1) (pa_cons (pv 0) pa_nil))))))
      (pss_one (ps_ret (pv 1)))), ?_⟩
    refine ⟨Nat.zero_le _, fun t ht => ⟨(by show 1 ≤ sizeLine; decide), fun q hq => ?_⟩⟩
    have s1 : Same H (upd H t (.lst [])) := same_upd ht
    have s2 := same_upd (o := .lst [V.ref t]) hq
    have hnt : t ≠ q := fun e => by rw [← e, upd_same] at hq; cases hq
    refine ⟨_, rfl, (n : Int), rfl, by omega, by omega, for_range (lo := 0) (n := (n : Int).toNat) (fun j σ H' => ∃ (p : Addr) (v : Option V), σ = [some (.int n), some (.ref p), v] ∧ Same H H' ∧ H p = none ∧ OrdsAt H' p (grown (List.range n) j [[]]))
      ⟨q, none, rfl, s1.trans s2, s1.free hq, [t], ⟨upd_same, rfl, fun j a x h h2 => ?_⟩⟩ ?_ ?_⟩
    · match j, h, h2 with
      | 0, h, h2 =>
        cases (Option.some.inj h : t = a)
        cases (Option.some.inj h2 : [] = x)
        show upd _ q _ t = _
        rw [upd_ne hnt, upd_same]
        rfl
      | j + 1, h, _ => simp at h
    · rintro j σ H' hj ⟨p, v, rfl, s5, hp, hO⟩
      rw [Int.toNat_natCast] at hj
      refine ⟨_, rfl, _, rfl, p, _, n, rfl, hO, hn, ?_, fun o ho => ?_, fun H2 p2 s6 hp2 hO2 => ?_⟩
      · exact Nat.le_trans (grown_len_le n j) (pow6 hn (by omega))
      · rw [(grown_ordr n j o ho).len]
        omega
      · refine ⟨p2, _, rfl, s5.trans s6, s5.free hp2, ?_⟩
        rw [grown_succ]
        exact hO2
    · rintro σ H' ⟨p, v, rfl, s5, hp, hO⟩
      rw [Int.toNat_natCast] at hO
      exact ⟨_, rfl, k H' p s5 hp hO⟩
theorem scAllP : FnScope ["count", "pairs", "low", "high"] ["count"] (defScope sAllP) := ⟨rfl, rfl, rfl, by decide +kernel, rfl, by decide +kernel, by decide +kernel⟩
def pairsTo (n j : Nat) : List (Nat × Nat) := (List.range j).flatMap (pairsFrom n)
def pairsIn (i k : Nat) : List (Nat × Nat) := (List.range k).map fun m => (i, i + 1 + m)
theorem pairsTo_succ (n j : Nat) : pairsTo n (j + 1) = pairsTo n j ++ pairsIn j (n - (j + 1)) := by
  unfold pairsTo
  rw [List.range_succ, List.flatMap_append, List.flatMap_cons, List.flatMap_nil, List.append_nil]
  rfl
theorem pairsIn_succ (i k : Nat) : pairsIn i (k + 1) = pairsIn i k ++ [(i, i + 1 + k)] := by
  unfold pairsIn
  rw [List.range_succ, List.map_append]
  rfl
theorem pairsTo_len (n : Nat) : ∀ (j : Nat), (pairsTo n j).length ≤ j * n
  | 0 => Nat.zero_le _
  | j + 1 => by
    have := pairsTo_len n j
    rw [pairsTo_succ, List.length_append, Nat.succ_mul]
    unfold pairsIn
    rw [List.length_map, List.length_range]
    omega
theorem ok_allP {f : Addr} {fd : FuncData} (F : Fun K "all_pairs" "all_pairs" sAllP f fd) (hrange : mg "range" = none) : FnOk P w K mg base CX0 1 f fd ["count"] spAllP := by
  refine F.ok scAllP (fun vs H Q E h => ?_) (fun cdv A outer s H vs Q E hr h => ?_)
  · obtain ⟨n, rfl, _⟩ := h
    rfl
  · obtain ⟨n, rfl, hn, k⟩ := h
    refine ⟨_, pss_cons (ps_set (i := 1) scAllP.nd rfl (Or.inl rfl) (pe_lst pa_nil))
      (pss_cons (ps_for PassesOwn.never rfl (pi_range1 rfl hrange (pa_cons (pv 0) pa_nil)) (pg_name (i := 2) scAllP.nd rfl (Or.inl rfl))
        (pss_one (ps_for PassesOwn.never rfl (pi_range2 rfl hrange (pa_cons (pe_op op_add (pv 2) pe_int) (pa_cons (pv 0) pa_nil))) (pg_name (i := 3) scAllP.nd rfl (Or.inl rfl))
          (pss_one (ps_expr (pe_bm PySem.F.plainAttrs_list PySem.F.slot_list_append PySem.F.type_list_append mt_append (pv 1) (pa_cons (pe_lst (pa_cons (pv 2) (pa_cons (pv 3) pa_nil))) pa_nil)))))))
      (pss_one (ps_ret (pv 1)))), ?_⟩
    refine ⟨Nat.zero_le _, fun q hq => ?_⟩
    refine ⟨_, rfl, (n : Int), rfl, by omega, by omega, for_range (lo := 0) (n := (n : Int).toNat) (fun j σ H' => ∃ (v2 v3 : Option V) (bs : List Addr), σ = [some (.int n), some (.ref q), v2, v3] ∧ Same H H' ∧ LAt PairAt H' q bs (pairsTo n j) ∧ q ∉ bs)
      ⟨none, none, [], rfl, same_upd hq, ⟨upd_same, rfl, fun j a x h => by simp at h⟩, by simp⟩ ?_ ?_⟩
    · rintro j σ H' hj ⟨v2, v3, bs, rfl, s5, hB, nq⟩
      rw [Int.toNat_natCast] at hj
      have e0 : V.int ((0 : Int) + (j : Nat)) = vn j := by rw [Int.zero_add]; rfl
      rw [e0]
      refine ⟨_, rfl, (j : Int), 1, rfl, rfl, _, rfl, (j : Int) + 1, (n : Int), rfl, ⟨by omega, by omega, by omega, by omega⟩, ?_⟩
      have L1 := pairsTo_len n j
      have L2 : j * n ≤ 6 * 6 := Nat.mul_le_mul (by omega) hn
      have e1 : ((n : Int) - ((j : Int) + 1)).toNat = n - (j + 1) := by omega
      rw [e1]
      refine for_range (lo := (j : Int) + 1) (n := n - (j + 1)) (fun m σ H' => ∃ (v3 : Option V) (bs : List Addr), σ = [some (.int n), some (.ref q), some (vn j), v3] ∧ Same H H' ∧ LAt PairAt H' q bs (pairsTo n j ++ pairsIn j m) ∧ q ∉ bs)
        ⟨v3, bs, rfl, s5, by show LAt PairAt H' q bs (_ ++ []); rw [List.append_nil]; exact hB, nq⟩ ?_ ?_
      · rintro m σ H5 hm ⟨v3, bs, rfl, s6, hB, nq⟩
        have e2 : V.int ((j : Int) + 1 + (m : Nat)) = vn (j + 1 + m) := by
          show _ = V.int ((j + 1 + m : Nat) : Int)
          rw [Int.natCast_add, Int.natCast_add]
          rfl
        rw [e2]
        have hBl : bs.length ≤ 100 := by
          rw [hB.len, List.length_append]
          unfold pairsIn
          rw [List.length_map, List.length_range]
          omega
        refine ⟨_, rfl, .inl ⟨rfl, _, SqL.of hB.lst⟩, _, rfl, _, rfl, (by show 2 ≤ sizeLine; decide), fun t ht => ?_⟩
        have s7 := same_upd (o := .lst [vn j, vn (j + 1 + m)]) ht
        have ntq : t ≠ q := (ne_of_none hB.lst ht).symm
        refine ⟨q, _, _, rfl, rfl, s7 _ _ hB.lst, ?_, ?_⟩
        · rw [List.length_map, sizeLine_eq]
          omega
        refine ⟨_, bs ++ [t], rfl, same_put (s6.trans s7) hq, ?_, ?_⟩
        · rw [pairsIn_succ, ← List.append_assoc]
          refine (hB.keep s7 fun _ _ e => s7 _ _ e).push pairR ?_ nq ?_
          · rw [upd_same, List.map_append]
            rfl
          · show upd _ q _ t = _
            rw [upd_ne ntq, upd_same]
            rfl
        · intro hm
          rcases List.mem_append.mp hm with hm | hm
          · exact nq hm
          · exact ntq (List.mem_singleton.mp hm).symm
      · rintro σ H5 ⟨v3, bs, rfl, s6, hB, nq⟩
        refine ⟨_, v3, bs, rfl, s6, ?_, nq⟩
        rw [pairsTo_succ]
        exact hB
    · rintro σ H' ⟨v2, v3, bs, rfl, s5, hB, nq⟩
      rw [Int.toNat_natCast] at hB
      exact ⟨_, rfl, k H' q s5 hq ⟨bs, hB⟩⟩
theorem rgV_nat (n : Nat) : rgV 0 (n : Int) = vns (List.range n) := by
  unfold rgV vns
  rw [show ((n : Int) - 0).toNat = n by omega]
  congr 1
  funext i
  show V.int (0 + (i : Int)) = V.int (i : Int)
  rw [Int.zero_add]
theorem vns_set (o : List Nat) (i k : Nat) : (vns o).set i (vn k) = vns (o.set i k) := by
  unfold vns
  rw [List.map_set]
theorem scStand : FnScope ["people"] ["people"] (defScope sStand) := ⟨rfl, rfl, rfl, by decide +kernel, rfl, by decide +kernel, by decide +kernel⟩
theorem ok_stand {f : Addr} {fd : FuncData} (F : Fun K "order_as_they_stand" "order_as_they_stand" sStand f fd) (hrange : mg "range" = none) (hlist : mg "list" = none) (hlen : mg "len" = none) : FnOk P w K mg base CX0 1 f fd ["people"] (spStand CP) := by
  refine F.ok scStand (fun vs H Q E h => ?_) (fun cdv A outer s H vs Q E hr h => ?_)
  · obtain ⟨l, r, rfl, _⟩ := h
    rfl
  · obtain ⟨l, r, rfl, ⟨as, hR⟩, hn, k⟩ := h
    refine ⟨_, pss_one (ps_ret (pe_listRg rfl rfl hlist (prg_1 rfl hrange (pe_callB call_len_seq (by rfl) hlen PySem.boot_len (pa_cons (pv 0) pa_nil))))), ?_⟩
    refine ⟨_, rfl, l, _, rfl, .inl (SqL.of hR.lst), ?_⟩
    rw [List.length_map, hR.len]
    refine ⟨(r.length : Int), rfl, RgOk.of_le (by decide) (by omega) (by decide) (by omega), fun q hq => ?_⟩
    rw [rgV_nat]
    exact k _ q (same_upd hq) hq upd_same
theorem scSwapO : FnScope ["people", "pair", "order"] ["people", "pair"] (defScope sSwapO) := ⟨rfl, rfl, rfl, by decide +kernel, rfl, by decide +kernel, by decide +kernel⟩
theorem ok_swapO {f : Addr} {fd : FuncData} (F : Fun K "order_with_exchanged" "order_with_exchanged" sSwapO f fd) (c1 : Cal P w K mg base 1 "order_as_they_stand" ["people"] (spStand CP)) : FnOk P w K mg base CX0 2 f fd ["people", "pair"] (spSwapO CP) := by
  obtain ⟨f1, fd1, G1, m1, k1, b1⟩ := c1.ex
  refine F.ok scSwapO (fun vs H Q E h => ?_) (fun cdv A outer s H vs Q E hr h => ?_)
  · obtain ⟨l, a, r, z, rfl, _⟩ := h
    rfl
  · obtain ⟨l, a, r, z, rfl, hR, hP, h1, h2, hn, k⟩ := h
    refine ⟨_, pss_cons (ps_set (i := 2) scSwapO.nd rfl (Or.inl rfl) (pe_call G1 hr rfl m1 k1 b1 .nil pass0 (pa_cons (pv 0) pa_nil)))
      (pss_cons (ps_asg (pe_ix ix_list (pv 1) pe_int (fun _ _ => rfl)) (pg_sub (pv 2) (pe_ix ix_list (pv 1) pe_int (fun _ _ => rfl)) set_list))
      (pss_cons (ps_asg (pe_ix ix_list (pv 1) pe_int (fun _ _ => rfl)) (pg_sub (pv 2) (pe_ix ix_list (pv 1) pe_int (fun _ _ => rfl)) set_list))
      (pss_one (ps_ret (pv 2))))), ?_⟩
    refine ⟨_, rfl, l, r, rfl, hR, hn, fun H1 q s1 hq hO => ?_⟩
    have hO : H1 q = some (.lst (vns (List.range r.length))) := hO
    have naq : a ≠ q := ne_of_none hP hq
    refine ⟨_, rfl, a, _, 1, vn z.2, rfl, rfl, SqL.of (s1 _ _ hP), rfl, _, rfl, _, rfl, a, _, 0, vn z.1, rfl, rfl, SqL.of (s1 _ _ hP), rfl, q, _, _, z.1, rfl, rfl, hO, ?_, ?_⟩
    · unfold ixN
      rw [vns_len, List.length_range, if_pos (by omega), if_pos (by omega), Int.toNat_natCast]
    rw [vns_set]
    have e1 : upd H1 q (.lst (vns ((List.range r.length).set z.1 z.2))) a = some (.lst (vns [z.1, z.2])) := by
      rw [upd_ne naq]
      exact s1 _ _ hP
    refine ⟨_, rfl, a, _, 0, vn z.1, rfl, rfl, SqL.of e1, rfl, _, rfl, _, rfl, a, _, 1, vn z.2, rfl, rfl, SqL.of e1, rfl, q, _, _, z.2, rfl, rfl, upd_same, ?_, ?_⟩
    · unfold ixN
      rw [vns_len, List.length_set, List.length_range, if_pos (by omega), if_pos (by omega), Int.toNat_natCast]
    rw [vns_set]
    exact ⟨_, rfl, k _ q (same_put (same_put s1 hq) hq) hq upd_same⟩
end
end BR
namespace BR
open PySem PySem.Spec PyProof.Rows L2
open PySem.W (Codec)
open Mu58 (Person)
def ordAm (r : List Person) (m : Nat) (o : List Nat) : Am := comesU (Mu58.placed r o) (m, 1)
def spPlace (CP : Addr) : Sp := fun vs H Q _ => ∃ (l lo : Addr) (m : Nat) (r : List Person) (os : List (List Nat)), vs = [.ref l, .ref lo, .int m] ∧ RowAt CP H l r ∧ OrdsAt H lo os ∧ (∀ o ∈ os, InRow r o ∧ o.length ≤ 6) ∧ AllOk r ∧ 0 < os.length ∧
  ∀ (H' : Hp) (b : Nat), Same H H' → (∃ x, Top (ordAm r m) os os.length b x) → Q (.int b) H'
theorem nine6 {x : Am} {k : Nat} (h : Fine k x) (hk : k ≤ 6) : x.2 < 1073741824 := by
  have := (h.mono hk).le
  have e : (9 : Nat) ^ 6 = 531441 := by decide
  omega
theorem ordAm_fine {r : List Person} (hok : AllOk r) {o : List Nat} (hin : InRow r o) (m : Nat) : Fine o.length (ordAm r m o) := by
  have := comesU_fine (k := 0) (Mu58.placed r o) (placed_ok hok o) (fine_one m)
  rw [placed_len hin, Nat.zero_add] at this
  exact this
section
variable {P : Program} {w : World} {K : PySem.W.Frag} {mg : Str → Option Value} {base : Heap} {CP CA : Addr}
theorem scPlace : FnScope ["people", "orders", "measures", "best", "most", "place", "order", "amount"] ["people", "orders", "measures"] (defScope sPlace) := ⟨rfl, rfl, rfl, by decide +kernel, rfl, by decide +kernel, by decide +kernel⟩
theorem ok_place {f : Addr} {fd : FuncData} (F : Fun K "place_of_best" "place_of_best" sPlace f fd) (henum : mg "enumerate" = none) (c1 : Cal P w K mg base 4 "what_comes" ["people", "order", "measures"] (spAlong K CP CA comesU)) (c2 : Cal P w K mg base 1 "is_more" ["one", "other"] (spMore CA)) :
    FnOk P w K mg base CX0 5 f fd ["people", "orders", "measures"] (spPlace CP) := by
  obtain ⟨f1, fd1, G1, m1, k1, b1⟩ := c1.ex
  obtain ⟨f2, fd2, G2, m2, k2, b2⟩ := c2.ex
  refine F.ok scPlace (fun vs H Q E h => ?_) (fun cdv A outer s H vs Q E hr h => ?_)
  · obtain ⟨l, lo, m, r, os, rfl, _⟩ := h
    rfl
  · obtain ⟨l, lo, m, r, os, rfl, hR, hO, hin, hok, hpos, k⟩ := h
    refine ⟨_, pss_cons (ps_set (i := 3) scPlace.nd rfl (Or.inl rfl) pe_int)
      (pss_cons (ps_set (i := 4) scPlace.nd rfl (Or.inl rfl) (pe_call G1 hr rfl m1 k1 b1 .nil pass0 (pa_cons (pv 0) (pa_cons (pe_ix ix_list (pv 1) pe_int (fun _ _ => rfl)) (pa_cons (pv 2) pa_nil)))))
      (pss_cons (ps_for PassesOwn.never rfl (pi_enum (by rfl) henum (pa_cons (pv 1) pa_nil)) (pg_tup (by rfl) (pgs_cons (pg_name (i := 5) scPlace.nd rfl (Or.inl rfl)) (pgs_cons (pg_name (i := 6) scPlace.nd rfl (Or.inl rfl)) pgs_nil)))
        (pss_cons (ps_set (i := 7) scPlace.nd rfl (Or.inl rfl) (pe_call G1 hr rfl m1 k1 b1 .nil pass0 (pa_cons (pv 0) (pa_cons (pv 6) (pa_cons (pv 2) pa_nil)))))
        (pss_one (ps_if (pt_val (pe_call G2 (hr.mono (by decide)) rfl m2 k2 b2 .nil pass0 (pa_cons (pv 7) (pa_cons (pv 4) pa_nil))))
          (pss_cons (ps_set (i := 3) scPlace.nd rfl (Or.inl rfl) (pv 5)) (pss_one (ps_set (i := 4) scPlace.nd rfl (Or.inl rfl) (pv 7)))) pss_nil))))
      (pss_one (ps_ret (pv 3))))), ?_⟩
    obtain ⟨as, hO⟩ := hO
    have h0 : os[0]? = some os[0] := List.getElem?_eq_getElem hpos
    obtain ⟨a0, ha0, hA0⟩ := hO.get h0
    refine ⟨_, rfl, _, rfl, lo, _, 0, _, rfl, rfl, SqL.of hO.lst, atI_nat (j := 0) (refs_at ha0), _, rfl, ?_⟩
    refine ⟨l, a0, m, r, os[0], rfl, hR, SqL.of hA0, (hin _ (List.mem_of_getElem? h0)).1, hok, fun H1 c s1 hc hC => ?_⟩
    have pos : ∀ x ∈ os, 0 < (ordAm r m x).2 := fun x hx => (ordAm_fine hok (hin x hx).1 m).pos
    refine ⟨_, rfl, lo, _, rfl, SqL.of (s1 _ _ hO.lst), for_it (walk_enum (K := K) (a := lo) (xs := as.map V.ref)) (fun i σ H' => ∃ (b : Nat) (c : Addr) (x : Am) (v5 v6 v7 : Option V), σ = [some (.ref l), some (.ref lo), some (.int m), some (.int b), some (.ref c), v5, v6, v7] ∧ Same H H' ∧ AmAt CA H' c x ∧ Top (ordAm r m) os i b x)
      ⟨0, c, _, none, none, none, rfl, s1, hC, Top.start (ordAm r m) h0⟩ (fun i σ H' _ ⟨_, _, _, _, _, _, _, s5, _⟩ => SqL.of (s5 _ _ hO.lst)) ?_ ?_⟩
    · rintro i y σ H' _ _ ⟨b, c, x, v5, v6, v7, rfl, s5, hC, hTop⟩ ⟨T, x1, y1, rfl, hT, rfl, e1, hi⟩
      obtain rfl := Option.some.inj e1
      obtain ⟨a, ha, rfl⟩ := refs_get hi
      have hil : i < os.length := by rw [← hO.len]; exact (List.getElem?_eq_some_iff.mp ha).1
      have ho : os[i]? = some os[i] := List.getElem?_eq_getElem hil
      have hA := hO.at_ i a _ ha ho
      generalize os[i] = o at ho hA
      have hoi := hin o (List.mem_of_getElem? ho)
      have sT := same_upd (o := .tup [.int (i : Nat), V.ref a]) hT
      have s6 := s5.trans sT
      refine ⟨T, _, rfl, SqT.of upd_same, rfl, _, _, rfl, _, _, rfl, rfl, ?_⟩
      refine ⟨_, rfl, _, rfl, _, rfl, l, a, m, r, o, rfl, hR.keep s6, SqL.of (s6 _ _ hA), hoi.1, hok, fun H2 d s7 hd hD => ?_⟩
      obtain ⟨y, hy, ex, _⟩ := hTop.here
      have hy6 := hin y (List.mem_of_getElem? hy)
      refine ⟨_, rfl, _, rfl, d, c, _, x, rfl, hD, (hC.keep sT).keep s7, nine6 (ordAm_fine hok hoi.1 m) hoi.2, ?_, _, rfl, ?_⟩
      · rw [ex]
        exact nine6 (ordAm_fine hok hy6.1 m) hy6.2
      by_cases hm : x.1 * (ordAm r m o).2 < (ordAm r m o).1 * x.2
      · refine if_true_of (decide_eq_true hm) ?_
        refine ⟨_, rfl, _, rfl, i, d, ordAm r m o, _, _, _, rfl, s6.trans s7, hD, hTop.yes pos ho hm⟩
      · refine if_false_of (decide_eq_false hm) ?_
        exact ⟨b, c, x, _, _, _, rfl, s6.trans s7, (hC.keep sT).keep s7, hTop.no pos ho hm⟩
    · rintro σ H' ⟨b, c, x, v5, v6, v7, rfl, s5, hC, hTop⟩
      rw [List.length_map, hO.len] at hTop
      exact ⟨_, rfl, k H' b s5 ⟨x, hTop⟩⟩
end
end BR
namespace BR
open PySem PySem.Spec PyProof.Rows L2
open PySem.W (Codec)
open Mu58 (Person)
def timesOf (r : List Person) : List Nat := r.map fun p => p.time
def spMoment (CP : Addr) : Sp := fun vs H Q _ => ∃ (l : Addr) (r : List Person) (k : Nat), vs = [.ref l, .int k] ∧ RowAt CP H l r ∧ 0 < r.length ∧ r.length ≤ 6 ∧ 1 ≤ k ∧ k ≤ 2000 ∧
  ∀ (H' : Hp), Same H H' → Q (.int (Mu58.soon r k : Nat)) H'
def spSlow (CP : Addr) : Sp := fun vs H Q _ => ∃ (l : Addr) (r : List Person), vs = [.ref l] ∧ RowAt CP H l r ∧ 0 < r.length ∧ r.length ≤ 6 ∧
  ∀ (H' : Hp), Same H H' → Q (.int (Mu58.most (timesOf r) : Nat)) H'
def spHowMany (CP : Addr) : Sp := fun vs H Q _ => ∃ (l : Addr) (r : List Person) (t : Nat), vs = [.ref l, .int t] ∧ RowAt CP H l r ∧ AllOk r ∧ r.length ≤ 6 ∧
  ∀ (H' : Hp), Same H H' → Q (.int (Mu58.come r t : Nat)) H'
def spHasCome (CP CA : Addr) : Sp := fun vs H Q _ => ∃ (l : Addr) (r : List Person) (m t : Nat), vs = [.ref l, .int m, .int t] ∧ RowAt CP H l r ∧ AllOk r ∧ r.length ≤ 6 ∧ t ≤ 200000 ∧
  ∀ (H' : Hp) (c : Addr), Same H H' → H c = none → AmAt CA H' c ((comesU r (m, 1)).1 * Mu58.come r t, (comesU r (m, 1)).2) → Q (.ref c) H'
theorem eq_int0 {y z : Int} (h : y = z) : decide (V.int y = V.int z) = true := decide_eq_true (by rw [h])
theorem neq_int0 {y z : Int} (h : y ≠ z) : decide (V.int y = V.int z) = false := decide_eq_false fun e => h (V.int.inj e)
theorem vns_ints (o : List Nat) : vns o = (intL o).map V.int := by
  unfold vns intL
  rw [List.map_map]
  rfl
theorem sum_ints : ∀ (l : List Nat), (intL l).sum = (Mu58.total l : Int)
  | [] => rfl
  | a :: l => by
    show ((a : Int) :: intL l).sum = _
    rw [List.sum_cons, sum_ints l, total_cons, Int.natCast_add]
theorem most_mem : ∀ (l : List Nat) (k : Nat), l.foldl (fun (a b : Nat) => max a b) k = k ∨ l.foldl (fun (a b : Nat) => max a b) k ∈ l
  | [], _ => .inl rfl
  | a :: l, k => by
    rw [List.foldl_cons]
    rcases most_mem l (max k a) with h | h
    · rw [h]
      by_cases hk : a ≤ k
      · exact .inl (Nat.max_eq_left hk)
      · refine .inr ?_
        rw [Nat.max_eq_right (by omega)]
        exact List.mem_cons_self
    · exact .inr (List.mem_cons_of_mem _ h)
theorem most_ge : ∀ (l : List Nat) (k : Nat), k ≤ l.foldl (fun (a b : Nat) => max a b) k ∧ ∀ x ∈ l, x ≤ l.foldl (fun (a b : Nat) => max a b) k
  | [], _ => ⟨Nat.le_refl _, fun _ h => nomatch h⟩
  | a :: l, k => by
    rw [List.foldl_cons]
    obtain ⟨h1, h2⟩ := most_ge l (max k a)
    refine ⟨by omega, fun x hx => ?_⟩
    rcases List.mem_cons.mp hx with rfl | hx
    · omega
    · exact h2 x hx
theorem most_is {l : List Nat} {m : Int} (hm : m ∈ intL l) (hle : ∀ y ∈ intL l, y ≤ m) : m = (Mu58.most l : Int) := by
  obtain ⟨n, hn, rfl⟩ := List.mem_map.mp hm
  have h1 : n ≤ Mu58.most l := (most_ge l 0).2 n hn
  have h2 : Mu58.most l ≤ n := by
    rcases most_mem l 0 with h | h
    · have : Mu58.most l = 0 := h
      omega
    · have := hle _ (List.mem_map.mpr ⟨_, h, rfl⟩)
      have e : ((Mu58.most l : Nat) : Int) ≤ (n : Int) := this
      omega
  have : n = Mu58.most l := by omega
  rw [this]
section
variable {P : Program} {w : World} {K : PySem.W.Frag} {mg : Str → Option Value} {base : Heap} {CP CA : Addr}
theorem come_le (r : List Person) (t : Nat) : Mu58.come r t ≤ t + 1 := by
  unfold Mu58.come
  split
  · omega
  · have := Nat.div_le_self (t - Mu58.soon r 1) (Mu58.most (r.map fun p => p.time))
    omega
theorem timesOf_len (r : List Person) : (timesOf r).length = r.length := by
  unfold timesOf
  rw [List.length_map]
theorem times_more {r : List Person} {i : Nat} {p : Person} (hp : r[i]? = some p) : vns (timesOf (r.take (i + 1))) = vns (timesOf (r.take i)) ++ [.int p.time] := by
  rw [take_more hp]
  unfold timesOf vns
  rw [List.map_append, List.map_append]
  rfl
theorem scSlow : FnScope ["people", "person"] ["people"] (defScope sSlow) := ⟨rfl, rfl, rfl, by decide +kernel, rfl, by decide +kernel, by decide +kernel⟩
theorem ok_slow {f : Addr} {fd : FuncData} (F : Fun K "slowest_time" "slowest_time" sSlow f fd) (TP : TxtP K CP) (hmax : mg "max" = none) : FnOk P w K mg base CX0 1 f fd ["people"] (spSlow CP) := by
  refine F.ok scSlow (fun vs H Q E h => ?_) (fun cdv A outer s H vs Q E hr h => ?_)
  · obtain ⟨l, r, rfl, _⟩ := h
    rfl
  · obtain ⟨l, r, rfl, hR, hpos, hlen, kk⟩ := h
    refine ⟨_, pss_one (ps_ret (pe_callB (cr_max rfl) (by rfl) hmax (by decide +kernel) (pa_cons (pe_lc (own := [("person", 1)]) (g := gName 1) (tt := tYes) (te := tFld K (tVar 1) "moments") (by rfl) scSlow.nd (pi_list (pv 0)) (blkOk_by (own := [("person", 1)]) (N := ["people", "person"]) (sc := defScope sSlow) (by decide +kernel))
        (fun _ _ _ _ _ => pg_name (i := 1) scSlow.nd rfl (Or.inl rfl)) (fun _ _ _ _ _ => pts_nil) (fun _ _ _ _ _ => by exact pe_fld (pv 1) rfl)) pa_nil))), ?_⟩
    obtain ⟨as, hR⟩ := hR
    refine ⟨_, rfl, l, rfl, ⟨_, SqL.of hR.lst⟩, fun D hD => lc_list (K := K) (a := l) (xs := as.map V.ref) (fun i H' => Same H H' ∧ H' D = some (.lst (vns (timesOf (r.take i))))) ⟨same_upd hD, upd_same⟩ (fun i H' _ ⟨s5, _⟩ => SqL.of (s5 _ _ hR.lst)) ?_ ?_⟩
    · rintro i y H' hi ⟨s5, hD5⟩
      obtain ⟨a, ha, rfl⟩ := refs_get hi
      have hil : i < r.length := by rw [← hR.len]; exact (List.getElem?_eq_some_iff.mp ha).1
      have hp : r[i]? = some r[i] := List.getElem?_eq_getElem hil
      obtain ⟨dx, hP⟩ := hR.at_ i a _ ha hp
      generalize r[i] = p at hp hP
      refine ⟨rfl, ⟨_, rfl, a, CP, dx, _, _, rfl, s5 _ _ hP, TP.cl, TP.nM, pF_moments p, _, hD5, ?_, same_put s5 hD, ?_⟩⟩
      · rw [vns_len, timesOf_len, List.length_take, sizeLine_eq]
        omega
      · rw [upd_same, times_more hp]
    · rintro H' ⟨s5, hD5⟩
      rw [List.length_map, hR.len, List.take_length, vns_ints] at hD5
      refine ⟨D, intL (timesOf r), rfl, SqL.of hD5, ?_, fun m hm hle => ?_⟩
      · unfold intL
        rw [List.length_map, timesOf_len]
        exact hpos
      · have q := kk H' s5
        rw [← most_is hm hle] at q
        exact q
theorem scMoment : FnScope ["people", "k", "person"] ["people", "k"] (defScope sMoment) := ⟨rfl, rfl, rfl, by decide +kernel, rfl, by decide +kernel, by decide +kernel⟩
theorem ok_moment {f : Addr} {fd : FuncData} (F : Fun K "moment_of_coming" "moment_of_coming" sMoment f fd) (TP : TxtP K CP) (hsum : mg "sum" = none) (c1 : Cal P w K mg base 1 "slowest_time" ["people"] (spSlow CP)) :
    FnOk P w K mg base CX0 2 f fd ["people", "k"] (spMoment CP) := by
  obtain ⟨f1, fd1, G1, m1, k1, b1⟩ := c1.ex
  refine F.ok scMoment (fun vs H Q E h => ?_) (fun cdv A outer s H vs Q E hr h => ?_)
  · obtain ⟨l, r, k, rfl, _⟩ := h
    rfl
  · obtain ⟨l, r, k, rfl, hR, hpos, hlen, hk1, hk2, kk⟩ := h
    refine ⟨_, pss_one (ps_ret (pe_op op_add (pe_callB (cr_sum rfl) (by rfl) hsum (by decide +kernel) (pa_cons (pe_lc (own := [("person", 2)]) (g := gName 2) (tt := tYes) (te := tFld K (tVar 2) "moments") (by rfl) scMoment.nd (pi_list (pv 0)) (blkOk_by (own := [("person", 2)]) (N := ["people", "k", "person"]) (sc := defScope sMoment) (by decide +kernel))
        (fun _ _ _ _ _ => pg_name (i := 2) scMoment.nd rfl (Or.inl rfl)) (fun _ _ _ _ _ => pts_nil) (fun _ _ _ _ _ => by exact pe_fld (pv 2) rfl)) pa_nil)) (pe_op op_mul (pe_op op_sub (pv 1) pe_int) (pe_call G1 hr rfl m1 k1 b1 .nil pass0 (pa_cons (pv 0) pa_nil))))), ?_⟩
    have hR0 := hR
    obtain ⟨as, hR⟩ := hR
    refine ⟨_, rfl, l, rfl, ⟨_, SqL.of hR.lst⟩, fun D hD => lc_list (K := K) (a := l) (xs := as.map V.ref) (fun i H' => Same H H' ∧ H' D = some (.lst (vns (timesOf (r.take i))))) ⟨same_upd hD, upd_same⟩ (fun i H' _ ⟨s5, _⟩ => SqL.of (s5 _ _ hR.lst)) ?_ ?_⟩
    · rintro i y H' hi ⟨s5, hD5⟩
      obtain ⟨a, ha, rfl⟩ := refs_get hi
      have hil : i < r.length := by rw [← hR.len]; exact (List.getElem?_eq_some_iff.mp ha).1
      have hp : r[i]? = some r[i] := List.getElem?_eq_getElem hil
      obtain ⟨dx, hP⟩ := hR.at_ i a _ ha hp
      generalize r[i] = p at hp hP
      refine ⟨rfl, ⟨_, rfl, a, CP, dx, _, _, rfl, s5 _ _ hP, TP.cl, TP.nM, pF_moments p, _, hD5, ?_, same_put s5 hD, ?_⟩⟩
      · rw [vns_len, timesOf_len, List.length_take, sizeLine_eq]
        omega
      · rw [upd_same, times_more hp]
    · rintro H' ⟨s5, hD5⟩
      rw [List.length_map, hR.len, List.take_length, vns_ints] at hD5
      refine ⟨D, intL (timesOf r), rfl, SqL.of hD5, ?_⟩
      refine ⟨_, rfl, _, _, rfl, rfl, _, rfl, l, r, rfl, hR0.keep s5, hpos, hlen, fun H2 s2 => ?_⟩
      refine ⟨_, _, rfl, rfl, .inl ⟨by omega, by omega⟩, _, _, rfl, rfl, ?_⟩
      have e : (intL (timesOf r)).sum + ((k : Int) - 1) * ((Mu58.most (timesOf r) : Nat) : Int) = ((Mu58.soon r k : Nat) : Int) := by
        rw [sum_ints]
        show _ = ((Mu58.total (timesOf r) + (k - 1) * Mu58.most (timesOf r) : Nat) : Int)
        rw [Int.natCast_add, Int.natCast_mul, Int.natCast_sub hk1]
        rfl
      have q := kk H2 (s5.trans s2)
      rw [← e] at q
      exact q
theorem most_le {r : List Person} (hok : AllOk r) : Mu58.most (timesOf r) ≤ 50 := by
  rcases most_mem (timesOf r) 0 with h | h
  · have : Mu58.most (timesOf r) = 0 := h
    omega
  · obtain ⟨p, hp, e⟩ := List.mem_map.mp h
    have e : p.time = Mu58.most (timesOf r) := e
    have := (hok p hp).t50
    omega
theorem scHowMany : FnScope ["people", "moment", "first"] ["people", "moment"] (defScope sHowMany) := ⟨rfl, rfl, rfl, by decide +kernel, rfl, by decide +kernel, by decide +kernel⟩
theorem ok_howMany {f : Addr} {fd : FuncData} (F : Fun K "how_many_come" "how_many_come" sHowMany f fd) (hlen : mg "len" = none) (c1 : Cal P w K mg base 2 "moment_of_coming" ["people", "k"] (spMoment CP)) (c2 : Cal P w K mg base 1 "slowest_time" ["people"] (spSlow CP)) :
    FnOk P w K mg base CX0 3 f fd ["people", "moment"] (spHowMany CP) := by
  obtain ⟨f1, fd1, G1, m1, k1, b1⟩ := c1.ex
  obtain ⟨f2, fd2, G2, m2, k2, b2⟩ := c2.ex
  refine F.ok scHowMany (fun vs H Q E h => ?_) (fun cdv A outer s H vs Q E hr h => ?_)
  · obtain ⟨l, r, t, rfl, _⟩ := h
    rfl
  · obtain ⟨l, r, t, rfl, hR, hok, h6, kk⟩ := h
    refine ⟨_, pss_cons (ps_if (pt_cmpR op_eq (pe_callB call_len_seq (by rfl) hlen PySem.boot_len (pa_cons (pv 0) pa_nil)) pe_int (nomark _)) (pss_one (ps_ret pe_int)) pss_nil)
      (pss_cons (ps_set (i := 2) scHowMany.nd rfl (Or.inl rfl) (pe_call G1 hr rfl m1 k1 b1 .nil pass0 (pa_cons (pv 0) (pa_cons pe_int pa_nil))))
      (pss_cons (ps_if (pt_cmpR op_lt (pv 1) (pv 2) (nomark _)) (pss_one (ps_ret pe_int)) pss_nil)
      (pss_one (ps_ret (pe_op op_add pe_int (pe_op op_fdiv (pe_op op_sub (pv 1) (pv 2)) (pe_call G2 (hr.mono (by decide)) rfl m2 k2 b2 .nil pass0 (pa_cons (pv 0) pa_nil)))))))), ?_⟩
    obtain ⟨as, hR1⟩ := id hR
    refine ⟨_, rfl, l, _, rfl, .inl (SqL.of hR1.lst), rfl, _, rfl, ?_⟩
    rw [List.length_map, hR1.len]
    have ec : Mu58.come r t = if r.isEmpty = true ∨ t < Mu58.soon r 1 then 0 else (t - Mu58.soon r 1) / Mu58.most (timesOf r) + 1 := rfl
    by_cases hz : r.length = 0
    · refine if_true_of (eq_int0 (by omega)) ?_
      rw [ec, if_pos (.inl (List.isEmpty_iff_length_eq_zero.mpr hz))] at kk
      exact kk H (fun _ _ e => e)
    refine if_false_of (neq_int0 (by omega)) ?_
    refine ⟨_, rfl, l, r, 1, rfl, hR, by omega, h6, by omega, by omega, fun H1 s1 => ?_⟩
    refine ⟨_, rfl, _, rfl, _, _, rfl, rfl, _, rfl, ?_⟩
    by_cases ht : t < Mu58.soon r 1
    · refine if_true_of (decide_eq_true (by omega)) ?_
      rw [ec, if_pos (.inr ht)] at kk
      exact kk H1 s1
    refine if_false_of (decide_eq_false (by omega)) ?_
    rw [ec, if_neg (by rintro (h | h); exact hz (List.isEmpty_iff_length_eq_zero.mp h); exact ht h)] at kk
    refine ⟨_, rfl, _, rfl, _, _, rfl, rfl, _, rfl, l, r, rfl, hR.keep s1, by omega, h6, fun H2 s2 => ?_⟩
    have hm1 : 0 < Mu58.most (timesOf r) := most_pos hok (by omega)
    have hm2 := most_le hok
    refine ⟨_, _, rfl, rfl, ⟨by omega, by omega⟩, _, _, rfl, rfl, ?_⟩
    have q := kk H2 (s1.trans s2)
    have e : (1 : Int) + ((t : Int) - ((Mu58.soon r 1 : Nat) : Int)) / ((Mu58.most (timesOf r) : Nat) : Int) = (((t - Mu58.soon r 1) / Mu58.most (timesOf r) + 1 : Nat) : Int) := by
      rw [← Int.natCast_sub (by omega), ← Int.natCast_ediv, Int.natCast_add, Int.add_comm]
      rfl
    rw [← e] at q
    exact q
theorem scHasCome : FnScope ["people", "measures", "moment", "each"] ["people", "measures", "moment"] (defScope sHasCome) := ⟨rfl, rfl, rfl, by decide +kernel, rfl, by decide +kernel, by decide +kernel⟩
theorem ok_hasCome {f : Addr} {fd : FuncData} (F : Fun K "what_has_come" "what_has_come" sHasCome f fd) (T : TxtA K CA) (c1 : Cal P w K mg base 4 "what_comes" ["people", "order", "measures"] (spAlong K CP CA comesU)) (c2 : Cal P w K mg base 1 "order_as_they_stand" ["people"] (spStand CP))
    (c3 : Cal P w K mg base 3 "how_many_come" ["people", "moment"] (spHowMany CP)) (c4 : MkC P w K mg base 1 "Amount" CA ["self", "divided", "by"] (spInitA CA)) :
    FnOk P w K mg base CX0 5 f fd ["people", "measures", "moment"] (spHasCome CP CA) := by
  obtain ⟨f1, fd1, G1, m1, k1, b1⟩ := c1.ex
  obtain ⟨f2, fd2, G2, m2, k2, b2⟩ := c2.ex
  obtain ⟨f3, fd3, G3, m3, k3, b3⟩ := c3.ex
  obtain ⟨f4, fd4, G4, M4, m4, b4⟩ := c4.ex
  refine F.ok scHasCome (fun vs H Q E h => ?_) (fun cdv A outer s H vs Q E hr h => ?_)
  · obtain ⟨l, r, m, t, rfl, _⟩ := h
    rfl
  · obtain ⟨l, r, m, t, rfl, hR, hok, h6, ht, kk⟩ := h
    refine ⟨_, pss_cons (ps_set (i := 3) scHasCome.nd rfl (Or.inl rfl) (pe_call G1 hr rfl m1 k1 b1 .nil pass0 (pa_cons (pv 0) (pa_cons (pe_call G2 (hr.mono (by decide)) rfl m2 k2 b2 .nil pass0 (pa_cons (pv 0) pa_nil)) (pa_cons (pv 1) pa_nil)))))
      (pss_one (ps_ret (pe_make M4 G4 (hr.mono (by decide)) rfl m4 b4 .nil pass0 (pa_cons (pe_op op_mul (pe_fld (pv 3) rfl) (pe_call G3 (hr.mono (by decide)) rfl m3 k3 b3 .nil pass0 (pa_cons (pv 0) (pa_cons (pv 2) pa_nil)))) (pa_cons (pe_fld (pv 3) rfl) pa_nil))))), ?_⟩
    refine ⟨_, rfl, _, rfl, l, r, rfl, hR, h6, fun H1 o s1 ho hO => ?_⟩
    refine ⟨_, rfl, l, o, m, r, List.range r.length, rfl, hR.keep s1, SqL.of hO, fun i hi => List.mem_range.mp hi, hok, fun H2 c s2 hc hC => ?_⟩
    rw [placed_range] at hC
    obtain ⟨dx, hC⟩ := hC
    have s12 := s1.trans s2
    refine ⟨_, rfl, c, CA, dx, _, _, rfl, hC, T.cl, T.nD, aF_divided _, _, rfl, _, rfl, l, r, t, rfl, hR.keep s12, hok, h6, fun H3 s3 => ?_⟩
    have hcl := come_le r t
    refine ⟨_, _, rfl, rfl, .inr ⟨by omega, by omega⟩, ?_⟩
    refine ⟨_, rfl, c, CA, dx, _, _, rfl, s3 _ _ hC, T.cl, T.nB, aF_by _, ?_⟩
    intro q dq nq nd ne
    refine ⟨q, dq, (comesU r (m, 1)).1 * Mu58.come r t, (comesU r (m, 1)).2, ?_, upd_same, fun H4 hA kp => ⟨rfl, ?_⟩⟩
    · show [V.ref q, V.int (((comesU r (m, 1)).1 : Int) * ((Mu58.come r t : Nat) : Int)), V.int ((comesU r (m, 1)).2 : Int)] = _
      rw [← Int.natCast_mul]
    · have s123 := s12.trans s3
      exact kk H4 q (s123.trans (Same.made nq nd kp)) (s123.free nq) hA
end
end BR
namespace BR
open PySem PySem.Spec PyProof.Rows L2
open PySem.W (Codec)
open Mu58 (Person)
structure Con1 (mg : Str → Option Value) (x : Str) (n : Int) : Prop where
  ex : ∃ t, mg x = some (.int n t)
theorem pe_cn {X : Cx} {x : Str} {n : Int} {pos : Pos} (c : Con1 X.mg x n) (hg : Gl X x) (hd : (x == ("__debug__" : Str)) = false := by decide) : PE X (.Name x pos) (tC (.int n)) := by
  obtain ⟨t, e⟩ := c.ex
  exact pe_glob (v := .int n) hg e ⟨t, rfl⟩ hd
def asTold (s a b m : Nat) : Bool := !decide (50 < s ∨ a < 1 ∨ b < a ∨ 9 < b ∨ m < 1 ∨ 50 < m)
def spTold : Sp := fun vs H Q _ => ∃ (s a b m : Nat), vs = [.int s, .int a, .int b, .int m] ∧ Q (.bl (asTold s a b m)) H
def isOrd (n : Nat) (o : List Nat) : Bool := decide (o.Nodup ∧ ∀ i ∈ o, i < n)
def spIsOrd (K : PySem.W.Frag) : Sp := fun vs H Q _ => ∃ (a : Addr) (o : List Nat) (n : Nat), vs = [.ref a, .int n] ∧ SqL K H a (vns o) ∧ o.length ≤ 700 ∧
  ∀ H', Same H H' → Q (.bl (isOrd n o)) H'
section
variable {P : Program} {w : World} {K : PySem.W.Frag} {mg : Str → Option Value} {base : Heap}
theorem scTold : FnScope ["spills", "a", "b", "moments"] ["spills", "a", "b", "moments"] (defScope sTold) := ⟨rfl, rfl, rfl, by decide +kernel, rfl, by decide +kernel, by decide +kernel⟩
theorem told_no {s a b m : Nat} (h : 50 < s ∨ a < 1 ∨ b < a ∨ 9 < b ∨ m < 1 ∨ 50 < m) : asTold s a b m = false := by
  unfold asTold
  rw [decide_eq_true h]
  rfl
theorem told_yes {s a b m : Nat} (h : ¬ (50 < s ∨ a < 1 ∨ b < a ∨ 9 < b ∨ m < 1 ∨ 50 < m)) : asTold s a b m = true := by
  unfold asTold
  rw [decide_eq_false h]
  rfl
theorem ok_told {f : Addr} {fd : FuncData} (F : Fun K "is_as_told" "is_as_told" sTold f fd) (g1 : Con1 mg "MOST_SPILLED" 50) (g2 : Con1 mg "MOST_PARTS" 9) (g3 : Con1 mg "MOST_MOMENTS" 50) : FnOk P w K mg base CX0 1 f fd ["spills", "a", "b", "moments"] spTold := by
  refine F.ok scTold (fun vs H Q E h => ?_) (fun cdv A outer s H vs Q E hr h => ?_)
  · obtain ⟨s, a, b, m, rfl, _⟩ := h
    rfl
  · obtain ⟨s, a, b, m, rfl, k⟩ := h
    refine ⟨_, pss_cons (ps_if (pt_cmpR op_gt (pv 0) (pe_cn g1 rfl) (nomark _)) (pss_one (ps_ret pe_bl)) pss_nil)
      (pss_cons (ps_if (PW.pt (pw_or (pt_cmpR op_lt (pv 1) pe_int (nomark _)) (pw_or (pt_cmpR op_gt (pv 1) (pv 2) (nomark _)) (pw_or1 (pt_cmpR op_gt (pv 2) (pe_cn g2 rfl) (nomark _)))))) (pss_one (ps_ret pe_bl)) pss_nil)
      (pss_one (ps_ret (pe_chain op_le op_le pe_int (pv 3) (pe_cn g3 rfl))))), ?_⟩
    refine ⟨_, rfl, _, _, rfl, rfl, _, rfl, ?_⟩
    by_cases h1 : 50 < s
    · refine if_true_of (decide_eq_true (by omega)) ?_
      rw [told_no (by omega)] at k
      exact k
    refine if_false_of (decide_eq_false (by omega)) ?_
    refine ⟨_, rfl, _, _, rfl, rfl, _, rfl, ?_⟩
    by_cases h2 : a < 1
    · refine if_true_of (decide_eq_true (by omega)) ?_
      rw [told_no (by omega)] at k
      exact k
    refine if_false_of (decide_eq_false (by omega)) ?_
    refine ⟨_, rfl, _, rfl, _, _, rfl, rfl, _, rfl, ?_⟩
    by_cases h3 : b < a
    · refine if_true_of (decide_eq_true (by omega)) ?_
      rw [told_no (by omega)] at k
      exact k
    refine if_false_of (decide_eq_false (by omega)) ?_
    refine ⟨_, rfl, _, _, rfl, rfl, _, rfl, ?_⟩
    by_cases h4 : 9 < b
    · refine if_true_of (decide_eq_true (by omega)) ?_
      rw [told_no (by omega)] at k
      exact k
    refine if_false_of (decide_eq_false (by omega)) ?_
    refine ⟨_, rfl, _, _, rfl, rfl, _, rfl, ?_⟩
    by_cases h5 : 1 ≤ m
    · refine if_true_of (decide_eq_true (by omega)) ?_
      refine ⟨_, _, rfl, rfl, ?_⟩
      have e : asTold s a b m = decide ((m : Int) ≤ 50) := by
        by_cases h6 : m ≤ 50
        · rw [told_yes (by omega), decide_eq_true (by omega)]
        · rw [told_no (by omega), decide_eq_false (by omega)]
      rw [e] at k
      exact k
    · refine if_false_of (decide_eq_false (by omega)) ?_
      rw [told_no (by omega)] at k
      exact k
theorem scIsOrd : FnScope ["order", "count", "told", "number"] ["order", "count"] (defScope sIsOrd) := ⟨rfl, rfl, rfl, by decide +kernel, rfl, by decide +kernel, by decide +kernel⟩
theorem ok_isOrd {f : Addr} {fd : FuncData} (F : Fun K "is_order" "is_order" sIsOrd f fd) : FnOk P w K mg base CX0 1 f fd ["order", "count"] (spIsOrd K) := by
  refine F.ok scIsOrd (fun vs H Q E h => ?_) (fun cdv A outer s H vs Q E hr h => ?_)
  · obtain ⟨a, o, n, rfl, _⟩ := h
    rfl
  · obtain ⟨a, o, n, rfl, hO, hlen, k⟩ := h
    have hu := hu_of hr
    refine ⟨_, pss_cons (ps_set (i := 2) scIsOrd.nd rfl (Or.inl rfl) pe_dnewK)
      (pss_cons (ps_for PassesOwn.never rfl (pi_list (pv 0)) (pg_name (i := 3) scIsOrd.nd rfl (Or.inl rfl))
        (pss_cons (ps_if (PW.pt (pw_or (pt_cmpR op_ge (pv 3) (pv 1) (nomark _)) (pw_or1 (pt_cmp (pc_din hu (pv 3) (pv 2)))))) (pss_one (ps_ret pe_bl)) pss_nil)
        (pss_one (ps_dput hu (pv 2) (pv 3) pe_bl rfl))))
      (pss_one (ps_ret pe_bl))), ?_⟩
    intro d hd
    refine ⟨_, rfl, a, rfl, ⟨_, (same_upd hd).seq hO⟩, for_list (K := K) (a := a) (xs := vns o) (fun i σ H' => ∃ (v : Option V) (kvs : List (Key × V)), σ = [some (.ref a), some (.int n), some (.ref d), v] ∧ Same H H' ∧ H' d = some (.dK kvs) ∧ kvs.length ≤ i ∧ (∀ k : Nat, (valV kvs (Sum.inl (k : Int))).isSome = (o.take i).contains k) ∧ (o.take i).Nodup ∧ ∀ x ∈ o.take i, x < n)
      ⟨none, [], rfl, same_upd hd, upd_same, Nat.le_refl _, fun _ => rfl, by simp, by simp⟩ (fun i σ H' _ ⟨_, _, _, s5, _⟩ => s5.seq hO) ?_ ?_⟩
    · rintro i y σ H' hi ⟨v, kvs, rfl, s5, hD, hl, hv, hnd, hlt⟩
      obtain ⟨x, hx, rfl⟩ := vns_get hi
      have hil : i < o.length := (List.getElem?_eq_some_iff.mp hx).1
      have no : ¬ ((o.take i ++ [x]).Nodup ∧ ∀ j ∈ o.take i ++ [x], j < n) → isOrd n o = false := by
        intro h
        refine decide_eq_false fun ⟨q1, q2⟩ => h ?_
        rw [← take_more hx]
        exact ⟨(List.take_sublist _ _).nodup q1, fun j hj => q2 j ((List.take_sublist _ _).subset hj)⟩
      refine ⟨_, rfl, _, rfl, (x : Int), (n : Int), rfl, rfl, _, rfl, ?_⟩
      by_cases h1 : n ≤ x
      · refine if_true_of (decide_eq_true (by omega)) ?_
        have q := k H' s5
        rw [no fun z => by have := z.2 x (by simp); omega] at q
        exact q
      refine if_false_of (decide_eq_false (by omega)) ?_
      refine ⟨_, rfl, _, rfl, d, _, rfl, DGet.k (k := Sum.inl (x : Int)) hD, _, rfl, ?_⟩
      cases hc : (o.take i).contains x with
      | true =>
        refine if_true_of (by rw [hv x, hc]) ?_
        have q := k H' s5
        rw [no fun z => ?_] at q
        · exact q
        · have h2 := (List.nodup_append.mp z.1).2.2 x (by simpa using hc) x (by simp)
          exact h2 rfl
      | false =>
        refine if_false_of (by rw [hv x, hc]) ?_
        have hni : x ∉ o.take i := by
          intro z
          rw [List.contains_iff_mem.mpr z] at hc
          cases hc
        refine ⟨_, rfl, _, rfl, d, _, rfl, DPut.k (k := Sum.inl (x : Int)) hD (by rw [sizeLine_eq]; omega), ?_⟩
        refine ⟨_, putK kvs (Sum.inl (x : Int)) (.bl true), rfl, same_put s5 hd, upd_same, ?_, fun j => ?_, ?_, ?_⟩
        · have := length_putK kvs (Sum.inl (x : Int)) (.bl true)
          omega
        · rw [valV_put, take_more hx]
          by_cases hj : j = x
          · rw [if_pos (by rw [hj])]
            subst hj
            simp
          · have hne : ¬ ((Sum.inl (j : Int) : Key) = Sum.inl (x : Int)) := fun z => hj (by have := Sum.inl.inj z; omega)
            rw [if_neg hne, hv j]
            simp [hj]
        · rw [take_more hx]
          exact List.nodup_append.mpr ⟨hnd, by simp, fun u hu z hz => by
            rw [List.mem_singleton.mp hz]
            exact fun e => hni (e ▸ hu)⟩
        · rw [take_more hx]
          intro j hj
          rcases List.mem_append.mp hj with hj | hj
          · exact hlt j hj
          · rw [List.mem_singleton.mp hj]
            omega
    · rintro σ H' ⟨v, kvs, rfl, s5, hD, hl, hv, hnd, hlt⟩
      rw [vns_len, List.take_length] at hnd hlt
      have q := k H' s5
      rw [show isOrd n o = true from decide_eq_true ⟨hnd, hlt⟩] at q
      exact q
end
end BR
namespace BR
open PySem PySem.Spec PyProof.Rows L2
open PySem.W (Codec)
open Mu58 (Person)
def lF (v : V) : List (Str × V) := [("people", v)]
theorem lF_people (v : V) : (lF v).lookup ("people" : Str) = some v := lk_here
theorem lF_no (v : V) {m : Str} (h : (m == ("people" : Str)) = false) : (lF v).lookup m = none := (lk_past h).trans rfl
/-- the line, and what it stands for -/
def LineAt (CL CP : Addr) (H : Hp) (a : Addr) : Mu58.Abs → Prop
  | none => ∃ dx, H a = some (.ins CL dx (lF .non))
  | some r => ∃ dx l, H a = some (.ins CL dx (lF (.ref l))) ∧ RowAt CP H l r ∧ AllOk r ∧ r.length ≤ 6
/-- neither the line nor its list of people -/
def Off (CL : Addr) (H : Hp) (a g : Addr) : Prop := g ≠ a ∧ ∀ dx l, H a = some (.ins CL dx (lF (.ref l))) → g ≠ l
/-- a call's answer p, a new list, and the line behind it -/
def Gives (CL CP : Addr) (H : Hp) (a : Addr) (x : Mu58.Abs × List Int) (Q : VK) : Prop :=
  ∀ (H' : Hp) (p : Addr), LineAt CL CP H' a x.1 → (∀ g o, H g = some o → Off CL H a g → H' g = some o ∧ Off CL H' a g) → H p = none → H' p = some (.lst (x.2.map V.int)) → Q (.ref p) H'
theorem gives_same {CL CP : Addr} {H H' : Hp} {a p : Addr} {r : List Person} {ans : List Int} {Q : VK} (g : Gives CL CP H a (some r, ans) Q) (hL : LineAt CL CP H a (some r)) (s : Same H H') (hp : H p = none) (hp' : H' p = some (.lst (ans.map V.int))) : Q (.ref p) H' := by
  obtain ⟨dx, l, h1, h2, h3, h4⟩ := hL
  refine g H' p ⟨dx, l, s _ _ h1, h2.keep s, h3, h4⟩ (fun g o hg ho => ⟨s _ _ hg, ho.1, fun dx' l' h' => ?_⟩) hp hp'
  have e := (s _ _ h1).symm.trans h'
  injection e with e
  injection e with e1 e2 e3
  have e4 : V.ref l = V.ref l' := by
    have := congrArg (fun q => List.lookup ("people" : Str) q) e3
    simp only [lF_people] at this
    exact Option.some.inj this
  injection e4 with e4
  rw [← e4]
  exact ho.2 dx l h1
structure TxtL (K : PySem.W.Frag) (C : Addr) : Prop where
  cl : Cls K C
  nP : NoAttr K C "people"
def spInitL (CL : Addr) : Sp := fun vs H Q _ => ∃ (p dx : Addr), vs = [.ref p] ∧ H p = some (.ins CL dx []) ∧
  ∀ H' : Hp, H' p = some (.ins CL dx (lF .non)) → (∀ c o, H c = some o → c ≠ p → H' c = some o) → Q .non H'
def spBegin (CL CP : Addr) : Sp := fun vs H Q _ => ∃ (a : Addr) (s : Mu58.Abs), vs = [.ref a] ∧ LineAt CL CP H a s ∧ Gives CL CP H a (some [], [0]) Q
def spMPerson (CL CP : Addr) : Sp := fun vs H Q _ => ∃ (a : Addr) (r : List Person) (s x y m : Nat), vs = [.ref a, .int s, .int x, .int y, .int m] ∧ LineAt CL CP H a (some r) ∧ Gives CL CP H a (Mu58.step (some r) (.person s x y m)) Q
/-- measures and an order -/
def spMOrd (K : PySem.W.Frag) (CL CP : Addr) (c : Nat → List Nat → Mu58.Call) : Sp := fun vs H Q _ => ∃ (a b : Addr) (r : List Person) (m : Nat) (o : List Nat), vs = [.ref a, .int m, .ref b] ∧ LineAt CL CP H a (some r) ∧ SqL K H b (vns o) ∧ o.length ≤ 8 ∧ Gives CL CP H a (Mu58.step (some r) (c m o)) Q
/-- one number -/
def spM1 (CL CP : Addr) (c : Nat → Mu58.Call) : Sp := fun vs H Q _ => ∃ (a : Addr) (r : List Person) (m : Nat), vs = [.ref a, .int m] ∧ LineAt CL CP H a (some r) ∧ Gives CL CP H a (Mu58.step (some r) (c m)) Q
section
variable {P : Program} {w : World} {K : PySem.W.Frag} {mg : Str → Option Value} {base : Heap} {CP CA CL : Addr}
theorem scInitL : FnScope ["self"] ["self"] (defScope sInitL) := ⟨rfl, rfl, rfl, by decide +kernel, rfl, by decide +kernel, by decide +kernel⟩
theorem ok_initL {f : Addr} {fd : FuncData} (F : Fun K "__init__" "Line.__init__" sInitL f fd) (T : TxtL K CL) : FnOk P w K mg base CX0 1 f fd ["self"] (spInitL CL) := by
  refine F.ok scInitL (fun vs H Q E h => ?_) (fun cdv A outer s H vs Q E hr h => ?_)
  · obtain ⟨p, dx, rfl, _⟩ := h
    rfl
  · obtain ⟨p, dx, rfl, hp, k⟩ := h
    refine ⟨_, pss_one (ps_fld (pv 0) pe_non rfl), ?_⟩
    refine ⟨_, rfl, p, CL, dx, [], rfl, hp, T.cl, T.nP, (by show 0 < 1000; decide), ?_⟩
    exact k _ upd_same fun b o e hb => by
      rw [upd_ne hb]
      exact e
theorem scBegin : FnScope ["self"] ["self"] (defScope sBegin) := ⟨rfl, rfl, rfl, by decide +kernel, rfl, by decide +kernel, by decide +kernel⟩
theorem ok_begin {f : Addr} {fd : FuncData} (F : Fun K "begin" "Line.begin" sBegin f fd) (T : TxtL K CL) : FnOk P w K mg base CX0 1 f fd ["self"] (spBegin CL CP) := by
  refine F.ok scBegin (fun vs H Q E h => ?_) (fun cdv A outer s H vs Q E hr h => ?_)
  · obtain ⟨a, s, rfl, _⟩ := h
    rfl
  · obtain ⟨a, s, rfl, hL, k⟩ := h
    obtain ⟨dx, v, hL⟩ : ∃ dx v, H a = some (.ins CL dx (lF v)) := by
      cases s with
      | none => obtain ⟨dx, h⟩ := hL; exact ⟨dx, _, h⟩
      | some r => obtain ⟨dx, l, h, _⟩ := hL; exact ⟨dx, _, h⟩
    refine ⟨_, pss_cons (ps_fld (pv 0) (pe_lst pa_nil) rfl) (pss_one (ps_ret (pe_lst (pa_cons pe_int pa_nil)))), ?_⟩
    refine ⟨Nat.zero_le _, fun l hl => ?_⟩
    have s1 := same_upd (o := .lst []) hl
    have nla : l ≠ a := (ne_of_none hL hl).symm
    refine ⟨_, rfl, a, CL, dx, _, rfl, s1 _ _ hL, T.cl, T.nP, (by show 1 < 1000; decide), ?_⟩
    have ep : putF "people" (.ref l) (lF v) = lF (.ref l) := put_here
    refine ⟨(by show 1 ≤ sizeLine; decide), fun p hp => ?_⟩
    have s2 := same_upd (o := .lst [V.int 0]) hp
    rw [ep] at hp s2 ⊢
    have npa : p ≠ a := fun e => by rw [e, upd_same] at hp; cases hp
    have npl : p ≠ l := fun e => by rw [e, upd_ne nla, upd_same] at hp; cases hp
    have hH : H p = none := by
      rw [upd_ne npa, upd_ne npl] at hp
      exact hp
    refine k _ p ⟨dx, l, s2 _ _ upd_same, ⟨[], s2 _ _ ?_, rfl, fun j b x h => by simp at h⟩, (fun p hp => nomatch hp), Nat.zero_le _⟩ (fun g o hg ho => ⟨s2 _ _ ?_, ho.1, fun dx' l' h' => ?_⟩) hH upd_same
    · rw [upd_ne nla, upd_same]
      rfl
    · rw [upd_ne ho.1]
      exact s1 _ _ hg
    · have h2 := (s2 _ _ (upd_same (H := upd H l (.lst [])) (a := a) (o := .ins CL dx (lF (.ref l))))).symm.trans h'
      injection h2 with e
      injection e with e1 e2 e3
      have e4 : V.ref l = V.ref l' := by
        have := congrArg (fun q => List.lookup ("people" : Str) q) e3
        simp only [lF_people] at this
        exact Option.some.inj this
      injection e4 with e4
      rw [← e4]
      exact ne_of_none hg hl
end
end BR
namespace BR
open PySem PySem.Spec PyProof.Rows L2
open PySem.W (Codec)
open Mu58 (Person)
theorem nums_vns (l : List Nat) : (Mu58.nums l).map V.int = vns l := by
  unfold Mu58.nums vns
  rw [List.map_map]
  rfl
theorem told_vns {x : Am} (h : 0 < x.2) : vns [x.1 / Nat.gcd x.1 x.2, x.2 / Nat.gcd x.1 x.2] = (Mu58.nums (Mu58.told (fr x))).map V.int := by
  rw [told_fr x h, nums_vns]
theorem isOrder_eq (r : List Person) (o : List Nat) : Mu58.isOrder r o = isOrd r.length o := by
  rw [Bool.eq_iff_iff, isOrder_iff]
  unfold isOrd
  exact decide_eq_true_iff.symm
section
variable {P : Program} {w : World} {K : PySem.W.Frag} {mg : Str → Option Value} {base : Heap} {CP CA CL : Addr}
theorem eq_int {y z : Int} (h : y = z) : decide (V.int y = V.int z) = true := decide_eq_true (by rw [h])
theorem neq_int {y z : Int} (h : y ≠ z) : decide (V.int y = V.int z) = false := decide_eq_false fun e => h (V.int.inj e)
theorem scPersonM : FnScope ["self", "spills", "a", "b", "moments"] ["self", "spills", "a", "b", "moments"] (defScope sPerson) := ⟨rfl, rfl, rfl, by decide +kernel, rfl, by decide +kernel, by decide +kernel⟩
theorem ok_person {f : Addr} {fd : FuncData} (F : Fun K "person" "Line.person" sPerson f fd) (T : TxtL K CL) (hlen : mg "len" = none) (gN : Con1 mg "NOT_AS_TOLD" (-1)) (gF : Con1 mg "ROW_IS_FULL" (-5)) (gM : Con1 mg "MOST_PEOPLE" 6)
    (c1 : Cal P w K mg base 1 "is_as_told" ["spills", "a", "b", "moments"] spTold) (c2 : MkC P w K mg base 1 "Person" CP ["self", "spills", "a", "b", "moments"] (spInitP CP)) :
    FnOk P w K mg base CX0 3 f fd ["self", "spills", "a", "b", "moments"] (spMPerson CL CP) := by
  obtain ⟨f1, fd1, G1, m1, k1, b1⟩ := c1.ex
  obtain ⟨f2, fd2, G2, M2, m2, b2⟩ := c2.ex
  refine F.ok scPersonM (fun vs H Q E h => ?_) (fun cdv A outer s H vs Q E hr h => ?_)
  · obtain ⟨a, r, s, x, y, m, rfl, _⟩ := h
    rfl
  · obtain ⟨a, r, s, x, y, m, rfl, hL, k⟩ := h
    refine ⟨_, pss_cons (ps_if (pt_not (pt_val (pe_call G1 (hr.mono (by decide)) rfl m1 k1 b1 .nil pass0 (pa_cons (pv 1) (pa_cons (pv 2) (pa_cons (pv 3) (pa_cons (pv 4) pa_nil)))))))
        (pss_one (ps_ret (pe_lst (pa_cons (pe_cn gN rfl) pa_nil)))) pss_nil)
      (pss_cons (ps_if (pt_cmpR op_eq (pe_callB call_len_seq (by rfl) hlen PySem.boot_len (pa_cons (pe_fld (pv 0) rfl) pa_nil)) (pe_cn gM rfl) (nomark _)) (pss_one (ps_ret (pe_lst (pa_cons (pe_cn gF rfl) pa_nil)))) pss_nil)
      (pss_cons (ps_expr (pe_bm PySem.F.plainAttrs_list PySem.F.slot_list_append PySem.F.type_list_append mt_append (pe_fld (pv 0) rfl) (pa_cons (pe_make M2 G2 hr rfl m2 b2 .nil pass0 (pa_cons (pv 1) (pa_cons (pv 2) (pa_cons (pv 3) (pa_cons (pv 4) pa_nil))))) pa_nil)))
      (pss_one (ps_ret (pe_lst (pa_cons (pe_op op_sub (pe_callB call_len_seq (by rfl) hlen PySem.boot_len (pa_cons (pe_fld (pv 0) rfl) pa_nil)) pe_int) pa_nil)))))), ?_⟩
    refine ⟨_, rfl, _, rfl, _, rfl, _, rfl, s, x, y, m, rfl, _, rfl, ?_⟩
    by_cases ht : 50 < s ∨ x < 1 ∨ y < x ∨ 9 < y ∨ m < 1 ∨ 50 < m
    · refine if_true_of (by rw [told_no ht]; rfl) ?_
      refine ⟨(by show 1 ≤ sizeLine; decide), fun p hp => ?_⟩
      have e : Mu58.step (some r) (.person s x y m) = (some r, [-1]) := if_pos ht
      rw [e] at k
      exact gives_same k hL (same_upd hp) hp upd_same
    refine if_false_of (by rw [told_yes ht]; rfl) ?_
    have hL0 := hL
    obtain ⟨dx, l, h1, ⟨as, hR⟩, hok, h6⟩ := hL
    refine ⟨_, rfl, a, CL, dx, _, _, rfl, h1, T.cl, T.nP, lF_people _, l, _, rfl, .inl (SqL.of hR.lst), rfl, _, rfl, ?_⟩
    rw [List.length_map, hR.len]
    by_cases hf : r.length = 6
    · refine if_true_of (eq_int (by omega)) ?_
      refine ⟨(by show 1 ≤ sizeLine; decide), fun p hp => ?_⟩
      have e : Mu58.step (some r) (.person s x y m) = (some r, [-5]) := (if_neg ht).trans (if_pos (by show 6 ≤ r.length; omega))
      rw [e] at k
      exact gives_same k hL0 (same_upd hp) hp upd_same
    refine if_false_of (neq_int (by omega)) ?_
    refine ⟨_, rfl, a, CL, dx, _, _, rfl, h1, T.cl, T.nP, lF_people _, .inl ⟨rfl, _, SqL.of hR.lst⟩, _, rfl, _, rfl, _, rfl, _, rfl, ?_⟩
    intro q dq nq nd ne
    refine ⟨q, dq, s, x, y, m, rfl, upd_same, fun H1 hP kp => ⟨rfl, ?_⟩⟩
    have s1 : Same H H1 := Same.made nq nd kp
    refine ⟨l, _, _, rfl, rfl, s1 _ _ hR.lst, by rw [List.length_map, hR.len, sizeLine_eq]; omega, ?_⟩
    have nal : a ≠ l := ne_of h1 hR.lst (by intro z; cases z)
    have nlas : l ∉ as := fun hm => by
      obtain ⟨j, hj⟩ := List.getElem?_of_mem hm
      obtain ⟨pp, hpp⟩ : ∃ pp, r[j]? = some pp := ⟨r[j]'(by rw [← hR.len]; exact (List.getElem?_eq_some_iff.mp hj).1), List.getElem?_eq_getElem _⟩
      obtain ⟨d2, h2⟩ := hR.at_ j l pp hj hpp
      rw [hR.lst] at h2
      cases h2
    have nql : q ≠ l := (ne_of_none hR.lst nq).symm
    have hR2 : LAt (PersonAt CP) (upd H1 l (.lst (as.map V.ref ++ [V.ref q]))) l (as ++ [q]) (r ++ [⟨s, x, y, m⟩]) := by
      refine (hR.keep s1 fun _ _ => PersonAt.keep s1).push ?_ ?_ nlas ?_
      · rintro b z hb ⟨d2, h2⟩
        exact ⟨d2, by rw [upd_ne hb]; exact h2⟩
      · rw [upd_same, List.map_append]
        rfl
      · obtain ⟨d2, h2⟩ := hP
        exact ⟨d2, by rw [upd_ne nql]; exact h2⟩
    have h2 : upd H1 l (.lst (as.map V.ref ++ [V.ref q])) a = some (.ins CL dx (lF (.ref l))) := by
      rw [upd_ne nal]
      exact s1 _ _ h1
    refine ⟨_, rfl, a, CL, dx, _, _, rfl, h2, T.cl, T.nP, lF_people _, l, _, rfl, .inl (SqL.of hR2.lst), _, _, rfl, rfl, (by show 1 ≤ sizeLine; decide), fun p hp => ?_⟩
    have s3 := same_upd (o := .lst [V.int (((as ++ [q]).map V.ref).length - 1)]) hp
    have e : Mu58.step (some r) (.person s x y m) = (some (r ++ [⟨s, x, y, m⟩]), [(r.length : Int)]) := (if_neg ht).trans (if_neg (by show ¬ 6 ≤ r.length; omega))
    rw [e] at k
    have npl : p ≠ l := fun z => by rw [z, upd_same] at hp; cases hp
    have hH : H p = none := s1.free (by rw [upd_ne npl] at hp; exact hp)
    refine k _ p ⟨dx, l, s3 _ _ h2, ⟨as ++ [q], hR2.keep s3 fun _ _ => PersonAt.keep s3⟩, ?_, ?_⟩ (fun g o hg ho => ⟨s3 _ _ ?_, ho.1, fun dx' l' h' => ?_⟩) hH ?_
    · intro z hz
      rcases List.mem_append.mp hz with hz | hz
      · exact hok z hz
      · rw [List.mem_singleton.mp hz]
        exact ⟨by show s ≤ 50; omega, by show 1 ≤ x; omega, by show x ≤ y; omega, by show y ≤ 9; omega, by show 1 ≤ m; omega, by show m ≤ 50; omega⟩
    · rw [List.length_append]
      show r.length + 1 ≤ 6
      omega
    · rw [upd_ne (ho.2 dx l h1)]
      exact s1 _ _ hg
    · have h3 := (s3 _ _ h2).symm.trans h'
      injection h3 with e
      injection e with e1 e2 e3
      have e4 : V.ref l = V.ref l' := by
        have := congrArg (fun q => List.lookup ("people" : Str) q) e3
        simp only [lF_people] at this
        exact Option.some.inj this
      injection e4 with e4
      rw [← e4]
      exact ho.2 dx l h1
    · rw [upd_same]
      show some (HO.lst [V.int ((((as ++ [q]).map V.ref).length : Int) - 1)]) = some (HO.lst [V.int (r.length : Int)])
      rw [List.length_map, List.length_append, hR.len]
      congr 4
      show ((r.length + 1 : Nat) : Int) - 1 = _
      omega
end
end BR
namespace BR
open PySem PySem.Spec PyProof.Rows L2
open PySem.W (Codec)
open Mu58 (Person)
section
variable {P : Program} {w : World} {K : PySem.W.Frag} {mg : Str → Option Value} {base : Heap} {CP CA CL : Addr}
theorem isOrd_facts {n : Nat} {o : List Nat} (h : isOrd n o = true) (hn : n ≤ 6) : (∀ i ∈ o, i < n) ∧ o.length ≤ 6 := by
  have h := of_decide_eq_true h
  exact ⟨h.2, Nat.le_trans (nodup_len n h.1 h.2) hn⟩
theorem scMComes : FnScope ["self", "measures", "order"] ["self", "measures", "order"] (defScope sMComes) := ⟨rfl, rfl, rfl, by decide +kernel, rfl, by decide +kernel, by decide +kernel⟩
theorem ok_mcomes {f : Addr} {fd : FuncData} (F : Fun K "comes" "Line.comes" sMComes f fd) (T : TxtL K CL) (hlen : mg "len" = none) (gN : Con1 mg "NOT_AS_TOLD" (-1)) (gS : Con1 mg "NO_SUCH_ONE" (-2)) (gM : Con1 mg "MOST_MEASURES" 1000)
    (c1 : Cal P w K mg base 1 "is_order" ["order", "count"] (spIsOrd K)) (c2 : Cal P w K mg base 4 "what_comes" ["people", "order", "measures"] (spAlong K CP CA comesU)) (c3 : Cal P w K mg base 2 "in_lowest_terms" ["amount"] (spLow CA)) :
    FnOk P w K mg base CX0 5 f fd ["self", "measures", "order"] (spMOrd K CL CP Mu58.Call.comes) := by
  obtain ⟨f1, fd1, G1, m1, k1, b1⟩ := c1.ex
  obtain ⟨f2, fd2, G2, m2, k2, b2⟩ := c2.ex
  obtain ⟨f3, fd3, G3, m3, k3, b3⟩ := c3.ex
  refine F.ok scMComes (fun vs H Q E h => ?_) (fun cdv A outer s H vs Q E hr h => ?_)
  · obtain ⟨a, b, r, m, o, rfl, _⟩ := h
    rfl
  · obtain ⟨a, b, r, m, o, rfl, hL, hO, ho8, k⟩ := h
    refine ⟨_, pss_cons (ps_if (pt_not (pt_val (pe_call G1 (hr.mono (by decide)) rfl m1 k1 b1 .nil pass0 (pa_cons (pv 2) (pa_cons (pe_callB call_len_seq (by rfl) hlen PySem.boot_len (pa_cons (pe_fld (pv 0) rfl) pa_nil)) pa_nil)))))
        (pss_one (ps_ret (pe_lst (pa_cons (pe_cn gS rfl) pa_nil)))) pss_nil)
      (pss_cons (ps_if (pt_cmpR op_gt (pv 1) (pe_cn gM rfl) (nomark _)) (pss_one (ps_ret (pe_lst (pa_cons (pe_cn gN rfl) pa_nil)))) pss_nil)
      (pss_one (ps_ret (pe_call G3 (hr.mono (by decide)) rfl m3 k3 b3 .nil pass0 (pa_cons (pe_call G2 hr rfl m2 k2 b2 .nil pass0 (pa_cons (pe_fld (pv 0) rfl) (pa_cons (pv 2) (pa_cons (pv 1) pa_nil)))) pa_nil))))), ?_⟩
    have hL0 := hL
    obtain ⟨dx, l, h1, hR, hok, h6⟩ := hL
    obtain ⟨as, hR1⟩ := id hR
    refine ⟨_, rfl, _, rfl, a, CL, dx, _, _, rfl, h1, T.cl, T.nP, lF_people _, l, _, rfl, .inl (SqL.of hR1.lst), b, o, r.length, ?_, hO, by omega, fun H1 s1 => ⟨_, rfl, ?_⟩⟩
    · rw [List.length_map, hR1.len]
      rfl
    have hL1 := hL0
    have es : Mu58.step (some r) (.comes m o) = (some r, if Mu58.isOrder r o = false then [-2] else if Mu58.MUCH < m then [-1] else Mu58.nums (Mu58.told (Mu58.comes (Mu58.placed r o) (Mu58.whole m)))) := rfl
    rw [es, isOrder_eq] at k
    cases hc : isOrd r.length o with
    | false =>
      rw [hc, if_pos rfl] at k
      refine if_true_of rfl ?_
      refine ⟨(by show 1 ≤ sizeLine; decide), fun p hp => ?_⟩
      exact gives_same k hL0 (s1.trans (same_upd hp)) (s1.free hp) upd_same
    | true =>
      rw [hc, if_neg (by decide)] at k
      refine if_false_of rfl ?_
      obtain ⟨hin, ho6⟩ := isOrd_facts hc h6
      refine ⟨_, rfl, _, _, rfl, rfl, _, rfl, ?_⟩
      by_cases hm : 1000 < m
      · rw [if_pos (show Mu58.MUCH < m from hm)] at k
        refine if_true_of (decide_eq_true (by omega)) ?_
        refine ⟨(by show 1 ≤ sizeLine; decide), fun p hp => ?_⟩
        exact gives_same k hL0 (s1.trans (same_upd hp)) (s1.free hp) upd_same
      · rw [if_neg (show ¬ Mu58.MUCH < m from hm)] at k
        refine if_false_of (decide_eq_false (by omega)) ?_
        refine ⟨_, rfl, a, CL, dx, _, _, rfl, s1 _ _ h1, T.cl, T.nP, lF_people _, _, rfl, _, rfl, l, b, m, r, o, rfl, hR.keep s1, s1.seq hO, hin, hok, fun H2 c s2 hc2 hC => ?_⟩
        have fine := comesU_fine (k := 0) _ (placed_ok hok o) (fine_one m)
        rw [placed_len hin, Nat.zero_add] at fine
        refine ⟨c, _, rfl, hC, fine.pos, nine6 fine ho6, fun H3 p s3 hp hp3 => ?_⟩
        rw [told_vns fine.pos, ← comes_fr _ _ (placed_ok hok o) Nat.one_pos, fr_whole] at hp3
        exact gives_same k hL0 ((s1.trans s2).trans s3) ((s1.trans s2).free hp) hp3
theorem scMNeeds : FnScope ["self", "measures", "order"] ["self", "measures", "order"] (defScope sMNeeds) := ⟨rfl, rfl, rfl, by decide +kernel, rfl, by decide +kernel, by decide +kernel⟩
theorem ok_mneeds {f : Addr} {fd : FuncData} (F : Fun K "needs" "Line.needs" sMNeeds f fd) (T : TxtL K CL) (hlen : mg "len" = none) (gN : Con1 mg "NOT_AS_TOLD" (-1)) (gS : Con1 mg "NO_SUCH_ONE" (-2)) (gM : Con1 mg "MOST_MEASURES" 1000)
    (c1 : Cal P w K mg base 1 "is_order" ["order", "count"] (spIsOrd K)) (c2 : Cal P w K mg base 4 "what_is_needed" ["people", "order", "measures"] (spAlong K CP CA needsU)) (c3 : Cal P w K mg base 2 "in_lowest_terms" ["amount"] (spLow CA)) :
    FnOk P w K mg base CX0 5 f fd ["self", "measures", "order"] (spMOrd K CL CP Mu58.Call.needs) := by
  obtain ⟨f1, fd1, G1, m1, k1, b1⟩ := c1.ex
  obtain ⟨f2, fd2, G2, m2, k2, b2⟩ := c2.ex
  obtain ⟨f3, fd3, G3, m3, k3, b3⟩ := c3.ex
  refine F.ok scMNeeds (fun vs H Q E h => ?_) (fun cdv A outer s H vs Q E hr h => ?_)
  · obtain ⟨a, b, r, m, o, rfl, _⟩ := h
    rfl
  · obtain ⟨a, b, r, m, o, rfl, hL, hO, ho8, k⟩ := h
    refine ⟨_, pss_cons (ps_if (pt_not (pt_val (pe_call G1 (hr.mono (by decide)) rfl m1 k1 b1 .nil pass0 (pa_cons (pv 2) (pa_cons (pe_callB call_len_seq (by rfl) hlen PySem.boot_len (pa_cons (pe_fld (pv 0) rfl) pa_nil)) pa_nil)))))
        (pss_one (ps_ret (pe_lst (pa_cons (pe_cn gS rfl) pa_nil)))) pss_nil)
      (pss_cons (ps_if (PW.pt (pw_or (pt_cmpR op_eq (pv 1) pe_int (nomark _)) (pw_or1 (pt_cmpR op_gt (pv 1) (pe_cn gM rfl) (nomark _))))) (pss_one (ps_ret (pe_lst (pa_cons (pe_cn gN rfl) pa_nil)))) pss_nil)
      (pss_one (ps_ret (pe_call G3 (hr.mono (by decide)) rfl m3 k3 b3 .nil pass0 (pa_cons (pe_call G2 hr rfl m2 k2 b2 .nil pass0 (pa_cons (pe_fld (pv 0) rfl) (pa_cons (pv 2) (pa_cons (pv 1) pa_nil)))) pa_nil))))), ?_⟩
    have hL0 := hL
    obtain ⟨dx, l, h1, hR, hok, h6⟩ := hL
    obtain ⟨as, hR1⟩ := id hR
    refine ⟨_, rfl, _, rfl, a, CL, dx, _, _, rfl, h1, T.cl, T.nP, lF_people _, l, _, rfl, .inl (SqL.of hR1.lst), b, o, r.length, ?_, hO, by omega, fun H1 s1 => ⟨_, rfl, ?_⟩⟩
    · rw [List.length_map, hR1.len]
      rfl
    have es : Mu58.step (some r) (.needs m o) = (some r, if Mu58.isOrder r o = false then [-2] else if m = 0 ∨ Mu58.MUCH < m then [-1] else Mu58.nums (Mu58.told (Mu58.needs (Mu58.placed r o) (Mu58.whole m)))) := rfl
    rw [es, isOrder_eq] at k
    cases hc : isOrd r.length o with
    | false =>
      rw [hc, if_pos rfl] at k
      refine if_true_of rfl ?_
      refine ⟨(by show 1 ≤ sizeLine; decide), fun p hp => ?_⟩
      exact gives_same k hL0 (s1.trans (same_upd hp)) (s1.free hp) upd_same
    | true =>
      rw [hc, if_neg (by decide)] at k
      refine if_false_of rfl ?_
      obtain ⟨hin, ho6⟩ := isOrd_facts hc h6
      refine ⟨_, rfl, rfl, _, rfl, ?_⟩
      by_cases h0 : m = 0
      · rw [if_pos (.inl h0)] at k
        refine if_true_of (eq_int (by omega)) ?_
        refine ⟨(by show 1 ≤ sizeLine; decide), fun p hp => ?_⟩
        exact gives_same k hL0 (s1.trans (same_upd hp)) (s1.free hp) upd_same
      refine if_false_of (neq_int (by omega)) ?_
      refine ⟨_, rfl, _, _, rfl, rfl, _, rfl, ?_⟩
      by_cases hm : 1000 < m
      · rw [if_pos (.inr (show Mu58.MUCH < m from hm))] at k
        refine if_true_of (decide_eq_true (by omega)) ?_
        refine ⟨(by show 1 ≤ sizeLine; decide), fun p hp => ?_⟩
        exact gives_same k hL0 (s1.trans (same_upd hp)) (s1.free hp) upd_same
      · rw [if_neg (show ¬ (m = 0 ∨ Mu58.MUCH < m) from by show ¬ (m = 0 ∨ 1000 < m); omega)] at k
        refine if_false_of (decide_eq_false (by omega)) ?_
        refine ⟨_, rfl, a, CL, dx, _, _, rfl, s1 _ _ h1, T.cl, T.nP, lF_people _, _, rfl, _, rfl, l, b, m, r, o, rfl, hR.keep s1, s1.seq hO, hin, hok, fun H2 c s2 hc2 hC => ?_⟩
        have fine := needsU_fine (k := 0) _ (placed_ok hok o) (fine_one m)
        rw [placed_len hin, Nat.zero_add] at fine
        refine ⟨c, _, rfl, hC, fine.pos, nine6 fine ho6, fun H3 p s3 hp hp3 => ?_⟩
        rw [told_vns fine.pos, ← needs_fr _ _ (placed_ok hok o) Nat.one_pos, fr_whole] at hp3
        exact gives_same k hL0 ((s1.trans s2).trans s3) ((s1.trans s2).free hp) hp3
theorem scMSoon : FnScope ["self", "k"] ["self", "k"] (defScope sMSoon) := ⟨rfl, rfl, rfl, by decide +kernel, rfl, by decide +kernel, by decide +kernel⟩
theorem ok_msoon {f : Addr} {fd : FuncData} (F : Fun K "soon" "Line.soon" sMSoon f fd) (T : TxtL K CL) (hlen : mg "len" = none) (gN : Con1 mg "NOT_AS_TOLD" (-1)) (gT : Con1 mg "TOO_FEW" (-6)) (gM : Con1 mg "MOST_BUCKETS" 1000)
    (c1 : Cal P w K mg base 2 "moment_of_coming" ["people", "k"] (spMoment CP)) : FnOk P w K mg base CX0 3 f fd ["self", "k"] (spM1 CL CP Mu58.Call.soon) := by
  obtain ⟨f1, fd1, G1, m1, k1, b1⟩ := c1.ex
  refine F.ok scMSoon (fun vs H Q E h => ?_) (fun cdv A outer s H vs Q E hr h => ?_)
  · obtain ⟨a, r, m, rfl, _⟩ := h
    rfl
  · obtain ⟨a, r, m, rfl, hL, k⟩ := h
    refine ⟨_, pss_cons (ps_if (PW.pt (pw_or (pt_cmpR op_eq (pv 1) pe_int (nomark _)) (pw_or1 (pt_cmpR op_gt (pv 1) (pe_cn gM rfl) (nomark _))))) (pss_one (ps_ret (pe_lst (pa_cons (pe_cn gN rfl) pa_nil)))) pss_nil)
      (pss_cons (ps_if (pt_cmpR op_eq (pe_callB call_len_seq (by rfl) hlen PySem.boot_len (pa_cons (pe_fld (pv 0) rfl) pa_nil)) pe_int (nomark _)) (pss_one (ps_ret (pe_lst (pa_cons (pe_cn gT rfl) pa_nil)))) pss_nil)
      (pss_one (ps_ret (pe_lst (pa_cons (pe_call G1 hr rfl m1 k1 b1 .nil pass0 (pa_cons (pe_fld (pv 0) rfl) (pa_cons (pv 1) pa_nil))) pa_nil))))), ?_⟩
    have hL0 := hL
    obtain ⟨dx, l, h1, hR, hok, h6⟩ := hL
    obtain ⟨as, hR1⟩ := id hR
    have es : Mu58.step (some r) (.soon m) = (some r, if m = 0 ∨ Mu58.MUCH < m then [-1] else if r.isEmpty = true then [-6] else [(Mu58.soon r m : Int)]) := rfl
    rw [es] at k
    refine ⟨_, rfl, rfl, _, rfl, ?_⟩
    by_cases h0 : m = 0
    · rw [if_pos (.inl h0)] at k
      refine if_true_of (eq_int (by omega)) ?_
      refine ⟨(by show 1 ≤ sizeLine; decide), fun p hp => ?_⟩
      exact gives_same k hL0 (same_upd hp) hp upd_same
    refine if_false_of (neq_int (by omega)) ?_
    refine ⟨_, rfl, _, _, rfl, rfl, _, rfl, ?_⟩
    by_cases hm : 1000 < m
    · rw [if_pos (.inr (show Mu58.MUCH < m from hm))] at k
      refine if_true_of (decide_eq_true (by omega)) ?_
      refine ⟨(by show 1 ≤ sizeLine; decide), fun p hp => ?_⟩
      exact gives_same k hL0 (same_upd hp) hp upd_same
    rw [if_neg (show ¬ (m = 0 ∨ Mu58.MUCH < m) from by show ¬ (m = 0 ∨ 1000 < m); omega)] at k
    refine if_false_of (decide_eq_false (by omega)) ?_
    refine ⟨_, rfl, a, CL, dx, _, _, rfl, h1, T.cl, T.nP, lF_people _, l, _, rfl, .inl (SqL.of hR1.lst), rfl, _, rfl, ?_⟩
    rw [List.length_map, hR1.len]
    by_cases hz : r.length = 0
    · rw [if_pos (List.isEmpty_iff_length_eq_zero.mpr hz)] at k
      refine if_true_of (eq_int (by omega)) ?_
      refine ⟨(by show 1 ≤ sizeLine; decide), fun p hp => ?_⟩
      exact gives_same k hL0 (same_upd hp) hp upd_same
    · rw [if_neg (fun z => hz (List.isEmpty_iff_length_eq_zero.mp z))] at k
      refine if_false_of (neq_int (by omega)) ?_
      refine ⟨_, rfl, a, CL, dx, _, _, rfl, h1, T.cl, T.nP, lF_people _, _, rfl, l, r, m, rfl, hR, by omega, h6, by omega, by omega, fun H1 s1 => ?_⟩
      refine ⟨(by show 1 ≤ sizeLine; decide), fun p hp => ?_⟩
      exact gives_same k hL0 (s1.trans (same_upd hp)) (s1.free hp) upd_same
end
end BR
namespace BR
open PySem PySem.Spec PyProof.Rows L2
open PySem.W (Codec)
open Mu58 (Person)
/-- the best order of all, a list -/
def spBestO (CP : Addr) : Sp := fun vs H Q _ => ∃ (l : Addr) (r : List Person) (m : Nat), vs = [.ref l, .int m] ∧ RowAt CP H l r ∧ AllOk r ∧ r.length ≤ 6 ∧
  ∀ (H' : Hp) (c : Addr) (o : List Nat), Same H H' → OrdAt H' c o → InRow r o → o.length = r.length → Mu58.best r (Mu58.whole m) = some (fr (ordAm r m o), o) → Q (.ref c) H'
/-- these people, so -/
def spStandIn (K : PySem.W.Frag) (CP : Addr) : Sp := fun vs H Q _ => ∃ (l o : Addr) (r : List Person) (ord : List Nat), vs = [.ref l, .ref o] ∧ RowAt CP H l r ∧ SqL K H o (vns ord) ∧ InRow r ord ∧ ord.length ≤ 6 ∧
  ∀ (H' : Hp) (p : Addr), Same H H' → H p = none → RowAt CP H' p (Mu58.placed r ord) → Q (.ref p) H'
section
variable {P : Program} {w : World} {K : PySem.W.Frag} {mg : Str → Option Value} {base : Heap} {CP CA CL : Addr}
theorem orders_fine {r : List Person} (h6 : r.length ≤ 6) : ∀ o ∈ grown (List.range r.length) r.length [[]], InRow r o ∧ o.length ≤ 6 := fun o ho => by
  have := grown_ordr r.length r.length o ho
  exact ⟨this.lt, by rw [this.len]; exact h6⟩
theorem scBestO : FnScope ["people", "measures", "orders"] ["people", "measures"] (defScope sBestO) := ⟨rfl, rfl, rfl, by decide +kernel, rfl, by decide +kernel, by decide +kernel⟩
theorem ok_bestO {f : Addr} {fd : FuncData} (F : Fun K "best_order" "best_order" sBestO f fd) (hlen : mg "len" = none) (c1 : Cal P w K mg base 2 "all_orders" ["count"] spAllO) (c4 : Cal P w K mg base 5 "place_of_best" ["people", "orders", "measures"] (spPlace CP)) :
    FnOk P w K mg base CX0 6 f fd ["people", "measures"] (spBestO CP) := by
  obtain ⟨f1, fd1, G1, m1, k1, b1⟩ := c1.ex
  obtain ⟨f4, fd4, G4, m4, k4, b4⟩ := c4.ex
  refine F.ok scBestO (fun vs H Q E h => ?_) (fun cdv A outer s H vs Q E hr h => ?_)
  · obtain ⟨l, r, m, rfl, _⟩ := h
    rfl
  · obtain ⟨l, r, m, rfl, hR, hok, h6, k⟩ := h
    refine ⟨_, pss_cons (ps_set (i := 2) scBestO.nd rfl (Or.inl rfl) (pe_call G1 (hr.mono (by decide)) rfl m1 k1 b1 .nil pass0 (pa_cons (pe_callB call_len_seq (by rfl) hlen PySem.boot_len (pa_cons (pv 0) pa_nil)) pa_nil)))
      (pss_one (ps_ret (pe_ix ix_list (pv 2) (pe_call G4 hr rfl m4 k4 b4 .nil pass0 (pa_cons (pv 0) (pa_cons (pv 2) (pa_cons (pv 1) pa_nil)))) (fun _ _ => rfl)))), ?_⟩
    obtain ⟨as, hR1⟩ := id hR
    refine ⟨_, rfl, l, _, rfl, .inl (SqL.of hR1.lst), r.length, ?_, h6, fun H1 p s1 hp hO => ?_⟩
    · rw [List.length_map, hR1.len]
      rfl
    refine ⟨_, rfl, _, rfl, _, rfl, _, rfl, l, p, m, r, _, rfl, hR.keep s1, hO, orders_fine h6, hok, grown_pos _, fun H2 b s2 hT => ?_⟩
    obtain ⟨xx, hT⟩ := hT
    obtain ⟨o, ho, _, hmost⟩ := hT.done (grown_pos _)
    obtain ⟨os, hO2⟩ := hO.keep s2
    obtain ⟨c, hc, hC⟩ := hO2.get ho
    have hoi := grown_ordr r.length r.length o (List.mem_of_getElem? ho)
    refine ⟨p, _, _, _, rfl, rfl, SqL.of hO2.lst, atI_nat (refs_at hc), ?_⟩
    exact k H2 c o (s1.trans s2) hC hoi.lt hoi.len ((best_eq r m hok).trans hmost)
theorem scStandIn : FnScope ["people", "order", "number"] ["people", "order"] (defScope sStandIn) := ⟨rfl, rfl, rfl, by decide +kernel, rfl, by decide +kernel, by decide +kernel⟩
theorem personR {H : Hp} {q : Addr} {xs : List V} {u : HO} (hq : H q = some (.lst xs)) : ∀ (b : Addr) (y : Person), PersonAt CP H b y → PersonAt CP (upd H q u) b y := fun b y h => by
  obtain ⟨d, h⟩ := h
  have nb : b ≠ q := ne_of h hq (by intro z; cases z)
  exact ⟨d, by rw [upd_ne nb]; exact h⟩
theorem LAt.apart {H : Hp} {q : Addr} {as : List Addr} {r : List Person} (h : LAt (PersonAt CP) H q as r) : q ∉ as := fun hm => by
  obtain ⟨j, hj⟩ := List.getElem?_of_mem hm
  have hp : r[j]? = some (r[j]'(by rw [← h.len]; exact (List.getElem?_eq_some_iff.mp hj).1)) := List.getElem?_eq_getElem _
  obtain ⟨d2, h2⟩ := h.at_ j q _ hj hp
  rw [h.lst] at h2
  cases h2
theorem ok_standIn {f : Addr} {fd : FuncData} (F : Fun K "standing_in" "standing_in" sStandIn f fd) : FnOk P w K mg base CX0 1 f fd ["people", "order"] (spStandIn K CP) := by
  refine F.ok scStandIn (fun vs H Q E h => ?_) (fun cdv A outer s H vs Q E hr h => ?_)
  · obtain ⟨l, o, r, ord, rfl, _⟩ := h
    rfl
  · obtain ⟨l, o, r, ord, rfl, hR, hO, hin, h6, k⟩ := h
    refine ⟨_, pss_one (ps_ret (pe_lc (own := [("number", 2)]) (g := gName 2) (tt := tYes) (te := tOp (rIxL K) (tVar 0) (tVar 2)) (by rfl) scStandIn.nd (pi_list (pv 1)) (blkOk_by (own := [("number", 2)]) (N := ["people", "order", "number"]) (sc := defScope sStandIn) (by decide +kernel))
        (fun _ _ _ _ _ => pg_name (i := 2) scStandIn.nd rfl (Or.inl rfl)) (fun _ _ _ _ _ => pts_nil) (fun _ _ _ _ _ => by exact pe_ix ix_list (pv 0) (pv 2) (fun _ _ => rfl)))), ?_⟩
    have hR0 := hR
    refine ⟨_, rfl, o, rfl, ⟨_, hO⟩, fun D hD => lc_list (K := K) (a := o) (xs := vns ord) (fun i H' => ∃ bs, Same H H' ∧ LAt (PersonAt CP) H' D bs (Mu58.placed r (ord.take i)))
      ⟨[], same_upd hD, ⟨upd_same, rfl, fun j a x h => by simp at h⟩⟩ (fun i H' _ ⟨_, s5, _⟩ => s5.seq hO) ?_ ?_⟩
    · rintro i y H' hi ⟨bs, s5, hB⟩
      obtain ⟨n, hn, rfl⟩ := vns_get hi
      have hil : i < ord.length := (List.getElem?_eq_some_iff.mp hn).1
      have hlt : n < r.length := hin n (List.mem_of_getElem? hn)
      have hp : r[n]? = some r[n] := List.getElem?_eq_getElem hlt
      obtain ⟨as, hR5⟩ := hR.keep s5
      obtain ⟨b, hb, hP⟩ := hR5.get hp
      refine ⟨rfl, ⟨_, rfl, _, rfl, l, _, _, _, rfl, rfl, SqL.of hR5.lst, atI_nat (refs_at hb), _, hB.lst, ?_, bs ++ [b], same_put s5 hD, ?_⟩⟩
      · rw [List.length_map, hB.len, sizeLine_eq]
        have : (Mu58.placed r (ord.take i)).length ≤ (ord.take i).length := by
          unfold Mu58.placed
          exact List.length_filterMap_le _ _
        rw [List.length_take] at this
        omega
      · rw [take_more hn, placed_append, placed_cons [] hp]
        refine hB.push (fun b y _ h => personR hB.lst b y h) ?_ hB.apart (personR hB.lst b _ hP)
        rw [upd_same, List.map_append]
        rfl
    · rintro H' ⟨bs, s5, hB⟩
      rw [vns_len, List.take_length] at hB
      exact k H' D s5 hD ⟨bs, hB⟩
theorem scMBest : FnScope ["self", "measures", "order"] ["self", "measures"] (defScope sMBest) := ⟨rfl, rfl, rfl, by decide +kernel, rfl, by decide +kernel, by decide +kernel⟩
theorem ok_mbest {f : Addr} {fd : FuncData} (F : Fun K "best" "Line.best" sMBest f fd) (T : TxtL K CL) (gN : Con1 mg "NOT_AS_TOLD" (-1)) (gM : Con1 mg "MOST_MEASURES" 1000)
    (c1 : Cal P w K mg base 6 "best_order" ["people", "measures"] (spBestO CP)) (c2 : Cal P w K mg base 4 "what_comes" ["people", "order", "measures"] (spAlong K CP CA comesU)) (c3 : Cal P w K mg base 2 "in_lowest_terms" ["amount"] (spLow CA)) :
    FnOk P w K mg base CX0 7 f fd ["self", "measures"] (spM1 CL CP Mu58.Call.best) := by
  obtain ⟨f1, fd1, G1, m1, k1, b1⟩ := c1.ex
  obtain ⟨f2, fd2, G2, m2, k2, b2⟩ := c2.ex
  obtain ⟨f3, fd3, G3, m3, k3, b3⟩ := c3.ex
  refine F.ok scMBest (fun vs H Q E h => ?_) (fun cdv A outer s H vs Q E hr h => ?_)
  · obtain ⟨a, r, m, rfl, _⟩ := h
    rfl
  · obtain ⟨a, r, m, rfl, hL, k⟩ := h
    refine ⟨_, pss_cons (ps_if (pt_cmpR op_gt (pv 1) (pe_cn gM rfl) (nomark _)) (pss_one (ps_ret (pe_lst (pa_cons (pe_cn gN rfl) pa_nil)))) pss_nil)
      (pss_cons (ps_set (i := 2) scMBest.nd rfl (Or.inl rfl) (pe_call G1 hr rfl m1 k1 b1 .nil pass0 (pa_cons (pe_fld (pv 0) rfl) (pa_cons (pv 1) pa_nil))))
      (pss_one (ps_ret (pe_op op_cat (pe_call G3 (hr.mono (by decide)) rfl m3 k3 b3 .nil pass0 (pa_cons (pe_call G2 (hr.mono (by decide)) rfl m2 k2 b2 .nil pass0 (pa_cons (pe_fld (pv 0) rfl) (pa_cons (pv 2) (pa_cons (pv 1) pa_nil)))) pa_nil)) (pv 2))))), ?_⟩
    have hL0 := hL
    obtain ⟨dx, l, h1, hR, hok, h6⟩ := hL
    have es : Mu58.step (some r) (.best m) = (some r, if Mu58.MUCH < m then [-1] else match Mu58.best r (Mu58.whole m) with
      | none => [-6]
      | some y => Mu58.nums (Mu58.told y.1 ++ y.2)) := rfl
    rw [es] at k
    refine ⟨_, rfl, _, _, rfl, rfl, _, rfl, ?_⟩
    by_cases hm : 1000 < m
    · rw [if_pos (show Mu58.MUCH < m from hm)] at k
      refine if_true_of (decide_eq_true (by omega)) ?_
      refine ⟨(by show 1 ≤ sizeLine; decide), fun p hp => ?_⟩
      exact gives_same k hL0 (same_upd hp) hp upd_same
    rw [if_neg (show ¬ Mu58.MUCH < m from hm)] at k
    refine if_false_of (decide_eq_false (by omega)) ?_
    refine ⟨_, rfl, a, CL, dx, _, _, rfl, h1, T.cl, T.nP, lF_people _, _, rfl, l, r, m, rfl, hR, hok, h6, fun H2 c o s12 hC hoi hol hbest => ?_⟩
    refine ⟨_, rfl, a, CL, dx, _, _, rfl, s12 _ _ h1, T.cl, T.nP, lF_people _, _, rfl, _, rfl, l, c, m, r, o, rfl, hR.keep s12, SqL.of hC, hoi, hok, fun H3 d s3 hd hD => ?_⟩
    have fine := ordAm_fine hok hoi m
    refine ⟨d, _, rfl, hD, fine.pos, nine6 fine (by omega), fun H4 q s4 hq hq4 => ?_⟩
    refine ⟨_, rfl, q, c, _, _, rfl, rfl, hq4, s4 _ _ (s3 _ _ hC), ?_, fun u hu => ?_⟩
    · rw [vns_len, vns_len, sizeLine_eq]
      show 2 + o.length ≤ _
      omega
    rw [hbest] at k
    have s1234 := (s12.trans s3).trans s4
    refine gives_same k hL0 (s1234.trans (same_upd hu)) (s1234.free hu) ?_
    rw [upd_same, nums_vns]
    unfold vns
    rw [List.map_append]
    have e := told_fr _ fine.pos
    unfold ordAm at e
    dsimp only
    unfold ordAm
    rw [e]
end
end BR
namespace BR
open PySem PySem.Spec PyProof.Rows L2
open PySem.W (Codec)
open Mu58 (Person)
section
variable {P : Program} {w : World} {K : PySem.W.Frag} {mg : Str → Option Value} {base : Heap} {CP CA CL : Addr}
theorem scMExch : FnScope ["self", "measures", "pairs", "orders", "place", "pair"] ["self", "measures"] (defScope sMExch) := ⟨rfl, rfl, rfl, by decide +kernel, rfl, by decide +kernel, by decide +kernel⟩
theorem swaps_fine {r : List Person} (h6 : r.length ≤ 6) : ∀ o ∈ (pairs r.length).map (swapO r.length), InRow r o ∧ o.length ≤ 6 := fun o ho => by
  obtain ⟨z, hz, rfl⟩ := List.mem_map.mp ho
  have := pairs_lt hz
  exact ⟨swapO_lt ⟨by omega, this.2⟩, by rw [swapO_len]; exact h6⟩
theorem pairs_pos {n : Nat} (h : 2 ≤ n) : 0 < (pairs n).length := by
  have h0 : (0, 1) ∈ pairs n := List.mem_flatMap.mpr ⟨0, List.mem_range.mpr (by omega), List.mem_map.mpr ⟨0, List.mem_range.mpr (by omega), rfl⟩⟩
  exact List.length_pos_of_mem h0
theorem pairs_len {n : Nat} (h : n ≤ 6) : (pairs n).length ≤ 36 := Nat.le_trans (pairsTo_len n n) (Nat.mul_le_mul h h)
theorem mostOf_map {α β : Type} (g : β → α) (f : α → Mu58.Q) : ∀ (l : List β), Mu58.mostOf f (l.map g) = (Mu58.mostOf (fun x => f (g x)) l).map fun y => (y.1, g y.2) := by
  intro l
  have : ∀ (l : List β) (m : Option (Mu58.Q × β)), (l.map g).foldl (mstep f) (m.map fun y => (y.1, g y.2)) = (l.foldl (mstep fun x => f (g x)) m).map fun y => (y.1, g y.2) := by
    intro l
    induction l with
    | nil => intro m; rfl
    | cons a l ih =>
      intro m
      rw [List.map_cons, List.foldl_cons, List.foldl_cons, ← ih]
      congr 1
      cases m with
      | none => rfl
      | some y =>
        show (if Mu58.less y.1 (f (g a)) = true then _ else _) = Option.map _ (if Mu58.less y.1 (f (g a)) = true then _ else _)
        by_cases h : Mu58.less y.1 (f (g a)) = true
        · rw [if_pos h, if_pos h]
          rfl
        · rw [if_neg h, if_neg h]
          rfl
  exact this l none
theorem swapO_get {n : Nat} (z : Nat × Nat) {k : Nat} (hk : k < n) : (swapO n z)[k]? = some (if k = z.2 then z.1 else if k = z.1 then z.2 else k) := by
  unfold swapO
  by_cases h2 : z.2 = k
  · rw [if_pos h2.symm, h2, List.getElem?_set_self (by rw [List.length_set, List.length_range]; exact hk)]
  · rw [if_neg (fun e => h2 e.symm), List.getElem?_set_ne h2]
    by_cases h1 : z.1 = k
    · rw [if_pos h1.symm, h1, List.getElem?_set_self (by rw [List.length_range]; exact hk)]
    · rw [if_neg (fun e => h1 e.symm), List.getElem?_set_ne h1, List.getElem?_range hk]
theorem swapO_inj {n : Nat} {z y : Nat × Nat} (hz : z.1 < z.2 ∧ z.2 < n) (hy : y.1 < y.2 ∧ y.2 < n) (e : swapO n z = swapO n y) : z = y := by
  have q := congrArg (fun l : List Nat => l[z.1]?) e
  have q2 := congrArg (fun l : List Nat => l[y.1]?) e
  rw [swapO_get z (by omega), swapO_get y (by omega)] at q q2
  have q := Option.some.inj q
  have q2 := Option.some.inj q2
  rw [if_neg (by omega), if_pos rfl] at q
  rw [if_neg (show ¬ y.1 = y.2 by omega), if_pos rfl] at q2
  have h : z.1 = y.1 ∧ z.2 = y.2 := by
    split at q
    · split at q2
      · omega
      · split at q2 <;> omega
    · split at q
      · omega
      · omega
  exact Prod.ext h.1 h.2
theorem most_swap {r : List Person} {m : Nat} {z : Nat × Nat} (hz : z ∈ pairs r.length) (h : Mu58.mostOf (fun x => fr (ordAm r m x)) ((pairs r.length).map (swapO r.length)) = some (fr (ordAm r m (swapO r.length z)), swapO r.length z)) :
    Mu58.mostOf (fun x => fr (ordAm r m (swapO r.length x))) (pairs r.length) = some (fr (ordAm r m (swapO r.length z)), z) := by
  rw [mostOf_map] at h
  have mem : ∀ (l : List (Nat × Nat)) (g : Nat × Nat → Mu58.Q) (m : Option (Mu58.Q × (Nat × Nat))) (y : Mu58.Q × (Nat × Nat)), l.foldl (mstep g) m = some y → m = some y ∨ y.2 ∈ l := by
    intro l g
    induction l with
    | nil => intro m y e; exact .inl e
    | cons a l ih =>
      intro m y e
      rw [List.foldl_cons] at e
      rcases ih _ _ e with h | h
      · cases m with
        | none =>
          have e2 : (g a, a) = y := Option.some.inj h
          exact .inr (by rw [← e2]; exact List.mem_cons_self)
        | some x =>
          have h : (if Mu58.less x.1 (g a) = true then some (g a, a) else some x) = some y := h
          by_cases c : Mu58.less x.1 (g a) = true
          · rw [if_pos c] at h
            have e2 : (g a, a) = y := Option.some.inj h
            exact .inr (by rw [← e2]; exact List.mem_cons_self)
          · rw [if_neg c] at h
            exact .inl h
      · exact .inr (List.mem_cons_of_mem _ h)
  cases e : Mu58.mostOf (fun x => fr (ordAm r m (swapO r.length x))) (pairs r.length) with
  | none => rw [e] at h; cases h
  | some y =>
    rw [e] at h
    have h : (y.1, swapO r.length y.2) = (fr (ordAm r m (swapO r.length z)), swapO r.length z) := Option.some.inj h
    have h1 : y.1 = fr (ordAm r m (swapO r.length z)) := congrArg Prod.fst h
    have h2 : swapO r.length y.2 = swapO r.length z := congrArg Prod.snd h
    have hy : y.2 ∈ pairs r.length := by
      rcases mem _ _ none y e with q | q
      · cases q
      · exact q
    have e3 := swapO_inj (pairs_lt hy) (pairs_lt hz) h2
    rw [← h1, ← e3]
theorem ok_mexch {f : Addr} {fd : FuncData} (F : Fun K "exchange" "Line.exchange" sMExch f fd) (T : TxtL K CL) (hlen : mg "len" = none) (gN : Con1 mg "NOT_AS_TOLD" (-1)) (gT : Con1 mg "TOO_FEW" (-6)) (gM : Con1 mg "MOST_MEASURES" 1000)
    (c1 : Cal P w K mg base 1 "all_pairs" ["count"] spAllP) (c2 : Cal P w K mg base 4 "what_comes" ["people", "order", "measures"] (spAlong K CP CA comesU)) (c3 : Cal P w K mg base 2 "in_lowest_terms" ["amount"] (spLow CA))
    (c4 : Cal P w K mg base 5 "place_of_best" ["people", "orders", "measures"] (spPlace CP)) (c5 : Cal P w K mg base 2 "order_with_exchanged" ["people", "pair"] (spSwapO CP)) :
    FnOk P w K mg base CX0 6 f fd ["self", "measures"] (spM1 CL CP Mu58.Call.exchange) := by
  obtain ⟨f1, fd1, G1, m1, k1, b1⟩ := c1.ex
  obtain ⟨f2, fd2, G2, m2, k2, b2⟩ := c2.ex
  obtain ⟨f3, fd3, G3, m3, k3, b3⟩ := c3.ex
  obtain ⟨f4, fd4, G4, m4, k4, b4⟩ := c4.ex
  obtain ⟨f5, fd5, G5, m5, k5, b5⟩ := c5.ex
  refine F.ok scMExch (fun vs H Q E h => ?_) (fun cdv A outer s H vs Q E hr h => ?_)
  · obtain ⟨a, r, m, rfl, _⟩ := h
    rfl
  · obtain ⟨a, r, m, rfl, hL, k⟩ := h
    refine ⟨_, pss_cons (ps_if (pt_cmpR op_gt (pv 1) (pe_cn gM rfl) (nomark _)) (pss_one (ps_ret (pe_lst (pa_cons (pe_cn gN rfl) pa_nil)))) pss_nil)
      (pss_cons (ps_if (pt_cmpR op_lt (pe_callB call_len_seq (by rfl) hlen PySem.boot_len (pa_cons (pe_fld (pv 0) rfl) pa_nil)) pe_int (nomark _)) (pss_one (ps_ret (pe_lst (pa_cons (pe_cn gT rfl) pa_nil)))) pss_nil)
      (pss_cons (ps_set (i := 2) scMExch.nd rfl (Or.inl rfl) (pe_call G1 (hr.mono (by decide)) rfl m1 k1 b1 .nil pass0 (pa_cons (pe_callB call_len_seq (by rfl) hlen PySem.boot_len (pa_cons (pe_fld (pv 0) rfl) pa_nil)) pa_nil)))
      (pss_cons (ps_setLc (i := 3) (own := [("pair", 5)]) (g := gName 5) (tt := tYes) (te := tCall (spSwapO CP) [] E0 (tCons (tFld K (tVar 0) "people") (tCons (tVar 5) tNil))) (by rfl) scMExch.nd rfl rfl (sw_true rfl rfl rfl (by decide +kernel)) (pi_list (pv 2)) (blkOk_by (own := [("pair", 5)]) (N := ["self", "measures", "pairs", "orders", "place", "pair"]) (sc := defScope sMExch) (by decide +kernel))
        (fun _ _ _ _ _ => pg_name (i := 5) scMExch.nd rfl (Or.inl rfl)) (fun _ _ _ _ _ => pts_nil) (fun _ _ _ _ _ => by exact pe_call G5 (hr.mono (by decide)) rfl m5 k5 b5 .nil pass0 (pa_cons (pe_fld (pv 0) rfl) (pa_cons (pv 5) pa_nil))))
      (pss_cons (ps_set (i := 4) scMExch.nd rfl (Or.inl rfl) (pe_call G4 hr rfl m4 k4 b4 .nil pass0 (pa_cons (pe_fld (pv 0) rfl) (pa_cons (pv 3) (pa_cons (pv 1) pa_nil)))))
      (pss_one (ps_ret (pe_op op_cat (pe_call G3 (hr.mono (by decide)) rfl m3 k3 b3 .nil pass0 (pa_cons (pe_call G2 (hr.mono (by decide)) rfl m2 k2 b2 .nil pass0 (pa_cons (pe_fld (pv 0) rfl) (pa_cons (pe_ix ix_list (pv 3) (pv 4) (fun _ _ => rfl)) (pa_cons (pv 1) pa_nil)))) pa_nil)) (pe_ix ix_list (pv 2) (pv 4) (fun _ _ => rfl))))))))), ?_⟩
    have hL0 := hL
    obtain ⟨dx, l, h1, hR, hok, h6⟩ := hL
    obtain ⟨as, hR1⟩ := id hR
    have es : Mu58.step (some r) (.exchange m) = (some r, if Mu58.MUCH < m then [-1] else match Mu58.exchange r (Mu58.whole m) with
      | none => [-6]
      | some y => Mu58.nums (Mu58.told y.1 ++ [y.2.1, y.2.2])) := rfl
    rw [es] at k
    refine ⟨_, rfl, _, _, rfl, rfl, _, rfl, ?_⟩
    by_cases hm : 1000 < m
    · rw [if_pos (show Mu58.MUCH < m from hm)] at k
      refine if_true_of (decide_eq_true (by omega)) ?_
      refine ⟨(by show 1 ≤ sizeLine; decide), fun p hp => ?_⟩
      exact gives_same k hL0 (same_upd hp) hp upd_same
    rw [if_neg (show ¬ Mu58.MUCH < m from hm), exchange_eq r m hok] at k
    refine if_false_of (decide_eq_false (by omega)) ?_
    refine ⟨_, rfl, a, CL, dx, _, _, rfl, h1, T.cl, T.nP, lF_people _, l, _, rfl, .inl (SqL.of hR1.lst), _, _, rfl, rfl, _, rfl, ?_⟩
    rw [List.length_map, hR1.len]
    by_cases h2 : r.length < 2
    · have e0 : pairs r.length = [] := by
        have : r.length = 0 ∨ r.length = 1 := by omega
        rcases this with e | e <;> rw [e] <;> rfl
      refine if_true_of (decide_eq_true (by omega)) ?_
      refine ⟨(by show 1 ≤ sizeLine; decide), fun p hp => ?_⟩
      rw [e0] at k
      exact gives_same k hL0 (same_upd hp) hp upd_same
    refine if_false_of (decide_eq_false (by omega)) ?_
    refine ⟨_, rfl, a, CL, dx, _, _, rfl, h1, T.cl, T.nP, lF_people _, l, _, rfl, .inl (SqL.of hR1.lst), r.length, ?_, h6, fun H1 p s1 hp hPs => ?_⟩
    · rw [List.length_map, hR1.len]
      rfl
    obtain ⟨ps, hPs⟩ := hPs
    refine ⟨_, rfl, p, rfl, ⟨_, SqL.of hPs.lst⟩, fun D hD => lc_list (K := K) (a := p) (xs := ps.map V.ref) (fun i H' => ∃ bs, Same H1 H' ∧ LAt OrdAt H' D bs (((pairs r.length).take i).map (swapO r.length)) ∧ D ∉ bs)
      ⟨[], same_upd hD, ⟨upd_same, rfl, fun j a x h => by simp at h⟩, by simp⟩ (fun i H' _ ⟨_, s5, _⟩ => SqL.of (s5 _ _ hPs.lst)) ?_ ?_⟩
    · rintro i y H' hi ⟨bs, s5, hB, nD⟩
      obtain ⟨b, hb, rfl⟩ := refs_get hi
      have hil : i < (pairs r.length).length := by rw [← hPs.len]; exact (List.getElem?_eq_some_iff.mp hb).1
      have hz : (pairs r.length)[i]? = some (pairs r.length)[i] := List.getElem?_eq_getElem hil
      have hZ := hPs.at_ i b _ hb hz
      generalize (pairs r.length)[i] = z at hz hZ
      have hzl := pairs_lt (List.mem_of_getElem? hz)
      have hl36 := pairs_len h6
      refine ⟨rfl, ⟨_, rfl, a, CL, dx, _, _, rfl, s5 _ _ (s1 _ _ h1), T.cl, T.nP, lF_people _, _, rfl, l, b, r, z, rfl, hR.keep (s1.trans s5), s5 _ _ hZ, by omega, hzl.2, h6, fun H2 c s2 hc hC => ?_⟩⟩
      refine ⟨_, s2 _ _ hB.lst, ?_, bs ++ [c], same_put (s5.trans s2) hD, ?_, ?_⟩
      · rw [List.length_map, hB.len, List.length_map, List.length_take, sizeLine_eq]
        omega
      · have ncD : c ≠ D := (ne_of_none hB.lst hc).symm
        rw [take_more hz, List.map_append]
        refine (hB.keep s2 fun _ _ e => s2 _ _ e).push ordR ?_ nD (ordR _ _ ncD hC)
        rw [upd_same, List.map_append]
        rfl
      · intro hm
        rcases List.mem_append.mp hm with hm | hm
        · exact nD hm
        · exact (ne_of_none hB.lst hc) (List.mem_singleton.mp hm)
    · rintro H2 ⟨bs, s2, hB, nD⟩
      rw [List.length_map, hPs.len, List.take_length] at hB
      have s12 := s1.trans s2
      have hpos : 0 < ((pairs r.length).map (swapO r.length)).length := by
        rw [List.length_map]
        exact pairs_pos (by omega)
      refine ⟨_, rfl, a, CL, dx, _, _, rfl, s12 _ _ h1, T.cl, T.nP, lF_people _, _, rfl, _, rfl, l, D, m, r, _, rfl, hR.keep s12, ⟨bs, hB⟩, swaps_fine h6, hok, hpos, fun H3 b s3 hT => ?_⟩
      obtain ⟨xx, hT⟩ := hT
      obtain ⟨o, ho, _, hmost⟩ := hT.done hpos
      have hB3 := hB.keep s3 fun _ _ e => s3 _ _ e
      obtain ⟨c, hc, hC⟩ := hB3.get ho
      have hoi := swaps_fine h6 o (List.mem_of_getElem? ho)
      obtain ⟨z, hz, rfl⟩ : ∃ z, (pairs r.length)[b]? = some z ∧ swapO r.length z = o := by
        rw [List.getElem?_map] at ho
        cases e : (pairs r.length)[b]? with
        | none => rw [e] at ho; cases ho
        | some z => rw [e] at ho; exact ⟨z, rfl, Option.some.inj ho⟩
      have s123 := s12.trans s3
      have hP3 := (hPs.keep s2 fun _ _ e => s2 _ _ e).keep s3 fun _ _ e => s3 _ _ e
      obtain ⟨pz, hpz, hPZ⟩ := hP3.get hz
      refine ⟨_, rfl, a, CL, dx, _, _, rfl, s123 _ _ h1, T.cl, T.nP, lF_people _, _, rfl, _, rfl, D, _, _, _, rfl, rfl, SqL.of hB3.lst, atI_nat (refs_at hc), _, rfl, l, c, m, r, _, rfl, hR.keep s123, SqL.of hC, hoi.1, hok, fun H4 d s4 hd hDd => ?_⟩
      have fine := ordAm_fine hok hoi.1 m
      refine ⟨d, _, rfl, hDd, fine.pos, nine6 fine hoi.2, fun H5 q s5 hq hq5 => ?_⟩
      have s45 := s4.trans s5
      refine ⟨_, rfl, _, rfl, p, _, _, _, rfl, rfl, SqL.of (s45 _ _ hP3.lst), atI_nat (refs_at hpz), q, pz, _, _, rfl, rfl, hq5, s45 _ _ hPZ, (by show 4 ≤ sizeLine; decide), fun u hu => ?_⟩
      have s15 := s123.trans s45
      have hms := most_swap (List.mem_of_getElem? hz) hmost
      unfold ordAm at hms
      rw [hms] at k
      refine gives_same k hL0 (s15.trans (same_upd hu)) (s15.free hu) ?_
      rw [upd_same, nums_vns]
      unfold vns
      rw [List.map_append]
      have e := told_fr _ fine.pos
      unfold ordAm at e
      dsimp only
      rw [e]
end
end BR
namespace BR
open PySem PySem.Spec PyProof.Rows L2
open PySem.W (Codec)
open Mu58 (Person)
/-- a call's own numbers -/
theorem Rd.own {l t : List Int} {c : Mu58.Call} (h : Rd l c t) : ∃ cl, l = cl ++ t ∧ Rd cl c [] ∧ 0 < cl.length := by
  cases h with
  | begin_ => exact ⟨[0], rfl, .begin_ [], Nat.one_pos⟩
  | person s a b m => exact ⟨[1, s, a, b, m], rfl, .person s a b m [], by simp⟩
  | comes x o _ h ho => exact ⟨2 :: (x : Int) :: (o.length : Int) :: (intL o ++ []), by simp, .comes x o [] h ho, by simp⟩
  | needs x o _ h ho => exact ⟨3 :: (x : Int) :: (o.length : Int) :: (intL o ++ []), by simp, .needs x o [] h ho, by simp⟩
  | best x => exact ⟨[4, x], rfl, .best x [], by simp⟩
  | exchange x => exact ⟨[5, x], rfl, .exchange x [], by simp⟩
  | soon x => exact ⟨[6, x], rfl, .soon x [], by simp⟩
  | come x => exact ⟨[7, x], rfl, .come x [], by simp⟩
  | water x y => exact ⟨[8, x, y], rfl, .water x y [], by simp⟩
  | swap x y => exact ⟨[9, x, y], rfl, .swap x y [], by simp⟩
  | leave x => exact ⟨[10, x], rfl, .leave x [], by simp⟩
  | order x => exact ⟨[11, x], rfl, .order x [], by simp⟩
  | look => exact ⟨[12], rfl, .look [], by simp⟩
theorem Rds.inv_nil {l : List Int} (h : Rds l []) : l = [] := by
  cases h
  rfl
theorem Rds.inv_cons {l : List Int} {c : Mu58.Call} {cs : List Mu58.Call} (h : Rds l (c :: cs)) : ∃ t, Rd l c t ∧ Rds t cs := by
  cases h with
  | cons h r => exact ⟨_, h, r⟩
theorem Rds.inv_empty {cs : List Mu58.Call} (h : Rds [] cs) : cs = [] := by
  cases h with
  | nil => rfl
  | cons h _ => cases h
def spEnd (K : PySem.W.Frag) : Sp := fun vs H Q _ => ∃ (a : Addr) (ns : List Int) (start : Nat) (c : Mu58.Call) (t : List Int), vs = [.ref a, .int start] ∧ SqL K H a (ns.map V.int) ∧ Rd (ns.drop start) c t ∧
  Q (.int ((ns.length - t.length : Nat) : Int)) H
def spTo (K : PySem.W.Frag) (CL CP : Addr) : Sp := fun vs H Q _ => ∃ (a b : Addr) (s : Mu58.Abs) (cl : List Int) (c : Mu58.Call), vs = [.ref a, .ref b] ∧ LineAt CL CP H a s ∧ SqL K H b (cl.map V.int) ∧ Rd cl c [] ∧ Gives CL CP H a (Mu58.step s c) Q
def spAns (K : PySem.W.Frag) : Sp := fun vs H Q _ => ∃ (a : Addr) (ns : List Int), vs = [.ref a] ∧ SqL K H a (ns.map V.int) ∧ ns.length ≤ 700 ∧ PyMu58.answers_asked ns = true ∧
  ∀ (H' : Hp) (p : Addr), H' p = some (.lst ((PyMu58.answers ns).map V.int)) → Q (.ref p) H'
section
variable {P : Program} {w : World} {K : PySem.W.Frag} {mg : Str → Option Value} {base : Heap} {CP CA CL : Addr}
theorem lF_inj {l l' : Addr} (e : lF (.ref l) = lF (.ref l')) : l = l' := by
  have := congrArg (fun q => List.lookup ("people" : Str) q) e
  simp only [lF_people] at this
  injection this with e4
  injection e4
theorem lF_non {l : Addr} (e : lF .non = lF (.ref l)) : False := by
  have := congrArg (fun q => List.lookup ("people" : Str) q) e
  simp only [lF_people] at this
  injection this with e4
  injection e4
theorem LineAt.keep {H H' : Hp} (s : Same H H') {a : Addr} : ∀ {x : Mu58.Abs}, LineAt CL CP H a x → LineAt CL CP H' a x
  | none, h => by
    obtain ⟨dx, h⟩ := h
    exact ⟨dx, s _ _ h⟩
  | some r, h => by
    obtain ⟨dx, l, h1, h2, h3⟩ := h
    exact ⟨dx, l, s _ _ h1, h2.keep s, h3⟩
theorem LineAt.is {H : Hp} {a : Addr} : ∀ {x : Mu58.Abs}, LineAt CL CP H a x → ∃ dx v, H a = some (.ins CL dx (lF v))
  | none, h => by
    obtain ⟨dx, h⟩ := h
    exact ⟨dx, _, h⟩
  | some r, h => by
    obtain ⟨dx, l, h1, _⟩ := h
    exact ⟨dx, _, h1⟩
theorem Off.keep {H H' : Hp} {a g : Addr} {o : HO} (ha : H a = some o) (e : H' a = some o) (h : Off CL H a g) : Off CL H' a g :=
  ⟨h.1, fun dx l q => h.2 dx l (ha.trans (e.symm.trans q))⟩
theorem LineAt.putOff {H : Hp} {a g : Addr} {xs ys : List V} (hg : H g = some (.lst xs)) (ho : Off CL H a g) : ∀ {x : Mu58.Abs}, LineAt CL CP H a x → LineAt CL CP (upd H g (.lst ys)) a x
  | none, h => by
    obtain ⟨dx, h⟩ := h
    exact ⟨dx, by rw [upd_ne ho.1.symm]; exact h⟩
  | some r, h => by
    obtain ⟨dx, l, h1, ⟨as, h2⟩, h3⟩ := h
    refine ⟨dx, l, by rw [upd_ne ho.1.symm]; exact h1, ⟨as, by rw [upd_ne (ho.2 dx l h1).symm]; exact h2.lst, h2.len, fun j b p hb hp => ?_⟩, h3⟩
    obtain ⟨d2, hP⟩ := h2.at_ j b p hb hp
    have nb : b ≠ g := ne_of hP hg (by intro z; cases z)
    exact ⟨d2, by rw [upd_ne nb]; exact hP⟩
theorem cut_own {ns cl t : List Int} {st : Nat} (h : ns.drop st = cl ++ t) (hp : 0 < cl.length) : cutV (ns.map V.int) (some (st : Int)) (some ((ns.length - t.length : Nat) : Int)) = cl.map V.int ∧ ns.length - t.length = st + cl.length ∧ ns.drop (ns.length - t.length) = t := by
  have hl := congrArg List.length h
  rw [List.length_drop, List.length_append] at hl
  have e : ns.length - t.length = st + cl.length := by omega
  refine ⟨?_, e, ?_⟩
  · unfold cutV
    rw [HT.sIx_nat, HT.sIx_nat, List.length_map, Nat.min_eq_left (by omega), Nat.min_eq_left (by omega), ← List.map_drop, h, e, Nat.add_sub_cancel_left, ← List.map_take, List.take_left]
  · rw [e, ← List.drop_drop, h, List.drop_left]
theorem scAns : FnScope ["calls", "line", "given", "start", "end", "answer"] ["calls"] (defScope sAns) := ⟨rfl, rfl, rfl, by decide +kernel, rfl, by decide +kernel, by decide +kernel⟩
theorem told_cons (x : List Int) (l : List (List Int)) : PyFlat.told (x :: l) = (x.length : Int) :: x ++ PyFlat.told l := by
  unfold PyFlat.told
  rw [List.flatMap_cons]
theorem ok_ans {f : Addr} {fd : FuncData} (F : Fun K "answers" "answers" sAns f fd) (T : TxtL K CL) (hlen : mg "len" = none) (k : Nat) (hk : 2 ≤ k) (c1 : MkC P w K mg base 1 "Line" CL ["self"] (spInitL CL)) (c2 : Cal P w K mg base 1 "end_of_call" ["calls", "start"] (spEnd K)) (c3 : Cal P w K mg base k "answer_to" ["line", "call"] (spTo K CL CP)) :
    FnOk P w K mg base CX0 (k + 1) f fd ["calls"] (spAns K) := by
  obtain ⟨f1, fd1, G1, M1, m1, b1⟩ := c1.ex
  obtain ⟨f2, fd2, G2, m2, k2, b2⟩ := c2.ex
  obtain ⟨f3, fd3, G3, m3, k3, b3⟩ := c3.ex
  refine F.ok scAns (fun vs H Q E h => ?_) (fun cdv A outer s H vs Q E hr h => ?_)
  · obtain ⟨a, ns, rfl, _⟩ := h
    rfl
  · obtain ⟨a, ns, rfl, hS, hl7, hask, kk⟩ := h
    refine ⟨_, pss_cons (ps_set (i := 1) scAns.nd rfl (Or.inl rfl) (pe_make0 M1 G1 (hr.mono hk) rfl m1 b1 .nil pass0))
      (pss_cons (ps_set (i := 2) scAns.nd rfl (Or.inl rfl) (pe_lst pa_nil))
      (pss_cons (ps_set (i := 3) scAns.nd rfl (Or.inl rfl) pe_int)
      (pss_cons (ps_while PassesOwn.never (pt_cmpR op_lt (pv 3) (pe_callB call_len_seq (by rfl) hlen PySem.boot_len (pa_cons (pv 0) pa_nil)) (nomark _))
        (pss_cons (ps_set (i := 4) scAns.nd rfl (Or.inl rfl) (pe_call G2 (hr.mono (by omega)) rfl m2 k2 b2 .nil pass0 (pa_cons (pv 0) (pa_cons (pv 3) pa_nil))))
        (pss_cons (ps_set (i := 5) scAns.nd rfl (Or.inl rfl) (pe_call G3 hr rfl m3 k3 b3 .nil pass0 (pa_cons (pv 1) (pa_cons (pe_slice sl_list (pv 0) (po_some (pv 3)) (po_some (pv 4))) pa_nil))))
        (pss_cons (ps_expr (pe_bm PySem.F.plainAttrs_list PySem.F.slot_list_append PySem.F.type_list_append mt_append (pv 2) (pa_cons (pe_callB call_len_seq (by rfl) hlen PySem.boot_len (pa_cons (pv 5) pa_nil)) pa_nil)))
        (pss_cons (ps_expr (pe_bm PySem.F.plainAttrs_list PySem.F.slot_list_extend PySem.F.type_list_extend mt_extend (pv 2) (pa_cons (pv 5) pa_nil)))
        (pss_one (ps_set (i := 3) scAns.nd rfl (Or.inl rfl) (pv 4))))))))
      (pss_one (ps_ret (pv 2)))))), ?_⟩
    obtain ⟨cs0, hr0, hans0, hlen0⟩ := asked_rds hask
    intro x dx nx nd ne
    refine ⟨x, dx, rfl, upd_same, fun H1 hL1 kp => ⟨rfl, ?_⟩⟩
    have s1 : Same H H1 := Same.made nx nd kp
    refine ⟨Nat.zero_le _, fun g hg => ?_⟩
    have s2 := same_upd (o := .lst []) hg
    have off0 : ∀ b, b ≠ x → Off CL (upd H1 g (.lst [])) x b := fun b hb => ⟨hb, fun d l q => by
      have e := (s2 _ _ hL1).symm.trans q
      injection e with e
      injection e with e1 e2 e3
      exact (lF_non e3).elim⟩
    have nxg : g ≠ x := (ne_of_none hL1 hg).symm
    refine while_by (fun σ H' => ∃ (st : Nat) (v4 v5 : Option V) (ab : Mu58.Abs) (out : List Int) (cs : List Mu58.Call), σ = [some (.ref a), some (.ref x), some (.ref g), some (.int st), v4, v5] ∧ LineAt CL CP H' x ab ∧ H' g = some (.lst (out.map V.int)) ∧ Off CL H' x g ∧
        (∀ b o, H b = some o → H' b = some o ∧ Off CL H' x b) ∧ st ≤ ns.length ∧ Rds (ns.drop st) cs ∧ PyMu58.answers ns = out ++ PyFlat.told (playedM ab cs))
      (fun σ _ => match σ with | [_, _, _, some (.int y), _, _] => ns.length - y.toNat | _ => 0)
      ⟨0, none, none, none, [], cs0, rfl, ⟨dx, s2 _ _ hL1⟩, upd_same, off0 g nxg, fun b o hb => ⟨s2 _ _ (s1 _ _ hb), off0 b (ne_of_none hb nx)⟩, Nat.zero_le _, hr0, hans0⟩ ?_ ?_
    · rintro σ H' ⟨st, v4, v5, ab, out, cs, rfl, hL, hG, hoff, old, hst, hrd, heq⟩
      have s5 : Same H H' := fun b o hb => (old b o hb).1
      refine ⟨_, rfl, _, rfl, a, _, rfl, .inl (s5.seq hS), _, _, rfl, rfl, _, rfl, ?_⟩
      rw [List.length_map]
      by_cases hlt : st < ns.length
      · refine if_true_of (decide_eq_true (by omega)) ?_
        match cs, hrd, heq with
        | [], hrd, _ =>
          have := congrArg List.length hrd.inv_nil
          rw [List.length_drop, List.length_nil] at this
          omega
        | c :: cs', hrd, heq =>
        obtain ⟨t, hc, hrd⟩ := hrd.inv_cons
        obtain ⟨cl, hcl, hown, hclp⟩ := hc.own
        obtain ⟨ecut, eend, edrop⟩ := cut_own hcl hclp
        refine ⟨_, rfl, _, rfl, a, ns, st, c, t, rfl, s5.seq hS, hc, ?_⟩
        refine ⟨_, rfl, _, rfl, _, rfl, _, rfl, _, rfl, _, rfl, a, _, rfl, s5.seq hS, fun p hp => ?_⟩
        rw [ecut]
        have s6 := same_upd (o := .lst (cl.map V.int)) hp
        obtain ⟨dx1, vv, hx⟩ := hL.is
        refine ⟨x, p, ab, cl, c, rfl, hL.keep s6, SqL.of upd_same, hown, fun H2 q hL2 keep2 hq hans => ?_⟩
        obtain ⟨hG2, hoff2⟩ := keep2 g _ (s6 _ _ hG) (hoff.keep hx (s6 _ _ hx))
        have nqg : q ≠ g := (ne_of_none (s6 _ _ hG) hq).symm
        have hlo : out.length + ((Mu58.step ab c).2.length + 1) ≤ 10000000 := by
          rw [heq] at hlen0
          show _
          have e : PyFlat.told (playedM ab (c :: cs')) = ((Mu58.step ab c).2.length : Int) :: (Mu58.step ab c).2 ++ PyFlat.told (playedM (Mu58.step ab c).1 cs') := told_cons _ _
          rw [e, List.length_append, List.length_append, List.length_cons] at hlen0
          omega
        refine ⟨_, rfl, .inl ⟨rfl, _, SqL.of hG2⟩, _, rfl, q, _, rfl, .inl (SqL.of hans), g, _, _, rfl, rfl, hG2, by rw [List.length_map, sizeLine_eq]; omega, ?_⟩
        have hG3 : upd H2 g (.lst (out.map V.int ++ [V.int ((((Mu58.step ab c).2.map V.int).length : Nat) : Int)])) g = some (.lst (out.map V.int ++ [V.int ((((Mu58.step ab c).2.map V.int).length : Nat) : Int)])) := upd_same
        have hans3 : upd H2 g (.lst (out.map V.int ++ [V.int ((((Mu58.step ab c).2.map V.int).length : Nat) : Int)])) q = some (.lst ((Mu58.step ab c).2.map V.int)) := by
          rw [upd_ne nqg]
          exact hans
        refine ⟨_, rfl, .inl ⟨rfl, _, SqL.of hG3⟩, _, rfl, g, q, _, _, rfl, rfl, hG3, hans3, by rw [List.length_append, List.length_map, List.length_map, List.length_singleton, sizeLine_eq]; omega, ?_⟩
        obtain ⟨dx2, v2, hx2⟩ := hL2.is
        have hx3 : ∀ o o', upd (upd H2 g o) g o' x = some (.ins CL dx2 (lF v2)) := fun o o' => by
          rw [upd_ne hoff2.1.symm, upd_ne hoff2.1.symm]
          exact hx2
        refine ⟨_, rfl, ⟨ns.length - t.length, _, _, (Mu58.step ab c).1, out ++ (((Mu58.step ab c).2.length : Int) :: (Mu58.step ab c).2), cs', rfl, ?_, ?_, hoff2.keep hx2 (hx3 _ _), fun b o hb => ?_, by omega, by rw [edrop]; exact hrd, ?_⟩, ?_⟩
        · exact LineAt.putOff hG3 (hoff2.keep hx2 (by rw [upd_ne hoff2.1.symm]; exact hx2)) (LineAt.putOff hG2 hoff2 hL2)
        · rw [upd_same, List.length_map, List.map_append, List.map_cons, List.append_assoc]
          rfl
        · obtain ⟨h1, h2⟩ := old b o hb
          obtain ⟨h3, h4⟩ := keep2 b o (s6 _ _ h1) (h2.keep hx (s6 _ _ hx))
          have nbg : b ≠ g := ne_of_none hb (s1.free hg)
          exact ⟨by rw [upd_ne nbg, upd_ne nbg]; exact h3, h4.keep hx2 (hx3 _ _)⟩
        · rw [heq, List.append_assoc]
          rfl
        · show ns.length - ((ns.length - t.length : Nat) : Int).toNat < ns.length - ((st : Nat) : Int).toNat
          rw [Int.toNat_natCast, Int.toNat_natCast]
          omega
      · refine if_false_of (decide_eq_false (by omega)) ?_
        refine ⟨_, rfl, kk H' g ?_⟩
        have hnil : cs = [] := by
          have e : ns.drop st = [] := List.drop_eq_nil_of_le (by omega)
          rw [e] at hrd
          exact hrd.inv_empty
        rw [hnil] at heq
        have e : PyMu58.answers ns = out := heq.trans (List.append_nil out)
        rw [e]
        exact hG
    · intro σ H Q Q' hq h
      obtain ⟨v, e1, v2, e2, p, xs, e3, e4, i, j, e5, e6, b, e7, h⟩ := h
      exact ⟨v, e1, v2, e2, p, xs, e3, e4, i, j, e5, e6, b, e7, hq _ _ h⟩
end
end BR
namespace BR
open PySem PySem.Spec PyProof.Rows L2
open PySem.W (Codec)
open Mu58 (Person)
structure Tab (K : PySem.W.Frag) (mg : Str → Option Value) (x : Str) (ns : List Int) : Prop where
  ex : ∃ (W : Addr) (o : Obj) (its : Array Value) (n : Nat), mg x = some (.ref W) ∧ K.lookup W = some o ∧ o.cls = .type "tuple" ∧ o.data = .seq its n ∧ its.size ≤ sizeLine ∧ Vals (ns.map V.int) its.toList
section
variable {P : Program} {w : World} {K : PySem.W.Frag} {mg : Str → Option Value} {base : Heap} {CP CA CL : Addr}
theorem scEnd : FnScope ["calls", "start", "number", "end"] ["calls", "start"] (defScope sEnd) := ⟨rfl, rfl, rfl, by decide +kernel, rfl, by decide +kernel, by decide +kernel⟩
theorem drop_get {ns l : List Int} {st : Nat} (h : ns.drop st = l) (j : Nat) : (ns.map V.int)[st + j]? = l[j]?.map V.int := by
  rw [List.getElem?_map, ← h, List.getElem?_drop]
theorem ok_end {f : Addr} {fd : FuncData} (F : Fun K "end_of_call" "end_of_call" sEnd f fd) (tab : Tab K mg "WHOLE_NUMBERS" [0, 4, 1, 1, 1, 1, 1, 1, 2, 2, 1, 1, 0]) (gC : Con1 mg "COMES" 2) (gN : Con1 mg "NEEDS" 3) : FnOk P w K mg base CX0 1 f fd ["calls", "start"] (spEnd K) := by
  obtain ⟨W, o, its, n, mW, lW, cW, dW, zW, vW⟩ := tab.ex
  refine F.ok scEnd (fun vs H Q E h => ?_) (fun cdv A outer s H vs Q E hr h => ?_)
  · obtain ⟨a, ns, st, c, t, rfl, _⟩ := h
    rfl
  · obtain ⟨a, ns, st, c, t, rfl, hS, hrd, k⟩ := h
    refine ⟨_, pss_cons (ps_set (i := 2) scEnd.nd rfl (Or.inl rfl) (pe_ix ix_list (pv 0) (pv 1) (fun _ _ => rfl)))
      (pss_cons (ps_set (i := 3) scEnd.nd rfl (Or.inl rfl) (pe_op op_add (pe_op op_add (pv 1) pe_int) (pe_ix ix_tup (pe_glob (v := .ref W) rfl mW rfl) (pv 2) (fun _ _ => rfl))))
      (pss_cons (ps_if (PW.pt (pw_or (pt_cmpR op_eq (pv 2) (pe_cn gC rfl) (nomark _)) (pw_or1 (pt_cmpR op_eq (pv 2) (pe_cn gN rfl) (nomark _)))))
        (pss_one (ps_set (i := 3) scEnd.nd rfl (Or.inl rfl) (pe_op op_add (pe_op op_add (pv 3) pe_int) (pe_ix ix_list (pv 0) (pv 3) (fun _ _ => rfl))))) pss_nil)
      (pss_one (ps_ret (pv 3))))), ?_⟩
    have hT : SqT K H W (([0, 4, 1, 1, 1, 1, 1, 1, 2, 2, 1, 1, 0] : List Int).map V.int) := .inr ⟨o, its, n, lW, cW, dW, zW, vW⟩
    generalize hl : ns.drop st = l at hrd
    have hll := congrArg List.length hl
    rw [List.length_drop] at hll
    have head : ∀ p r, l = p :: r → (ns.map V.int)[st]? = some (V.int p) := fun p r e => by
      have := drop_get hl 0
      rw [e] at this
      exact this
    have endOf : ∀ (e : Int), e = ((ns.length - t.length : Nat) : Int) → Q (.int e) H := fun e h => by rw [h]; exact k
    cases hrd
    case comes x o h ho =>
      refine ⟨_, rfl, _, rfl, a, _, _, _, rfl, rfl, hS, atI_nat (head _ _ rfl), ?_⟩
      refine ⟨_, rfl, _, _, rfl, rfl, _, rfl, W, _, _, _, rfl, rfl, hT, rfl, _, _, rfl, rfl, ?_⟩
      refine ⟨_, rfl, rfl, _, rfl, if_true_of (eq_int rfl) ?_⟩
      refine ⟨_, rfl, _, _, rfl, rfl, _, rfl, _, rfl, a, _, _, V.int (o.length : Int), rfl, rfl, hS, at_of (j := st + 2) (by omega) (drop_get hl 2), _, _, rfl, rfl, ?_⟩
      refine ⟨_, rfl, endOf _ ?_⟩
      simp only [List.length_cons, List.length_append] at hll
      unfold intL at hll
      rw [List.length_map] at hll
      omega
    case needs x o h ho =>
      refine ⟨_, rfl, _, rfl, a, _, _, _, rfl, rfl, hS, atI_nat (head _ _ rfl), ?_⟩
      refine ⟨_, rfl, _, _, rfl, rfl, _, rfl, W, _, _, _, rfl, rfl, hT, rfl, _, _, rfl, rfl, ?_⟩
      refine ⟨_, rfl, rfl, _, rfl, if_false_of (neq_int (by decide)) ?_⟩
      refine ⟨_, rfl, rfl, _, rfl, if_true_of (eq_int rfl) ?_⟩
      refine ⟨_, rfl, _, _, rfl, rfl, _, rfl, _, rfl, a, _, _, V.int (o.length : Int), rfl, rfl, hS, at_of (j := st + 2) (by omega) (drop_get hl 2), _, _, rfl, rfl, ?_⟩
      refine ⟨_, rfl, endOf _ ?_⟩
      simp only [List.length_cons, List.length_append] at hll
      unfold intL at hll
      rw [List.length_map] at hll
      omega
    all_goals
      refine ⟨_, rfl, _, rfl, a, _, _, _, rfl, rfl, hS, atI_nat (head _ _ rfl), ?_⟩
      refine ⟨_, rfl, _, _, rfl, rfl, _, rfl, W, _, _, _, rfl, rfl, hT, rfl, _, _, rfl, rfl, ?_⟩
      refine ⟨_, rfl, rfl, _, rfl, if_false_of (neq_int (by decide)) ?_⟩
      refine ⟨_, rfl, rfl, _, rfl, if_false_of (neq_int (by decide)) ?_⟩
      refine ⟨_, rfl, endOf _ ?_⟩
      simp only [List.length_cons] at hll
      omega
end
end BR
namespace BR
open PySem PySem.Spec PyProof.Rows L2
open PySem.W (Codec)
open Mu58 (Person)
/-- two numbers -/
def spM2 (CL CP : Addr) (c : Nat → Nat → Mu58.Call) : Sp := fun vs H Q _ => ∃ (a : Addr) (r : List Person) (m t : Nat), vs = [.ref a, .int m, .int t] ∧ LineAt CL CP H a (some r) ∧ Gives CL CP H a (Mu58.step (some r) (c m t)) Q
/-- none -/
def spM0 (CL CP : Addr) (c : Mu58.Call) : Sp := fun vs H Q _ => ∃ (a : Addr) (r : List Person), vs = [.ref a] ∧ LineAt CL CP H a (some r) ∧ Gives CL CP H a (Mu58.step (some r) c) Q
section
variable {P : Program} {w : World} {K : PySem.W.Frag} {mg : Str → Option Value} {base : Heap} {CP CA CL : Addr}
theorem scMCome : FnScope ["self", "moment"] ["self", "moment"] (defScope sMCome) := ⟨rfl, rfl, rfl, by decide +kernel, rfl, by decide +kernel, by decide +kernel⟩
theorem ok_mcome {f : Addr} {fd : FuncData} (F : Fun K "come" "Line.come" sMCome f fd) (T : TxtL K CL) (gN : Con1 mg "NOT_AS_TOLD" (-1)) (gM : Con1 mg "LAST_MOMENT" 100000)
    (c1 : Cal P w K mg base 3 "how_many_come" ["people", "moment"] (spHowMany CP)) : FnOk P w K mg base CX0 4 f fd ["self", "moment"] (spM1 CL CP Mu58.Call.come) := by
  obtain ⟨f1, fd1, G1, m1, k1, b1⟩ := c1.ex
  refine F.ok scMCome (fun vs H Q E h => ?_) (fun cdv A outer s H vs Q E hr h => ?_)
  · obtain ⟨a, r, m, rfl, _⟩ := h
    rfl
  · obtain ⟨a, r, m, rfl, hL, k⟩ := h
    refine ⟨_, pss_cons (ps_if (pt_cmpR op_gt (pv 1) (pe_cn gM rfl) (nomark _)) (pss_one (ps_ret (pe_lst (pa_cons (pe_cn gN rfl) pa_nil)))) pss_nil)
      (pss_one (ps_ret (pe_lst (pa_cons (pe_call G1 hr rfl m1 k1 b1 .nil pass0 (pa_cons (pe_fld (pv 0) rfl) (pa_cons (pv 1) pa_nil))) pa_nil)))), ?_⟩
    have hL0 := hL
    obtain ⟨dx, l, h1, hR, hok, h6⟩ := hL
    have es : Mu58.step (some r) (.come m) = (some r, if 100000 < m then [-1] else [(Mu58.come r m : Int)]) := rfl
    rw [es] at k
    refine ⟨_, rfl, _, _, rfl, rfl, _, rfl, ?_⟩
    by_cases hm : 100000 < m
    · rw [if_pos hm] at k
      refine if_true_of (decide_eq_true (by omega)) ?_
      refine ⟨(by show 1 ≤ sizeLine; decide), fun p hp => ?_⟩
      exact gives_same k hL0 (same_upd hp) hp upd_same
    rw [if_neg hm] at k
    refine if_false_of (decide_eq_false (by omega)) ?_
    refine ⟨_, rfl, a, CL, dx, _, _, rfl, h1, T.cl, T.nP, lF_people _, _, rfl, l, r, m, rfl, hR, hok, h6, fun H1 s1 => ?_⟩
    refine ⟨(by show 1 ≤ sizeLine; decide), fun p hp => ?_⟩
    exact gives_same k hL0 (s1.trans (same_upd hp)) (s1.free hp) upd_same
theorem scMWater : FnScope ["self", "measures", "moment"] ["self", "measures", "moment"] (defScope sMWater) := ⟨rfl, rfl, rfl, by decide +kernel, rfl, by decide +kernel, by decide +kernel⟩
theorem ok_mwater {f : Addr} {fd : FuncData} (F : Fun K "water" "Line.water" sMWater f fd) (T : TxtL K CL) (gN : Con1 mg "NOT_AS_TOLD" (-1)) (gM : Con1 mg "MOST_MEASURES" 1000) (gL : Con1 mg "LAST_MOMENT" 100000)
    (c1 : Cal P w K mg base 5 "what_has_come" ["people", "measures", "moment"] (spHasCome CP CA)) (c3 : Cal P w K mg base 2 "in_lowest_terms" ["amount"] (spLow CA)) : FnOk P w K mg base CX0 6 f fd ["self", "measures", "moment"] (spM2 CL CP Mu58.Call.water) := by
  obtain ⟨f1, fd1, G1, m1, k1, b1⟩ := c1.ex
  obtain ⟨f3, fd3, G3, m3, k3, b3⟩ := c3.ex
  refine F.ok scMWater (fun vs H Q E h => ?_) (fun cdv A outer s H vs Q E hr h => ?_)
  · obtain ⟨a, r, m, t, rfl, _⟩ := h
    rfl
  · obtain ⟨a, r, m, t, rfl, hL, k⟩ := h
    refine ⟨_, pss_cons (ps_if (PW.pt (pw_or (pt_cmpR op_gt (pv 1) (pe_cn gM rfl) (nomark _)) (pw_or1 (pt_cmpR op_gt (pv 2) (pe_cn gL rfl) (nomark _))))) (pss_one (ps_ret (pe_lst (pa_cons (pe_cn gN rfl) pa_nil)))) pss_nil)
      (pss_one (ps_ret (pe_call G3 (hr.mono (by decide)) rfl m3 k3 b3 .nil pass0 (pa_cons (pe_call G1 hr rfl m1 k1 b1 .nil pass0 (pa_cons (pe_fld (pv 0) rfl) (pa_cons (pv 1) (pa_cons (pv 2) pa_nil)))) pa_nil)))), ?_⟩
    have hL0 := hL
    obtain ⟨dx, l, h1, hR, hok, h6⟩ := hL
    have es : Mu58.step (some r) (.water m t) = (some r, if Mu58.MUCH < m ∨ 100000 < t then [-1] else Mu58.nums (Mu58.told (Mu58.frac (Mu58.come r t * (Mu58.comes r (Mu58.whole m)).n) (Mu58.comes r (Mu58.whole m)).d))) := rfl
    rw [es] at k
    refine ⟨_, rfl, _, _, rfl, rfl, _, rfl, ?_⟩
    by_cases hm : 1000 < m
    · rw [if_pos (.inl (show Mu58.MUCH < m from hm))] at k
      refine if_true_of (decide_eq_true (by omega)) ?_
      refine ⟨(by show 1 ≤ sizeLine; decide), fun p hp => ?_⟩
      exact gives_same k hL0 (same_upd hp) hp upd_same
    refine if_false_of (decide_eq_false (by omega)) ?_
    refine ⟨_, rfl, _, _, rfl, rfl, _, rfl, ?_⟩
    by_cases ht : 100000 < t
    · rw [if_pos (.inr ht)] at k
      refine if_true_of (decide_eq_true (by omega)) ?_
      refine ⟨(by show 1 ≤ sizeLine; decide), fun p hp => ?_⟩
      exact gives_same k hL0 (same_upd hp) hp upd_same
    rw [if_neg (show ¬ (Mu58.MUCH < m ∨ 100000 < t) from by show ¬ (1000 < m ∨ 100000 < t); omega)] at k
    refine if_false_of (decide_eq_false (by omega)) ?_
    refine ⟨_, rfl, a, CL, dx, _, _, rfl, h1, T.cl, T.nP, lF_people _, _, rfl, _, rfl, l, r, m, t, rfl, hR, hok, h6, by omega, fun H2 c s2 hc2 hC => ?_⟩
    have fine := comesU_fine (k := 0) r hok (fine_one m)
    rw [Nat.zero_add] at fine
    have h30 : (comesU r (m, 1)).2 < 1073741824 := nine6 fine h6
    refine ⟨c, _, rfl, hC, fine.pos, h30, fun H3 p s3 hp hp3 => ?_⟩
    have e : Mu58.frac (Mu58.come r t * (Mu58.comes r (Mu58.whole m)).n) (Mu58.comes r (Mu58.whole m)).d = fr ((comesU r (m, 1)).1 * Mu58.come r t, (comesU r (m, 1)).2) := by
      rw [← fr_whole, comes_fr _ _ hok Nat.one_pos, frac_times _ _ fine.pos, Nat.mul_comm]
    rw [e] at k
    rw [told_vns (x := ((comesU r (m, 1)).1 * Mu58.come r t, (comesU r (m, 1)).2)) fine.pos] at hp3
    exact gives_same k hL0 (s2.trans s3) (s2.free hp) hp3
end
end BR
namespace BR
open PySem PySem.Spec PyProof.Rows L2
open PySem.W (Codec)
open Mu58 (Person)
section
variable {P : Program} {w : World} {K : PySem.W.Frag} {mg : Str → Option Value} {base : Heap} {CP CA CL : Addr}
theorem lF_ne {dx dy : Addr} {v : V} {p : Person} {C D : Addr} : (HO.ins C dx (lF v)) ≠ HO.ins D dy (pF p) := fun e => by
  injection e with _ _ e3
  have := congrArg List.length e3
  cases this
/-- the line behind it has another list of people -/
theorem gives_put {H H1 H3 : Hp} {a l l2 p dx : Addr} {r2 : List Person} {ans : List Int} {Q : VK} (g : Gives CL CP H a (some r2, ans) Q) (h1 : H a = some (.ins CL dx (lF (.ref l)))) (s1 : Same H H1) (hl2 : H l2 = none) (hR : RowAt CP H1 l2 r2) (hok : AllOk r2) (h6 : r2.length ≤ 6)
    (s3 : Same (upd H1 a (.ins CL dx (lF (.ref l2)))) H3) (hp : H p = none) (hp3 : H3 p = some (.lst (ans.map V.int))) : Q (.ref p) H3 := by
  have nal : l2 ≠ a := (ne_of_none h1 hl2).symm
  have h3 : H3 a = some (.ins CL dx (lF (.ref l2))) := s3 _ _ upd_same
  obtain ⟨as, hR⟩ := hR
  have hR2 : LAt (PersonAt CP) (upd H1 a (.ins CL dx (lF (.ref l2)))) l2 as r2 := ⟨by rw [upd_ne nal]; exact hR.lst, hR.len, fun j b x hb hx => by
    obtain ⟨d2, h2⟩ := hR.at_ j b x hb hx
    have nb : b ≠ a := fun e => by
      rw [e] at h2
      exact lF_ne (Option.some.inj ((s1 _ _ h1).symm.trans h2))
    exact ⟨d2, by rw [upd_ne nb]; exact h2⟩⟩
  refine g H3 p ⟨dx, l2, h3, ⟨as, hR2.keep s3 fun _ _ => PersonAt.keep s3⟩, hok, h6⟩ (fun b o hb ho => ⟨s3 _ _ ?_, ho.1, fun dx' l' h' => ?_⟩) hp hp3
  · rw [upd_ne ho.1]
    exact s1 _ _ hb
  · have e := h3.symm.trans h'
    injection e with e
    injection e with e1 e2 e3
    rw [← lF_inj e3]
    exact ne_of_none hb hl2
theorem scMSwap : FnScope ["self", "number", "other"] ["self", "number", "other"] (defScope sMSwap) := ⟨rfl, rfl, rfl, by decide +kernel, rfl, by decide +kernel, by decide +kernel⟩
theorem placed_swap {r : List Person} {z : Nat × Nat} (h1 : z.1 < r.length) (h2 : z.2 < r.length) : Mu58.placed r (swapO r.length z) = Mu58.swapped r z.1 z.2 := by
  obtain ⟨i, j⟩ := z
  dsimp only at h1 h2
  have hi : r[i]? = some r[i] := List.getElem?_eq_getElem h1
  have hj : r[j]? = some r[j] := List.getElem?_eq_getElem h2
  have inr : InRow r (swapO r.length (i, j)) := swapO_lt (z := (i, j)) ⟨h1, h2⟩
  apply List.ext_getElem?
  intro k
  rw [placed_map inr, swapped_some hi hj]
  by_cases hk : k < r.length
  · rw [swapO_get (i, j) hk]
    show r[if k = j then i else if k = i then j else k]? = _
    by_cases hkj : k = j
    · rw [if_pos hkj, hkj, List.getElem?_set_self (by rw [List.length_set]; exact h2)]
      exact hi
    · rw [if_neg hkj, List.getElem?_set_ne (fun e => hkj e.symm)]
      by_cases hki : k = i
      · rw [if_pos hki, hki, List.getElem?_set_self h1]
        exact hj
      · rw [if_neg hki, List.getElem?_set_ne (fun e => hki e.symm)]
  · rw [List.getElem?_eq_none (by rw [swapO_len]; omega), List.getElem?_eq_none (by rw [List.length_set, List.length_set]; omega)]
    rfl
theorem ok_mswap {f : Addr} {fd : FuncData} (F : Fun K "swap" "Line.swap" sMSwap f fd) (T : TxtL K CL) (hmax : mg "max" = none) (hlen : mg "len" = none) (gS : Con1 mg "NO_SUCH_ONE" (-2))
    (c1 : Cal P w K mg base 1 "standing_in" ["people", "order"] (spStandIn K CP)) (c2 : Cal P w K mg base 2 "order_with_exchanged" ["people", "pair"] (spSwapO CP)) : FnOk P w K mg base CX0 3 f fd ["self", "number", "other"] (spM2 CL CP Mu58.Call.swap) := by
  obtain ⟨f1, fd1, G1, m1, k1, b1⟩ := c1.ex
  obtain ⟨f2, fd2, G2, m2, k2, b2⟩ := c2.ex
  refine F.ok scMSwap (fun vs H Q E h => ?_) (fun cdv A outer s H vs Q E hr h => ?_)
  · obtain ⟨a, r, i, j, rfl, _⟩ := h
    rfl
  · obtain ⟨a, r, i, j, rfl, hL, k⟩ := h
    refine ⟨_, pss_cons (ps_if (pt_cmpR op_ge (pe_callB (call_max2 rfl) (by rfl) hmax (by decide +kernel) (pa_cons (pv 1) (pa_cons (pv 2) pa_nil))) (pe_callB call_len_seq (by rfl) hlen PySem.boot_len (pa_cons (pe_fld (pv 0) rfl) pa_nil)) (nomark _)) (pss_one (ps_ret (pe_lst (pa_cons (pe_cn gS rfl) pa_nil)))) pss_nil)
      (pss_cons (ps_fld (pv 0) (pe_call G1 (hr.mono (by decide)) rfl m1 k1 b1 .nil pass0 (pa_cons (pe_fld (pv 0) rfl) (pa_cons (pe_call G2 hr rfl m2 k2 b2 .nil pass0 (pa_cons (pe_fld (pv 0) rfl) (pa_cons (pe_lst (pa_cons (pv 1) (pa_cons (pv 2) pa_nil))) pa_nil))) pa_nil))) rfl)
      (pss_one (ps_ret (pe_lst (pa_cons pe_int pa_nil))))), ?_⟩
    have hL0 := hL
    obtain ⟨dx, l, h1, hR, hok, h6⟩ := hL
    obtain ⟨as, hR1⟩ := id hR
    have es : Mu58.step (some r) (.swap i j) = if r.length ≤ i ∨ r.length ≤ j then (some r, [-2]) else (some (Mu58.swapped r i j), [0]) := rfl
    rw [es] at k
    refine ⟨_, rfl, _, rfl, (i : Int), (j : Int), rfl, _, rfl, a, CL, dx, _, _, rfl, h1, T.cl, T.nP, lF_people _, l, _, rfl, .inl (SqL.of hR1.lst), _, _, rfl, rfl, _, rfl, ?_⟩
    rw [List.length_map, hR1.len]
    by_cases hz : r.length ≤ i ∨ r.length ≤ j
    · rw [if_pos hz] at k
      refine if_true_of (decide_eq_true (by split <;> omega)) ?_
      refine ⟨(by show 1 ≤ sizeLine; decide), fun p hp => ?_⟩
      exact gives_same k hL0 (same_upd hp) hp upd_same
    rw [if_neg hz] at k
    refine if_false_of (decide_eq_false (by split <;> omega)) ?_
    refine ⟨_, rfl, a, CL, dx, _, _, rfl, h1, T.cl, T.nP, lF_people _, _, rfl, a, CL, dx, _, _, rfl, h1, T.cl, T.nP, lF_people _, _, rfl, _, rfl, (by show 2 ≤ sizeLine; decide), fun z hz0 => ?_⟩
    have s1 := same_upd (o := .lst [V.int (i : Int), V.int (j : Int)]) hz0
    refine ⟨l, z, r, (i, j), rfl, hR.keep s1, upd_same, by show i < r.length; omega, by show j < r.length; omega, h6, fun H1 o s2 ho hO => ?_⟩
    have s12 := s1.trans s2
    have inr : InRow r (swapO r.length (i, j)) := swapO_lt (z := (i, j)) ⟨by show i < r.length; omega, by show j < r.length; omega⟩
    refine ⟨l, o, r, swapO r.length (i, j), rfl, hR.keep s12, SqL.of hO, inr, by rw [swapO_len]; exact h6, fun H2 l2 s3 hl2 hR2 => ?_⟩
    have s123 := s12.trans s3
    rw [placed_swap (z := (i, j)) (by show i < r.length; omega) (by show j < r.length; omega)] at hR2
    refine ⟨_, rfl, a, CL, dx, _, rfl, s123 _ _ h1, T.cl, T.nP, (by show 1 < 1000; decide), ?_⟩
    have ep : putF "people" (.ref l2) (lF (.ref l)) = lF (.ref l2) := put_here
    rw [ep]
    refine ⟨(by show 1 ≤ sizeLine; decide), fun p hp => ?_⟩
    have npa : p ≠ a := fun e => by rw [e, upd_same] at hp; cases hp
    have hH : H p = none := s123.free (by rw [upd_ne npa] at hp; exact hp)
    exact gives_put k h1 s123 (s12.free hl2) hR2 (swapped_ok hok i j) (by rw [swapped_len]; exact h6) (same_upd hp) hH upd_same
theorem map_erase {α β : Type} (g : α → β) : ∀ (l : List α) (i : Nat), (l.map g).eraseIdx i = (l.eraseIdx i).map g
  | [], _ => rfl
  | _ :: _, 0 => rfl
  | x :: l, i + 1 => congrArg (g x :: ·) (map_erase g l i)
theorem scMLeave : FnScope ["self", "number"] ["self", "number"] (defScope sMLeave) := ⟨rfl, rfl, rfl, by decide +kernel, rfl, by decide +kernel, by decide +kernel⟩
theorem ok_mleave {f : Addr} {fd : FuncData} (F : Fun K "leave" "Line.leave" sMLeave f fd) (T : TxtL K CL) (hlen : mg "len" = none) (gS : Con1 mg "NO_SUCH_ONE" (-2)) : FnOk P w K mg base CX0 1 f fd ["self", "number"] (spM1 CL CP Mu58.Call.leave) := by
  refine F.ok scMLeave (fun vs H Q E h => ?_) (fun cdv A outer s H vs Q E hr h => ?_)
  · obtain ⟨a, r, i, rfl, _⟩ := h
    rfl
  · obtain ⟨a, r, i, rfl, hL, k⟩ := h
    refine ⟨_, pss_cons (ps_if (pt_cmpR op_ge (pv 1) (pe_callB call_len_seq (by rfl) hlen PySem.boot_len (pa_cons (pe_fld (pv 0) rfl) pa_nil)) (nomark _)) (pss_one (ps_ret (pe_lst (pa_cons (pe_cn gS rfl) pa_nil)))) pss_nil)
      (pss_cons (ps_expr (pe_bm PySem.F.plainAttrs_list PySem.F.slot_list_pop PySem.F.type_list_pop mt_popAt (pe_fld (pv 0) rfl) (pa_cons (pv 1) pa_nil)))
      (pss_one (ps_ret (pe_lst (pa_cons (pe_callB call_len_seq (by rfl) hlen PySem.boot_len (pa_cons (pe_fld (pv 0) rfl) pa_nil)) pa_nil))))), ?_⟩
    have hL0 := hL
    obtain ⟨dx, l, h1, ⟨as, hR⟩, hok, h6⟩ := hL
    have es : Mu58.step (some r) (.leave i) = if r.length ≤ i then (some r, [-2]) else (some (r.eraseIdx i), [((r.length - 1 : Nat) : Int)]) := rfl
    rw [es] at k
    refine ⟨_, rfl, _, rfl, a, CL, dx, _, _, rfl, h1, T.cl, T.nP, lF_people _, l, _, rfl, .inl (SqL.of hR.lst), _, _, rfl, rfl, _, rfl, ?_⟩
    rw [List.length_map, hR.len]
    by_cases hz : r.length ≤ i
    · rw [if_pos hz] at k
      refine if_true_of (decide_eq_true (by omega)) ?_
      refine ⟨(by show 1 ≤ sizeLine; decide), fun p hp => ?_⟩
      exact gives_same k hL0 (same_upd hp) hp upd_same
    rw [if_neg hz] at k
    refine if_false_of (decide_eq_false (by omega)) ?_
    have hil : i < as.length := by rw [hR.len]; omega
    have hia : as[i]? = some as[i] := List.getElem?_eq_getElem hil
    refine ⟨_, rfl, a, CL, dx, _, _, rfl, h1, T.cl, T.nP, lF_people _, .inl ⟨rfl, _, SqL.of hR.lst⟩, _, rfl, l, _, (i : Int), i, _, rfl, rfl, hR.lst, by omega, by omega, ?_, refs_at hia, ?_⟩
    · refine (ixN_seq ?_).1
      unfold ixN
      rw [List.length_map, if_pos (by omega), if_pos (by omega), Int.toNat_natCast]
    have nal : a ≠ l := ne_of h1 hR.lst (by intro z; cases z)
    have hR2 : LAt (PersonAt CP) (upd H l (.lst ((as.map V.ref).eraseIdx i))) l (as.eraseIdx i) (r.eraseIdx i) := by
      refine ⟨by rw [upd_same, map_erase], by rw [List.length_eraseIdx, List.length_eraseIdx, hR.len], fun j b x hb hx => personR hR.lst b x ?_⟩
      rw [List.getElem?_eraseIdx] at hb hx
      by_cases hj : j < i
      · rw [if_pos hj] at hb hx
        exact hR.at_ j b x hb hx
      · rw [if_neg hj] at hb hx
        exact hR.at_ _ b x hb hx
    have h2 : upd H l (.lst ((as.map V.ref).eraseIdx i)) a = some (.ins CL dx (lF (.ref l))) := by
      rw [upd_ne nal]
      exact h1
    refine ⟨_, rfl, a, CL, dx, _, _, rfl, h2, T.cl, T.nP, lF_people _, l, _, rfl, .inl (SqL.of hR2.lst), (by show 1 ≤ sizeLine; decide), fun p hp => ?_⟩
    have s3 := same_upd (o := .lst [V.int ((((as.eraseIdx i).map V.ref).length : Nat) : Int)]) hp
    have npl : p ≠ l := fun z => by rw [z, upd_same] at hp; cases hp
    have hH : H p = none := by rw [upd_ne npl] at hp; exact hp
    refine k _ p ⟨dx, l, s3 _ _ h2, ⟨as.eraseIdx i, hR2.keep s3 fun _ _ => PersonAt.keep s3⟩, erase_ok hok i, ?_⟩ (fun g o hg ho => ⟨s3 _ _ ?_, ho.1, fun dx' l' h' => ?_⟩) hH ?_
    · rw [List.length_eraseIdx]
      split <;> omega
    · rw [upd_ne (ho.2 dx l h1)]
      exact hg
    · have h3 := (s3 _ _ h2).symm.trans h'
      injection h3 with e
      injection e with e1 e2 e3
      rw [← lF_inj e3]
      exact ho.2 dx l h1
    · rw [upd_same]
      show some (HO.lst [V.int ((((as.eraseIdx i).map V.ref).length : Nat) : Int)]) = some (HO.lst [V.int ((r.length - 1 : Nat) : Int)])
      rw [List.length_map, List.length_eraseIdx, if_pos hil, hR.len]
end
end BR
namespace BR
open PySem PySem.Spec PyProof.Rows L2
open PySem.W (Codec)
open Mu58 (Person)
def told4 (r : List Person) : List Nat := r.flatMap fun (p : Person) => [p.spills, p.a, p.b, p.time]
theorem told4_snoc (r : List Person) (p : Person) : told4 (r ++ [p]) = told4 r ++ [p.spills, p.a, p.b, p.time] := by
  unfold told4
  rw [List.flatMap_append, List.flatMap_cons, List.flatMap_nil, List.append_nil]
theorem told4_len : ∀ (r : List Person), (told4 r).length = 4 * r.length
  | [] => rfl
  | p :: r => by
    have := told4_len r
    unfold told4 at this ⊢
    rw [List.flatMap_cons, List.length_append, this]
    show 4 + 4 * r.length = 4 * (r.length + 1)
    omega
section
variable {P : Program} {w : World} {K : PySem.W.Frag} {mg : Str → Option Value} {base : Heap} {CP CA CL : Addr}
theorem scMOrder : FnScope ["self", "measures"] ["self", "measures"] (defScope sMOrder) := ⟨rfl, rfl, rfl, by decide +kernel, rfl, by decide +kernel, by decide +kernel⟩
theorem ok_morder {f : Addr} {fd : FuncData} (F : Fun K "reorder" "Line.reorder" sMOrder f fd) (T : TxtL K CL) (gN : Con1 mg "NOT_AS_TOLD" (-1)) (gM : Con1 mg "MOST_MEASURES" 1000)
    (c1 : Cal P w K mg base 6 "best_order" ["people", "measures"] (spBestO CP)) (c2 : Cal P w K mg base 4 "what_comes" ["people", "order", "measures"] (spAlong K CP CA comesU)) (c3 : Cal P w K mg base 2 "in_lowest_terms" ["amount"] (spLow CA))
    (c4 : Cal P w K mg base 1 "standing_in" ["people", "order"] (spStandIn K CP)) (c5 : Cal P w K mg base 1 "order_as_they_stand" ["people"] (spStand CP)) :
    FnOk P w K mg base CX0 7 f fd ["self", "measures"] (spM1 CL CP Mu58.Call.order) := by
  obtain ⟨f1, fd1, G1, m1, k1, b1⟩ := c1.ex
  obtain ⟨f2, fd2, G2, m2, k2, b2⟩ := c2.ex
  obtain ⟨f3, fd3, G3, m3, k3, b3⟩ := c3.ex
  obtain ⟨f4, fd4, G4, m4, k4, b4⟩ := c4.ex
  obtain ⟨f5, fd5, G5, m5, k5, b5⟩ := c5.ex
  refine F.ok scMOrder (fun vs H Q E h => ?_) (fun cdv A outer s H vs Q E hr h => ?_)
  · obtain ⟨a, r, m, rfl, _⟩ := h
    rfl
  · obtain ⟨a, r, m, rfl, hL, k⟩ := h
    refine ⟨_, pss_cons (ps_if (pt_cmpR op_gt (pv 1) (pe_cn gM rfl) (nomark _)) (pss_one (ps_ret (pe_lst (pa_cons (pe_cn gN rfl) pa_nil)))) pss_nil)
      (pss_cons (ps_fld (pv 0) (pe_call G4 (hr.mono (by decide)) rfl m4 k4 b4 .nil pass0 (pa_cons (pe_fld (pv 0) rfl) (pa_cons (pe_call G1 hr rfl m1 k1 b1 .nil pass0 (pa_cons (pe_fld (pv 0) rfl) (pa_cons (pv 1) pa_nil))) pa_nil))) rfl)
      (pss_one (ps_ret (pe_call G3 (hr.mono (by decide)) rfl m3 k3 b3 .nil pass0 (pa_cons (pe_call G2 (hr.mono (by decide)) rfl m2 k2 b2 .nil pass0 (pa_cons (pe_fld (pv 0) rfl) (pa_cons (pe_call G5 (hr.mono (by decide)) rfl m5 k5 b5 .nil pass0 (pa_cons (pe_fld (pv 0) rfl) pa_nil)) (pa_cons (pv 1) pa_nil)))) pa_nil))))), ?_⟩
    have hL0 := hL
    obtain ⟨dx, l, h1, hR, hok, h6⟩ := hL
    have es : Mu58.step (some r) (.order m) = if Mu58.MUCH < m then (some r, [-1]) else (match Mu58.best r (Mu58.whole m) with
      | none => (some r, [-6])
      | some y => (some (Mu58.placed r y.2), Mu58.nums (Mu58.told y.1))) := rfl
    rw [es] at k
    refine ⟨_, rfl, _, _, rfl, rfl, _, rfl, ?_⟩
    by_cases hm : 1000 < m
    · rw [if_pos (show Mu58.MUCH < m from hm)] at k
      refine if_true_of (decide_eq_true (by omega)) ?_
      refine ⟨(by show 1 ≤ sizeLine; decide), fun p hp => ?_⟩
      exact gives_same k hL0 (same_upd hp) hp upd_same
    rw [if_neg (show ¬ Mu58.MUCH < m from hm)] at k
    refine if_false_of (decide_eq_false (by omega)) ?_
    refine ⟨_, rfl, a, CL, dx, _, _, rfl, h1, T.cl, T.nP, lF_people _, _, rfl, a, CL, dx, _, _, rfl, h1, T.cl, T.nP, lF_people _, _, rfl, l, r, m, rfl, hR, hok, h6, fun H1 c o s1 hC hoi hol hbest => ?_⟩
    rw [hbest] at k
    refine ⟨l, c, r, o, rfl, hR.keep s1, SqL.of hC, hoi, by omega, fun H2 l2 s2 hl2 hR2 => ?_⟩
    have s12 := s1.trans s2
    have hl2H : H l2 = none := s1.free hl2
    have nal : l2 ≠ a := (ne_of_none h1 hl2H).symm
    have hok2 : AllOk (Mu58.placed r o) := placed_ok hok o
    have hlen2 : (Mu58.placed r o).length = r.length := placed_all hoi hol
    refine ⟨_, rfl, a, CL, dx, _, rfl, s12 _ _ h1, T.cl, T.nP, (by show 1 < 1000; decide), ?_⟩
    have ep : putF "people" (.ref l2) (lF (.ref l)) = lF (.ref l2) := put_here
    rw [ep]
    have h3 : upd H2 a (.ins CL dx (lF (.ref l2))) a = some (.ins CL dx (lF (.ref l2))) := upd_same
    have hR3 : RowAt CP (upd H2 a (.ins CL dx (lF (.ref l2)))) l2 (Mu58.placed r o) := by
      obtain ⟨bs, hB⟩ := hR2
      refine ⟨bs, by rw [upd_ne nal]; exact hB.lst, hB.len, fun j b x hb hx => ?_⟩
      obtain ⟨d2, h2⟩ := hB.at_ j b x hb hx
      have nb : b ≠ a := fun e => by
        rw [e] at h2
        exact lF_ne (Option.some.inj ((s12 _ _ h1).symm.trans h2))
      exact ⟨d2, by rw [upd_ne nb]; exact h2⟩
    refine ⟨_, rfl, a, CL, dx, _, _, rfl, h3, T.cl, T.nP, lF_people _, _, rfl, a, CL, dx, _, _, rfl, h3, T.cl, T.nP, lF_people _, l2, Mu58.placed r o, rfl, hR3, by omega, fun H4 q s4 hq hQ => ?_⟩
    refine ⟨_, rfl, l2, q, m, Mu58.placed r o, List.range (Mu58.placed r o).length, rfl, hR3.keep s4, SqL.of hQ, fun i hi => List.mem_range.mp hi, hok2, fun H5 d s5 hd hD => ?_⟩
    rw [placed_range] at hD
    have fine := ordAm_fine hok hoi m
    refine ⟨d, _, rfl, hD, fine.pos, nine6 fine (by omega), fun H6 p s6 hp hp6 => ?_⟩
    have s456 := (s4.trans s5).trans s6
    have hpU := (s4.trans s5).free hp
    have npa : p ≠ a := fun e => by rw [e, upd_same] at hpU; cases hpU
    have hH : H p = none := s12.free (by rw [upd_ne npa] at hpU; exact hpU)
    have hp7 : H6 p = some (.lst ((Mu58.nums (Mu58.told (fr (ordAm r m o)))).map V.int)) := hp6.trans (congrArg (fun x => some (HO.lst x)) (told_vns (x := ordAm r m o) fine.pos))
    exact gives_put k h1 s12 hl2H hR2 hok2 (show (Mu58.placed r o).length ≤ 6 by omega) s456 hH hp7
theorem scMLook : FnScope ["self", "seen", "one"] ["self"] (defScope sMLook) := ⟨rfl, rfl, rfl, by decide +kernel, rfl, by decide +kernel, by decide +kernel⟩
theorem ok_mlook {f : Addr} {fd : FuncData} (F : Fun K "look" "Line.look" sMLook f fd) (T : TxtL K CL) (TP : TxtP K CP) (hlen : mg "len" = none) : FnOk P w K mg base CX0 1 f fd ["self"] (spM0 CL CP Mu58.Call.look) := by
  refine F.ok scMLook (fun vs H Q E h => ?_) (fun cdv A outer s H vs Q E hr h => ?_)
  · obtain ⟨a, r, rfl, _⟩ := h
    rfl
  · obtain ⟨a, r, rfl, hL, k⟩ := h
    refine ⟨_, pss_cons (ps_set (i := 1) scMLook.nd rfl (Or.inl rfl) (pe_lst (pa_cons (pe_callB call_len_seq (by rfl) hlen PySem.boot_len (pa_cons (pe_fld (pv 0) rfl) pa_nil)) pa_nil)))
      (pss_cons (ps_for PassesOwn.never rfl (pi_list (pe_fld (pv 0) rfl)) (pg_name (i := 2) scMLook.nd rfl (Or.inl rfl))
        (pss_one (ps_expr (pe_bm PySem.F.plainAttrs_list PySem.F.slot_list_extend PySem.F.type_list_extend mt_extend (pv 1) (pa_cons (pe_lst (pa_cons (pe_fld (pv 2) rfl) (pa_cons (pe_fld (pv 2) rfl) (pa_cons (pe_fld (pv 2) rfl) (pa_cons (pe_fld (pv 2) rfl) pa_nil))))) pa_nil)))))
      (pss_one (ps_ret (pv 1)))), ?_⟩
    have hL0 := hL
    obtain ⟨dx, l, h1, ⟨as, hR⟩, hok, h6⟩ := hL
    have es : Mu58.step (some r) .look = (some r, Mu58.nums (r.length :: told4 r)) := rfl
    rw [es] at k
    refine ⟨_, rfl, a, CL, dx, _, _, rfl, h1, T.cl, T.nP, lF_people _, l, _, rfl, .inl (SqL.of hR.lst), (by show 1 ≤ sizeLine; decide), fun q hq => ?_⟩
    rw [List.length_map, hR.len] at *
    have s1 := same_upd (o := .lst [V.int ((r.length : Nat) : Int)]) hq
    refine ⟨_, rfl, a, CL, dx, _, _, rfl, s1 _ _ h1, T.cl, T.nP, lF_people _, l, rfl, ⟨_, SqL.of (s1 _ _ hR.lst)⟩, for_list (K := K) (a := l) (xs := as.map V.ref) (fun i σ H' => ∃ (v : Option V), σ = [some (.ref a), some (.ref q), v] ∧ Same H H' ∧ H' q = some (.lst (vns (r.length :: told4 (r.take i)))))
      ⟨none, rfl, s1, upd_same⟩ (fun i σ H' _ ⟨_, _, s5, _⟩ => SqL.of (s5 _ _ hR.lst)) ?_ ?_⟩
    · rintro i y σ H' hi ⟨v, rfl, s5, hQ⟩
      obtain ⟨b, hb, rfl⟩ := refs_get hi
      have hil : i < r.length := by rw [← hR.len]; exact (List.getElem?_eq_some_iff.mp hb).1
      have hp : r[i]? = some r[i] := List.getElem?_eq_getElem hil
      obtain ⟨d2, hP⟩ := hR.at_ i b _ hb hp
      generalize r[i] = p at hp hP
      have hP5 := s5 _ _ hP
      refine ⟨_, rfl, .inl ⟨rfl, _, SqL.of hQ⟩, _, rfl, b, CP, d2, _, _, rfl, hP5, TP.cl, TP.nS, pF_spills p, _, rfl, b, CP, d2, _, _, rfl, hP5, TP.cl, TP.nA, pF_a p, _, rfl, b, CP, d2, _, _, rfl, hP5, TP.cl, TP.nB, pF_b p, _, rfl, b, CP, d2, _, _, rfl, hP5, TP.cl, TP.nM, pF_moments p, (by show 4 ≤ sizeLine; decide), fun t ht => ?_⟩
      have s6 := same_upd (o := .lst [V.int (p.spills : Int), V.int (p.a : Int), V.int (p.b : Int), V.int (p.time : Int)]) ht
      refine ⟨q, t, _, _, rfl, rfl, s6 _ _ hQ, upd_same, ?_, ?_⟩
      · rw [vns_len, List.length_cons, told4_len, List.length_take, sizeLine_eq]
        show _ + 4 ≤ _
        omega
      refine ⟨_, rfl, same_put (s5.trans s6) hq, ?_⟩
      rw [upd_same, take_more hp, told4_snoc]
      show some (HO.lst (vns (r.length :: told4 (r.take i)) ++ vns [p.spills, p.a, p.b, p.time])) = _
      unfold vns
      rw [← List.map_append]
      rfl
    · rintro σ H' ⟨v, rfl, s5, hQ⟩
      rw [List.length_map, hR.len, List.take_length] at hQ
      refine ⟨_, rfl, gives_same k hL0 s5 hq ?_⟩
      rw [nums_vns]
      exact hQ
end
end BR
namespace BR
open PySem PySem.Spec PyProof.Rows L2
open PySem.W (Codec)
open Mu58 (Person)
section
variable {P : Program} {w : World} {K : PySem.W.Frag} {mg : Str → Option Value} {base : Heap} {CP CA CL : Addr}
theorem Gives.mono {H H1 : Hp} {a : Addr} {x : Mu58.Abs × List Int} {Q : VK} {s : Mu58.Abs} (hL : LineAt CL CP H a s) (s1 : Same H H1) (g : Gives CL CP H a x Q) : Gives CL CP H1 a x Q := fun H' p h1 h2 h3 h4 => by
  obtain ⟨dx, v, hx⟩ := hL.is
  exact g H' p h1 (fun b o hb ho => h2 b o (s1 _ _ hb) (ho.keep hx (s1 _ _ hx))) (s1.free h3) h4
theorem cut3 (p x : Int) (o : List Nat) : cutV ((p :: x :: (o.length : Int) :: (intL o ++ [])).map V.int) (some 3) none = vns o := by
  unfold cutV
  have e3 : HT.sIx ((p :: x :: (o.length : Int) :: (intL o ++ [])).map V.int).length 0 (some 3) = 3 := by
    rw [show (3 : Int) = ((3 : Nat) : Int) from rfl, HT.sIx_nat]
    simp only [List.length_map, List.length_cons]
    omega
  rw [e3, HT.sIx_none, List.append_nil]
  show List.take _ ((intL o).map V.int) = vns o
  rw [← vns_ints]
  apply List.take_of_length_le
  simp only [List.length_map, List.length_cons]
  unfold vns intL
  rw [List.length_map, List.length_map]
  omega
theorem scTo : FnScope ["line", "call", "number"] ["line", "call"] (defScope sTo) := ⟨rfl, rfl, rfl, by decide +kernel, rfl, by decide +kernel, by decide +kernel⟩
theorem ok_to {f : Addr} {fd : FuncData} (F : Fun K "answer_to" "answer_to" sTo f fd) (T : TxtL K CL) (g0 : Con1 mg "BEGIN" 0) (g1 : Con1 mg "PERSON" 1) (g2 : Con1 mg "COMES" 2) (g3 : Con1 mg "NEEDS" 3) (g4 : Con1 mg "BEST" 4) (g5 : Con1 mg "EXCHANGE" 5) (g6 : Con1 mg "SOON" 6) (g7 : Con1 mg "COME" 7) (g8 : Con1 mg "WATER" 8) (g9 : Con1 mg "SWAP" 9) (g10 : Con1 mg "LEAVE" 10) (g11 : Con1 mg "ORDER" 11) (gR : Con1 mg "NO_ROW" (-9))
    (c0 : MtC P w K mg base 1 "begin" CL ["self"] (spBegin CL CP)) (c1 : MtC P w K mg base 3 "person" CL ["self", "spills", "a", "b", "moments"] (spMPerson CL CP)) (c2 : MtC P w K mg base 5 "comes" CL ["self", "measures", "order"] (spMOrd K CL CP Mu58.Call.comes)) (c3 : MtC P w K mg base 5 "needs" CL ["self", "measures", "order"] (spMOrd K CL CP Mu58.Call.needs)) (c4 : MtC P w K mg base 7 "best" CL ["self", "measures"] (spM1 CL CP Mu58.Call.best)) (c5 : MtC P w K mg base 6 "exchange" CL ["self", "measures"] (spM1 CL CP Mu58.Call.exchange)) (c6 : MtC P w K mg base 3 "soon" CL ["self", "k"] (spM1 CL CP Mu58.Call.soon)) (c7 : MtC P w K mg base 4 "come" CL ["self", "moment"] (spM1 CL CP Mu58.Call.come)) (c8 : MtC P w K mg base 6 "water" CL ["self", "measures", "moment"] (spM2 CL CP Mu58.Call.water)) (c9 : MtC P w K mg base 3 "swap" CL ["self", "number", "other"] (spM2 CL CP Mu58.Call.swap)) (c10 : MtC P w K mg base 1 "leave" CL ["self", "number"] (spM1 CL CP Mu58.Call.leave)) (c11 : MtC P w K mg base 7 "reorder" CL ["self", "measures"] (spM1 CL CP Mu58.Call.order)) (c12 : MtC P w K mg base 1 "look" CL ["self"] (spM0 CL CP Mu58.Call.look)) : FnOk P w K mg base CX0 8 f fd ["line", "call"] (spTo K CL CP) := by
  obtain ⟨f0, d0, G0, m0, b0⟩ := c0.ex
  obtain ⟨f1, d1, G1, m1, b1⟩ := c1.ex
  obtain ⟨f2, d2, G2, m2, b2⟩ := c2.ex
  obtain ⟨f3, d3, G3, m3, b3⟩ := c3.ex
  obtain ⟨f4, d4, G4, m4, b4⟩ := c4.ex
  obtain ⟨f5, d5, G5, m5, b5⟩ := c5.ex
  obtain ⟨f6, d6, G6, m6, b6⟩ := c6.ex
  obtain ⟨f7, d7, G7, m7, b7⟩ := c7.ex
  obtain ⟨f8, d8, G8, m8, b8⟩ := c8.ex
  obtain ⟨f9, d9, G9, m9, b9⟩ := c9.ex
  obtain ⟨f10, d10, G10, m10, b10⟩ := c10.ex
  obtain ⟨f11, d11, G11, m11, b11⟩ := c11.ex
  obtain ⟨f12, d12, G12, m12, b12⟩ := c12.ex
  refine F.ok scTo (fun vs H Q E h => ?_) (fun cdv A outer s H vs Q E hr h => ?_)
  · obtain ⟨a, b, s, cl, c, rfl, _⟩ := h
    rfl
  · obtain ⟨a, b, s, cl, c, rfl, hL, hS, hrd, k⟩ := h
    refine ⟨_, pss_cons (ps_set (i := 2) scTo.nd rfl (Or.inl rfl) (pe_ix ix_list (pv 1) pe_int (fun _ _ => rfl)))
      (pss_cons (ps_if (pt_cmpR op_eq (pv 2) (pe_cn g0 rfl) (nomark _)) (pss_one (ps_ret (pe_meth0 (pv 0) T.cl m0 G0 (hr.mono (by decide)) b0 .nil pass0))) pss_nil)
      (pss_cons (ps_if (pt_cmpR op_isN (pe_fld (pv 0) rfl) pe_non (nomark _)) (pss_one (ps_ret (pe_lst (pa_cons (pe_cn gR rfl) pa_nil)))) pss_nil)
      (pss_cons (ps_if (pt_cmpR op_eq (pv 2) (pe_cn g1 rfl) (nomark _)) (pss_one (ps_ret (pe_meth (pv 0) T.cl m1 G1 (hr.mono (by decide)) b1 .nil pass0 (pa_cons (pe_ix ix_list (pv 1) pe_int (fun _ _ => rfl)) (pa_cons (pe_ix ix_list (pv 1) pe_int (fun _ _ => rfl)) (pa_cons (pe_ix ix_list (pv 1) pe_int (fun _ _ => rfl)) (pa_cons (pe_ix ix_list (pv 1) pe_int (fun _ _ => rfl)) pa_nil))))))) pss_nil)
      (pss_cons (ps_if (pt_cmpR op_eq (pv 2) (pe_cn g2 rfl) (nomark _)) (pss_one (ps_ret (pe_meth (pv 0) T.cl m2 G2 (hr.mono (by decide)) b2 .nil pass0 (pa_cons (pe_ix ix_list (pv 1) pe_int (fun _ _ => rfl)) (pa_cons (pe_slice sl_list (pv 1) (po_some pe_int) po_none) pa_nil))))) pss_nil)
      (pss_cons (ps_if (pt_cmpR op_eq (pv 2) (pe_cn g3 rfl) (nomark _)) (pss_one (ps_ret (pe_meth (pv 0) T.cl m3 G3 (hr.mono (by decide)) b3 .nil pass0 (pa_cons (pe_ix ix_list (pv 1) pe_int (fun _ _ => rfl)) (pa_cons (pe_slice sl_list (pv 1) (po_some pe_int) po_none) pa_nil))))) pss_nil)
      (pss_cons (ps_if (pt_cmpR op_eq (pv 2) (pe_cn g4 rfl) (nomark _)) (pss_one (ps_ret (pe_meth (pv 0) T.cl m4 G4 hr b4 .nil pass0 (pa_cons (pe_ix ix_list (pv 1) pe_int (fun _ _ => rfl)) pa_nil)))) pss_nil)
      (pss_cons (ps_if (pt_cmpR op_eq (pv 2) (pe_cn g5 rfl) (nomark _)) (pss_one (ps_ret (pe_meth (pv 0) T.cl m5 G5 (hr.mono (by decide)) b5 .nil pass0 (pa_cons (pe_ix ix_list (pv 1) pe_int (fun _ _ => rfl)) pa_nil)))) pss_nil)
      (pss_cons (ps_if (pt_cmpR op_eq (pv 2) (pe_cn g6 rfl) (nomark _)) (pss_one (ps_ret (pe_meth (pv 0) T.cl m6 G6 (hr.mono (by decide)) b6 .nil pass0 (pa_cons (pe_ix ix_list (pv 1) pe_int (fun _ _ => rfl)) pa_nil)))) pss_nil)
      (pss_cons (ps_if (pt_cmpR op_eq (pv 2) (pe_cn g7 rfl) (nomark _)) (pss_one (ps_ret (pe_meth (pv 0) T.cl m7 G7 (hr.mono (by decide)) b7 .nil pass0 (pa_cons (pe_ix ix_list (pv 1) pe_int (fun _ _ => rfl)) pa_nil)))) pss_nil)
      (pss_cons (ps_if (pt_cmpR op_eq (pv 2) (pe_cn g8 rfl) (nomark _)) (pss_one (ps_ret (pe_meth (pv 0) T.cl m8 G8 (hr.mono (by decide)) b8 .nil pass0 (pa_cons (pe_ix ix_list (pv 1) pe_int (fun _ _ => rfl)) (pa_cons (pe_ix ix_list (pv 1) pe_int (fun _ _ => rfl)) pa_nil))))) pss_nil)
      (pss_cons (ps_if (pt_cmpR op_eq (pv 2) (pe_cn g9 rfl) (nomark _)) (pss_one (ps_ret (pe_meth (pv 0) T.cl m9 G9 (hr.mono (by decide)) b9 .nil pass0 (pa_cons (pe_ix ix_list (pv 1) pe_int (fun _ _ => rfl)) (pa_cons (pe_ix ix_list (pv 1) pe_int (fun _ _ => rfl)) pa_nil))))) pss_nil)
      (pss_cons (ps_if (pt_cmpR op_eq (pv 2) (pe_cn g10 rfl) (nomark _)) (pss_one (ps_ret (pe_meth (pv 0) T.cl m10 G10 (hr.mono (by decide)) b10 .nil pass0 (pa_cons (pe_ix ix_list (pv 1) pe_int (fun _ _ => rfl)) pa_nil)))) pss_nil)
      (pss_cons (ps_if (pt_cmpR op_eq (pv 2) (pe_cn g11 rfl) (nomark _)) (pss_one (ps_ret (pe_meth (pv 0) T.cl m11 G11 hr b11 .nil pass0 (pa_cons (pe_ix ix_list (pv 1) pe_int (fun _ _ => rfl)) pa_nil)))) pss_nil)
      (pss_one (ps_ret (pe_meth0 (pv 0) T.cl m12 G12 (hr.mono (by decide)) b12 .nil pass0)))))))))))))))), ?_⟩
    have head : ∀ p r, cl = p :: r → (cl.map V.int)[0]? = some (V.int p) := fun p r e => by rw [e]; rfl
    cases s with
    | none =>
      obtain ⟨dx, hx⟩ := id hL
      by_cases hb : c = .begin_
      · subst hb
        cases hrd
        refine ⟨_, rfl, b, _, _, _, rfl, rfl, hS, atI_nat (j := 0) (head _ _ rfl), ?_⟩
        refine ⟨_, rfl, rfl, _, rfl, if_true_of (eq_int rfl) ?_⟩
        exact ⟨_, rfl, a, dx, _, rfl, hx, lF_no _ (by decide +kernel), a, none, rfl, hL, k⟩
      · have e : Mu58.step none c = (none, [-9]) := by
          cases c <;> first | rfl | exact absurd rfl hb
        rw [e] at k
        have fin : ∀ p, H p = none → Q (.ref p) (upd H p (.lst [V.int (-9)])) := fun p hp => by
          have s1 := same_upd (o := .lst [V.int (-9)]) hp
          exact k _ p (hL.keep s1) (fun g o hg ho => ⟨s1 _ _ hg, ho.keep hx (s1 _ _ hx)⟩) hp upd_same
        cases hrd
        case begin_ => exact absurd rfl hb
        all_goals
          refine ⟨_, rfl, b, _, _, _, rfl, rfl, hS, atI_nat (j := 0) (head _ _ rfl), ?_⟩
          refine ⟨_, rfl, rfl, _, rfl, if_false_of (neq_int (by decide)) ?_⟩
          refine ⟨_, rfl, a, CL, dx, _, _, rfl, hx, T.cl, T.nP, lF_people _, rfl, _, rfl, if_true_of rfl ?_⟩
          exact ⟨(by show 1 ≤ sizeLine; decide), fun p hp => fin p hp⟩
    | some r =>
      obtain ⟨dx, l, hx, _⟩ := id hL
      cases hrd
      case begin_ =>
        refine ⟨_, rfl, b, _, _, _, rfl, rfl, hS, atI_nat (j := 0) (head _ _ rfl), ?_⟩
        refine ⟨_, rfl, rfl, _, rfl, if_true_of (eq_int rfl) ?_⟩
        exact ⟨_, rfl, a, dx, _, rfl, hx, lF_no _ (by decide +kernel), a, some r, rfl, hL, k⟩
      all_goals
        refine ⟨_, rfl, b, _, _, _, rfl, rfl, hS, atI_nat (j := 0) (head _ _ rfl), ?_⟩
        refine ⟨_, rfl, rfl, _, rfl, if_false_of (neq_int (by decide)) ?_⟩
        refine ⟨_, rfl, a, CL, dx, _, _, rfl, hx, T.cl, T.nP, lF_people _, rfl, _, rfl, if_false_of rfl ?_⟩
      case person x y z m =>
        refine ⟨_, rfl, rfl, _, rfl, if_true_of (eq_int rfl) ?_⟩
        refine ⟨_, rfl, a, dx, _, rfl, hx, lF_no _ (by decide +kernel), _, rfl, b, _, _, _, rfl, rfl, hS, atI_nat (j := 1) rfl, _, rfl, b, _, _, _, rfl, rfl, hS, atI_nat (j := 2) rfl, _, rfl, b, _, _, _, rfl, rfl, hS, atI_nat (j := 3) rfl, _, rfl, b, _, _, _, rfl, rfl, hS, atI_nat (j := 4) rfl, ?_⟩
        exact ⟨a, r, x, y, z, m, rfl, hL, k⟩
      all_goals refine ⟨_, rfl, rfl, _, rfl, if_false_of (neq_int (by decide)) ?_⟩
      case comes x o h ho =>
        refine ⟨_, rfl, rfl, _, rfl, if_true_of (eq_int rfl) ?_⟩
        refine ⟨_, rfl, a, dx, _, rfl, hx, lF_no _ (by decide +kernel), _, rfl, b, _, _, _, rfl, rfl, hS, atI_nat (j := 1) rfl, _, rfl, _, rfl, b, _, rfl, hS, fun p hp => ?_⟩
        rw [cut3]
        have s1 := same_upd (o := .lst (vns o)) hp
        exact ⟨a, p, r, x, o, rfl, hL.keep s1, SqL.of upd_same, ho, k.mono hL s1⟩
      all_goals refine ⟨_, rfl, rfl, _, rfl, if_false_of (neq_int (by decide)) ?_⟩
      case needs x o h ho =>
        refine ⟨_, rfl, rfl, _, rfl, if_true_of (eq_int rfl) ?_⟩
        refine ⟨_, rfl, a, dx, _, rfl, hx, lF_no _ (by decide +kernel), _, rfl, b, _, _, _, rfl, rfl, hS, atI_nat (j := 1) rfl, _, rfl, _, rfl, b, _, rfl, hS, fun p hp => ?_⟩
        rw [cut3]
        have s1 := same_upd (o := .lst (vns o)) hp
        exact ⟨a, p, r, x, o, rfl, hL.keep s1, SqL.of upd_same, ho, k.mono hL s1⟩
      all_goals refine ⟨_, rfl, rfl, _, rfl, if_false_of (neq_int (by decide)) ?_⟩
      case best x =>
        refine ⟨_, rfl, rfl, _, rfl, if_true_of (eq_int rfl) ?_⟩
        refine ⟨_, rfl, a, dx, _, rfl, hx, lF_no _ (by decide +kernel), _, rfl, b, _, _, _, rfl, rfl, hS, atI_nat (j := 1) rfl, ?_⟩
        exact ⟨a, r, x, rfl, hL, k⟩
      all_goals refine ⟨_, rfl, rfl, _, rfl, if_false_of (neq_int (by decide)) ?_⟩
      case exchange x =>
        refine ⟨_, rfl, rfl, _, rfl, if_true_of (eq_int rfl) ?_⟩
        refine ⟨_, rfl, a, dx, _, rfl, hx, lF_no _ (by decide +kernel), _, rfl, b, _, _, _, rfl, rfl, hS, atI_nat (j := 1) rfl, ?_⟩
        exact ⟨a, r, x, rfl, hL, k⟩
      all_goals refine ⟨_, rfl, rfl, _, rfl, if_false_of (neq_int (by decide)) ?_⟩
      case soon x =>
        refine ⟨_, rfl, rfl, _, rfl, if_true_of (eq_int rfl) ?_⟩
        refine ⟨_, rfl, a, dx, _, rfl, hx, lF_no _ (by decide +kernel), _, rfl, b, _, _, _, rfl, rfl, hS, atI_nat (j := 1) rfl, ?_⟩
        exact ⟨a, r, x, rfl, hL, k⟩
      all_goals refine ⟨_, rfl, rfl, _, rfl, if_false_of (neq_int (by decide)) ?_⟩
      case come x =>
        refine ⟨_, rfl, rfl, _, rfl, if_true_of (eq_int rfl) ?_⟩
        refine ⟨_, rfl, a, dx, _, rfl, hx, lF_no _ (by decide +kernel), _, rfl, b, _, _, _, rfl, rfl, hS, atI_nat (j := 1) rfl, ?_⟩
        exact ⟨a, r, x, rfl, hL, k⟩
      all_goals refine ⟨_, rfl, rfl, _, rfl, if_false_of (neq_int (by decide)) ?_⟩
      case water x y =>
        refine ⟨_, rfl, rfl, _, rfl, if_true_of (eq_int rfl) ?_⟩
        refine ⟨_, rfl, a, dx, _, rfl, hx, lF_no _ (by decide +kernel), _, rfl, b, _, _, _, rfl, rfl, hS, atI_nat (j := 1) rfl, _, rfl, b, _, _, _, rfl, rfl, hS, atI_nat (j := 2) rfl, ?_⟩
        exact ⟨a, r, x, y, rfl, hL, k⟩
      all_goals refine ⟨_, rfl, rfl, _, rfl, if_false_of (neq_int (by decide)) ?_⟩
      case swap x y =>
        refine ⟨_, rfl, rfl, _, rfl, if_true_of (eq_int rfl) ?_⟩
        refine ⟨_, rfl, a, dx, _, rfl, hx, lF_no _ (by decide +kernel), _, rfl, b, _, _, _, rfl, rfl, hS, atI_nat (j := 1) rfl, _, rfl, b, _, _, _, rfl, rfl, hS, atI_nat (j := 2) rfl, ?_⟩
        exact ⟨a, r, x, y, rfl, hL, k⟩
      all_goals refine ⟨_, rfl, rfl, _, rfl, if_false_of (neq_int (by decide)) ?_⟩
      case leave x =>
        refine ⟨_, rfl, rfl, _, rfl, if_true_of (eq_int rfl) ?_⟩
        refine ⟨_, rfl, a, dx, _, rfl, hx, lF_no _ (by decide +kernel), _, rfl, b, _, _, _, rfl, rfl, hS, atI_nat (j := 1) rfl, ?_⟩
        exact ⟨a, r, x, rfl, hL, k⟩
      all_goals refine ⟨_, rfl, rfl, _, rfl, if_false_of (neq_int (by decide)) ?_⟩
      case order x =>
        refine ⟨_, rfl, rfl, _, rfl, if_true_of (eq_int rfl) ?_⟩
        refine ⟨_, rfl, a, dx, _, rfl, hx, lF_no _ (by decide +kernel), _, rfl, b, _, _, _, rfl, rfl, hS, atI_nat (j := 1) rfl, ?_⟩
        exact ⟨a, r, x, rfl, hL, k⟩
      all_goals refine ⟨_, rfl, rfl, _, rfl, if_false_of (neq_int (by decide)) ?_⟩
      case look =>
        exact ⟨_, rfl, a, dx, _, rfl, hx, lF_no _ (by decide +kernel), a, r, rfl, hL, k⟩
end
end BR
namespace BR
open PySem PySem.Spec PyProof.Rows L2
open PySem.W (Codec)
open Mu58 (Person)
theorem all_mk {P : Program} {w : World} {K : PySem.W.Frag} {h : Heap} {mg : Str → Option Value} {fa CPerson f1 CAmount f2 f3 f4 f5 f6 f7 f8 f9 f10 f11 f12 f13 f14 f15 f16 f17 f18 f19 f20 f21 f22 f23 CLine f24 f25 f26 f27 f28 f29 f30 f31 f32 f33 f34 f35 f36 f37 f38 f39 f40 WWHOLE_NUMBERS : Addr} (X : K.In h) (G : h.Ns mainGlobals mg) (hfa : mg "answers" = some (.ref fa))
    {od1 an1 : Option Addr} {sl1 : Array (Option Value)} {oc1 kV1 dc1 pm1 cd1 ct1 : Value}
    {od2 an2 : Option Addr} {sl2 : Array (Option Value)} {oc2 kV2 dc2 pm2 cd2 ct2 : Value}
    {od3 an3 : Option Addr} {sl3 : Array (Option Value)} {oc3 kV3 dc3 pm3 cd3 ct3 : Value}
    {od4 an4 : Option Addr} {sl4 : Array (Option Value)} {oc4 kV4 dc4 pm4 cd4 ct4 : Value}
    {od5 an5 : Option Addr} {sl5 : Array (Option Value)} {oc5 kV5 dc5 pm5 cd5 ct5 : Value}
    {od6 an6 : Option Addr} {sl6 : Array (Option Value)} {oc6 kV6 dc6 pm6 cd6 ct6 : Value}
    {od7 an7 : Option Addr} {sl7 : Array (Option Value)} {oc7 kV7 dc7 pm7 cd7 ct7 : Value}
    {od8 an8 : Option Addr} {sl8 : Array (Option Value)} {oc8 kV8 dc8 pm8 cd8 ct8 : Value}
    {od9 an9 : Option Addr} {sl9 : Array (Option Value)} {oc9 kV9 dc9 pm9 cd9 ct9 : Value}
    {od10 an10 : Option Addr} {sl10 : Array (Option Value)} {oc10 kV10 dc10 pm10 cd10 ct10 : Value}
    {od11 an11 : Option Addr} {sl11 : Array (Option Value)} {oc11 kV11 dc11 pm11 cd11 ct11 : Value}
    {od12 an12 : Option Addr} {sl12 : Array (Option Value)} {oc12 kV12 dc12 pm12 cd12 ct12 : Value}
    {od13 an13 : Option Addr} {sl13 : Array (Option Value)} {oc13 kV13 dc13 pm13 cd13 ct13 : Value}
    {od14 an14 : Option Addr} {sl14 : Array (Option Value)} {oc14 kV14 dc14 pm14 cd14 ct14 : Value}
    {od15 an15 : Option Addr} {sl15 : Array (Option Value)} {oc15 kV15 dc15 pm15 cd15 ct15 : Value}
    {od16 an16 : Option Addr} {sl16 : Array (Option Value)} {oc16 kV16 dc16 pm16 cd16 ct16 : Value}
    {od17 an17 : Option Addr} {sl17 : Array (Option Value)} {oc17 kV17 dc17 pm17 cd17 ct17 : Value}
    {od18 an18 : Option Addr} {sl18 : Array (Option Value)} {oc18 kV18 dc18 pm18 cd18 ct18 : Value}
    {od19 an19 : Option Addr} {sl19 : Array (Option Value)} {oc19 kV19 dc19 pm19 cd19 ct19 : Value}
    {od20 an20 : Option Addr} {sl20 : Array (Option Value)} {oc20 kV20 dc20 pm20 cd20 ct20 : Value}
    {od21 an21 : Option Addr} {sl21 : Array (Option Value)} {oc21 kV21 dc21 pm21 cd21 ct21 : Value}
    {od22 an22 : Option Addr} {sl22 : Array (Option Value)} {oc22 kV22 dc22 pm22 cd22 ct22 : Value}
    {od23 an23 : Option Addr} {sl23 : Array (Option Value)} {oc23 kV23 dc23 pm23 cd23 ct23 : Value}
    {od24 an24 : Option Addr} {sl24 : Array (Option Value)} {oc24 kV24 dc24 pm24 cd24 ct24 : Value}
    {od25 an25 : Option Addr} {sl25 : Array (Option Value)} {oc25 kV25 dc25 pm25 cd25 ct25 : Value}
    {od26 an26 : Option Addr} {sl26 : Array (Option Value)} {oc26 kV26 dc26 pm26 cd26 ct26 : Value}
    {od27 an27 : Option Addr} {sl27 : Array (Option Value)} {oc27 kV27 dc27 pm27 cd27 ct27 : Value}
    {od28 an28 : Option Addr} {sl28 : Array (Option Value)} {oc28 kV28 dc28 pm28 cd28 ct28 : Value}
    {od29 an29 : Option Addr} {sl29 : Array (Option Value)} {oc29 kV29 dc29 pm29 cd29 ct29 : Value}
    {od30 an30 : Option Addr} {sl30 : Array (Option Value)} {oc30 kV30 dc30 pm30 cd30 ct30 : Value}
    {od31 an31 : Option Addr} {sl31 : Array (Option Value)} {oc31 kV31 dc31 pm31 cd31 ct31 : Value}
    {od32 an32 : Option Addr} {sl32 : Array (Option Value)} {oc32 kV32 dc32 pm32 cd32 ct32 : Value}
    {od33 an33 : Option Addr} {sl33 : Array (Option Value)} {oc33 kV33 dc33 pm33 cd33 ct33 : Value}
    {od34 an34 : Option Addr} {sl34 : Array (Option Value)} {oc34 kV34 dc34 pm34 cd34 ct34 : Value}
    {od35 an35 : Option Addr} {sl35 : Array (Option Value)} {oc35 kV35 dc35 pm35 cd35 ct35 : Value}
    {od36 an36 : Option Addr} {sl36 : Array (Option Value)} {oc36 kV36 dc36 pm36 cd36 ct36 : Value}
    {od37 an37 : Option Addr} {sl37 : Array (Option Value)} {oc37 kV37 dc37 pm37 cd37 ct37 : Value}
    {od38 an38 : Option Addr} {sl38 : Array (Option Value)} {oc38 kV38 dc38 pm38 cd38 ct38 : Value}
    {od39 an39 : Option Addr} {sl39 : Array (Option Value)} {oc39 kV39 dc39 pm39 cd39 ct39 : Value}
    {od40 an40 : Option Addr} {sl40 : Array (Option Value)} {oc40 kV40 dc40 pm40 cd40 ct40 : Value}
    {tBEGIN : Tok}
    {tPERSON : Tok}
    {tCOMES : Tok}
    {tNEEDS : Tok}
    {tBEST : Tok}
    {tEXCHANGE : Tok}
    {tSOON : Tok}
    {tCOME : Tok}
    {tWATER : Tok}
    {tSWAP : Tok}
    {tLEAVE : Tok}
    {tORDER : Tok}
    {tNOT_AS_TOLD : Tok}
    {tNO_SUCH_ONE : Tok}
    {tROW_IS_FULL : Tok}
    {tTOO_FEW : Tok}
    {tNO_ROW : Tok}
    {tMOST_PEOPLE : Tok}
    {tMOST_MEASURES : Tok}
    {tMOST_BUCKETS : Tok}
    {tLAST_MOMENT : Tok}
    {tMOST_SPILLED : Tok}
    {tMOST_MOMENTS : Tok}
    {tMOST_PARTS : Tok}
    {odWHOLE_NUMBERS : Option Addr} {itWHOLE_NUMBERS : Array Value} {nWHOLE_NUMBERS : Nat} {slWHOLE_NUMBERS : Array (Option Value)}
    (aCPerson : PySem.W.nsIn K mainGlobals "Person" = some (some (.ref CPerson)))
    (pgCPerson : PySem.W.plainGet K CPerson Str.empty = true)
    (hdCPerson : PySem.W.hasDictIn K CPerson = true)
    (poCPerson : PySem.W.plainOver K CPerson = true)
    (saCPerson : PySem.W.findIn K (.ref CPerson) "__setattr__" = some (some (.builtin "object.__setattr__")))
    (mkCPerson : PySem.W.makesIn K CPerson = true)
    (kcCPerson : PySem.W.keepIn K (.ref CPerson) = true)
    (a1 : PySem.W.findIn K (.ref CPerson) "__init__" = some (some (.ref f1)))
    (i1 : PySem.W.isFn K (.ref f1) = true)
    (l1 : K.lookup f1 = some ⟨oc1, od1, .func (PySem.W.fnOf "__init__" "Person.__init__" (defArgs sInitP) (defBody sInitP) (defScope sInitP) .none kV1 dc1 pm1 an1 cd1 ct1), sl1⟩)
    (c1 : PySem.W.codeIn K cd1 "Person.__init__" = true)
    (k1 : PySem.W.keepIn K (.ref f1) = true)
    (aCAmount : PySem.W.nsIn K mainGlobals "Amount" = some (some (.ref CAmount)))
    (pgCAmount : PySem.W.plainGet K CAmount Str.empty = true)
    (hdCAmount : PySem.W.hasDictIn K CAmount = true)
    (poCAmount : PySem.W.plainOver K CAmount = true)
    (saCAmount : PySem.W.findIn K (.ref CAmount) "__setattr__" = some (some (.builtin "object.__setattr__")))
    (mkCAmount : PySem.W.makesIn K CAmount = true)
    (kcCAmount : PySem.W.keepIn K (.ref CAmount) = true)
    (a2 : PySem.W.findIn K (.ref CAmount) "__init__" = some (some (.ref f2)))
    (i2 : PySem.W.isFn K (.ref f2) = true)
    (l2 : K.lookup f2 = some ⟨oc2, od2, .func (PySem.W.fnOf "__init__" "Amount.__init__" (defArgs sInitA) (defBody sInitA) (defScope sInitA) .none kV2 dc2 pm2 an2 cd2 ct2), sl2⟩)
    (c2 : PySem.W.codeIn K cd2 "Amount.__init__" = true)
    (k2 : PySem.W.keepIn K (.ref f2) = true)
    (a3 : PySem.W.nsIn K mainGlobals "greatest_divisor" = some (some (.ref f3)))
    (l3 : K.lookup f3 = some ⟨oc3, od3, .func (PySem.W.fnOf "greatest_divisor" "greatest_divisor" (defArgs sGcd) (defBody sGcd) (defScope sGcd) .none kV3 dc3 pm3 an3 cd3 ct3), sl3⟩)
    (c3 : PySem.W.codeIn K cd3 "greatest_divisor" = true)
    (k3 : PySem.W.keepIn K (.ref f3) = true)
    (a4 : PySem.W.nsIn K mainGlobals "in_lowest_terms" = some (some (.ref f4)))
    (l4 : K.lookup f4 = some ⟨oc4, od4, .func (PySem.W.fnOf "in_lowest_terms" "in_lowest_terms" (defArgs sLow) (defBody sLow) (defScope sLow) .none kV4 dc4 pm4 an4 cd4 ct4), sl4⟩)
    (c4 : PySem.W.codeIn K cd4 "in_lowest_terms" = true)
    (k4 : PySem.W.keepIn K (.ref f4) = true)
    (a5 : PySem.W.nsIn K mainGlobals "is_more" = some (some (.ref f5)))
    (l5 : K.lookup f5 = some ⟨oc5, od5, .func (PySem.W.fnOf "is_more" "is_more" (defArgs sMore) (defBody sMore) (defScope sMore) .none kV5 dc5 pm5 an5 cd5 ct5), sl5⟩)
    (c5 : PySem.W.codeIn K cd5 "is_more" = true)
    (k5 : PySem.W.keepIn K (.ref f5) = true)
    (a6 : PySem.W.nsIn K mainGlobals "passed_on" = some (some (.ref f6)))
    (l6 : K.lookup f6 = some ⟨oc6, od6, .func (PySem.W.fnOf "passed_on" "passed_on" (defArgs sPassed) (defBody sPassed) (defScope sPassed) .none kV6 dc6 pm6 an6 cd6 ct6), sl6⟩)
    (c6 : PySem.W.codeIn K cd6 "passed_on" = true)
    (k6 : PySem.W.keepIn K (.ref f6) = true)
    (a7 : PySem.W.nsIn K mainGlobals "taken_to_pass_on" = some (some (.ref f7)))
    (l7 : K.lookup f7 = some ⟨oc7, od7, .func (PySem.W.fnOf "taken_to_pass_on" "taken_to_pass_on" (defArgs sTaken) (defBody sTaken) (defScope sTaken) .none kV7 dc7 pm7 an7 cd7 ct7), sl7⟩)
    (c7 : PySem.W.codeIn K cd7 "taken_to_pass_on" = true)
    (k7 : PySem.W.keepIn K (.ref f7) = true)
    (a8 : PySem.W.nsIn K mainGlobals "what_comes" = some (some (.ref f8)))
    (l8 : K.lookup f8 = some ⟨oc8, od8, .func (PySem.W.fnOf "what_comes" "what_comes" (defArgs sComes) (defBody sComes) (defScope sComes) .none kV8 dc8 pm8 an8 cd8 ct8), sl8⟩)
    (c8 : PySem.W.codeIn K cd8 "what_comes" = true)
    (k8 : PySem.W.keepIn K (.ref f8) = true)
    (a9 : PySem.W.nsIn K mainGlobals "what_is_needed" = some (some (.ref f9)))
    (l9 : K.lookup f9 = some ⟨oc9, od9, .func (PySem.W.fnOf "what_is_needed" "what_is_needed" (defArgs sNeeds) (defBody sNeeds) (defScope sNeeds) .none kV9 dc9 pm9 an9 cd9 ct9), sl9⟩)
    (c9 : PySem.W.codeIn K cd9 "what_is_needed" = true)
    (k9 : PySem.W.keepIn K (.ref f9) = true)
    (a10 : PySem.W.nsIn K mainGlobals "orders_one_longer" = some (some (.ref f10)))
    (l10 : K.lookup f10 = some ⟨oc10, od10, .func (PySem.W.fnOf "orders_one_longer" "orders_one_longer" (defArgs sLonger) (defBody sLonger) (defScope sLonger) .none kV10 dc10 pm10 an10 cd10 ct10), sl10⟩)
    (c10 : PySem.W.codeIn K cd10 "orders_one_longer" = true)
    (k10 : PySem.W.keepIn K (.ref f10) = true)
    (a11 : PySem.W.nsIn K mainGlobals "all_orders" = some (some (.ref f11)))
    (l11 : K.lookup f11 = some ⟨oc11, od11, .func (PySem.W.fnOf "all_orders" "all_orders" (defArgs sAllO) (defBody sAllO) (defScope sAllO) .none kV11 dc11 pm11 an11 cd11 ct11), sl11⟩)
    (c11 : PySem.W.codeIn K cd11 "all_orders" = true)
    (k11 : PySem.W.keepIn K (.ref f11) = true)
    (a12 : PySem.W.nsIn K mainGlobals "all_pairs" = some (some (.ref f12)))
    (l12 : K.lookup f12 = some ⟨oc12, od12, .func (PySem.W.fnOf "all_pairs" "all_pairs" (defArgs sAllP) (defBody sAllP) (defScope sAllP) .none kV12 dc12 pm12 an12 cd12 ct12), sl12⟩)
    (c12 : PySem.W.codeIn K cd12 "all_pairs" = true)
    (k12 : PySem.W.keepIn K (.ref f12) = true)
    (a13 : PySem.W.nsIn K mainGlobals "order_as_they_stand" = some (some (.ref f13)))
    (l13 : K.lookup f13 = some ⟨oc13, od13, .func (PySem.W.fnOf "order_as_they_stand" "order_as_they_stand" (defArgs sStand) (defBody sStand) (defScope sStand) .none kV13 dc13 pm13 an13 cd13 ct13), sl13⟩)
    (c13 : PySem.W.codeIn K cd13 "order_as_they_stand" = true)
    (k13 : PySem.W.keepIn K (.ref f13) = true)
    (a14 : PySem.W.nsIn K mainGlobals "order_with_exchanged" = some (some (.ref f14)))
    (l14 : K.lookup f14 = some ⟨oc14, od14, .func (PySem.W.fnOf "order_with_exchanged" "order_with_exchanged" (defArgs sSwapO) (defBody sSwapO) (defScope sSwapO) .none kV14 dc14 pm14 an14 cd14 ct14), sl14⟩)
    (c14 : PySem.W.codeIn K cd14 "order_with_exchanged" = true)
    (k14 : PySem.W.keepIn K (.ref f14) = true)
    (a15 : PySem.W.nsIn K mainGlobals "place_of_best" = some (some (.ref f15)))
    (l15 : K.lookup f15 = some ⟨oc15, od15, .func (PySem.W.fnOf "place_of_best" "place_of_best" (defArgs sPlace) (defBody sPlace) (defScope sPlace) .none kV15 dc15 pm15 an15 cd15 ct15), sl15⟩)
    (c15 : PySem.W.codeIn K cd15 "place_of_best" = true)
    (k15 : PySem.W.keepIn K (.ref f15) = true)
    (a16 : PySem.W.nsIn K mainGlobals "best_order" = some (some (.ref f16)))
    (l16 : K.lookup f16 = some ⟨oc16, od16, .func (PySem.W.fnOf "best_order" "best_order" (defArgs sBestO) (defBody sBestO) (defScope sBestO) .none kV16 dc16 pm16 an16 cd16 ct16), sl16⟩)
    (c16 : PySem.W.codeIn K cd16 "best_order" = true)
    (k16 : PySem.W.keepIn K (.ref f16) = true)
    (a17 : PySem.W.nsIn K mainGlobals "standing_in" = some (some (.ref f17)))
    (l17 : K.lookup f17 = some ⟨oc17, od17, .func (PySem.W.fnOf "standing_in" "standing_in" (defArgs sStandIn) (defBody sStandIn) (defScope sStandIn) .none kV17 dc17 pm17 an17 cd17 ct17), sl17⟩)
    (c17 : PySem.W.codeIn K cd17 "standing_in" = true)
    (k17 : PySem.W.keepIn K (.ref f17) = true)
    (a18 : PySem.W.nsIn K mainGlobals "slowest_time" = some (some (.ref f18)))
    (l18 : K.lookup f18 = some ⟨oc18, od18, .func (PySem.W.fnOf "slowest_time" "slowest_time" (defArgs sSlow) (defBody sSlow) (defScope sSlow) .none kV18 dc18 pm18 an18 cd18 ct18), sl18⟩)
    (c18 : PySem.W.codeIn K cd18 "slowest_time" = true)
    (k18 : PySem.W.keepIn K (.ref f18) = true)
    (a19 : PySem.W.nsIn K mainGlobals "moment_of_coming" = some (some (.ref f19)))
    (l19 : K.lookup f19 = some ⟨oc19, od19, .func (PySem.W.fnOf "moment_of_coming" "moment_of_coming" (defArgs sMoment) (defBody sMoment) (defScope sMoment) .none kV19 dc19 pm19 an19 cd19 ct19), sl19⟩)
    (c19 : PySem.W.codeIn K cd19 "moment_of_coming" = true)
    (k19 : PySem.W.keepIn K (.ref f19) = true)
    (a20 : PySem.W.nsIn K mainGlobals "how_many_come" = some (some (.ref f20)))
    (l20 : K.lookup f20 = some ⟨oc20, od20, .func (PySem.W.fnOf "how_many_come" "how_many_come" (defArgs sHowMany) (defBody sHowMany) (defScope sHowMany) .none kV20 dc20 pm20 an20 cd20 ct20), sl20⟩)
    (c20 : PySem.W.codeIn K cd20 "how_many_come" = true)
    (k20 : PySem.W.keepIn K (.ref f20) = true)
    (a21 : PySem.W.nsIn K mainGlobals "what_has_come" = some (some (.ref f21)))
    (l21 : K.lookup f21 = some ⟨oc21, od21, .func (PySem.W.fnOf "what_has_come" "what_has_come" (defArgs sHasCome) (defBody sHasCome) (defScope sHasCome) .none kV21 dc21 pm21 an21 cd21 ct21), sl21⟩)
    (c21 : PySem.W.codeIn K cd21 "what_has_come" = true)
    (k21 : PySem.W.keepIn K (.ref f21) = true)
    (a22 : PySem.W.nsIn K mainGlobals "is_as_told" = some (some (.ref f22)))
    (l22 : K.lookup f22 = some ⟨oc22, od22, .func (PySem.W.fnOf "is_as_told" "is_as_told" (defArgs sTold) (defBody sTold) (defScope sTold) .none kV22 dc22 pm22 an22 cd22 ct22), sl22⟩)
    (c22 : PySem.W.codeIn K cd22 "is_as_told" = true)
    (k22 : PySem.W.keepIn K (.ref f22) = true)
    (a23 : PySem.W.nsIn K mainGlobals "is_order" = some (some (.ref f23)))
    (l23 : K.lookup f23 = some ⟨oc23, od23, .func (PySem.W.fnOf "is_order" "is_order" (defArgs sIsOrd) (defBody sIsOrd) (defScope sIsOrd) .none kV23 dc23 pm23 an23 cd23 ct23), sl23⟩)
    (c23 : PySem.W.codeIn K cd23 "is_order" = true)
    (k23 : PySem.W.keepIn K (.ref f23) = true)
    (aCLine : PySem.W.nsIn K mainGlobals "Line" = some (some (.ref CLine)))
    (pgCLine : PySem.W.plainGet K CLine Str.empty = true)
    (hdCLine : PySem.W.hasDictIn K CLine = true)
    (poCLine : PySem.W.plainOver K CLine = true)
    (saCLine : PySem.W.findIn K (.ref CLine) "__setattr__" = some (some (.builtin "object.__setattr__")))
    (mkCLine : PySem.W.makesIn K CLine = true)
    (kcCLine : PySem.W.keepIn K (.ref CLine) = true)
    (a24 : PySem.W.findIn K (.ref CLine) "__init__" = some (some (.ref f24)))
    (i24 : PySem.W.isFn K (.ref f24) = true)
    (l24 : K.lookup f24 = some ⟨oc24, od24, .func (PySem.W.fnOf "__init__" "Line.__init__" (defArgs sInitL) (defBody sInitL) (defScope sInitL) .none kV24 dc24 pm24 an24 cd24 ct24), sl24⟩)
    (c24 : PySem.W.codeIn K cd24 "Line.__init__" = true)
    (k24 : PySem.W.keepIn K (.ref f24) = true)
    (a25 : PySem.W.findIn K (.ref CLine) "begin" = some (some (.ref f25)))
    (i25 : PySem.W.isFn K (.ref f25) = true)
    (l25 : K.lookup f25 = some ⟨oc25, od25, .func (PySem.W.fnOf "begin" "Line.begin" (defArgs sBegin) (defBody sBegin) (defScope sBegin) .none kV25 dc25 pm25 an25 cd25 ct25), sl25⟩)
    (c25 : PySem.W.codeIn K cd25 "Line.begin" = true)
    (k25 : PySem.W.keepIn K (.ref f25) = true)
    (a26 : PySem.W.findIn K (.ref CLine) "person" = some (some (.ref f26)))
    (i26 : PySem.W.isFn K (.ref f26) = true)
    (l26 : K.lookup f26 = some ⟨oc26, od26, .func (PySem.W.fnOf "person" "Line.person" (defArgs sPerson) (defBody sPerson) (defScope sPerson) .none kV26 dc26 pm26 an26 cd26 ct26), sl26⟩)
    (c26 : PySem.W.codeIn K cd26 "Line.person" = true)
    (k26 : PySem.W.keepIn K (.ref f26) = true)
    (a27 : PySem.W.findIn K (.ref CLine) "comes" = some (some (.ref f27)))
    (i27 : PySem.W.isFn K (.ref f27) = true)
    (l27 : K.lookup f27 = some ⟨oc27, od27, .func (PySem.W.fnOf "comes" "Line.comes" (defArgs sMComes) (defBody sMComes) (defScope sMComes) .none kV27 dc27 pm27 an27 cd27 ct27), sl27⟩)
    (c27 : PySem.W.codeIn K cd27 "Line.comes" = true)
    (k27 : PySem.W.keepIn K (.ref f27) = true)
    (a28 : PySem.W.findIn K (.ref CLine) "needs" = some (some (.ref f28)))
    (i28 : PySem.W.isFn K (.ref f28) = true)
    (l28 : K.lookup f28 = some ⟨oc28, od28, .func (PySem.W.fnOf "needs" "Line.needs" (defArgs sMNeeds) (defBody sMNeeds) (defScope sMNeeds) .none kV28 dc28 pm28 an28 cd28 ct28), sl28⟩)
    (c28 : PySem.W.codeIn K cd28 "Line.needs" = true)
    (k28 : PySem.W.keepIn K (.ref f28) = true)
    (a29 : PySem.W.findIn K (.ref CLine) "best" = some (some (.ref f29)))
    (i29 : PySem.W.isFn K (.ref f29) = true)
    (l29 : K.lookup f29 = some ⟨oc29, od29, .func (PySem.W.fnOf "best" "Line.best" (defArgs sMBest) (defBody sMBest) (defScope sMBest) .none kV29 dc29 pm29 an29 cd29 ct29), sl29⟩)
    (c29 : PySem.W.codeIn K cd29 "Line.best" = true)
    (k29 : PySem.W.keepIn K (.ref f29) = true)
    (a30 : PySem.W.findIn K (.ref CLine) "exchange" = some (some (.ref f30)))
    (i30 : PySem.W.isFn K (.ref f30) = true)
    (l30 : K.lookup f30 = some ⟨oc30, od30, .func (PySem.W.fnOf "exchange" "Line.exchange" (defArgs sMExch) (defBody sMExch) (defScope sMExch) .none kV30 dc30 pm30 an30 cd30 ct30), sl30⟩)
    (c30 : PySem.W.codeIn K cd30 "Line.exchange" = true)
    (k30 : PySem.W.keepIn K (.ref f30) = true)
    (a31 : PySem.W.findIn K (.ref CLine) "soon" = some (some (.ref f31)))
    (i31 : PySem.W.isFn K (.ref f31) = true)
    (l31 : K.lookup f31 = some ⟨oc31, od31, .func (PySem.W.fnOf "soon" "Line.soon" (defArgs sMSoon) (defBody sMSoon) (defScope sMSoon) .none kV31 dc31 pm31 an31 cd31 ct31), sl31⟩)
    (c31 : PySem.W.codeIn K cd31 "Line.soon" = true)
    (k31 : PySem.W.keepIn K (.ref f31) = true)
    (a32 : PySem.W.findIn K (.ref CLine) "come" = some (some (.ref f32)))
    (i32 : PySem.W.isFn K (.ref f32) = true)
    (l32 : K.lookup f32 = some ⟨oc32, od32, .func (PySem.W.fnOf "come" "Line.come" (defArgs sMCome) (defBody sMCome) (defScope sMCome) .none kV32 dc32 pm32 an32 cd32 ct32), sl32⟩)
    (c32 : PySem.W.codeIn K cd32 "Line.come" = true)
    (k32 : PySem.W.keepIn K (.ref f32) = true)
    (a33 : PySem.W.findIn K (.ref CLine) "water" = some (some (.ref f33)))
    (i33 : PySem.W.isFn K (.ref f33) = true)
    (l33 : K.lookup f33 = some ⟨oc33, od33, .func (PySem.W.fnOf "water" "Line.water" (defArgs sMWater) (defBody sMWater) (defScope sMWater) .none kV33 dc33 pm33 an33 cd33 ct33), sl33⟩)
    (c33 : PySem.W.codeIn K cd33 "Line.water" = true)
    (k33 : PySem.W.keepIn K (.ref f33) = true)
    (a34 : PySem.W.findIn K (.ref CLine) "swap" = some (some (.ref f34)))
    (i34 : PySem.W.isFn K (.ref f34) = true)
    (l34 : K.lookup f34 = some ⟨oc34, od34, .func (PySem.W.fnOf "swap" "Line.swap" (defArgs sMSwap) (defBody sMSwap) (defScope sMSwap) .none kV34 dc34 pm34 an34 cd34 ct34), sl34⟩)
    (c34 : PySem.W.codeIn K cd34 "Line.swap" = true)
    (k34 : PySem.W.keepIn K (.ref f34) = true)
    (a35 : PySem.W.findIn K (.ref CLine) "leave" = some (some (.ref f35)))
    (i35 : PySem.W.isFn K (.ref f35) = true)
    (l35 : K.lookup f35 = some ⟨oc35, od35, .func (PySem.W.fnOf "leave" "Line.leave" (defArgs sMLeave) (defBody sMLeave) (defScope sMLeave) .none kV35 dc35 pm35 an35 cd35 ct35), sl35⟩)
    (c35 : PySem.W.codeIn K cd35 "Line.leave" = true)
    (k35 : PySem.W.keepIn K (.ref f35) = true)
    (a36 : PySem.W.findIn K (.ref CLine) "reorder" = some (some (.ref f36)))
    (i36 : PySem.W.isFn K (.ref f36) = true)
    (l36 : K.lookup f36 = some ⟨oc36, od36, .func (PySem.W.fnOf "reorder" "Line.reorder" (defArgs sMOrder) (defBody sMOrder) (defScope sMOrder) .none kV36 dc36 pm36 an36 cd36 ct36), sl36⟩)
    (c36 : PySem.W.codeIn K cd36 "Line.reorder" = true)
    (k36 : PySem.W.keepIn K (.ref f36) = true)
    (a37 : PySem.W.findIn K (.ref CLine) "look" = some (some (.ref f37)))
    (i37 : PySem.W.isFn K (.ref f37) = true)
    (l37 : K.lookup f37 = some ⟨oc37, od37, .func (PySem.W.fnOf "look" "Line.look" (defArgs sMLook) (defBody sMLook) (defScope sMLook) .none kV37 dc37 pm37 an37 cd37 ct37), sl37⟩)
    (c37 : PySem.W.codeIn K cd37 "Line.look" = true)
    (k37 : PySem.W.keepIn K (.ref f37) = true)
    (a38 : PySem.W.nsIn K mainGlobals "answer_to" = some (some (.ref f38)))
    (l38 : K.lookup f38 = some ⟨oc38, od38, .func (PySem.W.fnOf "answer_to" "answer_to" (defArgs sTo) (defBody sTo) (defScope sTo) .none kV38 dc38 pm38 an38 cd38 ct38), sl38⟩)
    (c38 : PySem.W.codeIn K cd38 "answer_to" = true)
    (k38 : PySem.W.keepIn K (.ref f38) = true)
    (a39 : PySem.W.nsIn K mainGlobals "end_of_call" = some (some (.ref f39)))
    (l39 : K.lookup f39 = some ⟨oc39, od39, .func (PySem.W.fnOf "end_of_call" "end_of_call" (defArgs sEnd) (defBody sEnd) (defScope sEnd) .none kV39 dc39 pm39 an39 cd39 ct39), sl39⟩)
    (c39 : PySem.W.codeIn K cd39 "end_of_call" = true)
    (k39 : PySem.W.keepIn K (.ref f39) = true)
    (a40 : PySem.W.nsIn K mainGlobals "answers" = some (some (.ref f40)))
    (l40 : K.lookup f40 = some ⟨oc40, od40, .func (PySem.W.fnOf "answers" "answers" (defArgs sAns) (defBody sAns) (defScope sAns) .none kV40 dc40 pm40 an40 cd40 ct40), sl40⟩)
    (c40 : PySem.W.codeIn K cd40 "answers" = true)
    (k40 : PySem.W.keepIn K (.ref f40) = true)
    (gBEGIN : PySem.W.nsIn K mainGlobals "BEGIN" = some (some (.int (0) tBEGIN)))
    (gPERSON : PySem.W.nsIn K mainGlobals "PERSON" = some (some (.int (1) tPERSON)))
    (gCOMES : PySem.W.nsIn K mainGlobals "COMES" = some (some (.int (2) tCOMES)))
    (gNEEDS : PySem.W.nsIn K mainGlobals "NEEDS" = some (some (.int (3) tNEEDS)))
    (gBEST : PySem.W.nsIn K mainGlobals "BEST" = some (some (.int (4) tBEST)))
    (gEXCHANGE : PySem.W.nsIn K mainGlobals "EXCHANGE" = some (some (.int (5) tEXCHANGE)))
    (gSOON : PySem.W.nsIn K mainGlobals "SOON" = some (some (.int (6) tSOON)))
    (gCOME : PySem.W.nsIn K mainGlobals "COME" = some (some (.int (7) tCOME)))
    (gWATER : PySem.W.nsIn K mainGlobals "WATER" = some (some (.int (8) tWATER)))
    (gSWAP : PySem.W.nsIn K mainGlobals "SWAP" = some (some (.int (9) tSWAP)))
    (gLEAVE : PySem.W.nsIn K mainGlobals "LEAVE" = some (some (.int (10) tLEAVE)))
    (gORDER : PySem.W.nsIn K mainGlobals "ORDER" = some (some (.int (11) tORDER)))
    (gNOT_AS_TOLD : PySem.W.nsIn K mainGlobals "NOT_AS_TOLD" = some (some (.int (-1) tNOT_AS_TOLD)))
    (gNO_SUCH_ONE : PySem.W.nsIn K mainGlobals "NO_SUCH_ONE" = some (some (.int (-2) tNO_SUCH_ONE)))
    (gROW_IS_FULL : PySem.W.nsIn K mainGlobals "ROW_IS_FULL" = some (some (.int (-5) tROW_IS_FULL)))
    (gTOO_FEW : PySem.W.nsIn K mainGlobals "TOO_FEW" = some (some (.int (-6) tTOO_FEW)))
    (gNO_ROW : PySem.W.nsIn K mainGlobals "NO_ROW" = some (some (.int (-9) tNO_ROW)))
    (gMOST_PEOPLE : PySem.W.nsIn K mainGlobals "MOST_PEOPLE" = some (some (.int (6) tMOST_PEOPLE)))
    (gMOST_MEASURES : PySem.W.nsIn K mainGlobals "MOST_MEASURES" = some (some (.int (1000) tMOST_MEASURES)))
    (gMOST_BUCKETS : PySem.W.nsIn K mainGlobals "MOST_BUCKETS" = some (some (.int (1000) tMOST_BUCKETS)))
    (gLAST_MOMENT : PySem.W.nsIn K mainGlobals "LAST_MOMENT" = some (some (.int (100000) tLAST_MOMENT)))
    (gMOST_SPILLED : PySem.W.nsIn K mainGlobals "MOST_SPILLED" = some (some (.int (50) tMOST_SPILLED)))
    (gMOST_MOMENTS : PySem.W.nsIn K mainGlobals "MOST_MOMENTS" = some (some (.int (50) tMOST_MOMENTS)))
    (gMOST_PARTS : PySem.W.nsIn K mainGlobals "MOST_PARTS" = some (some (.int (9) tMOST_PARTS)))
    (gWHOLE_NUMBERS : PySem.W.nsIn K mainGlobals "WHOLE_NUMBERS" = some (some (.ref WWHOLE_NUMBERS)))
    (lWHOLE_NUMBERS : K.lookup WWHOLE_NUMBERS = some ⟨.type "tuple", odWHOLE_NUMBERS, .seq itWHOLE_NUMBERS nWHOLE_NUMBERS, slWHOLE_NUMBERS⟩)
    (zWHOLE_NUMBERS : itWHOLE_NUMBERS.size ≤ sizeLine)
    (vWHOLE_NUMBERS : Vals (([0, 4, 1, 1, 1, 1, 1, 1, 2, 2, 1, 1, 0] : List Int).map V.int) itWHOLE_NUMBERS.toList)
    (zenumerate : PySem.W.nsIn K mainGlobals "enumerate" = some none)
    (zlen : PySem.W.nsIn K mainGlobals "len" = some none)
    (zlist : PySem.W.nsIn K mainGlobals "list" = some none)
    (zmax : PySem.W.nsIn K mainGlobals "max" = some none)
    (zrange : PySem.W.nsIn K mainGlobals "range" = some none)
    (zreversed : PySem.W.nsIn K mainGlobals "reversed" = some none)
    (zsum : PySem.W.nsIn K mainGlobals "sum" = some none)
    (nPerson_spills : PySem.W.findIn K (.ref CPerson) "spills" = some none)
    (nPerson_a : PySem.W.findIn K (.ref CPerson) "a" = some none)
    (nPerson_b : PySem.W.findIn K (.ref CPerson) "b" = some none)
    (nPerson_moments : PySem.W.findIn K (.ref CPerson) "moments" = some none)
    (nAmount_divided : PySem.W.findIn K (.ref CAmount) "divided" = some none)
    (nAmount_by : PySem.W.findIn K (.ref CAmount) "by" = some none)
    (nLine_people : PySem.W.findIn K (.ref CLine) "people" = some none)
    : ∃ fd : FuncData, (∀ (s : Shared) (us : List Value), us.length = (["calls"] : List Str).length → BindsTo s fd ⟨us, []⟩ ((["calls"] : List Str).zip us)) ∧ ∀ base : Heap, K.In base → base.Ns mainGlobals mg → FnOk P w K mg base CX0 9 fa fd ["calls"] (spAns K) := by
  have e := hfa.symm.trans (PySem.W.mg_of X G a40)
  cases e
  have TP : TxtP K CPerson := ⟨⟨pgCPerson, hdCPerson, poCPerson, saCPerson⟩, nPerson_spills, nPerson_a, nPerson_b, nPerson_moments⟩
  have TA : TxtA K CAmount := ⟨⟨pgCAmount, hdCAmount, poCAmount, saCAmount⟩, nAmount_divided, nAmount_by⟩
  have TL : TxtL K CLine := ⟨⟨pgCLine, hdCLine, poCLine, saCLine⟩, nLine_people⟩
  have qenumerate : mg "enumerate" = none := PySem.W.mg_none_of X G zenumerate
  have qlen : mg "len" = none := PySem.W.mg_none_of X G zlen
  have qlist : mg "list" = none := PySem.W.mg_none_of X G zlist
  have qmax : mg "max" = none := PySem.W.mg_none_of X G zmax
  have qrange : mg "range" = none := PySem.W.mg_none_of X G zrange
  have qreversed : mg "reversed" = none := PySem.W.mg_none_of X G zreversed
  have qsum : mg "sum" = none := PySem.W.mg_none_of X G zsum
  have rBEGIN : Con1 mg "BEGIN" (0) := ⟨_, PySem.W.mg_of X G gBEGIN⟩
  have rPERSON : Con1 mg "PERSON" (1) := ⟨_, PySem.W.mg_of X G gPERSON⟩
  have rCOMES : Con1 mg "COMES" (2) := ⟨_, PySem.W.mg_of X G gCOMES⟩
  have rNEEDS : Con1 mg "NEEDS" (3) := ⟨_, PySem.W.mg_of X G gNEEDS⟩
  have rBEST : Con1 mg "BEST" (4) := ⟨_, PySem.W.mg_of X G gBEST⟩
  have rEXCHANGE : Con1 mg "EXCHANGE" (5) := ⟨_, PySem.W.mg_of X G gEXCHANGE⟩
  have rSOON : Con1 mg "SOON" (6) := ⟨_, PySem.W.mg_of X G gSOON⟩
  have rCOME : Con1 mg "COME" (7) := ⟨_, PySem.W.mg_of X G gCOME⟩
  have rWATER : Con1 mg "WATER" (8) := ⟨_, PySem.W.mg_of X G gWATER⟩
  have rSWAP : Con1 mg "SWAP" (9) := ⟨_, PySem.W.mg_of X G gSWAP⟩
  have rLEAVE : Con1 mg "LEAVE" (10) := ⟨_, PySem.W.mg_of X G gLEAVE⟩
  have rORDER : Con1 mg "ORDER" (11) := ⟨_, PySem.W.mg_of X G gORDER⟩
  have rNOT_AS_TOLD : Con1 mg "NOT_AS_TOLD" (-1) := ⟨_, PySem.W.mg_of X G gNOT_AS_TOLD⟩
  have rNO_SUCH_ONE : Con1 mg "NO_SUCH_ONE" (-2) := ⟨_, PySem.W.mg_of X G gNO_SUCH_ONE⟩
  have rROW_IS_FULL : Con1 mg "ROW_IS_FULL" (-5) := ⟨_, PySem.W.mg_of X G gROW_IS_FULL⟩
  have rTOO_FEW : Con1 mg "TOO_FEW" (-6) := ⟨_, PySem.W.mg_of X G gTOO_FEW⟩
  have rNO_ROW : Con1 mg "NO_ROW" (-9) := ⟨_, PySem.W.mg_of X G gNO_ROW⟩
  have rMOST_PEOPLE : Con1 mg "MOST_PEOPLE" (6) := ⟨_, PySem.W.mg_of X G gMOST_PEOPLE⟩
  have rMOST_MEASURES : Con1 mg "MOST_MEASURES" (1000) := ⟨_, PySem.W.mg_of X G gMOST_MEASURES⟩
  have rMOST_BUCKETS : Con1 mg "MOST_BUCKETS" (1000) := ⟨_, PySem.W.mg_of X G gMOST_BUCKETS⟩
  have rLAST_MOMENT : Con1 mg "LAST_MOMENT" (100000) := ⟨_, PySem.W.mg_of X G gLAST_MOMENT⟩
  have rMOST_SPILLED : Con1 mg "MOST_SPILLED" (50) := ⟨_, PySem.W.mg_of X G gMOST_SPILLED⟩
  have rMOST_MOMENTS : Con1 mg "MOST_MOMENTS" (50) := ⟨_, PySem.W.mg_of X G gMOST_MOMENTS⟩
  have rMOST_PARTS : Con1 mg "MOST_PARTS" (9) := ⟨_, PySem.W.mg_of X G gMOST_PARTS⟩
  have rWHOLE_NUMBERS : Tab K mg "WHOLE_NUMBERS" [0, 4, 1, 1, 1, 1, 1, 1, 2, 2, 1, 1, 0] := ⟨_, _, _, _, PySem.W.mg_of X G gWHOLE_NUMBERS, lWHOLE_NUMBERS, rfl, rfl, zWHOLE_NUMBERS, vWHOLE_NUMBERS⟩
  have F1 := fun_mk (st := sInitP) l1 c1 k1
  have b1 := F1.binds (ps := ["self", "spills", "a", "b", "moments"]) fun _ _ _ _ _ _ us hl => match us, hl with | [_, _, _, _, _], _ => rfl
  have q_Person : ∀ base : Heap, MkC P w K mg base 1 "Person" CPerson ["self", "spills", "a", "b", "moments"] (spInitP CPerson) := fun base => ⟨_, _, ok_initP F1 TP, ⟨mkCPerson, a1, i1, kcCPerson⟩, PySem.W.mg_of X G aCPerson, b1⟩
  have F2 := fun_mk (st := sInitA) l2 c2 k2
  have b2 := F2.binds (ps := ["self", "divided", "by"]) fun _ _ _ _ _ _ us hl => match us, hl with | [_, _, _], _ => rfl
  have q_Amount : ∀ base : Heap, MkC P w K mg base 1 "Amount" CAmount ["self", "divided", "by"] (spInitA CAmount) := fun base => ⟨_, _, ok_initA F2 TA, ⟨mkCAmount, a2, i2, kcCAmount⟩, PySem.W.mg_of X G aCAmount, b2⟩
  have F3 := fun_mk (st := sGcd) l3 c3 k3
  have b3 := F3.binds (ps := ["one", "other"]) fun _ _ _ _ _ _ us hl => match us, hl with | [_, _], _ => rfl
  have q_greatest_divisor : ∀ base : Heap, Cal P w K mg base 1 "greatest_divisor" ["one", "other"] (spGcd) := fun base => ⟨_, _, ok_gcd F3, PySem.W.mg_of X G a3, k3, b3⟩
  have F4 := fun_mk (st := sLow) l4 c4 k4
  have b4 := F4.binds (ps := ["amount"]) fun _ _ _ _ _ _ us hl => match us, hl with | [_], _ => rfl
  have q_in_lowest_terms : ∀ base : Heap, Cal P w K mg base 2 "in_lowest_terms" ["amount"] (spLow CAmount) := fun base => ⟨_, _, ok_low F4 TA (q_greatest_divisor base), PySem.W.mg_of X G a4, k4, b4⟩
  have F5 := fun_mk (st := sMore) l5 c5 k5
  have b5 := F5.binds (ps := ["one", "other"]) fun _ _ _ _ _ _ us hl => match us, hl with | [_, _], _ => rfl
  have q_is_more : ∀ base : Heap, Cal P w K mg base 1 "is_more" ["one", "other"] (spMore CAmount) := fun base => ⟨_, _, ok_more F5 TA, PySem.W.mg_of X G a5, k5, b5⟩
  have F6 := fun_mk (st := sPassed) l6 c6 k6
  have b6 := F6.binds (ps := ["amount", "person"]) fun _ _ _ _ _ _ us hl => match us, hl with | [_, _], _ => rfl
  have q_passed_on : ∀ base : Heap, Cal P w K mg base 3 "passed_on" ["amount", "person"] (spPassed CPerson CAmount passU) := fun base => ⟨_, _, ok_passed F6 TP TA (q_Amount base), PySem.W.mg_of X G a6, k6, b6⟩
  have F7 := fun_mk (st := sTaken) l7 c7 k7
  have b7 := F7.binds (ps := ["amount", "person"]) fun _ _ _ _ _ _ us hl => match us, hl with | [_, _], _ => rfl
  have q_taken_to_pass_on : ∀ base : Heap, Cal P w K mg base 3 "taken_to_pass_on" ["amount", "person"] (spPassed CPerson CAmount needU) := fun base => ⟨_, _, ok_taken F7 TP TA (q_Amount base), PySem.W.mg_of X G a7, k7, b7⟩
  have F8 := fun_mk (st := sComes) l8 c8 k8
  have b8 := F8.binds (ps := ["people", "order", "measures"]) fun _ _ _ _ _ _ us hl => match us, hl with | [_, _, _], _ => rfl
  have q_what_comes : ∀ base : Heap, Cal P w K mg base 4 "what_comes" ["people", "order", "measures"] (spAlong K CPerson CAmount comesU) := fun base => ⟨_, _, ok_comes F8 (q_Amount base) (q_passed_on base), PySem.W.mg_of X G a8, k8, b8⟩
  have F9 := fun_mk (st := sNeeds) l9 c9 k9
  have b9 := F9.binds (ps := ["people", "order", "measures"]) fun _ _ _ _ _ _ us hl => match us, hl with | [_, _, _], _ => rfl
  have q_what_is_needed : ∀ base : Heap, Cal P w K mg base 4 "what_is_needed" ["people", "order", "measures"] (spAlong K CPerson CAmount needsU) := fun base => ⟨_, _, ok_needs F9 qreversed (q_Amount base) (q_taken_to_pass_on base), PySem.W.mg_of X G a9, k9, b9⟩
  have F10 := fun_mk (st := sLonger) l10 c10 k10
  have b10 := F10.binds (ps := ["orders", "count"]) fun _ _ _ _ _ _ us hl => match us, hl with | [_, _], _ => rfl
  have q_orders_one_longer : ∀ base : Heap, Cal P w K mg base 1 "orders_one_longer" ["orders", "count"] (spLonger) := fun base => ⟨_, _, ok_longer F10 qrange, PySem.W.mg_of X G a10, k10, b10⟩
  have F11 := fun_mk (st := sAllO) l11 c11 k11
  have b11 := F11.binds (ps := ["count"]) fun _ _ _ _ _ _ us hl => match us, hl with | [_], _ => rfl
  have q_all_orders : ∀ base : Heap, Cal P w K mg base 2 "all_orders" ["count"] (spAllO) := fun base => ⟨_, _, ok_allO F11 qrange (q_orders_one_longer base), PySem.W.mg_of X G a11, k11, b11⟩
  have F12 := fun_mk (st := sAllP) l12 c12 k12
  have b12 := F12.binds (ps := ["count"]) fun _ _ _ _ _ _ us hl => match us, hl with | [_], _ => rfl
  have q_all_pairs : ∀ base : Heap, Cal P w K mg base 1 "all_pairs" ["count"] (spAllP) := fun base => ⟨_, _, ok_allP F12 qrange, PySem.W.mg_of X G a12, k12, b12⟩
  have F13 := fun_mk (st := sStand) l13 c13 k13
  have b13 := F13.binds (ps := ["people"]) fun _ _ _ _ _ _ us hl => match us, hl with | [_], _ => rfl
  have q_order_as_they_stand : ∀ base : Heap, Cal P w K mg base 1 "order_as_they_stand" ["people"] (spStand CPerson) := fun base => ⟨_, _, ok_stand F13 qrange qlist qlen, PySem.W.mg_of X G a13, k13, b13⟩
  have F14 := fun_mk (st := sSwapO) l14 c14 k14
  have b14 := F14.binds (ps := ["people", "pair"]) fun _ _ _ _ _ _ us hl => match us, hl with | [_, _], _ => rfl
  have q_order_with_exchanged : ∀ base : Heap, Cal P w K mg base 2 "order_with_exchanged" ["people", "pair"] (spSwapO CPerson) := fun base => ⟨_, _, ok_swapO F14 (q_order_as_they_stand base), PySem.W.mg_of X G a14, k14, b14⟩
  have F15 := fun_mk (st := sPlace) l15 c15 k15
  have b15 := F15.binds (ps := ["people", "orders", "measures"]) fun _ _ _ _ _ _ us hl => match us, hl with | [_, _, _], _ => rfl
  have q_place_of_best : ∀ base : Heap, Cal P w K mg base 5 "place_of_best" ["people", "orders", "measures"] (spPlace CPerson) := fun base => ⟨_, _, ok_place F15 qenumerate (q_what_comes base) (q_is_more base), PySem.W.mg_of X G a15, k15, b15⟩
  have F16 := fun_mk (st := sBestO) l16 c16 k16
  have b16 := F16.binds (ps := ["people", "measures"]) fun _ _ _ _ _ _ us hl => match us, hl with | [_, _], _ => rfl
  have q_best_order : ∀ base : Heap, Cal P w K mg base 6 "best_order" ["people", "measures"] (spBestO CPerson) := fun base => ⟨_, _, ok_bestO F16 qlen (q_all_orders base) (q_place_of_best base), PySem.W.mg_of X G a16, k16, b16⟩
  have F17 := fun_mk (st := sStandIn) l17 c17 k17
  have b17 := F17.binds (ps := ["people", "order"]) fun _ _ _ _ _ _ us hl => match us, hl with | [_, _], _ => rfl
  have q_standing_in : ∀ base : Heap, Cal P w K mg base 1 "standing_in" ["people", "order"] (spStandIn K CPerson) := fun base => ⟨_, _, ok_standIn F17, PySem.W.mg_of X G a17, k17, b17⟩
  have F18 := fun_mk (st := sSlow) l18 c18 k18
  have b18 := F18.binds (ps := ["people"]) fun _ _ _ _ _ _ us hl => match us, hl with | [_], _ => rfl
  have q_slowest_time : ∀ base : Heap, Cal P w K mg base 1 "slowest_time" ["people"] (spSlow CPerson) := fun base => ⟨_, _, ok_slow F18 TP qmax, PySem.W.mg_of X G a18, k18, b18⟩
  have F19 := fun_mk (st := sMoment) l19 c19 k19
  have b19 := F19.binds (ps := ["people", "k"]) fun _ _ _ _ _ _ us hl => match us, hl with | [_, _], _ => rfl
  have q_moment_of_coming : ∀ base : Heap, Cal P w K mg base 2 "moment_of_coming" ["people", "k"] (spMoment CPerson) := fun base => ⟨_, _, ok_moment F19 TP qsum (q_slowest_time base), PySem.W.mg_of X G a19, k19, b19⟩
  have F20 := fun_mk (st := sHowMany) l20 c20 k20
  have b20 := F20.binds (ps := ["people", "moment"]) fun _ _ _ _ _ _ us hl => match us, hl with | [_, _], _ => rfl
  have q_how_many_come : ∀ base : Heap, Cal P w K mg base 3 "how_many_come" ["people", "moment"] (spHowMany CPerson) := fun base => ⟨_, _, ok_howMany F20 qlen (q_moment_of_coming base) (q_slowest_time base), PySem.W.mg_of X G a20, k20, b20⟩
  have F21 := fun_mk (st := sHasCome) l21 c21 k21
  have b21 := F21.binds (ps := ["people", "measures", "moment"]) fun _ _ _ _ _ _ us hl => match us, hl with | [_, _, _], _ => rfl
  have q_what_has_come : ∀ base : Heap, Cal P w K mg base 5 "what_has_come" ["people", "measures", "moment"] (spHasCome CPerson CAmount) := fun base => ⟨_, _, ok_hasCome F21 TA (q_what_comes base) (q_order_as_they_stand base) (q_how_many_come base) (q_Amount base), PySem.W.mg_of X G a21, k21, b21⟩
  have F22 := fun_mk (st := sTold) l22 c22 k22
  have b22 := F22.binds (ps := ["spills", "a", "b", "moments"]) fun _ _ _ _ _ _ us hl => match us, hl with | [_, _, _, _], _ => rfl
  have q_is_as_told : ∀ base : Heap, Cal P w K mg base 1 "is_as_told" ["spills", "a", "b", "moments"] (spTold) := fun base => ⟨_, _, ok_told F22 rMOST_SPILLED rMOST_PARTS rMOST_MOMENTS, PySem.W.mg_of X G a22, k22, b22⟩
  have F23 := fun_mk (st := sIsOrd) l23 c23 k23
  have b23 := F23.binds (ps := ["order", "count"]) fun _ _ _ _ _ _ us hl => match us, hl with | [_, _], _ => rfl
  have q_is_order : ∀ base : Heap, Cal P w K mg base 1 "is_order" ["order", "count"] (spIsOrd K) := fun base => ⟨_, _, ok_isOrd F23, PySem.W.mg_of X G a23, k23, b23⟩
  have F24 := fun_mk (st := sInitL) l24 c24 k24
  have b24 := F24.binds (ps := ["self"]) fun _ _ _ _ _ _ us hl => match us, hl with | [_], _ => rfl
  have q_Line : ∀ base : Heap, MkC P w K mg base 1 "Line" CLine ["self"] (spInitL CLine) := fun base => ⟨_, _, ok_initL F24 TL, ⟨mkCLine, a24, i24, kcCLine⟩, PySem.W.mg_of X G aCLine, b24⟩
  have F25 := fun_mk (st := sBegin) l25 c25 k25
  have b25 := F25.binds (ps := ["self"]) fun _ _ _ _ _ _ us hl => match us, hl with | [_], _ => rfl
  have m_begin : ∀ base : Heap, MtC P w K mg base 1 "begin" CLine ["self"] (spBegin CLine CPerson) := fun base => ⟨_, _, ok_begin F25 TL, ⟨a25, i25, k25⟩, b25⟩
  have F26 := fun_mk (st := sPerson) l26 c26 k26
  have b26 := F26.binds (ps := ["self", "spills", "a", "b", "moments"]) fun _ _ _ _ _ _ us hl => match us, hl with | [_, _, _, _, _], _ => rfl
  have m_person : ∀ base : Heap, MtC P w K mg base 3 "person" CLine ["self", "spills", "a", "b", "moments"] (spMPerson CLine CPerson) := fun base => ⟨_, _, ok_person F26 TL qlen rNOT_AS_TOLD rROW_IS_FULL rMOST_PEOPLE (q_is_as_told base) (q_Person base), ⟨a26, i26, k26⟩, b26⟩
  have F27 := fun_mk (st := sMComes) l27 c27 k27
  have b27 := F27.binds (ps := ["self", "measures", "order"]) fun _ _ _ _ _ _ us hl => match us, hl with | [_, _, _], _ => rfl
  have m_comes : ∀ base : Heap, MtC P w K mg base 5 "comes" CLine ["self", "measures", "order"] (spMOrd K CLine CPerson Mu58.Call.comes) := fun base => ⟨_, _, ok_mcomes F27 TL qlen rNOT_AS_TOLD rNO_SUCH_ONE rMOST_MEASURES (q_is_order base) (q_what_comes base) (q_in_lowest_terms base), ⟨a27, i27, k27⟩, b27⟩
  have F28 := fun_mk (st := sMNeeds) l28 c28 k28
  have b28 := F28.binds (ps := ["self", "measures", "order"]) fun _ _ _ _ _ _ us hl => match us, hl with | [_, _, _], _ => rfl
  have m_needs : ∀ base : Heap, MtC P w K mg base 5 "needs" CLine ["self", "measures", "order"] (spMOrd K CLine CPerson Mu58.Call.needs) := fun base => ⟨_, _, ok_mneeds F28 TL qlen rNOT_AS_TOLD rNO_SUCH_ONE rMOST_MEASURES (q_is_order base) (q_what_is_needed base) (q_in_lowest_terms base), ⟨a28, i28, k28⟩, b28⟩
  have F29 := fun_mk (st := sMBest) l29 c29 k29
  have b29 := F29.binds (ps := ["self", "measures"]) fun _ _ _ _ _ _ us hl => match us, hl with | [_, _], _ => rfl
  have m_best : ∀ base : Heap, MtC P w K mg base 7 "best" CLine ["self", "measures"] (spM1 CLine CPerson Mu58.Call.best) := fun base => ⟨_, _, ok_mbest F29 TL rNOT_AS_TOLD rMOST_MEASURES (q_best_order base) (q_what_comes base) (q_in_lowest_terms base), ⟨a29, i29, k29⟩, b29⟩
  have F30 := fun_mk (st := sMExch) l30 c30 k30
  have b30 := F30.binds (ps := ["self", "measures"]) fun _ _ _ _ _ _ us hl => match us, hl with | [_, _], _ => rfl
  have m_exchange : ∀ base : Heap, MtC P w K mg base 6 "exchange" CLine ["self", "measures"] (spM1 CLine CPerson Mu58.Call.exchange) := fun base => ⟨_, _, ok_mexch F30 TL qlen rNOT_AS_TOLD rTOO_FEW rMOST_MEASURES (q_all_pairs base) (q_what_comes base) (q_in_lowest_terms base) (q_place_of_best base) (q_order_with_exchanged base), ⟨a30, i30, k30⟩, b30⟩
  have F31 := fun_mk (st := sMSoon) l31 c31 k31
  have b31 := F31.binds (ps := ["self", "k"]) fun _ _ _ _ _ _ us hl => match us, hl with | [_, _], _ => rfl
  have m_soon : ∀ base : Heap, MtC P w K mg base 3 "soon" CLine ["self", "k"] (spM1 CLine CPerson Mu58.Call.soon) := fun base => ⟨_, _, ok_msoon F31 TL qlen rNOT_AS_TOLD rTOO_FEW rMOST_BUCKETS (q_moment_of_coming base), ⟨a31, i31, k31⟩, b31⟩
  have F32 := fun_mk (st := sMCome) l32 c32 k32
  have b32 := F32.binds (ps := ["self", "moment"]) fun _ _ _ _ _ _ us hl => match us, hl with | [_, _], _ => rfl
  have m_come : ∀ base : Heap, MtC P w K mg base 4 "come" CLine ["self", "moment"] (spM1 CLine CPerson Mu58.Call.come) := fun base => ⟨_, _, ok_mcome F32 TL rNOT_AS_TOLD rLAST_MOMENT (q_how_many_come base), ⟨a32, i32, k32⟩, b32⟩
  have F33 := fun_mk (st := sMWater) l33 c33 k33
  have b33 := F33.binds (ps := ["self", "measures", "moment"]) fun _ _ _ _ _ _ us hl => match us, hl with | [_, _, _], _ => rfl
  have m_water : ∀ base : Heap, MtC P w K mg base 6 "water" CLine ["self", "measures", "moment"] (spM2 CLine CPerson Mu58.Call.water) := fun base => ⟨_, _, ok_mwater F33 TL rNOT_AS_TOLD rMOST_MEASURES rLAST_MOMENT (q_what_has_come base) (q_in_lowest_terms base), ⟨a33, i33, k33⟩, b33⟩
  have F34 := fun_mk (st := sMSwap) l34 c34 k34
  have b34 := F34.binds (ps := ["self", "number", "other"]) fun _ _ _ _ _ _ us hl => match us, hl with | [_, _, _], _ => rfl
  have m_swap : ∀ base : Heap, MtC P w K mg base 3 "swap" CLine ["self", "number", "other"] (spM2 CLine CPerson Mu58.Call.swap) := fun base => ⟨_, _, ok_mswap F34 TL qmax qlen rNO_SUCH_ONE (q_standing_in base) (q_order_with_exchanged base), ⟨a34, i34, k34⟩, b34⟩
  have F35 := fun_mk (st := sMLeave) l35 c35 k35
  have b35 := F35.binds (ps := ["self", "number"]) fun _ _ _ _ _ _ us hl => match us, hl with | [_, _], _ => rfl
  have m_leave : ∀ base : Heap, MtC P w K mg base 1 "leave" CLine ["self", "number"] (spM1 CLine CPerson Mu58.Call.leave) := fun base => ⟨_, _, ok_mleave F35 TL qlen rNO_SUCH_ONE, ⟨a35, i35, k35⟩, b35⟩
  have F36 := fun_mk (st := sMOrder) l36 c36 k36
  have b36 := F36.binds (ps := ["self", "measures"]) fun _ _ _ _ _ _ us hl => match us, hl with | [_, _], _ => rfl
  have m_reorder : ∀ base : Heap, MtC P w K mg base 7 "reorder" CLine ["self", "measures"] (spM1 CLine CPerson Mu58.Call.order) := fun base => ⟨_, _, ok_morder F36 TL rNOT_AS_TOLD rMOST_MEASURES (q_best_order base) (q_what_comes base) (q_in_lowest_terms base) (q_standing_in base) (q_order_as_they_stand base), ⟨a36, i36, k36⟩, b36⟩
  have F37 := fun_mk (st := sMLook) l37 c37 k37
  have b37 := F37.binds (ps := ["self"]) fun _ _ _ _ _ _ us hl => match us, hl with | [_], _ => rfl
  have m_look : ∀ base : Heap, MtC P w K mg base 1 "look" CLine ["self"] (spM0 CLine CPerson Mu58.Call.look) := fun base => ⟨_, _, ok_mlook F37 TL TP qlen, ⟨a37, i37, k37⟩, b37⟩
  have F38 := fun_mk (st := sTo) l38 c38 k38
  have b38 := F38.binds (ps := ["line", "call"]) fun _ _ _ _ _ _ us hl => match us, hl with | [_, _], _ => rfl
  have q_answer_to : ∀ base : Heap, Cal P w K mg base 8 "answer_to" ["line", "call"] (spTo K CLine CPerson) := fun base => ⟨_, _, ok_to F38 TL rBEGIN rPERSON rCOMES rNEEDS rBEST rEXCHANGE rSOON rCOME rWATER rSWAP rLEAVE rORDER rNO_ROW (m_begin base) (m_person base) (m_comes base) (m_needs base) (m_best base) (m_exchange base) (m_soon base) (m_come base) (m_water base) (m_swap base) (m_leave base) (m_reorder base) (m_look base), PySem.W.mg_of X G a38, k38, b38⟩
  have F39 := fun_mk (st := sEnd) l39 c39 k39
  have b39 := F39.binds (ps := ["calls", "start"]) fun _ _ _ _ _ _ us hl => match us, hl with | [_, _], _ => rfl
  have q_end_of_call : ∀ base : Heap, Cal P w K mg base 1 "end_of_call" ["calls", "start"] (spEnd K) := fun base => ⟨_, _, ok_end F39 rWHOLE_NUMBERS rCOMES rNEEDS, PySem.W.mg_of X G a39, k39, b39⟩
  have F40 := fun_mk (st := sAns) l40 c40 k40
  have b40 := F40.binds (ps := ["calls"]) fun _ _ _ _ _ _ us hl => match us, hl with | [_], _ => rfl
  exact ⟨PySem.W.fnOf "answers" "answers" (defArgs sAns) (defBody sAns) (defScope sAns) .none kV40 dc40 pm40 an40 cd40 ct40, fun s us hu => match us, hu with | [_], _ => .of_eq rfl, fun base _ _ => ok_ans F40 TL qlen 8 (by decide) (q_Line base) (q_end_of_call base) (q_answer_to base)⟩
end BR
open PySem PySem.W PyProof.Rows
set_option maxRecDepth 100000 in
set_option maxHeartbeats 0 in
theorem PySem.Challenge.cw_bucketrow_s01_answers_holds : PySem.Challenge.rw_bucketrow_s01_answers.Holds := by
  w_on; k_headS; (case hw => exact ⟨[.list [.int 0]], by decide +kernel, by decide +kernel⟩)
  k_fillS
  refine L2.walk_specK (r := PySem.Challenge.rw_bucketrow_s01_answers) (k := 9) (CX := L2.CX0) (ps := ["calls"]) (sp := BR.spAns) (by decide +kernel) rfl rfl ⟨rfl, by decide, by decide⟩ (fun w h Y => PySem.W.kIn_of Y) ?F ?S (fun _ _ _ _ z => z)
  case F =>
    intro w mg fa h Y KX G hmg
    refine' BR.all_mk KX G hmg ?aCPerson ?pgCPerson ?hdCPerson ?poCPerson ?saCPerson ?mkCPerson ?kcCPerson ?a1 ?i1 ?l1 ?c1 ?k1 ?aCAmount ?pgCAmount ?hdCAmount ?poCAmount ?saCAmount ?mkCAmount ?kcCAmount ?a2 ?i2 ?l2 ?c2 ?k2 ?a3 ?l3 ?c3 ?k3 ?a4 ?l4 ?c4 ?k4 ?a5 ?l5 ?c5 ?k5 ?a6 ?l6 ?c6 ?k6 ?a7 ?l7 ?c7 ?k7 ?a8 ?l8 ?c8 ?k8 ?a9 ?l9 ?c9 ?k9 ?a10 ?l10 ?c10 ?k10 ?a11 ?l11 ?c11 ?k11 ?a12 ?l12 ?c12 ?k12 ?a13 ?l13 ?c13 ?k13 ?a14 ?l14 ?c14 ?k14 ?a15 ?l15 ?c15 ?k15 ?a16 ?l16 ?c16 ?k16 ?a17 ?l17 ?c17 ?k17 ?a18 ?l18 ?c18 ?k18 ?a19 ?l19 ?c19 ?k19 ?a20 ?l20 ?c20 ?k20 ?a21 ?l21 ?c21 ?k21 ?a22 ?l22 ?c22 ?k22 ?a23 ?l23 ?c23 ?k23 ?aCLine ?pgCLine ?hdCLine ?poCLine ?saCLine ?mkCLine ?kcCLine ?a24 ?i24 ?l24 ?c24 ?k24 ?a25 ?i25 ?l25 ?c25 ?k25 ?a26 ?i26 ?l26 ?c26 ?k26 ?a27 ?i27 ?l27 ?c27 ?k27 ?a28 ?i28 ?l28 ?c28 ?k28 ?a29 ?i29 ?l29 ?c29 ?k29 ?a30 ?i30 ?l30 ?c30 ?k30 ?a31 ?i31 ?l31 ?c31 ?k31 ?a32 ?i32 ?l32 ?c32 ?k32 ?a33 ?i33 ?l33 ?c33 ?k33 ?a34 ?i34 ?l34 ?c34 ?k34 ?a35 ?i35 ?l35 ?c35 ?k35 ?a36 ?i36 ?l36 ?c36 ?k36 ?a37 ?i37 ?l37 ?c37 ?k37 ?a38 ?l38 ?c38 ?k38 ?a39 ?l39 ?c39 ?k39 ?a40 ?l40 ?c40 ?k40 ?gBEGIN ?gPERSON ?gCOMES ?gNEEDS ?gBEST ?gEXCHANGE ?gSOON ?gCOME ?gWATER ?gSWAP ?gLEAVE ?gORDER ?gNOT_AS_TOLD ?gNO_SUCH_ONE ?gROW_IS_FULL ?gTOO_FEW ?gNO_ROW ?gMOST_PEOPLE ?gMOST_MEASURES ?gMOST_BUCKETS ?gLAST_MOMENT ?gMOST_SPILLED ?gMOST_MOMENTS ?gMOST_PARTS ?gWHOLE_NUMBERS ?lWHOLE_NUMBERS ?zWHOLE_NUMBERS ?vWHOLE_NUMBERS ?zenumerate ?zlen ?zlist ?zmax ?zrange ?zreversed ?zsum ?nPerson_spills ?nPerson_a ?nPerson_b ?nPerson_moments ?nAmount_divided ?nAmount_by ?nLine_people
    (case aCPerson => k_is)
    (case pgCPerson => k_is)
    (case hdCPerson => k_is)
    (case poCPerson => k_is)
    (case saCPerson => k_is)
    (case mkCPerson => k_is)
    (case kcCPerson => k_is)
    (case a1 => k_is)
    (case i1 => k_is)
    (case l1 => k_is)
    (case c1 => k_is)
    (case k1 => k_is)
    (case aCAmount => k_is)
    (case pgCAmount => k_is)
    (case hdCAmount => k_is)
    (case poCAmount => k_is)
    (case saCAmount => k_is)
    (case mkCAmount => k_is)
    (case kcCAmount => k_is)
    (case a2 => k_is)
    (case i2 => k_is)
    (case l2 => k_is)
    (case c2 => k_is)
    (case k2 => k_is)
    (case a3 => k_is)
    (case l3 => k_is)
    (case c3 => k_is)
    (case k3 => k_is)
    (case a4 => k_is)
    (case l4 => k_is)
    (case c4 => k_is)
    (case k4 => k_is)
    (case a5 => k_is)
    (case l5 => k_is)
    (case c5 => k_is)
    (case k5 => k_is)
    (case a6 => k_is)
    (case l6 => k_is)
    (case c6 => k_is)
    (case k6 => k_is)
    (case a7 => k_is)
    (case l7 => k_is)
    (case c7 => k_is)
    (case k7 => k_is)
    (case a8 => k_is)
    (case l8 => k_is)
    (case c8 => k_is)
    (case k8 => k_is)
    (case a9 => k_is)
    (case l9 => k_is)
    (case c9 => k_is)
    (case k9 => k_is)
    (case a10 => k_is)
    (case l10 => k_is)
    (case c10 => k_is)
    (case k10 => k_is)
    (case a11 => k_is)
    (case l11 => k_is)
    (case c11 => k_is)
    (case k11 => k_is)
    (case a12 => k_is)
    (case l12 => k_is)
    (case c12 => k_is)
    (case k12 => k_is)
    (case a13 => k_is)
    (case l13 => k_is)
    (case c13 => k_is)
    (case k13 => k_is)
    (case a14 => k_is)
    (case l14 => k_is)
    (case c14 => k_is)
    (case k14 => k_is)
    (case a15 => k_is)
    (case l15 => k_is)
    (case c15 => k_is)
    (case k15 => k_is)
    (case a16 => k_is)
    (case l16 => k_is)
    (case c16 => k_is)
    (case k16 => k_is)
    (case a17 => k_is)
    (case l17 => k_is)
    (case c17 => k_is)
    (case k17 => k_is)
    (case a18 => k_is)
    (case l18 => k_is)
    (case c18 => k_is)
    (case k18 => k_is)
    (case a19 => k_is)
    (case l19 => k_is)
    (case c19 => k_is)
    (case k19 => k_is)
    (case a20 => k_is)
    (case l20 => k_is)
    (case c20 => k_is)
    (case k20 => k_is)
    (case a21 => k_is)
    (case l21 => k_is)
    (case c21 => k_is)
    (case k21 => k_is)
    (case a22 => k_is)
    (case l22 => k_is)
    (case c22 => k_is)
    (case k22 => k_is)
    (case a23 => k_is)
    (case l23 => k_is)
    (case c23 => k_is)
    (case k23 => k_is)
    (case aCLine => k_is)
    (case pgCLine => k_is)
    (case hdCLine => k_is)
    (case poCLine => k_is)
    (case saCLine => k_is)
    (case mkCLine => k_is)
    (case kcCLine => k_is)
    (case a24 => k_is)
    (case i24 => k_is)
    (case l24 => k_is)
    (case c24 => k_is)
    (case k24 => k_is)
    (case a25 => k_is)
    (case i25 => k_is)
    (case l25 => k_is)
    (case c25 => k_is)
    (case k25 => k_is)
    (case a26 => k_is)
    (case i26 => k_is)
    (case l26 => k_is)
    (case c26 => k_is)
    (case k26 => k_is)
    (case a27 => k_is)
    (case i27 => k_is)
    (case l27 => k_is)
    (case c27 => k_is)
    (case k27 => k_is)
    (case a28 => k_is)
    (case i28 => k_is)
    (case l28 => k_is)
    (case c28 => k_is)
    (case k28 => k_is)
    (case a29 => k_is)
    (case i29 => k_is)
    (case l29 => k_is)
    (case c29 => k_is)
    (case k29 => k_is)
    (case a30 => k_is)
    (case i30 => k_is)
    (case l30 => k_is)
    (case c30 => k_is)
    (case k30 => k_is)
    (case a31 => k_is)
    (case i31 => k_is)
    (case l31 => k_is)
    (case c31 => k_is)
    (case k31 => k_is)
    (case a32 => k_is)
    (case i32 => k_is)
    (case l32 => k_is)
    (case c32 => k_is)
    (case k32 => k_is)
    (case a33 => k_is)
    (case i33 => k_is)
    (case l33 => k_is)
    (case c33 => k_is)
    (case k33 => k_is)
    (case a34 => k_is)
    (case i34 => k_is)
    (case l34 => k_is)
    (case c34 => k_is)
    (case k34 => k_is)
    (case a35 => k_is)
    (case i35 => k_is)
    (case l35 => k_is)
    (case c35 => k_is)
    (case k35 => k_is)
    (case a36 => k_is)
    (case i36 => k_is)
    (case l36 => k_is)
    (case c36 => k_is)
    (case k36 => k_is)
    (case a37 => k_is)
    (case i37 => k_is)
    (case l37 => k_is)
    (case c37 => k_is)
    (case k37 => k_is)
    (case a38 => k_is)
    (case l38 => k_is)
    (case c38 => k_is)
    (case k38 => k_is)
    (case a39 => k_is)
    (case l39 => k_is)
    (case c39 => k_is)
    (case k39 => k_is)
    (case a40 => k_is)
    (case l40 => k_is)
    (case c40 => k_is)
    (case k40 => k_is)
    (case gBEGIN => k_is)
    (case gPERSON => k_is)
    (case gCOMES => k_is)
    (case gNEEDS => k_is)
    (case gBEST => k_is)
    (case gEXCHANGE => k_is)
    (case gSOON => k_is)
    (case gCOME => k_is)
    (case gWATER => k_is)
    (case gSWAP => k_is)
    (case gLEAVE => k_is)
    (case gORDER => k_is)
    (case gNOT_AS_TOLD => k_is)
    (case gNO_SUCH_ONE => k_is)
    (case gROW_IS_FULL => k_is)
    (case gTOO_FEW => k_is)
    (case gNO_ROW => k_is)
    (case gMOST_PEOPLE => k_is)
    (case gMOST_MEASURES => k_is)
    (case gMOST_BUCKETS => k_is)
    (case gLAST_MOMENT => k_is)
    (case gMOST_SPILLED => k_is)
    (case gMOST_MOMENTS => k_is)
    (case gMOST_PARTS => k_is)
    (case gWHOLE_NUMBERS => k_is)
    (case lWHOLE_NUMBERS => k_is)
    (case zWHOLE_NUMBERS => show 13 ≤ sizeLine; decide)
    (case vWHOLE_NUMBERS => exact .cons ⟨_, rfl⟩ (.cons ⟨_, rfl⟩ (.cons ⟨_, rfl⟩ (.cons ⟨_, rfl⟩ (.cons ⟨_, rfl⟩ (.cons ⟨_, rfl⟩ (.cons ⟨_, rfl⟩ (.cons ⟨_, rfl⟩ (.cons ⟨_, rfl⟩ (.cons ⟨_, rfl⟩ (.cons ⟨_, rfl⟩ (.cons ⟨_, rfl⟩ (.cons ⟨_, rfl⟩ (.nil))))))))))))))
    (case zenumerate => k_is)
    (case zlen => k_is)
    (case zlist => k_is)
    (case zmax => k_is)
    (case zrange => k_is)
    (case zreversed => k_is)
    (case zsum => k_is)
    (case nPerson_spills => k_is)
    (case nPerson_a => k_is)
    (case nPerson_b => k_is)
    (case nPerson_moments => k_is)
    (case nAmount_divided => k_is)
    (case nAmount_by => k_is)
    (case nLine_people => k_is)
  case S =>
    intro K H xs a hO hwi hask hx
    cases hx with
    | cons h1 h2 =>
      cases h2
      cases h1 with
      | lst hs ha =>
        have e := L2.ints_dw a.1 _ ha
        subst e
        have q : ((Codec.inLen 0 700 a.1 && a.1.all (Codec.inInt 0 200000)) && true) = true := hwi
        rw [Bool.and_eq_true, Bool.and_eq_true] at q
        exact ⟨_, a.1, rfl, hs, (Codec.inNat_iff.mp q.1.1).2, hask, fun H' p hp => .lst (L2.SqL.of hp) (L2.dw_ints _)⟩
