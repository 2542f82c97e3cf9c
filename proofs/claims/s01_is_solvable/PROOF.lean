import PyProof.Rows.All
import Wide.All
import OpenK.AllK
import Wide.FinOn
import Open.SpecLaws
import KE.OsGo
import HandS.ForSpec
import HandS.ForMost
import HandS.Conv
import HandS.TupLe
import HandS.Walk
import KE.GoesEnum
import KE.KDictDisplayH
import PySem.Challenge.RW_stonewalk_s01_is_solvable
set_option Elab.async false
set_option linter.all false
set_option maxRecDepth 100000
set_option maxHeartbeats 2000000
/-! The mathematics of stonewalk: edges read, moves, what can be reached. Plain Lean. -/
namespace SW
open Ks577

/-! ### edges -/
/-- two numbers for each edge -/
def pairsOf : List Nat → List (Nat × Nat)
  | u :: v :: r => (u, v) :: pairsOf r
  | _ => []
def ltP (a b : Nat × Nat) : Bool := decide (a.1 < b.1 ∨ (a.1 = b.1 ∧ a.2 < b.2))
/-- the walk of edges_fit behind a pair b -/
def okFrom (n : Nat) : Nat × Nat → List (Nat × Nat) → Bool
  | _, [] => true
  | b, p :: r => decide (p.1 < p.2) && decide (p.2 < n) && ltP b p && okFrom n p r
def fits (n : Nat) : List (Nat × Nat) → Bool
  | [] => true
  | p :: r => decide (p.1 < p.2) && decide (p.2 < n) && okFrom n p r
theorem okFrom_fits (n : Nat) (b : Nat × Nat) : ∀ ps, okFrom n b ps = (fits n ps && match ps with | [] => true | q :: _ => ltP b q)
  | [] => rfl
  | p :: r => by
    simp only [okFrom, fits]
    cases decide (p.1 < p.2) <;> cases decide (p.2 < n) <;> cases ltP b p <;> cases okFrom n p r <;> rfl
theorem okFrom_zero (n : Nat) (ps : List (Nat × Nat)) : okFrom n (0, 0) ps = fits n ps := by
  rw [okFrom_fits]
  cases ps with
  | nil => rfl
  | cons p r =>
    by_cases h : p.1 < p.2
    · have : ltP (0, 0) p = true := by
        unfold ltP
        refine decide_eq_true ?_
        show 0 < p.1 ∨ (0 = p.1 ∧ 0 < p.2)
        omega
      show (fits n (p :: r) && ltP (0, 0) p) = _
      rw [this, Bool.and_true]
    · show (fits n (p :: r) && ltP (0, 0) p) = _
      have e : fits n (p :: r) = false := by
        show (decide (p.1 < p.2) && decide (p.2 < n) && okFrom n p r) = false
        rw [decide_eq_false h]
        rfl
      rw [e]
      rfl
theorem parse_eq (n : Nat) : ∀ l : List Nat, parseEdges n l = if l.length % 2 = 0 ∧ fits n (pairsOf l) = true then some (pairsOf l) else none
  | [] => rfl
  | [x] => by
    have h : ¬ (([x] : List Nat).length % 2 = 0 ∧ fits n (pairsOf [x]) = true) := fun h => absurd h.1 (by rw [List.length_singleton]; decide)
    rw [if_neg h]
    rfl
  | u :: v :: r => by
    have ih := parse_eq n r
    have hl : (u :: v :: r).length % 2 = r.length % 2 := by simp only [List.length_cons]; omega
    have e1 : fits n (pairsOf (u :: v :: r)) = (decide (u < v) && decide (v < n) && okFrom n (u, v) (pairsOf r)) := rfl
    unfold parseEdges
    by_cases h : v ≤ u ∨ n ≤ v
    · rw [if_pos h, if_neg]
      rintro ⟨_, q⟩
      rw [e1] at q
      simp only [Bool.and_eq_true, decide_eq_true_eq] at q
      omega
    · rw [if_neg h, ih, hl, e1]
      have d1 : decide (u < v) = true := decide_eq_true (by omega)
      have d2 : decide (v < n) = true := decide_eq_true (by omega)
      rw [d1, d2, okFrom_fits]
      by_cases h2 : r.length % 2 = 0 ∧ fits n (pairsOf r) = true
      · rw [if_pos h2]
        obtain ⟨a, b⟩ := h2
        cases hp : pairsOf r with
        | nil =>
          rw [hp] at b
          simp only [b, a, Bool.and_true, and_self, if_true]
          show some [(u, v)] = some ((u, v) :: pairsOf r)
          rw [hp]
        | cons q t =>
          rw [hp] at b
          simp only [b, a, Bool.true_and, true_and]
          by_cases h3 : u < q.1 ∨ (u = q.1 ∧ v < q.2)
          · have : ltP (u, v) q = true := decide_eq_true h3
            rw [if_pos h3, if_pos this]
            show _ = some ((u, v) :: pairsOf r)
            rw [hp]
          · have : ltP (u, v) q = false := decide_eq_false h3
            rw [if_neg h3, this, if_neg (by decide)]
      · rw [if_neg h2, if_neg]
        rintro ⟨a, b⟩
        simp only [Bool.and_eq_true] at b
        exact h2 ⟨a, b.2.1⟩
/-- every end is a vertex -/
theorem okFrom_ends {n : Nat} : ∀ {ps : List (Nat × Nat)} {b : Nat × Nat}, okFrom n b ps = true → ∀ p ∈ ps, p.1 < p.2 ∧ p.2 < n
  | [], _, _, _, h => absurd h (by simp)
  | q :: r, b, h, p, hp => by
    simp only [okFrom, Bool.and_eq_true, decide_eq_true_eq] at h
    rcases List.mem_cons.mp hp with e | hp
    · subst e
      exact h.1.1
    · exact okFrom_ends h.2 p hp
theorem fits_ends {n : Nat} {ps : List (Nat × Nat)} (h : fits n ps = true) : ∀ p ∈ ps, p.1 < p.2 ∧ p.2 < n := by
  rw [← okFrom_zero] at h
  exact okFrom_ends h
theorem pairsOf_len : ∀ l : List Nat, (pairsOf l).length = l.length / 2
  | [] => rfl
  | [x] => by
    rw [List.length_singleton]
    rfl
  | u :: v :: r => by
    show (pairsOf r).length + 1 = (r.length + 1 + 1) / 2
    rw [pairsOf_len r]
    omega
theorem pairsOf_get : ∀ (l : List Nat) (i : Nat), l.length % 2 = 0 → i < l.length / 2 → (pairsOf l)[i]? = some (l.getD (2 * i) 0, l.getD (2 * i + 1) 0)
  | [], i, _, h => by simp at h
  | [_], _, h, _ => by simp at h
  | u :: v :: r, 0, _, _ => rfl
  | u :: v :: r, i + 1, h, hi => by
    have ih := pairsOf_get r i (by simp only [List.length_cons] at h; omega) (by simp only [List.length_cons] at hi; omega)
    show (pairsOf r)[i]? = _
    rw [ih]
    show _ = some ((u :: v :: r).getD (2 * i + 2) 0, (u :: v :: r).getD (2 * i + 2 + 1) 0)
    rfl

/-! ### moves -/
abbrev Cfg := List Nat
theorem sum_set : ∀ (l : List Nat) (i a : Nat), i < l.length → (l.set i a).sum + l.getD i 0 = l.sum + a
  | [], _, _, h => by simp at h
  | x :: r, 0, a, _ => by
    show (a :: r).sum + x = (x :: r).sum + a
    simp only [List.sum_cons]
    omega
  | x :: r, i + 1, a, h => by
    have ih := sum_set r i a (by simp only [List.length_cons] at h; omega)
    show (x :: r.set i a).sum + r.getD i 0 = (x :: r).sum + a
    simp only [List.sum_cons]
    omega
theorem getD_lt {l : List Nat} {i k : Nat} (h : k + 1 ≤ l.getD i 0) : i < l.length := by
  refine Nat.lt_of_not_le fun q => ?_
  rw [List.getD_eq_getElem?_getD, List.getElem?_eq_none q] at h
  simp at h
theorem move_len (c : Cfg) (s t : Nat) : (move c s t).length = c.length := by
  unfold move
  simp only [List.length_set]
theorem move_sum {c : Cfg} {s t : Nat} (h : 2 ≤ c.getD s 0) : (move c s t).sum + 1 ≤ c.sum := by
  have hs : s < c.length := getD_lt (k := 1) h
  have e1 := sum_set c s (c.getD s 0 - 2) hs
  unfold move
  show ((c.set s (c.getD s 0 - 2)).set t ((c.set s (c.getD s 0 - 2)).getD t 0 + 1)).sum + 1 ≤ c.sum
  by_cases ht : t < (c.set s (c.getD s 0 - 2)).length
  · have e2 := sum_set (c.set s (c.getD s 0 - 2)) t ((c.set s (c.getD s 0 - 2)).getD t 0 + 1) ht
    omega
  · rw [List.set_eq_of_length_le (by omega)]
    omega
def Step (ps : List (Nat × Nat)) (c d : Cfg) : Prop := ∃ u v, ((u, v) ∈ ps ∨ (v, u) ∈ ps) ∧ 2 ≤ c.getD u 0 ∧ d = move c u v
/-- what the program lists -/
def succ (ps : List (Nat × Nat)) (c : Cfg) : List Cfg :=
  ps.flatMap fun p => (if 2 ≤ c.getD p.1 0 then [move c p.1 p.2] else []) ++ (if 2 ≤ c.getD p.2 0 then [move c p.2 p.1] else [])
theorem mem_succ {ps : List (Nat × Nat)} {c d : Cfg} : d ∈ succ ps c ↔ Step ps c d := by
  unfold succ Step
  simp only [List.mem_flatMap, List.mem_append, Prod.exists]
  constructor
  · rintro ⟨u, v, hm, h | h⟩
    · split at h
      · exact ⟨u, v, .inl hm, ‹_›, by simpa using h⟩
      · simp at h
    · split at h
      · exact ⟨v, u, .inr hm, ‹_›, by simpa using h⟩
      · simp at h
  · rintro ⟨u, v, hm | hm, h2, e⟩
    · exact ⟨u, v, hm, .inl (by rw [if_pos h2]; simpa using e)⟩
    · exact ⟨v, u, hm, .inr (by rw [if_pos h2]; simpa using e)⟩
theorem succ_length (ps : List (Nat × Nat)) (c : Cfg) : (succ ps c).length ≤ 2 * ps.length := by
  unfold succ
  induction ps with
  | nil => simp
  | cons p r ih =>
    rw [List.flatMap_cons, List.length_append, List.length_cons, List.length_append]
    have h1 : (if 2 ≤ c.getD p.1 0 then [move c p.1 p.2] else []).length ≤ 1 := by split <;> simp
    have h2 : (if 2 ≤ c.getD p.2 0 then [move c p.2 p.1] else []).length ≤ 1 := by split <;> simp
    omega
theorem Step.len {ps : List (Nat × Nat)} {c d : Cfg} (h : Step ps c d) : d.length = c.length := by
  obtain ⟨u, v, _, _, rfl⟩ := h
  exact move_len _ _ _
theorem Step.sum {ps : List (Nat × Nat)} {c d : Cfg} (h : Step ps c d) : d.sum + 1 ≤ c.sum := by
  obtain ⟨u, v, _, h, rfl⟩ := h
  exact move_sum h
inductive Reach (ps : List (Nat × Nat)) (c : Cfg) : Cfg → Prop
  | refl : Reach ps c c
  | step {d e : Cfg} : Reach ps c d → Step ps d e → Reach ps c e
theorem Reach.len {ps : List (Nat × Nat)} {c d : Cfg} (h : Reach ps c d) : d.length = c.length := by
  induction h with
  | refl => rfl
  | step _ q ih => rw [q.len, ih]
theorem Reach.sum {ps : List (Nat × Nat)} {c d : Cfg} (h : Reach ps c d) : d.sum ≤ c.sum := by
  induction h with
  | refl => exact Nat.le_refl _
  | step _ q ih => have := q.sum; omega

/-! ### the specification's levels -/
theorem adj_iff {g : Graph} {u v : Nat} : isAdjacent g u v = true ↔ (u, v) ∈ g.edges ∨ (v, u) ∈ g.edges := by
  unfold isAdjacent
  simp only [List.any_eq_true, Bool.or_eq_true, Bool.and_eq_true, beq_iff_eq, Prod.exists]
  constructor
  · rintro ⟨a, b, hm, ⟨rfl, rfl⟩ | ⟨rfl, rfl⟩⟩
    · exact .inl hm
    · exact .inr hm
  · rintro (h | h)
    · exact ⟨u, v, h, .inl ⟨rfl, rfl⟩⟩
    · exact ⟨v, u, h, .inr ⟨rfl, rfl⟩⟩
/-- the edges' ends are vertices -/
def Good (g : Graph) : Prop := ∀ p ∈ g.edges, p.1 < p.2 ∧ p.2 < g.vertexCount
theorem mem_successors {g : Graph} (hg : Good g) {c d : Cfg} : d ∈ successors g c ↔ Step g.edges c d := by
  unfold successors possibleMoves Step
  simp only [List.mem_map, List.mem_flatMap, List.mem_range, List.mem_filter, Prod.exists]
  constructor
  · rintro ⟨a, b, ⟨u, hu, v, ⟨hv, hc⟩, e⟩, rfl⟩
    cases e
    unfold canMove at hc
    simp only [Bool.and_eq_true, decide_eq_true_eq] at hc
    exact ⟨a, b, adj_iff.mp hc.1, hc.2, rfl⟩
  · rintro ⟨u, v, hm, h2, rfl⟩
    have hu : u < g.vertexCount ∧ v < g.vertexCount := by
      rcases hm with hm | hm
      · have := hg _ hm
        simp only at this
        omega
      · have := hg _ hm
        simp only at this
        omega
    refine ⟨u, v, ⟨u, hu.1, v, ⟨hu.2, ?_⟩, rfl⟩, rfl⟩
    unfold canMove
    simp only [Bool.and_eq_true, decide_eq_true_eq]
    exact ⟨adj_iff.mpr hm, h2⟩
inductive StepN (ps : List (Nat × Nat)) : Nat → Cfg → Cfg → Prop
  | zero (c) : StepN ps 0 c c
  | succ {k c d e} : Step ps c d → StepN ps k d e → StepN ps (k + 1) c e
theorem StepN.sum {ps : List (Nat × Nat)} {k : Nat} {c d : Cfg} (h : StepN ps k c d) : d.sum + k ≤ c.sum := by
  induction h with
  | zero => exact Nat.le_refl _
  | succ q _ ih => have := q.sum; omega
theorem StepN.snoc {ps : List (Nat × Nat)} {k : Nat} {c d e : Cfg} (h : StepN ps k c d) (q : Step ps d e) : StepN ps (k + 1) c e := by
  induction h with
  | zero c => exact .succ q (.zero e)
  | succ r _ ih => exact .succ r (ih q)
theorem Reach.toN {ps : List (Nat × Nat)} {c d : Cfg} (h : Reach ps c d) : ∃ k, StepN ps k c d := by
  induction h with
  | refl => exact ⟨0, .zero _⟩
  | step _ q ih =>
    obtain ⟨k, h⟩ := ih
    exact ⟨k + 1, h.snoc q⟩
theorem Reach.head {ps : List (Nat × Nat)} {c d e : Cfg} (q : Step ps c d) (h : Reach ps d e) : Reach ps c e := by
  induction h with
  | refl => exact .step .refl q
  | step _ r ih => exact .step ih r
theorem StepN.reach {ps : List (Nat × Nat)} {k : Nat} {c d : Cfg} (h : StepN ps k c d) : Reach ps c d := by
  induction h with
  | zero => exact .refl
  | succ q _ ih => exact Reach.head q ih
theorem mem_levelsFrom {g : Graph} (hg : Good g) {d : Cfg} : ∀ (fuel : Nat) (lv : List Cfg),
    (∃ L ∈ levelsFrom g lv fuel, d ∈ L) ↔ ∃ j, j < fuel ∧ ∃ c ∈ lv, StepN g.edges j c d
  | 0, lv => by
    constructor
    · rintro ⟨L, h, _⟩
      simp [levelsFrom] at h
    · rintro ⟨j, h, _⟩
      omega
  | fuel + 1, lv => by
    have ih := mem_levelsFrom hg (d := d) fuel ((lv.flatMap (successors g)).eraseDups)
    have next : (∃ c ∈ (lv.flatMap (successors g)).eraseDups, ∃ j, j < fuel ∧ StepN g.edges j c d) ↔ ∃ j, j < fuel ∧ ∃ c ∈ lv, StepN g.edges (j + 1) c d := by
      constructor
      · rintro ⟨c, hc, j, hj, q⟩
        rw [List.mem_eraseDups, List.mem_flatMap] at hc
        obtain ⟨b, hb, hs⟩ := hc
        exact ⟨j, hj, b, hb, .succ ((mem_successors hg).mp hs) q⟩
      · rintro ⟨j, hj, c, hc, q⟩
        cases q with
        | succ h1 h2 =>
          refine ⟨_, ?_, j, hj, h2⟩
          rw [List.mem_eraseDups, List.mem_flatMap]
          exact ⟨c, hc, (mem_successors hg).mpr h1⟩
    unfold levelsFrom
    by_cases he : lv.isEmpty = true
    · rw [if_pos he]
      have e : lv = [] := by simpa using he
      subst e
      constructor
      · rintro ⟨L, h, _⟩
        simp at h
      · rintro ⟨j, _, c, h, _⟩
        simp at h
    · rw [if_neg he]
      constructor
      · rintro ⟨L, h, hd⟩
        rcases List.mem_cons.mp h with e | h
        · subst e
          exact ⟨0, Nat.succ_pos _, d, hd, .zero d⟩
        · obtain ⟨j, hj, c, hc, q⟩ := ih.mp ⟨L, h, hd⟩
          obtain ⟨j2, hj2, c2, hc2, q2⟩ := next.mp ⟨c, hc, j, hj, q⟩
          exact ⟨j2 + 1, by omega, c2, hc2, q2⟩
      · rintro ⟨j, hj, c, hc, q⟩
        cases j with
        | zero =>
          cases q
          exact ⟨lv, List.mem_cons_self .., hc⟩
        | succ j =>
          obtain ⟨c2, hc2, j2, hj2, q2⟩ := next.mpr ⟨j, by omega, c, hc, q⟩
          obtain ⟨L, hL, hd⟩ := ih.mpr ⟨j2, hj2, c2, hc2, q2⟩
          exact ⟨L, List.mem_cons_of_mem _ hL, hd⟩
theorem mem_levels {g : Graph} (hg : Good g) {c d : Cfg} : (∃ L ∈ levels g c, d ∈ L) ↔ Reach g.edges c d := by
  unfold levels
  rw [mem_levelsFrom hg]
  constructor
  · rintro ⟨j, _, b, hb, q⟩
    rw [List.mem_singleton] at hb
    subst hb
    exact q.reach
  · intro h
    obtain ⟨k, q⟩ := h.toN
    exact ⟨k, by have := q.sum; omega, c, List.mem_singleton.mpr rfl, q⟩
theorem canReach_iff {g : Graph} (hg : Good g) {c : Cfg} {v : Nat} : canReach g c v 1 = true ↔ ∃ d, Reach g.edges c d ∧ 0 < d.getD v 0 := by
  unfold canReach minMoves
  rw [List.findIdx?_isSome]
  simp only [List.any_eq_true, decide_eq_true_eq]
  constructor
  · rintro ⟨L, hL, d, hd, h⟩
    exact ⟨d, (mem_levels hg).mp ⟨L, hL, hd⟩, h⟩
  · rintro ⟨d, hd, h⟩
    obtain ⟨L, hL, hm⟩ := (mem_levels hg).mpr hd
    exact ⟨L, hL, d, hm, h⟩
/-- a list of just what can be reached -/
def Lists (ps : List (Nat × Nat)) (c : Cfg) (cs : List Cfg) : Prop := ∀ d, d ∈ cs ↔ Reach ps c d
def hit (cs : List Cfg) (v : Nat) : Bool := cs.any fun d => decide (0 < d.getD v 0)
theorem canReach_hit {g : Graph} (hg : Good g) {c : Cfg} {cs : List Cfg} (h : Lists g.edges c cs) (v : Nat) : canReach g c v 1 = hit cs v := by
  rw [Bool.eq_iff_iff, canReach_iff hg]
  unfold hit
  simp only [List.any_eq_true, decide_eq_true_eq]
  constructor
  · rintro ⟨d, r, q⟩
    exact ⟨d, (h d).mpr r, q⟩
  · rintro ⟨d, r, q⟩
    exact ⟨d, (h d).mp r, q⟩

/-! ### how many configurations there are -/
theorem nodup_lt : ∀ (N : Nat) (l : List Nat), l.Nodup → (∀ x ∈ l, x < N) → l.length ≤ N
  | 0, l, _, h => by
    cases l with
    | nil => exact Nat.le_refl _
    | cons x r => exact absurd (h x (List.mem_cons_self ..)) (by omega)
  | N + 1, l, hn, h => by
    have hn2 : (l.erase N).Nodup := hn.erase N
    have ih := nodup_lt N (l.erase N) hn2 fun x hx => by
      have h1 := (hn.mem_erase_iff).mp hx
      have := h x h1.2
      have := h1.1
      omega
    by_cases hm : N ∈ l
    · rw [List.length_erase_of_mem hm] at ih
      omega
    · rw [List.erase_of_not_mem hm] at ih
      omega
def code : Cfg → Nat
  | [] => 0
  | x :: r => x + 13 * code r
theorem code_lt : ∀ (c : Cfg), c.sum ≤ 12 → code c < 13 ^ c.length
  | [], _ => by decide
  | x :: r, h => by
    rw [List.sum_cons] at h
    have ih := code_lt r (by omega)
    show x + 13 * code r < 13 ^ (r.length + 1)
    rw [Nat.pow_succ]
    omega
theorem code_inj : ∀ (c d : Cfg), c.length = d.length → c.sum ≤ 12 → d.sum ≤ 12 → code c = code d → c = d
  | [], [], _, _, _, _ => rfl
  | [], _ :: _, h, _, _, _ => by simp at h
  | _ :: _, [], h, _, _, _ => by simp at h
  | x :: r, y :: t, h, h1, h2, e => by
    rw [List.sum_cons] at h1 h2
    have e' : x + 13 * code r = y + 13 * code t := e
    have ih := code_inj r t (by simpa using h) (by omega) (by omega) (by omega)
    have : x = y := by omega
    rw [this, ih]
theorem pow_le {k : Nat} (h : k ≤ 5) : 13 ^ k ≤ 371293 := Nat.le_trans (Nat.pow_le_pow_right (by decide) h) (by decide)
theorem few {n : Nat} {l : List Cfg} (hn : l.Nodup) (h : ∀ c ∈ l, c.length = n ∧ c.sum ≤ 12) (h5 : n ≤ 5) : l.length ≤ 371293 := by
  have q := nodup_lt (13 ^ n) (l.map code) (by
    refine List.pairwise_map.mpr (List.Pairwise.imp_of_mem (R := fun a b => a ≠ b) (fun {a b} ha hb hne e => ?_) hn)
    exact hne (code_inj a b ((h a ha).1.trans (h b hb).1.symm) (h a ha).2 (h b hb).2 e)) (fun x hx => by
      obtain ⟨c, hc, rfl⟩ := List.mem_map.mp hx
      have := code_lt c (h c hc).2
      rw [(h c hc).1] at this
      exact this)
  rw [List.length_map] at q
  exact Nat.le_trans q (pow_le h5)

/-! ### the search -/
def addOne (s : List Cfg × List Cfg) (f : Cfg) : List Cfg × List Cfg := if f ∈ s.1 then s else (s.1 ++ [f], s.2 ++ [f])
def weight (l : List Cfg) : Nat := (l.map fun c => 23 ^ c.sum).sum
theorem weight_snoc (l : List Cfg) (c : Cfg) : weight (l ++ [c]) = weight l + 23 ^ c.sum := by
  unfold weight
  rw [List.map_append, List.sum_append]
  simp
/-- seen and waiting, between two turns -/
structure Srch (ps : List (Nat × Nat)) (c : Cfg) (seen wait : List Cfg) : Prop where
  nd : seen.Nodup
  nw : wait.Nodup
  rch : ∀ x ∈ seen, Reach ps c x
  fst : c ∈ seen
  sub : ∀ x ∈ wait, x ∈ seen
  cls : ∀ x ∈ seen, x ∈ wait ∨ ∀ y, Step ps x y → y ∈ seen
theorem Srch.start (ps : List (Nat × Nat)) (c : Cfg) : Srch ps c [c] [c] :=
  ⟨by simp, by simp, fun x h => by rw [List.mem_singleton.mp h]; exact .refl, List.mem_singleton.mpr rfl, fun x h => h, fun x h => .inl h⟩
theorem Srch.done {ps : List (Nat × Nat)} {c : Cfg} {seen : List Cfg} (s : Srch ps c seen []) : Lists ps c seen := fun d => by
  constructor
  · exact s.rch d
  · intro h
    induction h with
    | refl => exact s.fst
    | step _ q ih =>
      rcases s.cls _ ih with h | h
      · simp at h
      · exact h _ q
/-- within a turn: x is taken out, the first of its followers are in -/
structure Turning (ps : List (Nat × Nat)) (c x : Cfg) (fs seen wait : List Cfg) (b : Nat) : Prop where
  nd : seen.Nodup
  nw : wait.Nodup
  rch : ∀ x ∈ seen, Reach ps c x
  fst : c ∈ seen
  xin : x ∈ seen
  sub : ∀ x ∈ wait, x ∈ seen
  cls : ∀ y ∈ seen, y ∈ wait ∨ y = x ∨ ∀ z, Step ps y z → z ∈ seen
  has : ∀ f ∈ fs, f ∈ seen
  wt : weight wait ≤ b + fs.length * 23 ^ (x.sum - 1)
theorem Srch.take {ps : List (Nat × Nat)} {c x : Cfg} {seen wait : List Cfg} (s : Srch ps c seen (wait ++ [x])) : Turning ps c x [] seen wait (weight wait) where
  nd := s.nd
  nw := (List.nodup_append.mp s.nw).1
  rch := s.rch
  fst := s.fst
  xin := s.sub x (by simp)
  sub := fun y h => s.sub y (by simp [h])
  cls := fun y h => by
    rcases s.cls y h with h | h
    · rcases List.mem_append.mp h with h | h
      · exact .inl h
      · exact .inr (.inl (List.mem_singleton.mp h))
    · exact .inr (.inr h)
  has := fun f h => by simp at h
  wt := by simp
theorem Turning.more {ps : List (Nat × Nat)} {c x : Cfg} {fs seen wait : List Cfg} {b : Nat} (t : Turning ps c x fs seen wait b) {f : Cfg} (hf : Step ps x f) :
    Turning ps c x (fs ++ [f]) (addOne (seen, wait) f).1 (addOne (seen, wait) f).2 b := by
  have hw : b + fs.length * 23 ^ (x.sum - 1) + 23 ^ (x.sum - 1) = b + (fs ++ [f]).length * 23 ^ (x.sum - 1) := by
    rw [List.length_append, List.length_singleton, Nat.add_mul, Nat.one_mul, Nat.add_assoc]
  unfold addOne
  by_cases h : f ∈ seen
  · rw [if_pos h]
    exact ⟨t.nd, t.nw, t.rch, t.fst, t.xin, t.sub, t.cls, fun g hg => by
      rcases List.mem_append.mp hg with hg | hg
      · exact t.has g hg
      · rw [List.mem_singleton.mp hg]; exact h, by
        have := t.wt
        show weight wait ≤ _
        rw [← hw]
        exact Nat.le_trans this (Nat.le_add_right _ _)⟩
  · rw [if_neg h]
    have hfw : f ∉ wait := fun q => h (t.sub f q)
    refine ⟨?_, ?_, ?_, ?_, ?_, ?_, ?_, ?_, ?_⟩
    · exact List.nodup_append.mpr ⟨t.nd, by simp, fun a ha b hb e => by rw [List.mem_singleton] at hb; subst hb; subst e; exact h ha⟩
    · exact List.nodup_append.mpr ⟨t.nw, by simp, fun a ha b hb e => by rw [List.mem_singleton] at hb; subst hb; subst e; exact hfw ha⟩
    · intro y hy
      rcases List.mem_append.mp hy with hy | hy
      · exact t.rch y hy
      · rw [List.mem_singleton.mp hy]; exact .step (t.rch x t.xin) hf
    · exact List.mem_append_left _ t.fst
    · exact List.mem_append_left _ t.xin
    · intro y hy
      rcases List.mem_append.mp hy with hy | hy
      · exact List.mem_append_left _ (t.sub y hy)
      · exact List.mem_append_right _ hy
    · intro y hy
      rcases List.mem_append.mp hy with hy | hy
      · rcases t.cls y hy with q | q | q
        · exact .inl (List.mem_append_left _ q)
        · exact .inr (.inl q)
        · exact .inr (.inr fun z hz => List.mem_append_left _ (q z hz))
      · exact .inl (List.mem_append_right _ hy)
    · intro g hg
      rcases List.mem_append.mp hg with hg | hg
      · exact List.mem_append_left _ (t.has g hg)
      · exact List.mem_append_right _ hg
    · show weight (wait ++ [f]) ≤ _
      rw [weight_snoc]
      have h1 := t.wt
      have h2 : 23 ^ f.sum ≤ 23 ^ (x.sum - 1) := Nat.pow_le_pow_right (by decide) (by have := hf.sum; omega)
      omega
theorem Turning.all {ps : List (Nat × Nat)} {c x : Cfg} {wait0 : List Cfg} {fs seen wait : List Cfg} (t : Turning ps c x fs seen wait (weight wait0)) (hfs : ∀ y, Step ps x y → y ∈ fs) (hl : fs.length ≤ 22) (hx : ∀ f ∈ fs, Step ps x f) :
    Srch ps c seen wait ∧ weight wait < weight (wait0 ++ [x]) := by
  refine ⟨⟨t.nd, t.nw, t.rch, t.fst, t.sub, fun y hy => ?_⟩, ?_⟩
  · rcases t.cls y hy with q | q | q
    · exact .inl q
    · subst q
      exact .inr fun z hz => t.has z (hfs z hz)
    · exact .inr q
  · rw [weight_snoc]
    have h1 := t.wt
    cases fs with
    | nil =>
      have : 0 < 23 ^ x.sum := Nat.pow_pos (by decide)
      rw [List.length_nil, Nat.zero_mul] at h1
      omega
    | cons f r =>
      have hs := (hx f (List.mem_cons_self ..)).sum
      have e : 23 ^ x.sum = 23 ^ (x.sum - 1) * 23 := by
        rw [← Nat.pow_succ]
        congr 1
        omega
      have hp : 0 < 23 ^ (x.sum - 1) := Nat.pow_pos (by decide)
      have h2 : (f :: r).length * 23 ^ (x.sum - 1) ≤ 22 * 23 ^ (x.sum - 1) := Nat.mul_le_mul_right _ hl
      omega
theorem Srch.small {ps : List (Nat × Nat)} {c : Cfg} {seen wait : List Cfg} (s : Srch ps c seen wait) (h5 : c.length ≤ 5) (h12 : c.sum ≤ 12) : seen.length ≤ 371293 ∧ wait.length ≤ 371293 :=
  ⟨few s.nd (fun x h => ⟨(s.rch x h).len, Nat.le_trans (s.rch x h).sum h12⟩) h5, few s.nw (fun x h => ⟨(s.rch x (s.sub x h)).len, Nat.le_trans (s.rch x (s.sub x h)).sum h12⟩) h5⟩
theorem Turning.small {ps : List (Nat × Nat)} {c x : Cfg} {fs seen wait : List Cfg} {b : Nat} (s : Turning ps c x fs seen wait b) (h5 : c.length ≤ 5) (h12 : c.sum ≤ 12) : seen.length ≤ 371293 ∧ wait.length ≤ 371293 :=
  ⟨few s.nd (fun x h => ⟨(s.rch x h).len, Nat.le_trans (s.rch x h).sum h12⟩) h5, few s.nw (fun x h => ⟨(s.rch x (s.sub x h)).len, Nat.le_trans (s.rch x (s.sub x h)).sum h12⟩) h5⟩

/-! ### marks -/
def mark (b : Bool) : Nat := if b then 1 else 0
def marksOf (n : Nat) (cs : List Cfg) : List Nat := (List.range n).map fun v => mark (hit cs v)
end SW

/-! Four rules that the layer lacks: {t: v} with a tuple for the key, all(ints), enumerate(a tuple), xs[i] op= n. -/
namespace SW
open PySem PySem.Spec PyProof.Rows L2

/-! ### {t: v} -/
def tDispT (tk tv : TE) : TE := fun σ H Q => ∀ p, H p = none → tk σ (upd H p (.dT [])) fun x H1 => tv σ H1 fun y H2 =>
  H2 p = some (.dT []) ∧ ∃ (b : Addr) (ks : List Key), x = .ref b ∧ H2 b = some (.tup (ks.map kV)) ∧ Q (.ref p) (upd H2 p (.dT [(ks, y)]))
theorem pe_dispT {X : Cx} {pos : Pos} {ke ve : Expr} {tk tv : TE} (hu : X.A.units < cLine) (hk : PE X ke tk) (hv : PE X ve tv) : PE X (.Dict [some ke] [ve] pos) (tDispT tk tv) := by
  constructor
  intro pins s σ H Q I q
  have fr : H s.heap.objs.size = none := I.hok.fresh (Nat.le_refl _)
  have J := I.laid (a := s.heap.objs.size) (o := .dT []) (t' := s.toks) (h' := s.heap.push { cls := .type "dict", data := .dict #[] }) (fun _ _ z => Heap.get?_push_of_some _ z) (Nat.le_refl _) (dt_empty s.heap I.big)
  rw [arm_eval_Dict, zip_pairTrees [some ke] [ve] X.env pos rfl rfl, dictDisplay_pairs _ (by intro z; exact nomatch z) (by show 1 < 17; decide)]
  refine wpAny_bind (wpAny_standAt (wpAny_bind ?_))
  refine wpAny_subDictH (knd := tupleKind (mixKind X.prog X.w)) (show X.A.units < cLine from hu) (by show 1 ≤ 15; decide) ?_
  refine pairTrees_cons_walk (thn (hk.run pins _ σ _ _ J (q _ fr)) fun u1 s1 ⟨x, H1, I1, r1, q1⟩ => thn (hv.run pins s1 σ H1 _ I1 q1) fun u2 s2 ⟨y, H2, I2, r2, e, b, ks, ex, eb, q2⟩ => pairTrees_nil_walk ?_)
  subst ex
  cases (show u1 = Value.ref b from r1)
  obtain ⟨_, hd, xs0, rel0, dd⟩ := dt_of I2.hok e
  cases rel0
  refine ⟨[(ks, b, u2)], ⟨rfl, rfl, key_of I2.hok eb, trivial⟩, dd, fun h' tk' dd' hs => wpAny_pure ?_⟩
  obtain ⟨oq, es, ep, h1, h2, h3, h4, _, h5⟩ := dd'
  refine ⟨.ref s.heap.objs.size, upd H2 s.heap.objs.size (.dT [(ks, y)]), ?_, rfl, q2⟩
  refine d_write I2 (by rw [e]; exact True.intro) hs ⟨oq, h1⟩ ⟨by show 1 ≤ sizeLine; decide, hd, [(ks, b, u2)], .cons ⟨rfl, ?_, r2⟩ .nil, oq, es, ep, h1, h2, h3, h4, h5⟩
  rw [upd_ne (ne_of eb e (fun z => nomatch z))]
  exact eb

/-! ### all(xs), xs whole numbers -/
theorem truth_ints {P : Program} {w : World} {A : Around} {ns : List Int} {its : List Value} (e : IntsAre its ns) :
    TruthOf P w A (fun i v => its.toArray[i]? = some v) (fun i => (ns.map (· != 0)).getD i false) := fun i v s Q E hv hq => by
  have hv2 : its[i]? = some v := by simpa using hv
  obtain ⟨x, hx, t, rfl⟩ : ∃ x, ns[i]? = some x ∧ ∃ t, v = .int x t := by
    have rr : Vals (ns.map V.int) its := vals_of_ints e
    cases hn : ns[i]? with
    | none =>
      have z : (ns.map V.int)[i]? = none := by rw [List.getElem?_map, hn]; rfl
      rw [rr.none_of z] at hv2
      cases hv2
    | some x =>
      have z : (ns.map V.int)[i]? = some (.int x) := by rw [List.getElem?_map, hn]; rfl
      obtain ⟨u, hu, ru⟩ := rr.get z
      rw [hu] at hv2
      cases hv2
      exact ⟨x, rfl, ru⟩
  have hg : (ns.map (· != 0)).getD i false = (x != 0) := by
    rw [List.getD_eq_getElem?_getD, List.getElem?_map, hx]
    rfl
  refine PySem.P.truthy_int ?_
  have hq2 : Q ((ns.map (· != 0)).getD i false) s := hq
  rw [hg] at hq2
  exact hq2
def rAllI (K : PySem.W.Frag) : List V → Hp → VK → Prop := fun vs H Q => ∃ (a : Addr) (ns : List Int), vs = [V.ref a] ∧ SqL K H a (ns.map V.int) ∧ Q (.bl (ns.all (· != 0))) H
theorem cr_allI {X : Cx} (hc : X.calm = true) : CallR X (.builtin "all") (rAllI X.K) := by
  intro pins s σ H vs us Q I r h
  obtain ⟨a, ns, rfl, hs, q⟩ := h
  obtain ⟨its, rv, hl, _⟩ := I.list hs
  rw [Vals.ref1 r]
  have hi : IntsAre its ns := Vals.ints rv
  refine call_all_walk (iter_any hl.isList fun s2 e2 st hne => ?_)
  subst e2
  refine ⟨_, _, _, _, _, _, _, rfl, Walks.list (A := X.A.in1) (I.ok.hd hc) _ a hne its.toArray, st, truth_ints hi, fun h' tk hk => ?_⟩
  have K1 : ∀ b o, s.heap.get? b = some o → h'.get? b = some o := fun b o eo => hk b o (fun hm => by
    rcases List.mem_cons.mp hm with z | hm
    · exact absurd (z ▸ Heap.lt_size eo) (Nat.lt_irrefl _)
    · cases hm) (Heap.get?_push_of_some _ eo)
  refine ⟨.bl (ns.all (· != 0)), H, I.kept K1, ?_, q⟩
  show Value.bool _ = Value.bool _
  have hn : its.toArray.size = (ns.map (· != 0)).length := by
    rw [List.size_toArray, List.length_map, ← rv.length, List.length_map]
  rw [hn, L2.all_range, List.all_map]
  rfl

/-! ### enumerate(t), t a tuple -/
theorem meets_enum_new {v : Value} {o : Obj} {C : Heap → Prop} (B : Begins v o C) :
    Meets (Builtin.«enumerate.__new__» ⟨[.type "enumerate", v], []⟩) (fun _ R s => C s.heap ∧
      R (.ok (.ret (.ref (s.heap.push o).objs.size))) { s with heap := (s.heap.push o).push { cls := .type "enumerate", data := .fields #[.none, .bool false, .ref s.heap.objs.size, rawInt 0, .none, .none] } }) :=
  .of_wp fun prog w A R s h => by
    obtain ⟨hp, g, d, tk, os⟩ := s
    obtain ⟨hC, h⟩ := h
    have hsub := sub_enumerate
    have step : ∀ {A2 : Around} {E2 : Value → Shared → Prop} {Q2 : Value → Shared → Prop}, Q2 (.ref hp.objs.size) ⟨hp.push o, g, d, tk, os⟩ → wpAny (model prog w) A2 (pyIter v) Q2 E2 ⟨hp, g, d, tk, os⟩ :=
      fun z => B.iter prog w _ _ ⟨hp, g, d, tk, os⟩ _ hC z
    wp_walk using step
    refine wpAny_stack_any fun st => wpAny_pure ?_
    split
    · rename_i c _ _ _ _ _
      cases (c == Value.type "enumerate")
      · wp_walk using step
        exact ⟨_, rfl, h⟩
      · wp_walk using step
        exact ⟨_, rfl, h⟩
    · wp_walk using step
      exact ⟨_, rfl, h⟩
theorem call_enum_new {P : Program} {w : World} {A : Around} {E : Value → Shared → Prop} {s : Shared} {v : Value} {o : Obj} {C : Heap → Prop} {Q : Value → Shared → Prop} (B : Begins v o C) (hC : C s.heap)
    (h : ∀ h', IsEnum h' (s.heap.objs.size + 1) s.heap.objs.size 0 .none → h'.get? s.heap.objs.size = some o →
      (∀ b q, s.heap.get? b = some q → h'.get? b = some q) → Q (.ref (s.heap.objs.size + 1)) { s with heap := h' }) :
    wpAny (model P w) A (call (.type "enumerate") [v]) Q E s := by
  refine callType_new F.called_enumerate (by decide) (F.typeCall_enumerate_1 _) (F.newCall_enumerate_1 _) (fun obj => F.args_object_init_2 obj _) F.entry_enumerate_new (meets_enum_new B) ⟨hC, ?_⟩
  have hz : (s.heap.push o).objs.size = s.heap.objs.size + 1 := Heap.size_push ..
  show _ ∧ _
  rw [hz]
  have he : IsEnum ((s.heap.push o).push { cls := .type "enumerate", data := .fields #[.none, .bool false, .ref s.heap.objs.size, rawInt 0, .none, .none] }) (s.heap.objs.size + 1) s.heap.objs.size 0 .none := by
    have z := Heap.get?_push_size (s.heap.push o) (o := { cls := .type "enumerate", data := .fields #[.none, .bool false, .ref s.heap.objs.size, rawInt 0, .none, .none] }) rfl
    rw [hz] at z
    exact z
  exact ⟨⟨_, he, rfl⟩, h _ he (Heap.get?_push_of_some _ (Heap.get?_push_size _ B.free)) fun b q x => Heap.get?_push_of_some _ (Heap.get?_push_of_some _ x)⟩
def Iet (K : PySem.W.Frag) (a : Addr) : It :=
  ⟨fun i H => ∃ (xs : List V) (x : V), SqT K H a xs ∧ xs[i]? = some x, fun i H v H' => ∃ T x, v = .ref T ∧ H T = none ∧ H' = upd H T (.tup [.int (i : Nat), x]) ∧ ∀ xs, SqT K H a xs → xs[i]? = some x,
    fun i H => ∃ xs : List V, SqT K H a xs ∧ xs.length = i⟩
theorem turn_enumT {P : Program} {w : World} {K : PySem.W.Frag} {elts : List Expr} {kk : Nat} {tpos : Pos} (a e it : Addr) :
    Turn P w K (.Tuple elts kk tpos) (Iet K a) [e, it] e (fun i h => (∃ old, IsEnum h e it ((i : Nat) : Int) old) ∧ h.IsTupleIter it a i ∧ e ≠ it ∧ e ≠ a ∧ a ≠ it) where
  mem := List.mem_cons_self ..
  obj := fun i h st b hb => by
    obtain ⟨⟨old, he⟩, ⟨o, ho, hc, hd⟩, _⟩ := st
    rcases List.mem_cons.mp hb with z | hb
    · rw [z]; exact ⟨_, he, fun v q => nomatch q⟩
    · rw [List.mem_singleton.mp hb]; exact ⟨o, ho, fun v q => by rw [hd] at q; cases q⟩
  keep := fun i h h' st k => by
    obtain ⟨⟨old, he⟩, hi, r⟩ := st
    exact ⟨⟨old, k e (by simp) _ he⟩, hi.at fun o q => k it (by simp) o q, r⟩
  item := by
    intro X hP hw hK hc i pins s σ H E I hf st hg
    subst hP hw hK
    obtain ⟨⟨old, he⟩, hit, n1, n2, n3⟩ := st
    obtain ⟨xs, x, hq, hx⟩ := hg
    obtain ⟨its, rv, pt, hz⟩ := I.tuple hq
    obtain ⟨u, hu, ru⟩ := rv.get hx
    have hel : e < s.heap.objs.size := Heap.lt_size he
    have hil : it < s.heap.objs.size := by obtain ⟨_, q, _⟩ := hit; exact Heap.lt_size q
    have hlt : i < its.toArray.size := by
      have := (List.getElem?_eq_some_iff.mp hu).1
      simpa using this
    refine wpAny_pyNext_enum_itemC (Draws.tuple (A := X.A.in1) (I.ok.hd hc) it a n3 its.toArray) he ⟨hit, pt⟩ hlt n1 (by simp [n1, n2]) fun y h' tk hy ho hst hT hsz hk => ?_
    have ey : y = u := by
      have hy2 : its[i]? = some y := by simpa using hy
      rw [hu] at hy2
      exact (Option.some.inj hy2).symm
    subst ey
    refine ⟨_, rfl, wpAny_letOwnedTupleGo_enum (s := { s with heap := h', toks := tk + 1 }) ho fun h2 he2 sb => ?_⟩
    have hT2 : h2.get? s.heap.objs.size = some { cls := .type "tuple", data := .seq #[.int i tk, y] } := (sb.2 _ (Nat.ne_of_gt hel)).trans hT
    have new : ObjOk X.prog X.w (upd H s.heap.objs.size (.tup [.int (i : Nat), x])) h2 s.heap.objs.size (.tup [.int (i : Nat), x]) :=
      ⟨by show 2 ≤ sizeLine; decide, [.int i tk, y], .cons ⟨_, rfl⟩ (.cons ru .nil), ⟨_, hT2, rfl, _, rfl⟩⟩
    have I1 : Inv X pins σ (upd H s.heap.objs.size (.tup [.int (i : Nat), x])) { s with heap := h2, toks := tk + 1 } :=
      I.turnedNew (ch := [e, it]) (fun b ob hb q => (sb.2 b (fun z => hb (by simp [z]))).trans (hk b ob (fun z => hb (by simp [z])) (fun z => hb (by simp [z])) q)) hf (Nat.le_refl _) new
    refine ⟨.ref s.heap.objs.size, _, I1, rfl, ⟨_, x, rfl, I.hok.fresh (Nat.le_refl _), rfl, fun ys hy => by rw [I.tuple_inj hy hq]; exact hx⟩, ⟨⟨y, ?_⟩, hst.1.at fun o q => (sb.2 it (Ne.symm n1)).trans q, n1, n2, n3⟩, fun b hb => ?_⟩
    · have e1 : ((i + 1 : Nat) : Int) = (i : Int) + 1 := by omega
      rw [e1]
      exact he2
    · have hb2 : b < s.heap.objs.size := by
        rcases List.mem_cons.mp hb with z | hb
        · rw [z]; exact hel
        · rw [List.mem_singleton.mp hb]; exact hil
      rw [upd_ne (Nat.ne_of_lt hb2)]
      exact (hf b hb).1
  done := by
    intro X hP hw hK hc i pins s σ H E I hf st hg
    subst hP hw hK
    obtain ⟨⟨old, he⟩, hit, n1, n2, n3⟩ := st
    obtain ⟨xs, hq, hx⟩ := hg
    obtain ⟨its, rv, pt, hz⟩ := I.tuple hq
    obtain ⟨f0, f1, f2, f3, f4, f5⟩ := hf it (by simp)
    have hn : its.toArray.size = i := by rw [List.size_toArray, ← rv.length, hx]
    exact wpAny_pyNext_enum_endD (Draws.tuple (A := X.A.in1) (I.ok.hd hc) it a n3 its.toArray) he ⟨by rw [hn]; exact hit, pt⟩ fun h' eb => ⟨rfl, I.turned (t' := s.toks) (fun b o hb q => eb b o hb q) f0 f1 f3 f4 f5⟩
  self := fun A i s Q E st h => by
    obtain ⟨⟨_, he⟩, _⟩ := st
    exact wpAny_pyIter_enum he h
def iEnumT (K : PySem.W.Frag) (ta : TA) : TI := fun σ H R => ta σ H fun vs H1 => ∃ a xs, vs = [.ref a] ∧ SqT K H1 a xs ∧ R (Iet K a) H1
theorem pi_enumT {X : Cx} {e : Expr} {ta : TA} {p pos tpos : Pos} {elts : List Expr} {kk : Nat} (hg : Gl X "enumerate") (hm : X.mg "enumerate" = none) (ha : PA X [e] ta) (hs : starEach [e] X.env = [(false, eval e X.env)] := by rfl) :
    PI X (.Tuple elts kk tpos) (.Call (.Name "enumerate" p) [e] [] pos) (iEnumT X.K ta) := by
  constructor
  intro pins s σ H R I h
  refine Call_ (ld_blt I hg hm boot_enumerate (PyProof.Rows.callWith_type1 (thn (ha.run pos pins s σ H _ I h) fun us s1 ⟨vs, H1, I1, r1, q1⟩ => ?_) hs rfl))
  obtain ⟨a, xs, ex, hq, q⟩ := q1
  subst ex
  obtain ⟨u, eu, ru⟩ := Vals.one r1
  subst eu
  cases (show u = Value.ref a from ru)
  obtain ⟨its, rv, pt, hz⟩ := I1.tuple hq
  have hlt : a < s1.heap.objs.size := pt.lt
  refine call_enum_new (begins_tuple a its.toArray) pt fun h' he hit hk => wpAny_pyIter_enum he ?_
  have I2 : Inv X pins σ H1 { s1 with heap := h' } := I1.kept (t' := s1.toks) hk
  refine ⟨s1.heap.objs.size + 1, [s1.heap.objs.size + 1, s1.heap.objs.size], _, _, H1, rfl, I2, turn_enumT a (s1.heap.objs.size + 1) s1.heap.objs.size, ⟨⟨.none, he⟩, ⟨_, hit, rfl, rfl⟩, Nat.succ_ne_self _, Nat.ne_of_gt (Nat.lt_succ_of_lt hlt), Nat.ne_of_lt hlt⟩, fun b hb => ?_, q⟩
  have hle : s1.heap.objs.size ≤ b := by
    rcases List.mem_cons.mp hb with z | hb
    · rw [z]; exact Nat.le_succ _
    · rw [List.mem_singleton.mp hb]; exact Nat.le_refl _
  exact I1.fpOk hle (I1.hok.fresh hle)
theorem walk_enumT {K : PySem.W.Frag} {a : Addr} {xs : List V} : Walk (Iet K a) xs.length (fun H => SqT K H a xs) (YPair (fun i => some (.int (i : Nat))) (fun i => xs[i]?)) := by
  refine ⟨fun i _ hi q => ⟨xs, xs[i], q, by simp [hi]⟩, fun _ q => ⟨xs, q, rfl⟩, fun i H v H' _ q y => ?_⟩
  obtain ⟨T, x, h1, h2, h3, h4⟩ := y
  exact ⟨T, .int (i : Nat), x, h1, h2, h3, rfl, h4 xs q⟩

/-! ### xs[i] op= n -/
def rGetL (K : PySem.W.Frag) : V → V → Hp → VK → Prop := fun o i H Q => ∃ (p : Addr) (xs : List V) (j : Nat) (v : V), o = .ref p ∧ i = .int (j : Int) ∧ SqL K H p xs ∧ xs[j]? = some v ∧ Q v H
theorem get_list {X : Cx} : PGet X (rGetL X.K) := by
  intro pins s σ H o i ov iv Q I ro ri h
  obtain ⟨p, xs, j, v, rfl, rfl, hq, hj, q⟩ := h
  cases (show ov = Value.ref p from ro)
  obtain ⟨t, rfl⟩ := ri
  obtain ⟨its, rv, pl, hz⟩ := I.list hq
  obtain ⟨u, hu, ru⟩ := rv.get hj
  have hl := rv.length
  have hlt : j < its.length := (List.getElem?_eq_some_iff.mp hu).1
  have hn := line63
  exact wpAny_getItem_list pl.isList (Int.natCast_nonneg j) (by omega) (by simpa using hu) ⟨v, H, I, ru, q⟩
end SW

namespace SW
open PySem PySem.Spec PyProof.Rows L2
open Ks577 (move)
open PySem.W (Codec)
/-! ### the heap's words -/
def nv (n : Nat) : V := V.int (n : Int)
def iv (c : List Nat) : List V := c.map nv
def keyOf (c : List Nat) : List Key := c.map fun (n : Nat) => (Sum.inl (n : Int) : Key)
theorem keyOf_kV (c : List Nat) : (keyOf c).map kV = iv c := by
  unfold keyOf iv
  rw [List.map_map]
  rfl
theorem keyOf_inj : ∀ {c d : List Nat}, keyOf c = keyOf d → c = d
  | [], [], _ => rfl
  | [], _ :: _, h => absurd (congrArg List.length h) (by simp [keyOf])
  | _ :: _, [], h => absurd (congrArg List.length h) (by simp [keyOf])
  | x :: c, y :: d, h0 => by
    have h : (Sum.inl (x : Int) : Key) :: keyOf c = Sum.inl (y : Int) :: keyOf d := h0
    have h1 : (Sum.inl (x : Int) : Key) = Sum.inl (y : Int) := (List.cons.inj h).1
    have h2 : (x : Int) = (y : Int) := Sum.inl.inj h1
    have h3 : x = y := by omega
    rw [h3, keyOf_inj (List.cons.inj h).2]
theorem iv_len (c : List Nat) : (iv c).length = c.length := List.length_map ..
theorem iv_get {c : List Nat} {i : Nat} (h : i < c.length) : (iv c)[i]? = some (nv (c.getD i 0)) := by
  unfold iv
  rw [List.getElem?_map, List.getElem?_eq_getElem h, List.getD_eq_getElem?_getD, List.getElem?_eq_getElem h]
  rfl
theorem iv_set (c : List Nat) (i a : Nat) : (iv c).set i (nv a) = iv (c.set i a) := by
  unfold iv
  rw [List.map_set]
theorem iv_snoc (c : List Nat) (a : Nat) : iv c ++ [nv a] = iv (c ++ [a]) := by
  unfold iv
  rw [List.map_append]
  rfl
theorem ixN_nat {n i : Nat} (h : i < n) : ixN n (i : Int) = some i := by
  unfold ixN
  rw [if_pos (Int.natCast_nonneg i), if_pos (by omega)]
  rfl
/-- the tuples at bs hold cs -/
def Tups (H : Hp) (bs : List Addr) (cs : List Cfg) : Prop := Paired (fun b c => H b = some (.tup (iv c))) bs cs
theorem Tups.same {H H' : Hp} {bs : List Addr} {cs : List Cfg} (t : Tups H bs cs) (s : Same H H') : Tups H' bs cs := Paired.mapP t fun _ _ e => s _ _ e
theorem Tups.len {H : Hp} {bs : List Addr} {cs : List Cfg} (t : Tups H bs cs) : bs.length = cs.length := Paired.length t
theorem Tups.get {H : Hp} {bs : List Addr} {cs : List Cfg} (t : Tups H bs cs) {i : Nat} {b : Addr} (h : bs[i]? = some b) : ∃ c, cs[i]? = some c ∧ H b = some (.tup (iv c)) := paired_get t h
theorem Tups.snoc {H : Hp} {bs : List Addr} {cs : List Cfg} (t : Tups H bs cs) {b : Addr} {c : Cfg} (h : H b = some (.tup (iv c))) : Tups H (bs ++ [b]) (cs ++ [c]) := by
  unfold Tups at t ⊢
  induction t with
  | nil => exact .cons h .nil
  | cons r _ ih => exact .cons r ih
theorem Tups.upd {H : Hp} {bs : List Addr} {cs : List Cfg} (t : Tups H bs cs) {p : Addr} {o u : HO} (h : H p = some o) (ho : ∀ xs, o ≠ .tup xs) : Tups (upd H p u) bs cs :=
  Paired.mapP t fun b c e => by
    rw [upd_ne (ne_of e h (fun z => ho _ z.symm))]
    exact e
def edgeCfg (ps : List (Nat × Nat)) : List Cfg := ps.map fun p => [p.1, p.2]
/-- the list at a holds the pairs' tuples -/
def PairsAt (H : Hp) (a : Addr) (ps : List (Nat × Nat)) : Prop := ∃ bs : List Addr, H a = some (.lst (bs.map V.ref)) ∧ Tups H bs (edgeCfg ps)
theorem PairsAt.same {H H' : Hp} {a : Addr} {ps : List (Nat × Nat)} (t : PairsAt H a ps) (s : Same H H') : PairsAt H' a ps := by
  obtain ⟨bs, h, t⟩ := t
  exact ⟨bs, s _ _ h, t.same s⟩
theorem same_upd {H : Hp} {p : Addr} {o : HO} (h : H p = none) : Same H (upd H p o) := fun b x e => by
  rw [upd_ne (ne_of_none e h)]
  exact e
/-- what was there ahead of p's making -/
theorem same_put {H0 H : Hp} {p : Addr} {o : HO} (s : Same H0 H) (h : H0 p = none) : Same H0 (upd H p o) := fun b x e => by
  rw [upd_ne (ne_of_none e h)]
  exact s b x e
theorem line5 {n : Nat} (h : n ≤ 400000) : n < sizeLine := Nat.lt_of_le_of_lt h (by decide)

theorem succ_snoc (ps : List (Nat × Nat)) (p : Nat × Nat) (c : Cfg) :
    succ (ps ++ [p]) c = (succ ps c ++ if 2 ≤ c.getD p.1 0 then [move c p.1 p.2] else []) ++ (if 2 ≤ c.getD p.2 0 then [move c p.2 p.1] else []) := by
  unfold succ
  rw [List.flatMap_append, List.flatMap_singleton, List.append_assoc]
theorem take_snoc {α : Type} {l : List α} {i : Nat} {x : α} (h : l[i]? = some x) : l.take (i + 1) = l.take i ++ [x] := by
  rw [List.take_add_one, h]
  rfl
theorem edge_get {ps : List (Nat × Nat)} {i : Nat} {c : Cfg} (h : (edgeCfg ps)[i]? = some c) : ∃ p, ps[i]? = some p ∧ c = [p.1, p.2] := by
  unfold edgeCfg at h
  rw [List.getElem?_map] at h
  cases e : ps[i]? with
  | none => rw [e] at h; cases h
  | some p => rw [e] at h; exact ⟨p, rfl, (Option.some.inj h).symm⟩
theorem ref_get {bs : List Addr} {i : Nat} {x : V} (h : (bs.map V.ref)[i]? = some x) : ∃ b, bs[i]? = some b ∧ x = .ref b := by
  rw [List.getElem?_map] at h
  cases e : bs[i]? with
  | none => rw [e] at h; cases h
  | some b => rw [e] at h; exact ⟨b, rfl, (Option.some.inj h).symm⟩
/-! ### the dict of what is seen -/
def kvsOf (seen : List Cfg) : List (List Key × V) := seen.map fun c => (keyOf c, V.bl true)
theorem kvs_in {f : Cfg} : ∀ {seen : List Cfg}, f ∈ seen → valV (kvsOf seen) (keyOf f) = some (V.bl true)
  | [], h => absurd h (by simp)
  | x :: r, h => by
    by_cases e : x = f
    · exact valV_pos (p := (keyOf x, V.bl true)) (by rw [e])
    · have hr : f ∈ r := by
        rcases List.mem_cons.mp h with z | z
        · exact absurd z.symm e
        · exact z
      show valV ((keyOf x, V.bl true) :: kvsOf r) (keyOf f) = _
      rw [valV_neg (fun z => e (keyOf_inj z))]
      exact kvs_in hr
theorem kvs_out {f : Cfg} : ∀ {seen : List Cfg}, f ∉ seen → valV (kvsOf seen) (keyOf f) = none
  | [], _ => rfl
  | x :: r, h => by
    show valV ((keyOf x, V.bl true) :: kvsOf r) (keyOf f) = _
    rw [valV_neg (fun z => h (by rw [keyOf_inj z]; exact List.mem_cons_self ..))]
    exact kvs_out fun z => h (List.mem_cons_of_mem _ z)
theorem kvs_snoc (seen : List Cfg) (f : Cfg) : kvsOf seen ++ [(keyOf f, V.bl true)] = kvsOf (seen ++ [f]) := by
  unfold kvsOf
  rw [List.map_append]
  rfl
theorem kvs_len (seen : List Cfg) : (kvsOf seen).length = seen.length := List.length_map ..
theorem tups_keys {H : Hp} : ∀ {seen : List Cfg} {bs : List Addr}, IsKeys H (kvsOf seen) bs → Tups H bs seen
  | [], _, h => by
    cases h
    exact .nil
  | x :: r, _, h => by
    cases h with
    | cons h1 h2 =>
      refine .cons ?_ (tups_keys h2)
      rw [← keyOf_kV]
      exact h1
theorem Tups.last {H : Hp} {ws : List Addr} {wait : List Cfg} (t : Tups H ws wait) (h : 0 < ws.length) : ∃ ws' b wait' x, ws = ws' ++ [b] ∧ wait = wait' ++ [x] ∧ Tups H ws' wait' ∧ H b = some (.tup (iv x)) := by
  unfold Tups at t
  induction t with
  | nil => exact absurd h (by simp)
  | @cons b x l1 l2 r t ih =>
    cases t with
    | nil => exact ⟨[], b, [], x, rfl, rfl, .nil, r⟩
    | cons r2 t2 =>
      obtain ⟨ws', b', wait', x', e1, e2, t', hb⟩ := ih (by simp)
      exact ⟨b :: ws', b', x :: wait', x', by rw [e1]; rfl, by rw [e2]; rfl, .cons r t', hb⟩
/-! ### marks, one by one -/
def half (n : Nat) (cs : List Cfg) (d : Cfg) (j : Nat) : List Nat := (List.range n).map fun v => mark (hit cs v || (decide (v < j) && decide (0 < d.getD v 0)))
theorem half_zero (n : Nat) (cs : List Cfg) (d : Cfg) : half n cs d 0 = marksOf n cs := by
  unfold half marksOf
  refine List.map_congr_left fun v _ => ?_
  rw [decide_eq_false (Nat.not_lt_zero v), Bool.false_and, Bool.or_false]
theorem hit_snoc (cs : List Cfg) (d : Cfg) (v : Nat) : hit (cs ++ [d]) v = (hit cs v || decide (0 < d.getD v 0)) := by
  unfold hit
  rw [List.any_append]
  simp
theorem half_all (n : Nat) (cs : List Cfg) (d : Cfg) : half n cs d n = marksOf n (cs ++ [d]) := by
  unfold half marksOf
  refine List.map_congr_left fun v hv => ?_
  rw [decide_eq_true (List.mem_range.mp hv), Bool.true_and, hit_snoc]
theorem half_len (n : Nat) (cs : List Cfg) (d : Cfg) (j : Nat) : (half n cs d j).length = n := by
  unfold half
  rw [List.length_map, List.length_range]
theorem half_get {n : Nat} {cs : List Cfg} {d : Cfg} {j v : Nat} (h : v < n) : (half n cs d j)[v]? = some (mark (hit cs v || (decide (v < j) && decide (0 < d.getD v 0)))) := by
  unfold half
  rw [List.getElem?_map, List.getElem?_range h]
  rfl
theorem half_more {n : Nat} {cs : List Cfg} {d : Cfg} {j : Nat} (hj : j < n) : half n cs d (j + 1) = if 0 < d.getD j 0 then (half n cs d j).set j 1 else half n cs d j := by
  apply List.ext_getElem?
  intro v
  by_cases hv : v < n
  · rw [half_get hv]
    by_cases hp : 0 < d.getD j 0
    · rw [if_pos hp]
      by_cases e : j = v
      · subst e
        rw [List.getElem?_set_self (by rw [half_len]; exact hv), decide_eq_true (Nat.lt_succ_self j), decide_eq_true hp, Bool.true_and, Bool.or_true]
        rfl
      · rw [List.getElem?_set_ne e, half_get hv]
        have e2 : decide (v < j + 1) = decide (v < j) := by
          rw [decide_eq_decide]
          omega
        rw [e2]
    · rw [if_neg hp, half_get hv]
      by_cases e : j = v
      · subst e
        rw [decide_eq_false hp, Bool.and_false, Bool.and_false]
      · have e2 : decide (v < j + 1) = decide (v < j) := by
          rw [decide_eq_decide]
          omega
        rw [e2]
  · have z : ∀ {l : List Nat}, l.length = n → l[v]? = none := fun h => List.getElem?_eq_none (by omega)
    rw [z (half_len ..)]
    split
    · rw [z (by rw [List.length_set, half_len])]
    · rw [z (half_len ..)]
theorem marks_nil (n : Nat) : marksOf n [] = List.replicate n 0 := by
  unfold marksOf
  refine List.eq_replicate_iff.mpr ⟨by rw [List.length_map, List.length_range], fun b hb => ?_⟩
  obtain ⟨v, _, rfl⟩ := List.mem_map.mp hb
  rfl
theorem marks_len (n : Nat) (cs : List Cfg) : (marksOf n cs).length = n := by
  unfold marksOf
  rw [List.length_map, List.length_range]
theorem flat_rep (x : V) : ∀ n : Nat, (List.replicate n [x]).flatten = List.replicate n x
  | 0 => rfl
  | n + 1 => by
    rw [List.replicate_succ, List.flatten_cons, flat_rep x n]
    rfl
theorem rg_small : ∀ m : Nat, m ≤ 22 → RgC 0 (m : Int) 2 ((m + 1) / 2) := by
  intro m hm
  refine ⟨by decide, by decide, ?_, ?_⟩
  · have h : ∀ k ∈ List.range 23, Builtin.Range.small 0 ((k : Nat) : Int) 2 = true := by decide
    exact h m (List.mem_range.mpr (by omega))
  · have h : ∀ k ∈ List.range 23, Builtin.Range.rangeSize 0 ((k : Nat) : Int) 2 = (((k + 1) / 2 : Nat) : Int) := by decide
    exact h m (List.mem_range.mpr (by omega))
theorem edge_take_snoc {ps : List (Nat × Nat)} {i : Nat} {p : Nat × Nat} (h : ps[i]? = some p) : edgeCfg (ps.take (i + 1)) = edgeCfg (ps.take i) ++ [[p.1, p.2]] := by
  rw [take_snoc h]
  unfold edgeCfg
  rw [List.map_append]
  rfl
/-- tuples of two numbers, one at most the other -/
theorem le_pair (p b : Nat × Nat) : Ob.lexAt (fun j => decide (([(p.1 : Int), (p.2 : Int)]).getD j 0 = ([(b.1 : Int), (b.2 : Int)]).getD j 0)) (fun j => decide (([(p.1 : Int), (p.2 : Int)]).getD j 0 ≤ ([(b.1 : Int), (b.2 : Int)]).getD j 0))
    (decide (([(p.1 : Int), (p.2 : Int)]).length ≤ ([(b.1 : Int), (b.2 : Int)]).length)) 0 (min ([(p.1 : Int), (p.2 : Int)]).length ([(b.1 : Int), (b.2 : Int)]).length) = !ltP b p := by
  show (if decide ((p.1 : Int) = (b.1 : Int)) = true then (if decide ((p.2 : Int) = (b.2 : Int)) = true then true else decide ((p.2 : Int) ≤ (b.2 : Int))) else decide ((p.1 : Int) ≤ (b.1 : Int))) = !ltP b p
  unfold ltP
  by_cases h1 : (p.1 : Int) = (b.1 : Int)
  · rw [if_pos (decide_eq_true h1)]
    by_cases h2 : (p.2 : Int) = (b.2 : Int)
    · rw [if_pos (decide_eq_true h2), decide_eq_false (by omega)]
      rfl
    · rw [if_neg (by simpa using h2)]
      by_cases h3 : (p.2 : Int) ≤ (b.2 : Int)
      · rw [decide_eq_true h3, decide_eq_false (by omega)]
        rfl
      · rw [decide_eq_false h3, decide_eq_true (by omega)]
        rfl
  · rw [if_neg (by simpa using h1)]
    by_cases h3 : (p.1 : Int) ≤ (b.1 : Int)
    · rw [decide_eq_true h3, decide_eq_false (by omega)]
      rfl
    · rw [decide_eq_false h3, decide_eq_true (by omega)]
      rfl
def gfits (n : Nat) (l : List Nat) : Bool := decide (1 ≤ n) && decide (n ≤ 5) && decide (l.length % 2 = 0) && fits n (pairsOf l)
def cfits (n : Nat) (c : List Nat) : Bool := decide (c.length = n) && decide (c.sum ≤ 12)
theorem sum_cast : ∀ c : List Nat, (c.map fun (n : Nat) => (n : Int)).sum = ((c.sum : Nat) : Int)
  | [] => rfl
  | x :: r => by
    rw [List.map_cons, List.sum_cons, List.sum_cons, sum_cast r]
    omega
theorem iv_ints (c : List Nat) : iv c = (c.map fun (n : Nat) => (n : Int)).map V.int := by
  unfold iv
  rw [List.map_map]
  rfl
def toZ (l : List Nat) : List Int := l.map fun (n : Nat) => (n : Int)
theorem toZ_nat (l : List Nat) : (toZ l).map Int.toNat = l := by
  unfold toZ
  rw [List.map_map]
  exact (List.map_congr_left fun n _ => Int.toNat_natCast n).trans (List.map_id l)
theorem nat_toZ : ∀ {l : List Int}, (∀ x ∈ l, 0 ≤ x) → toZ (l.map Int.toNat) = l
  | [], _ => rfl
  | x :: r, h => by
    show (x.toNat : Int) :: toZ (r.map Int.toNat) = x :: r
    rw [nat_toZ fun y hy => h y (List.mem_cons_of_mem _ hy), Int.toNat_of_nonneg (h x (List.mem_cons_self ..))]
theorem graph_eq (n : Nat) (l : List Nat) : Ks577.parseGraph n l = if gfits n l = true then some ⟨n, pairsOf l⟩ else none := by
  unfold Ks577.parseGraph gfits
  by_cases h : n < 1 ∨ Ks577.maxVertices < n
  · rw [if_pos h, if_neg]
    intro z
    simp only [Bool.and_eq_true, decide_eq_true_eq] at z
    have h5 : Ks577.maxVertices = 5 := rfl
    omega
  · have h5 : Ks577.maxVertices = 5 := rfl
    rw [if_neg h, parse_eq, decide_eq_true (show 1 ≤ n by omega), decide_eq_true (show n ≤ 5 by omega), Bool.true_and, Bool.true_and]
    by_cases h2 : l.length % 2 = 0 ∧ fits n (pairsOf l) = true
    · rw [if_pos h2, if_pos (by rw [decide_eq_true h2.1, h2.2]; rfl)]
      rfl
    · rw [if_neg h2, if_neg]
      · rfl
      · intro z
        simp only [Bool.and_eq_true, decide_eq_true_eq] at z
        exact h2 z
theorem gfits_good {n : Nat} {l : List Nat} (h : gfits n l = true) : Good ⟨n, pairsOf l⟩ ∧ n ≤ 5 ∧ l.length % 2 = 0 := by
  unfold gfits at h
  simp only [Bool.and_eq_true, decide_eq_true_eq] at h
  exact ⟨fits_ends h.2, h.1.1.2, h.1.2⟩
theorem valid_eq (g : Ks577.Graph) (c : Cfg) : Ks577.isValidConfiguration g c = cfits g.vertexCount c := by
  unfold Ks577.isValidConfiguration cfits
  rw [Bool.beq_eq_decide_eq]
  rfl
theorem marks_spec {g : Ks577.Graph} (hg : Good g) {c : Cfg} {cs : List Cfg} (h : Lists g.edges c cs) (n : Nat) : ((List.range n).map fun v => if Ks577.canReach g c v 1 = true then 1 else 0) = marksOf n cs := by
  unfold marksOf
  refine List.map_congr_left fun v _ => ?_
  rw [canReach_hit hg h]
  rfl
theorem solv_spec {g : Ks577.Graph} (hg : Good g) {c : Cfg} {cs : List Cfg} (h : Lists g.edges c cs) : Ks579.isSolvable g c = (toZ (marksOf g.vertexCount cs)).all (· != 0) := by
  unfold Ks579.isSolvable toZ marksOf
  rw [List.all_map, List.all_map]
  congr 1
  funext v
  show Ks577.canReach g c v 1 = (((mark (hit cs v) : Nat) : Int) != 0)
  rw [canReach_hit hg h]
  cases hit cs v <;> rfl
/-! ### the codecs' bounds -/
theorem cod_int {n : Int} (q : Codec.inInt 0 4294967295 n = true) : ((n.toNat : Nat) : Int) = n := by
  unfold Codec.inInt at q
  simp only [Bool.and_eq_true, decide_eq_true_eq] at q
  omega
theorem cod_pos {l : List Int} (h : l.all (Codec.inInt 0 4294967295) = true) : ∀ x ∈ l, 0 ≤ x := fun x hx => by
  have z := List.all_eq_true.mp h x hx
  unfold Codec.inInt at z
  simp only [Bool.and_eq_true, decide_eq_true_eq] at z
  exact z.1
end SW

namespace SW
open PySem PySem.Spec PyProof.Rows L2
/-! ### the text -/
def topS (i : Nat) : Stmt := PySem.Challenge.pw_stonewalk_s01_is_solvable.main.body.getD i (.Pass ⟨0, 0, 0, 0⟩)
abbrev s_is_solvable : Stmt := topS 4
abbrev s_graph_fits : Stmt := topS 5
abbrev s_edge_pairs : Stmt := topS 6
abbrev s_edges_fit : Stmt := topS 7
abbrev s_configuration_fits : Stmt := topS 8
abbrev s_reachable_marks : Stmt := topS 9
abbrev s_configurations_from : Stmt := topS 10
abbrev s_configurations_after_a_move : Stmt := topS 11
abbrev s_moved : Stmt := topS 12
theorem sc_is_solvable : FnScope ["vertex_count", "edges", "pebbles", "marks"] ["vertex_count", "edges", "pebbles"] (defScope s_is_solvable) := ⟨rfl, rfl, rfl, by decide +kernel, rfl, by decide +kernel, by decide +kernel⟩
theorem sc_graph_fits : FnScope ["vertex_count", "edges"] ["vertex_count", "edges"] (defScope s_graph_fits) := ⟨rfl, rfl, rfl, by decide +kernel, rfl, by decide +kernel, by decide +kernel⟩
theorem sc_edge_pairs : FnScope ["edges", "at"] ["edges"] (defScope s_edge_pairs) := ⟨rfl, rfl, rfl, by decide +kernel, rfl, by decide +kernel, by decide +kernel⟩
theorem sc_edges_fit : FnScope ["vertex_count", "pairs", "before", "pair", "u", "v"] ["vertex_count", "pairs"] (defScope s_edges_fit) := ⟨rfl, rfl, rfl, by decide +kernel, rfl, by decide +kernel, by decide +kernel⟩
theorem sc_configuration_fits : FnScope ["vertex_count", "pebbles"] ["vertex_count", "pebbles"] (defScope s_configuration_fits) := ⟨rfl, rfl, rfl, by decide +kernel, rfl, by decide +kernel, by decide +kernel⟩
theorem sc_reachable_marks : FnScope ["pairs", "pebbles", "marks", "configuration", "vertex", "pebbles_here"] ["pairs", "pebbles"] (defScope s_reachable_marks) := ⟨rfl, rfl, rfl, by decide +kernel, rfl, by decide +kernel, by decide +kernel⟩
theorem sc_configurations_from : FnScope ["pairs", "pebbles", "first", "seen", "waiting", "configuration", "following"] ["pairs", "pebbles"] (defScope s_configurations_from) := ⟨rfl, rfl, rfl, by decide +kernel, rfl, by decide +kernel, by decide +kernel⟩
theorem sc_configurations_after_a_move : FnScope ["pairs", "configuration", "results", "u", "v"] ["pairs", "configuration"] (defScope s_configurations_after_a_move) := ⟨rfl, rfl, rfl, by decide +kernel, rfl, by decide +kernel, by decide +kernel⟩
theorem sc_moved : FnScope ["configuration", "source", "target", "changed"] ["configuration", "source", "target"] (defScope s_moved) := ⟨rfl, rfl, rfl, by decide +kernel, rfl, by decide +kernel, by decide +kernel⟩
/-- what the program's defs and constants are, where they stand; what is Python's own -/
structure Txt (K : PySem.W.Frag) (mg : Str → Option Value) where
  f_is_solvable : Addr
  d_is_solvable : FuncData
  F_is_solvable : Fun K "is_solvable" "is_solvable" s_is_solvable f_is_solvable d_is_solvable
  b_is_solvable : Binds K d_is_solvable ["vertex_count", "edges", "pebbles"] []
  g_is_solvable : mg "is_solvable" = some (.ref f_is_solvable)
  f_graph_fits : Addr
  d_graph_fits : FuncData
  F_graph_fits : Fun K "graph_fits" "graph_fits" s_graph_fits f_graph_fits d_graph_fits
  b_graph_fits : Binds K d_graph_fits ["vertex_count", "edges"] []
  g_graph_fits : mg "graph_fits" = some (.ref f_graph_fits)
  f_edge_pairs : Addr
  d_edge_pairs : FuncData
  F_edge_pairs : Fun K "edge_pairs" "edge_pairs" s_edge_pairs f_edge_pairs d_edge_pairs
  b_edge_pairs : Binds K d_edge_pairs ["edges"] []
  g_edge_pairs : mg "edge_pairs" = some (.ref f_edge_pairs)
  f_edges_fit : Addr
  d_edges_fit : FuncData
  F_edges_fit : Fun K "edges_fit" "edges_fit" s_edges_fit f_edges_fit d_edges_fit
  b_edges_fit : Binds K d_edges_fit ["vertex_count", "pairs"] []
  g_edges_fit : mg "edges_fit" = some (.ref f_edges_fit)
  f_configuration_fits : Addr
  d_configuration_fits : FuncData
  F_configuration_fits : Fun K "configuration_fits" "configuration_fits" s_configuration_fits f_configuration_fits d_configuration_fits
  b_configuration_fits : Binds K d_configuration_fits ["vertex_count", "pebbles"] []
  g_configuration_fits : mg "configuration_fits" = some (.ref f_configuration_fits)
  f_reachable_marks : Addr
  d_reachable_marks : FuncData
  F_reachable_marks : Fun K "reachable_marks" "reachable_marks" s_reachable_marks f_reachable_marks d_reachable_marks
  b_reachable_marks : Binds K d_reachable_marks ["pairs", "pebbles"] []
  g_reachable_marks : mg "reachable_marks" = some (.ref f_reachable_marks)
  f_configurations_from : Addr
  d_configurations_from : FuncData
  F_configurations_from : Fun K "configurations_from" "configurations_from" s_configurations_from f_configurations_from d_configurations_from
  b_configurations_from : Binds K d_configurations_from ["pairs", "pebbles"] []
  g_configurations_from : mg "configurations_from" = some (.ref f_configurations_from)
  f_configurations_after_a_move : Addr
  d_configurations_after_a_move : FuncData
  F_configurations_after_a_move : Fun K "configurations_after_a_move" "configurations_after_a_move" s_configurations_after_a_move f_configurations_after_a_move d_configurations_after_a_move
  b_configurations_after_a_move : Binds K d_configurations_after_a_move ["pairs", "configuration"] []
  g_configurations_after_a_move : mg "configurations_after_a_move" = some (.ref f_configurations_after_a_move)
  f_moved : Addr
  d_moved : FuncData
  F_moved : Fun K "moved" "moved" s_moved f_moved d_moved
  b_moved : Binds K d_moved ["configuration", "source", "target"] []
  g_moved : mg "moved" = some (.ref f_moved)
  t_OUTSIDE_LIMITS : Tok
  v_OUTSIDE_LIMITS : mg "OUTSIDE_LIMITS" = some (.int (-22) t_OUTSIDE_LIMITS)
  t_MOST_VERTICES : Tok
  v_MOST_VERTICES : mg "MOST_VERTICES" = some (.int 5 t_MOST_VERTICES)
  t_MOST_PEBBLES : Tok
  v_MOST_PEBBLES : mg "MOST_PEBBLES" = some (.int 12 t_MOST_PEBBLES)
  m_all : mg "all" = none
  m_enumerate : mg "enumerate" = none
  m_len : mg "len" = none
  m_list : mg "list" = none
  m_range : mg "range" = none
  m_sum : mg "sum" = none
  m_tuple : mg "tuple" = none
end SW

namespace SW
open PySem PySem.Spec PyProof.Rows L2
open Ks577 (move)
section
variable {P : Program} {w : World} {K : PySem.W.Frag} {mg : Str → Option Value} {base : Heap}
/-! ### edge_pairs -/
def spEpairs (K : PySem.W.Frag) : Sp := fun vs H Q _ => ∃ (a : Addr) (l : List Nat), vs = [.ref a] ∧ SqL K H a (iv l) ∧ l.length % 2 = 0 ∧ l.length ≤ 22 ∧ ∀ H' p, Same H H' → H p = none → PairsAt H' p (pairsOf l) → Q (.ref p) H'
theorem ok_epairs (T : Txt K mg) {k : Nat} : FnOk P w K mg base CX0 (k + 1) T.f_edge_pairs T.d_edge_pairs ["edges"] (spEpairs K) := by
  refine T.F_edge_pairs.ok sc_edge_pairs (fun vs H Q E h => ?_) (fun cdv A outer s H vs Q E hr h => ?_)
  · obtain ⟨a, l, rfl, _⟩ := h
    rfl
  · obtain ⟨a, l, rfl, hA, hev, h22, q⟩ := h
    refine ⟨_, pss_one (ps_ret (pe_lc (own := [("at", 1)]) (g := gName 1) (tt := tYes) rfl sc_edge_pairs.nd (pi_range3 (by rfl) T.m_range (pa_cons pe_int (pa_cons (pe_callB call_len_seq (by rfl) T.m_len PySem.boot_len (pa_cons (pv 0) pa_nil)) (pa_cons pe_int pa_nil))))
      (blkOk_by (N := ["edges", "at"]) (sc := defScope s_edge_pairs) (by decide +kernel)) (fun _ _ _ _ _ => pg_name (i := 1) sc_edge_pairs.nd rfl (Or.inl rfl)) (fun _ _ _ _ _ => pts_nil)
      (fun _ _ _ _ _ => pe_tup (pa_cons (pe_ix (r := rIxL K) (by exact ix_list) (pv 0) (pv 1) (fun _ _ => rfl)) (pa_cons (pe_ix (r := rIxL K) (by exact ix_list) (pv 0) (pe_op op_add (pv 1) pe_int) (fun _ _ => rfl)) pa_nil))))), ?_⟩
    have hn : (pairsOf l).length = (l.length + 1) / 2 := by
      rw [pairsOf_len]
      omega
    have e22 : ((iv l).length : Int) = ((l.length : Nat) : Int) := by rw [iv_len]
    refine ⟨.ref a, rfl, a, iv l, rfl, .inl hA, 0, ((iv l).length : Int), 2, (l.length + 1) / 2, rfl, by rw [e22]; exact rg_small l.length h22, fun D nD => ?_⟩
    refine lc_it walk_rangeC (fun i H' => Same H H' ∧ ∃ bs : List Addr, H' D = some (.lst (bs.map V.ref)) ∧ Tups H' bs (edgeCfg ((pairsOf l).take i))) ⟨same_upd nD, [], upd_same, .nil⟩ (fun _ _ _ _ => trivial) ?_ ?_
    · rintro i x H1 H2 hi ⟨s1, bs, hD, ht⟩ ⟨rfl, rfl⟩
      have hi2 : i < l.length / 2 := by omega
      have gp := pairsOf_get l i hev hi2
      have g1 : (iv l)[2 * i]? = some (nv (l.getD (2 * i) 0)) := iv_get (by omega)
      have g2 : (iv l)[2 * i + 1]? = some (nv (l.getD (2 * i + 1) 0)) := iv_get (by omega)
      refine ⟨rfl, ?_⟩
      refine ⟨.ref a, rfl, .int (0 + (i : Nat) * 2), rfl, a, iv l, _, _, rfl, rfl, s1.seq hA, at_of (j := 2 * i) (by omega) g1, .ref a, rfl, .int (0 + (i : Nat) * 2), rfl, _, _, rfl, rfl, a, iv l, _, _, rfl, rfl, s1.seq hA, at_of (j := 2 * i + 1) (by omega) g2, by show 2 ≤ sizeLine; decide, fun t nt => ?_⟩
      have sT : Same H2 (upd H2 t (.tup [nv (l.getD (2 * i) 0), nv (l.getD (2 * i + 1) 0)])) := same_upd nt
      have hz : bs.length ≤ 22 := by
        rw [ht.len]
        unfold edgeCfg
        rw [List.length_map, List.length_take]
        omega
      refine ⟨_, sT _ _ hD, by rw [List.length_map]; exact small1000 (by omega), same_put (s1.trans sT) nD, bs ++ [t], ?_, ?_⟩
      · rw [upd_same, List.map_append]
        rfl
      · rw [edge_take_snoc gp]
        exact ((ht.same sT).snoc upd_same).upd (sT _ _ hD) (fun _ z => nomatch z)
    · rintro H1 ⟨s1, bs, hD, ht⟩
      rw [← hn, List.take_length] at ht
      exact q H1 D s1 nD ⟨bs, hD, ht⟩
/-! ### edges_fit -/
def spEfit : Sp := fun vs H Q _ => ∃ (n : Nat) (a : Addr) (ps : List (Nat × Nat)), vs = [nv n, .ref a] ∧ PairsAt H a ps ∧ ∀ H', Same H H' → Q (.bl (fits n ps)) H'
theorem ok_efit (T : Txt K mg) {k : Nat} : FnOk P w K mg base CX0 (k + 1) T.f_edges_fit T.d_edges_fit ["vertex_count", "pairs"] spEfit := by
  refine T.F_edges_fit.ok sc_edges_fit (fun vs H Q E h => ?_) (fun cdv A outer s H vs Q E hr h => ?_)
  · obtain ⟨n, a, ps, rfl, _⟩ := h
    rfl
  · obtain ⟨n, a, ps, rfl, ⟨as, ha, hta⟩, q⟩ := h
    refine ⟨_, pss_cons (ps_set (i := 2) sc_edges_fit.nd rfl (.inl rfl) (pe_tup (pa_cons pe_int (pa_cons pe_int pa_nil))))
      (pss_cons (ps_for PassesOwn.never rfl (pi_list (pv 1)) (pg_name (i := 3) sc_edges_fit.nd rfl (.inl rfl))
        (pss_cons (ps_asg (pv 3) (pg_tup (by rfl) (pgs_cons (pg_name (i := 4) sc_edges_fit.nd rfl (.inl rfl)) (pgs_cons (pg_name (i := 5) sc_edges_fit.nd rfl (.inl rfl)) pgs_nil))))
        (pss_cons (ps_if (PW.pt (pw_or (pt_cmpR op_ge (pv 4) (pv 5) (nomark _)) (pw_or (pt_cmpR op_ge (pv 5) (pv 0) (nomark _)) (pw_or1 (pt_cmpR (op_leT hr.units0) (pv 3) (pv 2) (nomark _)))))) (pss_one (ps_ret pe_bl)) pss_nil)
        (pss_one (ps_set (i := 2) sc_edges_fit.nd rfl (.inl rfl) (pv 3))))))
      (pss_one (ps_ret pe_bl))), ?_⟩
    have ls : as.length = ps.length := by rw [hta.len]; exact List.length_map ..
    -- before = (0, 0)
    refine ⟨by show 2 ≤ sizeLine; decide, fun t nt => ?_⟩
    have s1 : Same H (upd H t (.tup [nv 0, nv 0])) := same_upd nt
    refine ⟨.ref a, rfl, a, rfl, ⟨_, s1.seq (.inl (.inl ha))⟩, for_it (walk_list (xs := as.map V.ref)) (fun i σ H' => ∃ y3 y4 y5, ∃ bb : Addr, ∃ b : Nat × Nat, σ = [some (nv n), some (.ref a), some (.ref bb), y3, y4, y5] ∧ Same H H' ∧ H' bb = some (.tup (iv [b.1, b.2])) ∧ fits n ps = okFrom n b (ps.drop i))
      ⟨none, none, none, t, (0, 0), rfl, s1, upd_same, (okFrom_zero n ps).symm⟩ (fun i σ H' _ ⟨_, _, _, _, _, _, h, _⟩ => h.seq (.inl (.inl ha))) ?_ ?_⟩
    · rintro i x σ H1 H2 hi ⟨y3, y4, y5, bb, b, rfl, q2, hb, hf⟩ ⟨rfl, hx⟩
      obtain ⟨tt, et, rfl⟩ := ref_get hx
      obtain ⟨cc, ec, hT⟩ := hta.get et
      obtain ⟨p, ep, rfl⟩ := edge_get ec
      have hi2 : i < ps.length := (List.getElem?_eq_some_iff.mp ep).1
      have hdrop : ps.drop i = p :: ps.drop (i + 1) := by
        rw [List.drop_eq_getElem_cons hi2]
        congr 1
        exact (List.getElem?_eq_some_iff.mp ep).2
      rw [hdrop] at hf
      have hf2 : fits n ps = (decide (p.1 < p.2) && decide (p.2 < n) && ltP b p && okFrom n p (ps.drop (i + 1))) := hf
      have hT2 := q2 _ _ hT
      -- u, v = pair
      refine ⟨.ref tt, rfl, tt, iv [p.1, p.2], rfl, .inl (.inl hT2), rfl, nv p.1, [nv p.2], rfl, nv p.2, [], rfl, rfl, ?_⟩
      -- u >= v or v >= vertex_count or pair <= before
      refine ⟨nv p.1, rfl, nv p.2, rfl, (p.1 : Int), (p.2 : Int), rfl, rfl, _, rfl, ite2 (fun e => ?_) (fun e => ?_)⟩
      · have g := of_decide_eq_true e
        rw [decide_eq_false (show ¬ p.1 < p.2 by omega), Bool.false_and, Bool.false_and, Bool.false_and] at hf2
        refine iteT ?_
        have z := q H2 q2
        rw [hf2] at z
        exact z
      · have g : p.1 < p.2 := by
          have z : ¬ ((p.2 : Int) ≤ (p.1 : Int)) := fun z => e (decide_eq_true z)
          omega
        refine ⟨nv p.2, rfl, nv n, rfl, (p.2 : Int), (n : Int), rfl, rfl, _, rfl, ite2 (fun e1 => ?_) (fun e1 => ?_)⟩
        · have g1 := of_decide_eq_true e1
          rw [decide_eq_false (show ¬ p.2 < n by omega), Bool.and_false, Bool.false_and, Bool.false_and] at hf2
          refine iteT ?_
          have z := q H2 q2
          rw [hf2] at z
          exact z
        · have g1 : p.2 < n := by
            have z : ¬ ((n : Int) ≤ (p.2 : Int)) := fun z => e1 (decide_eq_true z)
            omega
          refine ⟨.ref tt, rfl, .ref bb, rfl, tt, bb, [(p.1 : Int), (p.2 : Int)], [(b.1 : Int), (b.2 : Int)], rfl, rfl, .inl (.inl hT2), .inl (.inl hb), _, rfl, ?_⟩
          rw [le_pair]
          rw [decide_eq_true g, decide_eq_true g1, Bool.true_and, Bool.true_and] at hf2
          cases hlt : ltP b p with
          | false =>
            refine iteT ?_
            rw [hlt, Bool.false_and] at hf2
            have z := q H2 q2
            rw [hf2] at z
            exact z
          | true =>
            refine iteF ?_
            rw [hlt, Bool.true_and] at hf2
            -- before = pair
            exact ⟨.ref tt, rfl, some (.ref tt), some (nv p.1), some (nv p.2), tt, p, rfl, q2, hT2, hf2⟩
    · rintro σ H1 ⟨y3, y4, y5, bb, b, rfl, q2, hb, hf⟩
      rw [List.length_map, ls, List.drop_length] at hf
      have hf2 : fits n ps = true := hf
      have z := q H1 q2
      rw [hf2] at z
      exact z
/-! ### graph_fits -/
def spGfits (K : PySem.W.Frag) : Sp := fun vs H Q _ => ∃ (n : Nat) (a : Addr) (l : List Nat), vs = [nv n, .ref a] ∧ SqL K H a (iv l) ∧ l.length ≤ 22 ∧ ∀ H', Same H H' → Q (.bl (gfits n l)) H'
theorem ok_gfits (T : Txt K mg) {k : Nat} : FnOk P w K mg base CX0 (k + 2) T.f_graph_fits T.d_graph_fits ["vertex_count", "edges"] (spGfits K) := by
  have GE : FnOk P w K mg base CX0 (k + 1) T.f_edges_fit T.d_edges_fit ["vertex_count", "pairs"] spEfit := ok_efit T
  have GP : FnOk P w K mg base CX0 (k + 1) T.f_edge_pairs T.d_edge_pairs ["edges"] (spEpairs K) := ok_epairs T
  refine T.F_graph_fits.ok sc_graph_fits (fun vs H Q E h => ?_) (fun cdv A outer s H vs Q E hr h => ?_)
  · obtain ⟨n, a, l, rfl, _⟩ := h
    rfl
  · obtain ⟨n, a, l, rfl, hA, h22, q⟩ := h
    refine ⟨_, pss_cons (ps_if (PW.pt (pw_or (pt_cmpR op_lt (pv 0) pe_int (nomark _)) (pw_or1 (pt_cmpR op_gt (pv 0) (pe_glob (v := .int 5) rfl T.v_MOST_VERTICES ⟨_, rfl⟩) (nomark _))))) (pss_one (ps_ret pe_bl)) pss_nil)
      (pss_cons (ps_if (pt_cmpR op_ne (pe_op op_mod (pe_callB call_len_seq (by rfl) T.m_len PySem.boot_len (pa_cons (pv 1) pa_nil)) pe_int) pe_int (nomark _)) (pss_one (ps_ret pe_bl)) pss_nil)
      (pss_one (ps_ret (pe_call GE hr (by rfl) T.g_edges_fit T.F_edges_fit.kp T.b_edges_fit .nil pass0 (pa_cons (pv 0) (pa_cons (pe_call GP hr (by rfl) T.g_edge_pairs T.F_edge_pairs.kp T.b_edge_pairs .nil pass0 (pa_cons (pv 1) pa_nil)) pa_nil)))))), ?_⟩
    have z := q H (Same.refl H)
    unfold gfits at z q
    refine ⟨nv n, rfl, (n : Int), 1, rfl, rfl, _, rfl, ite2 (fun e => ?_) (fun e => ?_)⟩
    · have g := of_decide_eq_true e
      rw [decide_eq_false (show ¬ 1 ≤ n by omega), Bool.false_and, Bool.false_and, Bool.false_and] at z
      exact z
    · have g : 1 ≤ n := by
        have y : ¬ ((n : Int) < 1) := fun y => e (decide_eq_true y)
        omega
      refine ⟨nv n, rfl, (n : Int), 5, rfl, rfl, _, rfl, ite2 (fun e1 => ?_) (fun e1 => ?_)⟩
      · have g1 := of_decide_eq_true e1
        rw [decide_eq_false (show ¬ n ≤ 5 by omega), Bool.and_false, Bool.false_and, Bool.false_and] at z
        exact z
      · have g1 : n ≤ 5 := by
          have y : ¬ ((5 : Int) < (n : Int)) := fun y => e1 (decide_eq_true y)
          omega
        rw [decide_eq_true g, decide_eq_true g1, Bool.true_and, Bool.true_and] at z q
        -- len(edges) % 2 != 0
        refine ⟨.ref a, rfl, a, iv l, rfl, .inl hA, _, 2, rfl, rfl, by show (0 : Int) < 2; decide, rfl, _, rfl, ?_⟩
        by_cases hev : l.length % 2 = 0
        · have e2 : decide (V.int (((iv l).length : Int) % 2) = V.int 0) = true := decide_eq_true (congrArg V.int (by rw [iv_len]; omega))
          rw [e2]
          refine iteF ?_
          rw [decide_eq_true hev, Bool.true_and] at q
          refine ⟨nv n, rfl, .ref a, rfl, a, l, rfl, hA, hev, h22, fun H1 p s1 np hp => ⟨n, p, pairsOf l, rfl, hp, fun H2 s2 => q H2 (s1.trans s2)⟩⟩
        · have e2 : decide (V.int (((iv l).length : Int) % 2) = V.int 0) = false := decide_eq_false fun y => hev (by
            rw [iv_len] at y
            have := V.int.inj y
            omega)
          rw [e2]
          refine iteT ?_
          rw [decide_eq_false hev, Bool.false_and] at z
          exact z
end
end SW

namespace SW
open PySem PySem.Spec PyProof.Rows L2
open Ks577 (move)
section
variable {P : Program} {w : World} {K : PySem.W.Frag} {mg : Str → Option Value} {base : Heap}
/-! ### moved -/
def spMoved : Sp := fun vs H Q _ => ∃ (a : Addr) (c : Cfg) (s t : Nat), vs = [.ref a, nv s, nv t] ∧ H a = some (.tup (iv c)) ∧ 2 ≤ c.getD s 0 ∧ t < c.length ∧
  ∀ H' p, Same H H' → H p = none → H' p = some (.tup (iv (move c s t))) → Q (.ref p) H'
theorem ok_moved (T : Txt K mg) {k : Nat} : FnOk P w K mg base CX0 (k + 1) T.f_moved T.d_moved ["configuration", "source", "target"] spMoved := by
  refine T.F_moved.ok sc_moved (fun vs H Q E h => ?_) (fun cdv A outer s H vs Q E hr h => ?_)
  · obtain ⟨a, c, i, j, rfl, _⟩ := h
    rfl
  · obtain ⟨a, c, i, j, rfl, ha, h2, hj, q⟩ := h
    refine ⟨_, pss_cons (ps_set (i := 3) sc_moved.nd rfl (.inl rfl) (pe_callTy call_list_of (by rfl) T.m_list (by decide +kernel) (pa_cons (pv 0) pa_nil)))
      (pss_cons (ps_augS (pv 3) (pv 1) get_list pe_int ip_sub set_list)
      (pss_cons (ps_augS (pv 3) (pv 2) get_list pe_int ip_add set_list)
      (pss_one (ps_ret (pe_callTy call_tuple_of (by rfl) T.m_tuple (by decide +kernel) (pa_cons (pv 3) pa_nil)))))), ?_⟩
    have hi : i < c.length := getD_lt (k := 1) h2
    -- changed = list(configuration)
    refine ⟨.ref a, rfl, a, iv c, rfl, .inr (.inl (.inl ha)), fun l nl => ?_⟩
    -- changed[source] -= 2
    refine ⟨.ref l, rfl, nv i, rfl, l, iv c, i, nv (c.getD i 0), rfl, rfl, .inl (.inl upd_same), iv_get hi, (c.getD i 0 : Int), 2, rfl, rfl, l, iv c, i, i, rfl, rfl, upd_same, ixN_nat (by rw [iv_len]; exact hi), ?_⟩
    have e1 : V.int ((c.getD i 0 : Int) - 2) = nv (c.getD i 0 - 2) := congrArg V.int (by omega)
    rw [e1, iv_set, upd_upd]
    have hj2 : j < (c.set i (c.getD i 0 - 2)).length := by rw [List.length_set]; exact hj
    -- changed[target] += 1
    refine ⟨.ref l, rfl, nv j, rfl, l, _, j, nv ((c.set i (c.getD i 0 - 2)).getD j 0), rfl, rfl, .inl (.inl upd_same), iv_get hj2, ((c.set i (c.getD i 0 - 2)).getD j 0 : Int), 1, rfl, rfl, l, _, j, j, rfl, rfl, upd_same, ixN_nat (by rw [iv_len]; exact hj2), ?_⟩
    have e2 : V.int (((c.set i (c.getD i 0 - 2)).getD j 0 : Int) + 1) = nv ((c.set i (c.getD i 0 - 2)).getD j 0 + 1) := congrArg V.int (by omega)
    rw [e2, iv_set, upd_upd]
    -- return tuple(changed)
    refine ⟨.ref l, rfl, l, _, rfl, .inl ⟨.inl (.inl upd_same), fun p np => ?_⟩⟩
    have np1 : p ≠ l := fun z => by rw [z, upd_same] at np; cases np
    have np2 : H p = none := by rw [upd_ne np1] at np; exact np
    refine q _ p ((same_upd nl).trans (same_upd np)) np2 ?_
    rw [upd_same]
    rfl
/-! ### configurations_after_a_move -/
def tPut (K : PySem.W.Frag) (i j : Nat) : TS :=
  tIfS (tTest (tOp (rI0 fun x y => .bl (decide (y ≤ x))) (tOp (rIxT K) (tVar 1) (tVar i)) (tC (.int 2))))
    (tDrop (tBM K "list" rAppend (tVar 2) (tCons (tCall spMoved [] E0 (tCons (tVar 1) (tCons (tVar i) (tCons (tVar j) tNil)))) tNil))) tNext
theorem put_ok {i j u v : Nat} {b r : Addr} {c : Cfg} {l : List Cfg} {bs : List Addr} {σ : L2.St} {H H0 : Hp} {D : Ends}
    (h1 : σ[1]? = some (some (.ref b))) (h2 : σ[2]? = some (some (.ref r))) (hi : σ[i]? = some (some (nv u))) (hj : σ[j]? = some (some (nv v)))
    (hb : H b = some (.tup (iv c))) (hR : H r = some (.lst (bs.map V.ref))) (ht : Tups H bs l) (hu : u < c.length) (hv : v < c.length) (hz : bs.length ≤ 1000) (s0 : Same H0 H) (r0 : H0 r = none)
    (k : ∀ H' bs', Same H0 H' → H' r = some (.lst (bs'.map V.ref)) → Tups H' bs' (l ++ if 2 ≤ c.getD u 0 then [move c u v] else []) → D.nx σ H') : tPut K i j D σ H := by
  refine ⟨.ref b, h1, nv u, hi, b, iv c, (u : Int), nv (c.getD u 0), rfl, rfl, .inl (.inl hb), atI_nat (iv_get hu), (c.getD u 0 : Int), 2, rfl, rfl, _, rfl, ite2 (fun e => ?_) (fun e => ?_)⟩
  · have g2 : 2 ≤ c.getD u 0 := by
      have := of_decide_eq_true e
      omega
    refine ⟨.ref r, h2, .inl ⟨rfl, _, .inl (.inl hR)⟩, .ref b, h1, nv u, hi, nv v, hj, b, c, u, v, rfl, hb, g2, hv, fun H1 p s1 np hp => ?_⟩
    have hR1 : H1 r = some (.lst (bs.map V.ref)) := s1 _ _ hR
    refine ⟨r, _, .ref p, rfl, rfl, hR1, by rw [List.length_map]; exact small1000 hz, ?_⟩
    have e1 : bs.map V.ref ++ [V.ref p] = (bs ++ [p]).map V.ref := by rw [List.map_append]; rfl
    rw [e1]
    refine k _ (bs ++ [p]) (same_put (s0.trans s1) r0) upd_same ?_
    rw [if_pos g2]
    exact ((ht.same s1).snoc hp).upd hR1 (fun _ z => nomatch z)
  · have g2 : ¬ 2 ≤ c.getD u 0 := fun z => e (decide_eq_true (by omega))
    refine k H bs s0 hR ?_
    rw [if_neg g2, List.append_nil]
    exact ht
def spAfter : Sp := fun vs H Q _ => ∃ (a b : Addr) (ps : List (Nat × Nat)) (c : Cfg), vs = [.ref a, .ref b] ∧ PairsAt H a ps ∧ H b = some (.tup (iv c)) ∧ (∀ p ∈ ps, p.1 < c.length ∧ p.2 < c.length) ∧ ps.length ≤ 11 ∧
  ∀ H' p bs, Same H H' → H p = none → H' p = some (.lst (bs.map V.ref)) → Tups H' bs (succ ps c) → Q (.ref p) H'
theorem ok_after (T : Txt K mg) {k : Nat} : FnOk P w K mg base CX0 (k + 2) T.f_configurations_after_a_move T.d_configurations_after_a_move ["pairs", "configuration"] spAfter := by
  have GM : FnOk P w K mg base CX0 (k + 1) T.f_moved T.d_moved ["configuration", "source", "target"] spMoved := ok_moved T
  refine T.F_configurations_after_a_move.ok sc_configurations_after_a_move (fun vs H Q E h => ?_) (fun cdv A outer s H vs Q E hr h => ?_)
  · obtain ⟨a, b, ps, c, rfl, _⟩ := h
    rfl
  · obtain ⟨a, b, ps, c, rfl, ⟨as, ha, hta⟩, hb, hin, h11, q⟩ := h
    refine ⟨_, pss_cons (ps_set (i := 2) sc_configurations_after_a_move.nd rfl (.inl rfl) (pe_lst pa_nil))
      (pss_cons (ps_for PassesOwn.never rfl (pi_list (pv 0)) (pg_tup rfl (pgs_cons (pg_name (i := 3) sc_configurations_after_a_move.nd rfl (.inl rfl)) (pgs_cons (pg_name (i := 4) sc_configurations_after_a_move.nd rfl (.inl rfl)) pgs_nil)))
        (pss_cons (ps_if (pt_cmpR op_ge (pe_ix ix_tup (pv 1) (pv 3) (fun _ _ => rfl)) pe_int (nomark _))
            (pss_one (ps_expr (pe_bm PySem.F.plainAttrs_list PySem.F.slot_list_append PySem.F.type_list_append mt_append (pv 2) (pa_cons (pe_call GM hr (by rfl) T.g_moved T.F_moved.kp T.b_moved .nil pass0 (pa_cons (pv 1) (pa_cons (pv 3) (pa_cons (pv 4) pa_nil)))) pa_nil)))) pss_nil)
        (pss_one (ps_if (pt_cmpR op_ge (pe_ix ix_tup (pv 1) (pv 4) (fun _ _ => rfl)) pe_int (nomark _))
            (pss_one (ps_expr (pe_bm PySem.F.plainAttrs_list PySem.F.slot_list_append PySem.F.type_list_append mt_append (pv 2) (pa_cons (pe_call GM hr (by rfl) T.g_moved T.F_moved.kp T.b_moved .nil pass0 (pa_cons (pv 1) (pa_cons (pv 4) (pa_cons (pv 3) pa_nil)))) pa_nil)))) pss_nil))))
      (pss_one (ps_ret (pv 2)))), ?_⟩
    -- results = []
    refine ⟨Nat.zero_le _, fun r nr => ?_⟩
    have ls : as.length = ps.length := by rw [hta.len]; exact List.length_map ..
    refine ⟨.ref a, rfl, a, rfl, ⟨_, (same_upd nr).seq (.inl (.inl ha))⟩, for_it (walk_list (xs := as.map V.ref)) (fun i σ H' => ∃ y3 y4, σ = [some (.ref a), some (.ref b), some (.ref r), y3, y4] ∧ Same H H' ∧ ∃ bs : List Addr, H' r = some (.lst (bs.map V.ref)) ∧ Tups H' bs (succ (ps.take i) c))
      ⟨none, none, rfl, same_upd nr, [], upd_same, .nil⟩ (fun i σ H' _ ⟨_, _, _, s1, _⟩ => s1.seq (.inl (.inl ha))) ?_ ?_⟩
    · rintro i x σ H1 H2 hi ⟨y3, y4, rfl, s1, bs, hR, ht⟩ ⟨rfl, hx⟩
      obtain ⟨t, et, rfl⟩ := ref_get hx
      obtain ⟨cc, ec, hT⟩ := hta.get et
      obtain ⟨p, ep, rfl⟩ := edge_get ec
      have hp := hin p (List.mem_of_getElem? ep)
      have hz : bs.length ≤ 22 := by
        rw [ht.len]
        refine Nat.le_trans (succ_length _ _) ?_
        rw [List.length_take]
        omega
      refine ⟨t, iv [p.1, p.2], rfl, .inl (.inl (s1 _ _ hT)), rfl, nv p.1, [nv p.2], rfl, nv p.2, [], rfl, rfl, ?_⟩
      refine put_ok (K := K) (i := 3) (j := 4) (u := p.1) (v := p.2) (b := b) (r := r) (c := c) (H0 := H) rfl rfl rfl rfl (s1 _ _ hb) hR ht hp.1 hp.2 (by omega) s1 nr fun H3 bs3 s3 hR3 ht3 => ?_
      have hz3 : bs3.length ≤ 23 := by
        rw [ht3.len, List.length_append, ← ht.len]
        split <;> simp <;> omega
      refine put_ok (K := K) (i := 4) (j := 3) (u := p.2) (v := p.1) (b := b) (r := r) (c := c) (H0 := H) rfl rfl rfl rfl (s3 _ _ hb) hR3 ht3 hp.2 hp.1 (by omega) s3 nr fun H4 bs4 s4 hR4 ht4 => ?_
      refine ⟨some (nv p.1), some (nv p.2), rfl, s4, bs4, hR4, ?_⟩
      rw [take_snoc ep, succ_snoc]
      exact ht4
    · rintro σ H1 ⟨y3, y4, rfl, s1, bs, hR, ht⟩
      rw [List.length_map, ls, List.take_length] at ht
      exact ⟨.ref r, rfl, q H1 r bs s1 nr hR ht⟩
/-! ### configurations_from -/
def spFrom (K : PySem.W.Frag) : Sp := fun vs H Q _ => ∃ (a b : Addr) (ps : List (Nat × Nat)) (c : Cfg), vs = [.ref a, .ref b] ∧ PairsAt H a ps ∧ SqL K H b (iv c) ∧ (∀ p ∈ ps, p.1 < c.length ∧ p.2 < c.length) ∧ ps.length ≤ 11 ∧ c.length ≤ 5 ∧ c.sum ≤ 12 ∧
  ∀ H' p bs cs, Same H H' → H p = none → H' p = some (.lst (bs.map V.ref)) → Tups H' bs cs → Lists ps c cs → cs.length ≤ 371293 → Q (.ref p) H'
theorem ok_from (T : Txt K mg) {k : Nat} : FnOk P w K mg base CX0 (k + 3) T.f_configurations_from T.d_configurations_from ["pairs", "pebbles"] (spFrom K) := by
  have GA : FnOk P w K mg base CX0 (k + 2) T.f_configurations_after_a_move T.d_configurations_after_a_move ["pairs", "configuration"] spAfter := ok_after T
  refine T.F_configurations_from.ok sc_configurations_from (fun vs H Q E h => ?_) (fun cdv A outer s H vs Q E hr h => ?_)
  · obtain ⟨a, b, ps, c, rfl, _⟩ := h
    rfl
  · obtain ⟨a, b, ps, c, rfl, hA, hB, hin, h11, h5, h12, q⟩ := h
    refine ⟨_, pss_cons (ps_set (i := 2) sc_configurations_from.nd rfl (.inl rfl) (pe_callTy call_tuple_of (by rfl) T.m_tuple (by decide +kernel) (pa_cons (pv 1) pa_nil)))
      (pss_cons (ps_set (i := 3) sc_configurations_from.nd rfl (.inl rfl) (pe_dispT hr.units0 (pv 2) pe_bl))
      (pss_cons (ps_set (i := 4) sc_configurations_from.nd rfl (.inl rfl) (pe_lst (pa_cons (pv 2) pa_nil)))
      (pss_cons (ps_while PassesOwn.never (pt_cmpR op_gt (pe_callB call_len_seq (by rfl) T.m_len PySem.boot_len (pa_cons (pv 4) pa_nil)) pe_int (nomark _))
        (pss_cons (ps_set (i := 5) sc_configurations_from.nd rfl (.inl rfl) (pe_bm0 PySem.F.plainAttrs_list PySem.F.slot_list_pop PySem.F.type_list_pop mt_pop (pv 4)))
        (pss_one (ps_for PassesOwn.never rfl (pi_list (pe_call GA hr (by rfl) T.g_configurations_after_a_move T.F_configurations_after_a_move.kp T.b_configurations_after_a_move .nil pass0 (pa_cons (pv 0) (pa_cons (pv 5) pa_nil)))) (pg_name (i := 6) sc_configurations_from.nd rfl (.inl rfl))
          (pss_one (ps_if (pt_cmp (pc_dnotin (hu_of hr) (pv 6) (pv 3)))
            (pss_cons (ps_dput (hu_of hr) (pv 3) (pv 6) pe_bl rfl)
            (pss_one (ps_expr (pe_bm PySem.F.plainAttrs_list PySem.F.slot_list_append PySem.F.type_list_append mt_append (pv 4) (pa_cons (pv 6) pa_nil))))) pss_nil))))))
      (pss_one (ps_ret (pe_callTy (call_list_dT rfl) (by rfl) T.m_list (by decide +kernel) (pa_cons (pv 3) pa_nil))))))), ?_⟩
    -- first = tuple(pebbles)
    refine ⟨.ref b, rfl, b, iv c, rfl, .inl ⟨hB, fun t nt => ?_⟩⟩
    have s1 : Same H (upd H t (.tup (iv c))) := same_upd nt
    -- seen = {first: True}
    intro d nd
    have ntd : t ≠ d := fun z => by rw [← z, upd_same] at nd; cases nd
    have nd0 : H d = none := by rw [upd_ne (fun z => ntd z.symm)] at nd; exact nd
    refine ⟨.ref t, rfl, upd_same, t, keyOf c, rfl, ?_, ?_⟩
    · rw [upd_ne ntd, upd_same, keyOf_kV]
    rw [upd_upd]
    have s2 : Same H (upd (upd H t (.tup (iv c))) d (.dT [(keyOf c, V.bl true)])) := s1.trans (same_upd nd)
    -- waiting = [first]
    refine ⟨.ref t, rfl, by show 1 ≤ sizeLine; decide, fun l nl => ?_⟩
    have nl0 : H l = none := s2.free nl
    have s3 : Same H (upd (upd (upd H t (.tup (iv c))) d (.dT [(keyOf c, V.bl true)])) l (.lst [V.ref t])) := s2.trans (same_upd nl)
    have ndl : d ≠ l := fun z => by rw [← z, upd_same] at nl; cases nl
    have ntl : t ≠ l := fun z => by rw [← z, upd_ne ntd, upd_same] at nl; cases nl
    refine ⟨fun m σ H' => ∃ y5 y6 seen wait, ∃ ws : List Addr, σ = [some (.ref a), some (.ref b), some (.ref t), some (.ref d), some (.ref l), y5, y6] ∧ Same H H' ∧ H' d = some (.dT (kvsOf seen)) ∧ H' l = some (.lst (ws.map V.ref)) ∧ Tups H' ws wait ∧ Srch ps c seen wait ∧ m = weight wait,
      ⟨_, none, none, [c], [c], [t], rfl, s3, ?_, upd_same, ?_, Srch.start ps c, rfl⟩, ?_⟩
    · rw [upd_ne ndl, upd_same]
      rfl
    · refine .cons ?_ .nil
      rw [upd_ne ntl, upd_ne ntd, upd_same]
    rintro m σ H1 ⟨y5, y6, seen, wait, ws, rfl, q1, hd, hl, hw, hS, rfl⟩
    -- while len(waiting) > 0
    refine ⟨.ref l, rfl, l, _, rfl, .inl (.inl (.inl hl)), _, 0, rfl, rfl, _, rfl, ite2 (fun e => ?_) (fun e => ?_)⟩
    · have hpos : 0 < ws.length := by
        have z := of_decide_eq_true e
        rw [List.length_map] at z
        omega
      obtain ⟨ws1, bx, w1, x, rfl, rfl, hw1, hbx⟩ := hw.last hpos
      refine ⟨fun σ' H' => ∃ m', m' < weight (w1 ++ [x]) ∧ ∃ y5 y6 seen wait, ∃ ws : List Addr, σ' = [some (.ref a), some (.ref b), some (.ref t), some (.ref d), some (.ref l), y5, y6] ∧ Same H H' ∧ H' d = some (.dT (kvsOf seen)) ∧ H' l = some (.lst (ws.map V.ref)) ∧ Tups H' ws wait ∧ Srch ps c seen wait ∧ m' = weight wait, fun σ' H' hN => hN, ?_⟩
      have xin : x ∈ seen := hS.sub x (by simp)
      have xl : x.length = c.length := (hS.rch x xin).len
      -- configuration = waiting.pop()
      have em : (ws1 ++ [bx]).map V.ref = ws1.map V.ref ++ [V.ref bx] := by rw [List.map_append]; rfl
      rw [em] at hl
      refine ⟨.ref l, rfl, .inl ⟨rfl, _, .inl (.inl hl)⟩, l, _, .ref bx, rfl, rfl, hl, ?_, ?_⟩
      · rw [List.length_append, List.length_singleton, Nat.add_sub_cancel, List.getElem?_append_right (Nat.le_refl _), Nat.sub_self]
        rfl
      rw [List.dropLast_concat]
      have q2 : Same H (upd H1 l (.lst (ws1.map V.ref))) := same_put q1 nl0
      have hd2 : upd H1 l (.lst (ws1.map V.ref)) d = some (.dT (kvsOf seen)) := by rw [upd_ne ndl]; exact hd
      have hw2 : Tups (upd H1 l (.lst (ws1.map V.ref))) ws1 w1 := hw1.upd hl (fun _ z => nomatch z)
      have hbx2 : upd H1 l (.lst (ws1.map V.ref)) bx = some (.tup (iv x)) := by rw [upd_ne (ne_of hbx hl (fun z => nomatch z))]; exact hbx
      -- for following in configurations_after_a_move(pairs, configuration)
      refine ⟨.ref a, rfl, .ref bx, rfl, a, bx, ps, x, rfl, hA.same q2, hbx2, (by rw [xl]; exact hin), h11, fun H3 p fs q3 np hp hf => ?_⟩
      have npl : p ≠ l := fun z => by rw [z, upd_same] at np; cases np
      have npd : p ≠ d := fun z => by rw [z, hd2] at np; cases np
      have hl3 : H3 l = some (.lst (ws1.map V.ref)) := q3 _ _ upd_same
      refine ⟨p, rfl, ⟨_, .inl (.inl hp)⟩, for_it (walk_list (xs := fs.map V.ref)) (fun i σ H' => ∃ y6 seen wait, ∃ ws : List Addr, σ = [some (.ref a), some (.ref b), some (.ref t), some (.ref d), some (.ref l), some (.ref bx), y6] ∧ Same H H' ∧ H' d = some (.dT (kvsOf seen)) ∧ H' l = some (.lst (ws.map V.ref)) ∧ Tups H' ws wait ∧
          H' p = some (.lst (fs.map V.ref)) ∧ Tups H' fs (succ ps x) ∧ Turning ps c x ((succ ps x).take i) seen wait (weight w1))
        ⟨y6, seen, w1, ws1, rfl, q2.trans q3, q3 _ _ hd2, hl3, hw2.same q3, hp, hf, hS.take⟩ (fun i σ H' _ ⟨_, _, _, _, _, _, _, _, _, h, _⟩ => .inl (.inl h)) ?_ ?_⟩
      · rintro i v σ H4 H5 hi ⟨y6, sn, wt, wz, rfl, q4, hd4, hl4, hw4, hp4, hf4, hT⟩ ⟨rfl, hv⟩
        obtain ⟨bf, ef, rfl⟩ := ref_get hv
        obtain ⟨g, eg, hg⟩ := hf4.get ef
        have hstep : Step ps x g := mem_succ.mp (List.mem_of_getElem? eg)
        have hmore := hT.more hstep
        rw [← take_snoc eg] at hmore
        have hgk : H5 bf = some (.tup ((keyOf g).map kV)) := by rw [keyOf_kV]; exact hg
        -- if following not in seen
        refine ⟨.ref bf, rfl, .ref d, rfl, d, _, rfl, DGet.t hd4 hgk, _, rfl, ?_⟩
        by_cases hin2 : g ∈ sn
        · rw [kvs_in hin2]
          refine iteF ⟨some (.ref bf), sn, wt, wz, rfl, q4, hd4, hl4, hw4, hp4, hf4, ?_⟩
          have e0 : addOne (sn, wt) g = (sn, wt) := if_pos hin2
          rw [e0] at hmore
          exact hmore
        · rw [kvs_out hin2]
          refine iteT ?_
          have e0 : addOne (sn, wt) g = (sn ++ [g], wt ++ [g]) := if_neg hin2
          rw [e0] at hmore
          have hsm := hT.small h5 h12
          -- seen[following] = True
          refine ⟨.ref d, rfl, .ref bf, rfl, d, _, rfl, DPut.t hd4 hgk (by rw [kvs_len]; exact line5 (by omega)), ?_⟩
          rw [putK_new (V.bl true) (kvs_out hin2), kvs_snoc]
          have hl5 : upd H5 d (.dT (kvsOf (sn ++ [g]))) l = some (.lst (wz.map V.ref)) := by rw [upd_ne (Ne.symm ndl)]; exact hl4
          have hw5 : Tups (upd H5 d (.dT (kvsOf (sn ++ [g])))) wz wt := hw4.upd hd4 (fun _ z => nomatch z)
          have hf5 : Tups (upd H5 d (.dT (kvsOf (sn ++ [g])))) fs (succ ps x) := hf4.upd hd4 (fun _ z => nomatch z)
          have hg5 : upd H5 d (.dT (kvsOf (sn ++ [g]))) bf = some (.tup (iv g)) := by rw [upd_ne (ne_of hg hd4 (fun z => nomatch z))]; exact hg
          -- waiting.append(following)
          refine ⟨.ref l, rfl, .inl ⟨rfl, _, .inl (.inl hl5)⟩, .ref bf, rfl, l, _, .ref bf, rfl, rfl, hl5, by rw [List.length_map, hw4.len]; exact line5 (by omega), ?_⟩
          have e1 : wz.map V.ref ++ [V.ref bf] = (wz ++ [bf]).map V.ref := by rw [List.map_append]; rfl
          rw [e1]
          refine ⟨some (.ref bf), sn ++ [g], wt ++ [g], wz ++ [bf], rfl, same_put (same_put q4 nd0) nl0, ?_, upd_same, (hw5.snoc hg5).upd hl5 (fun _ z => nomatch z), ?_, hf5.upd hl5 (fun _ z => nomatch z), hmore⟩
          · rw [upd_ne ndl, upd_same]
          · rw [upd_ne npl, upd_ne npd]
            exact hp4
      · rintro σ H4 ⟨y6, sn, wt, wz, rfl, q4, hd4, hl4, hw4, hp4, hf4, hT⟩
        rw [List.length_map, hf4.len, List.take_length] at hT
        have hall := hT.all (fun y hy => mem_succ.mpr hy) (Nat.le_trans (succ_length ps x) (by omega)) (fun y hy => mem_succ.mp hy)
        exact ⟨weight wt, hall.2, some (.ref bx), y6, sn, wt, wz, rfl, q4, hd4, hl4, hw4, hall.1, rfl⟩
    · have h0 : ws = [] := by
        cases ws with
        | nil => rfl
        | cons z r =>
          refine absurd (decide_eq_true ?_) e
          rw [List.length_map, List.length_cons]
          omega
      subst h0
      cases hw
      have hsm := hS.small h5 h12
      -- return list(seen)
      refine ⟨.ref d, rfl, d, kvsOf seen, rfl, .inl hd, fun p bs np hk => ?_⟩
      have s9 : Same H1 (upd H1 p (.lst (bs.map V.ref))) := same_upd np
      exact q _ p bs seen (q1.trans s9) (q1.free np) upd_same ((tups_keys hk).same s9) hS.done hsm.1
end
end SW

namespace SW
open PySem PySem.Spec PyProof.Rows L2
open Ks577 (move)
section
variable {P : Program} {w : World} {K : PySem.W.Frag} {mg : Str → Option Value} {base : Heap}
/-! ### reachable_marks -/
def spMarks (K : PySem.W.Frag) : Sp := fun vs H Q _ => ∃ (a b : Addr) (ps : List (Nat × Nat)) (c : Cfg), vs = [.ref a, .ref b] ∧ PairsAt H a ps ∧ SqL K H b (iv c) ∧ (∀ p ∈ ps, p.1 < c.length ∧ p.2 < c.length) ∧ ps.length ≤ 11 ∧ c.length ≤ 5 ∧ c.sum ≤ 12 ∧
  ∀ H' p cs, Same H H' → H p = none → Lists ps c cs → H' p = some (.lst (iv (marksOf c.length cs))) → Q (.ref p) H'
theorem ok_marks (T : Txt K mg) {k : Nat} : FnOk P w K mg base CX0 (k + 4) T.f_reachable_marks T.d_reachable_marks ["pairs", "pebbles"] (spMarks K) := by
  have GF : FnOk P w K mg base CX0 (k + 3) T.f_configurations_from T.d_configurations_from ["pairs", "pebbles"] (spFrom K) := ok_from T
  refine T.F_reachable_marks.ok sc_reachable_marks (fun vs H Q E h => ?_) (fun cdv A outer s H vs Q E hr h => ?_)
  · obtain ⟨a, b, ps, c, rfl, _⟩ := h
    rfl
  · obtain ⟨a, b, ps, c, rfl, hA, hB, hin, h11, h5, h12, q⟩ := h
    refine ⟨_, pss_cons (ps_set (i := 2) sc_reachable_marks.nd rfl (.inl rfl) (pe_op op_rep (pe_lst (pa_cons pe_int pa_nil)) (pe_callB call_len_seq (by rfl) T.m_len PySem.boot_len (pa_cons (pv 1) pa_nil))))
      (pss_cons (ps_for PassesOwn.never rfl (pi_list (pe_call GF hr (by rfl) T.g_configurations_from T.F_configurations_from.kp T.b_configurations_from .nil pass0 (pa_cons (pv 0) (pa_cons (pv 1) pa_nil)))) (pg_name (i := 3) sc_reachable_marks.nd rfl (.inl rfl))
        (pss_one (ps_for PassesOwn.never rfl (pi_enumT (by rfl) T.m_enumerate (pa_cons (pv 3) pa_nil)) (pg_tup rfl (pgs_cons (pg_name (i := 4) sc_reachable_marks.nd rfl (.inl rfl)) (pgs_cons (pg_name (i := 5) sc_reachable_marks.nd rfl (.inl rfl)) pgs_nil)))
          (pss_one (ps_if (pt_cmpR op_gt (pv 5) pe_int (nomark _)) (pss_one (ps_asg pe_int (pg_sub (pv 2) (pv 4) set_list))) pss_nil)))))
      (pss_one (ps_ret (pv 2)))), ?_⟩
    -- marks = [0] * len(pebbles)
    refine ⟨by show 1 ≤ sizeLine; decide, fun z nz => ?_⟩
    have s1 : Same H (upd H z (.lst [.int 0])) := same_upd nz
    refine ⟨.ref b, rfl, b, iv c, rfl, .inl (s1.seq hB), z, _, _, rfl, rfl, upd_same, by omega, by rw [iv_len]; omega, ?_, fun r nr => ?_⟩
    · rw [iv_len, Int.toNat_natCast]
      exact Nat.le_trans (show 1 * c.length ≤ 5 by omega) (by decide)
    have s2 : Same H (upd (upd H z (.lst [.int 0])) r (.lst (List.replicate ((iv c).length : Int).toNat [V.int 0]).flatten)) := s1.trans (same_upd nr)
    have nr0 : H r = none := s1.free nr
    have e0 : (List.replicate ((iv c).length : Int).toNat [V.int 0]).flatten = iv (marksOf c.length []) := by
      rw [flat_rep, Int.toNat_natCast, iv_len, marks_nil]
      unfold iv
      rw [List.map_replicate]
      rfl
    rw [e0] at s2 ⊢
    -- for configuration in configurations_from(pairs, pebbles)
    refine ⟨.ref a, rfl, .ref b, rfl, a, b, ps, c, rfl, hA.same s2, s2.seq hB, hin, h11, h5, h12, fun H1 p bs cs s3 np hp htc hL _ => ?_⟩
    have sP : ∀ {H'}, Same H1 H' → SqL K H' p (bs.map V.ref) := fun s => .inl (.inl (s _ _ hp))
    have hr1 : H1 r = some (.lst (iv (marksOf c.length []))) := s3 _ _ upd_same
    have npr : p ≠ r := fun e => by rw [e, upd_same] at np; cases np
    refine ⟨p, rfl, ⟨_, .inl (.inl hp)⟩, for_it (walk_list (xs := bs.map V.ref)) (fun i σ H' => ∃ y3 y4 y5, σ = [some (.ref a), some (.ref b), some (.ref r), y3, y4, y5] ∧ Same H H' ∧ H' p = some (.lst (bs.map V.ref)) ∧ Tups H' bs cs ∧ H' r = some (.lst (iv (marksOf c.length (cs.take i)))))
      ⟨none, none, none, rfl, s2.trans s3, hp, htc, hr1⟩ (fun i σ H' _ ⟨_, _, _, _, _, h, _⟩ => .inl (.inl h)) ?_ ?_⟩
    · rintro i x σ H2 H3 hi ⟨y3, y4, y5, rfl, q2, hp2, ht2, hr2⟩ ⟨rfl, hx⟩
      obtain ⟨bd, ed, rfl⟩ := ref_get hx
      obtain ⟨d, edc, hd⟩ := ht2.get ed
      have hdl : d.length = c.length := ((hL d).mp (List.mem_of_getElem? edc)).len
      -- for vertex, pebbles_here in enumerate(configuration)
      refine ⟨.ref bd, rfl, bd, iv d, rfl, .inl (.inl hd), for_it (walk_enumT (xs := iv d)) (fun j σ H' => ∃ y4 y5, σ = [some (.ref a), some (.ref b), some (.ref r), some (.ref bd), y4, y5] ∧ Same H H' ∧ H' p = some (.lst (bs.map V.ref)) ∧ Tups H' bs cs ∧ H' bd = some (.tup (iv d)) ∧ H' r = some (.lst (iv (half c.length (cs.take i) d j))))
        ⟨y4, y5, rfl, q2, hp2, ht2, hd, by rw [half_zero]; exact hr2⟩ (fun j σ H' _ ⟨_, _, _, _, _, _, h, _⟩ => .inl (.inl h)) ?_ ?_⟩
      · rintro j x σ H4 H5 hj ⟨y4, y5, rfl, q4, hp4, ht4, hd4, hr4⟩ ⟨T, x1, x2, rfl, nT, rfl, f1, f2⟩
        have hj2 : j < d.length := by rw [iv_len] at hj; exact hj
        have ex1 : x1 = nv j := (Option.some.inj f1).symm
        have ex2 : x2 = nv (d.getD j 0) := by
          have z := f2
          simp only [iv_get hj2] at z
          exact (Option.some.inj z).symm
        subst ex1 ex2
        have sT : Same H4 (upd H4 T (.tup [nv j, nv (d.getD j 0)])) := same_upd nT
        have hr5 : upd H4 T (.tup [nv j, nv (d.getD j 0)]) r = some (.lst (iv (half c.length (cs.take i) d j))) := sT _ _ hr4
        refine ⟨T, _, rfl, .inl (.inl upd_same), rfl, _, _, rfl, _, _, rfl, rfl, ?_⟩
        -- if pebbles_here > 0
        refine ⟨nv (d.getD j 0), rfl, (d.getD j 0 : Int), 0, rfl, rfl, _, rfl, ite2 (fun e => ?_) (fun e => ?_)⟩
        · have g : 0 < d.getD j 0 := by
            have := of_decide_eq_true e
            omega
          refine ⟨.ref r, rfl, nv j, rfl, r, _, j, j, rfl, rfl, hr5, ixN_nat (by rw [iv_len, half_len]; omega), ?_⟩
          rw [show V.int 1 = nv 1 from rfl, iv_set]
          refine ⟨some (nv j), some (nv (d.getD j 0)), rfl, same_put (q4.trans sT) nr0, ?_, (ht4.same sT).upd hr5 (fun _ z => nomatch z), ?_, ?_⟩
          · rw [upd_ne npr]
            exact sT _ _ hp4
          · rw [upd_ne (ne_of (sT _ _ hd4) hr5 (fun z => nomatch z))]
            exact sT _ _ hd4
          · rw [upd_same, half_more (by omega), if_pos g]
        · have g : ¬ 0 < d.getD j 0 := fun z => e (decide_eq_true (by omega))
          refine ⟨some (nv j), some (nv (d.getD j 0)), rfl, q4.trans sT, sT _ _ hp4, ht4.same sT, sT _ _ hd4, ?_⟩
          rw [half_more (by omega), if_neg g]
          exact hr5
      · rintro σ H4 ⟨y4, y5, rfl, q4, hp4, ht4, hd4, hr4⟩
        refine ⟨some (.ref bd), y4, y5, rfl, q4, hp4, ht4, ?_⟩
        rw [take_snoc edc, ← half_all, hr4, iv_len, hdl]
    · rintro σ H2 ⟨y3, y4, y5, rfl, q2, hp2, ht2, hr2⟩
      rw [List.length_map, ht2.len, List.take_length] at hr2
      exact ⟨.ref r, rfl, q H2 r cs q2 nr0 hL hr2⟩
end
end SW

namespace SW
open PySem PySem.Spec PyProof.Rows L2
open Ks577 (move)
open PySem.W (Codec)
/-! ### what is due -/
theorem due_wrong {n : Nat} {l c : List Nat} (h : gfits n l = false) : PyKs579.is_solvable (n : Int) (toZ l) (toZ c) = [-22] := by
  show Ks579Neutral.integers (Ks579.answer (.isSolvable ((n : Int).toNat) ((toZ l).map Int.toNat) ((toZ c).map Int.toNat))) = [-22]
  rw [toZ_nat, toZ_nat, Int.toNat_natCast]
  show Ks579Neutral.integers (match Ks577.parseGraph n l with | none => Ks577.number (-22) | some g => _) = [-22]
  rw [graph_eq, if_neg (by rw [h]; decide)]
  rfl
theorem due_wrong2 {n : Nat} {l c : List Nat} (h : gfits n l = true) (h2 : cfits n c = false) : PyKs579.is_solvable (n : Int) (toZ l) (toZ c) = [-22] := by
  show Ks579Neutral.integers (Ks579.answer (.isSolvable ((n : Int).toNat) ((toZ l).map Int.toNat) ((toZ c).map Int.toNat))) = [-22]
  rw [toZ_nat, toZ_nat, Int.toNat_natCast]
  show Ks579Neutral.integers (match Ks577.parseGraph n l with | none => Ks577.number (-22) | some g => (if Ks577.isValidConfiguration g c = true then _ else Ks577.number (-22))) = [-22]
  rw [graph_eq, if_pos h]
  show Ks579Neutral.integers (if Ks577.isValidConfiguration ⟨n, pairsOf l⟩ c = true then _ else Ks577.number (-22)) = [-22]
  rw [valid_eq, if_neg (by show ¬ cfits n c = true; rw [h2]; decide)]
  rfl
theorem due_right {n : Nat} {l c : List Nat} {cs : List Cfg} (h : gfits n l = true) (h2 : cfits n c = true) (hL : Lists (pairsOf l) c cs) :
    PyKs579.is_solvable (n : Int) (toZ l) (toZ c) = (if (toZ (marksOf n cs)).all (· != 0) = true then 1 else 0) :: toZ (marksOf n cs) := by
  have hg := (gfits_good h).1
  show Ks579Neutral.integers (Ks579.answer (.isSolvable ((n : Int).toNat) ((toZ l).map Int.toNat) ((toZ c).map Int.toNat))) = _
  rw [toZ_nat, toZ_nat, Int.toNat_natCast]
  show Ks579Neutral.integers (match Ks577.parseGraph n l with
    | none => Ks577.number (-22)
    | some g => (if Ks577.isValidConfiguration g c = true then ({ value := if Ks579.isSolvable g c = true then 1 else 0, rest := Ks577.integers ((List.range n).map fun v => if Ks577.canReach g c v 1 = true then 1 else 0) } : Ks577.Result) else Ks577.number (-22))) = _
  rw [graph_eq, if_pos h]
  show Ks579Neutral.integers (if Ks577.isValidConfiguration ⟨n, pairsOf l⟩ c = true then ({ value := if Ks579.isSolvable ⟨n, pairsOf l⟩ c = true then 1 else 0, rest := Ks577.integers ((List.range n).map fun v => if Ks577.canReach ⟨n, pairsOf l⟩ c v 1 = true then 1 else 0) } : Ks577.Result) else Ks577.number (-22)) = _
  rw [valid_eq, if_pos (show cfits n c = true from h2), solv_spec hg hL, marks_spec hg hL]
  rfl
section
variable {P : Program} {w : World} {K : PySem.W.Frag} {mg : Str → Option Value} {base : Heap}
/-! ### configuration_fits -/
def spCfits (K : PySem.W.Frag) : Sp := fun vs H Q _ => ∃ (n : Nat) (b : Addr) (c : List Nat), vs = [nv n, .ref b] ∧ SqL K H b (iv c) ∧ ∀ H', Same H H' → Q (.bl (cfits n c)) H'
theorem ok_cfits (T : Txt K mg) {k : Nat} : FnOk P w K mg base CX0 (k + 1) T.f_configuration_fits T.d_configuration_fits ["vertex_count", "pebbles"] (spCfits K) := by
  refine T.F_configuration_fits.ok sc_configuration_fits (fun vs H Q E h => ?_) (fun cdv A outer s H vs Q E hr h => ?_)
  · obtain ⟨n, b, c, rfl, _⟩ := h
    rfl
  · obtain ⟨n, b, c, rfl, hB, q⟩ := h
    refine ⟨_, pss_one (ps_ret (pe_and (pe_cmpR op_eq (pe_callB call_len_seq (by rfl) T.m_len PySem.boot_len (pa_cons (pv 1) pa_nil)) (pv 0) (nomark _))
      (pe_one (pe_cmpR op_le (pe_callB (cr_sum rfl) (by rfl) T.m_sum (by decide +kernel) (pa_cons (pv 1) pa_nil)) (pe_glob (v := .int 12) rfl T.v_MOST_PEBBLES ⟨_, rfl⟩) (nomark _))))), ?_⟩
    refine ⟨.ref b, rfl, b, iv c, rfl, .inl hB, nv n, rfl, rfl, _, rfl, ?_⟩
    have z := q H (Same.refl H)
    unfold cfits at z
    by_cases hl : c.length = n
    · have e1 : decide (V.int ((iv c).length : Int) = nv n) = true := decide_eq_true (by rw [iv_len, hl]; rfl)
      rw [e1]
      refine iteT ⟨.ref b, rfl, b, c.map fun (n : Nat) => (n : Int), rfl, by rw [← iv_ints]; exact hB, _, 12, rfl, rfl, ?_⟩
      rw [decide_eq_true hl, Bool.true_and] at z
      rw [sum_cast]
      have e2 : decide (((c.sum : Nat) : Int) ≤ 12) = decide (c.sum ≤ 12) := by
        rw [decide_eq_decide]
        omega
      show Q (V.bl (decide (((c.sum : Nat) : Int) ≤ 12))) H
      rw [e2]
      exact z
    · have e1 : decide (V.int ((iv c).length : Int) = nv n) = false := decide_eq_false fun e => hl (by
        rw [iv_len] at e
        have := V.int.inj e
        omega)
      rw [e1]
      refine iteF ?_
      rw [decide_eq_false hl, Bool.false_and] at z
      exact z
/-! ### is_solvable -/
def spMain (K : PySem.W.Frag) : Sp := fun vs H Q _ => ∃ (n : Nat) (a b : Addr) (l c : List Nat), vs = [nv n, .ref a, .ref b] ∧ SqL K H a (iv l) ∧ SqL K H b (iv c) ∧ l.length ≤ 22 ∧
  ∀ H' p, H' p = some (.lst ((PyKs579.is_solvable (n : Int) (toZ l) (toZ c)).map V.int)) → Q (.ref p) H'
theorem ok_main (T : Txt K mg) : FnOk P w K mg base CX0 5 T.f_is_solvable T.d_is_solvable ["vertex_count", "edges", "pebbles"] (spMain K) := by
  have GG : FnOk P w K mg base CX0 4 T.f_graph_fits T.d_graph_fits ["vertex_count", "edges"] (spGfits K) := ok_gfits T (k := 2)
  have GC : FnOk P w K mg base CX0 4 T.f_configuration_fits T.d_configuration_fits ["vertex_count", "pebbles"] (spCfits K) := ok_cfits T (k := 3)
  have GP : FnOk P w K mg base CX0 4 T.f_edge_pairs T.d_edge_pairs ["edges"] (spEpairs K) := ok_epairs T (k := 3)
  have GR : FnOk P w K mg base CX0 4 T.f_reachable_marks T.d_reachable_marks ["pairs", "pebbles"] (spMarks K) := ok_marks T (k := 0)
  refine T.F_is_solvable.ok sc_is_solvable (fun vs H Q E h => ?_) (fun cdv A outer s H vs Q E hr h => ?_)
  · obtain ⟨n, a, b, l, c, rfl, _⟩ := h
    rfl
  · obtain ⟨n, a, b, l, c, rfl, hA, hB, h22, q⟩ := h
    refine ⟨_, pss_cons (ps_if (pt_not (pt_val (pe_call GG hr (by rfl) T.g_graph_fits T.F_graph_fits.kp T.b_graph_fits .nil pass0 (pa_cons (pv 0) (pa_cons (pv 1) pa_nil))))) (pss_one (ps_ret (pe_lst (pa_cons (pe_glob (v := .int (-22)) rfl T.v_OUTSIDE_LIMITS ⟨_, rfl⟩) pa_nil)))) pss_nil)
      (pss_cons (ps_if (pt_not (pt_val (pe_call GC hr (by rfl) T.g_configuration_fits T.F_configuration_fits.kp T.b_configuration_fits .nil pass0 (pa_cons (pv 0) (pa_cons (pv 2) pa_nil))))) (pss_one (ps_ret (pe_lst (pa_cons (pe_glob (v := .int (-22)) rfl T.v_OUTSIDE_LIMITS ⟨_, rfl⟩) pa_nil)))) pss_nil)
      (pss_cons (ps_set (i := 3) sc_is_solvable.nd rfl (.inl rfl) (pe_call GR hr (by rfl) T.g_reachable_marks T.F_reachable_marks.kp T.b_reachable_marks .nil pass0 (pa_cons (pe_call GP hr (by rfl) T.g_edge_pairs T.F_edge_pairs.kp T.b_edge_pairs .nil pass0 (pa_cons (pv 1) pa_nil)) (pa_cons (pv 2) pa_nil))))
      (pss_one (ps_ret (pe_op op_cat (pe_lst (pa_cons (pe_ifExp (pt_val (pe_callB (cr_allI rfl) (by rfl) T.m_all (by decide +kernel) (pa_cons (pv 3) pa_nil))) pe_int pe_int) pa_nil)) (pv 3)))))), ?_⟩
    -- if not graph_fits(vertex_count, edges)
    refine ⟨nv n, rfl, .ref a, rfl, n, a, l, rfl, hA, h22, fun H1 s1 => ⟨_, rfl, ?_⟩⟩
    cases hG : gfits n l with
    | false =>
      refine ⟨by show 1 ≤ sizeLine; decide, fun p np => q _ p ?_⟩
      rw [upd_same, due_wrong hG]
      rfl
    | true =>
      obtain ⟨hg, h5, hev⟩ := gfits_good hG
      -- if not configuration_fits(vertex_count, pebbles)
      refine ⟨nv n, rfl, .ref b, rfl, n, b, c, rfl, s1.seq hB, fun H2 s2 => ⟨_, rfl, ?_⟩⟩
      cases hC : cfits n c with
      | false =>
        refine ⟨by show 1 ≤ sizeLine; decide, fun p np => q _ p ?_⟩
        rw [upd_same, due_wrong2 hG hC]
        rfl
      | true =>
        have hc2 : c.length = n ∧ c.sum ≤ 12 := by
          have z := hC
          unfold cfits at z
          simpa only [Bool.and_eq_true, decide_eq_true_eq] using z
        -- marks = reachable_marks(edge_pairs(edges), pebbles)
        refine ⟨.ref a, rfl, a, l, rfl, (s1.trans s2).seq hA, hev, h22, fun H3 p s3 np hP => ?_⟩
        have q3 := (s1.trans s2).trans s3
        refine ⟨.ref b, rfl, p, b, pairsOf l, c, rfl, hP, q3.seq hB, fun e he => ?_, ?_, by omega, hc2.2, fun H4 r cs s4 nr hL hR => ?_⟩
        · have := hg e he
          rw [hc2.1]
          exact ⟨Nat.lt_trans this.1 this.2, this.2⟩
        · rw [pairsOf_len]
          omega
        -- return [1 if all(marks) else 0] + marks
        rw [hc2.1] at hR
        have hR2 : H4 r = some (.lst ((toZ (marksOf n cs)).map V.int)) := by rw [hR, iv_ints]; rfl
        have due := due_right hG hC hL
        refine ⟨.ref r, rfl, r, toZ (marksOf n cs), rfl, .inl (.inl hR2), _, rfl, ?_⟩
        have fin : ∀ z : Int, z = (if (toZ (marksOf n cs)).all (· != 0) = true then 1 else 0) → ([V.int z] : List V).length ≤ sizeLine ∧ ∀ p, H4 p = none → (tVar 3) [some (nv n), some (.ref a), some (.ref b), some (.ref r)] (upd H4 p (.lst [V.int z])) fun y H5 => rCat (.ref p) y H5 Q := by
          intro z hz
          refine ⟨by show 1 ≤ sizeLine; decide, fun x nx => ?_⟩
          refine ⟨.ref r, rfl, x, r, _, _, rfl, rfl, upd_same, same_upd nx _ _ hR2, ?_, fun y ny => q _ y ?_⟩
          · rw [List.length_map]
            unfold toZ
            rw [List.length_map, marks_len]
            exact Nat.le_trans (show 1 + n ≤ 6 by omega) (by decide)
          · rw [upd_same, due, hz]
            rfl
        cases hall : (toZ (marksOf n cs)).all (· != 0) with
        | true => exact fin 1 (by rw [hall]; rfl)
        | false => exact fin 0 (by rw [hall]; rfl)
end
theorem end_ok (K : PySem.W.Frag) (H : Hp) (xs : List V) (a : Codec.denoteAll PySem.Challenge.rw_stonewalk_s01_is_solvable.args) (hO : OnlyF H) (hwi : Codec.withinAll PySem.Challenge.rw_stonewalk_s01_is_solvable.args a = true)
    (hask : Codec.app PySem.Challenge.rw_stonewalk_s01_is_solvable.args PySem.Challenge.rw_stonewalk_s01_is_solvable.asked a = true) (hx : DwAll K H xs (Codec.encAll PySem.Challenge.rw_stonewalk_s01_is_solvable.args a)) :
    spMain K xs H (fun v H' => Dw K H' v (PySem.Challenge.rw_stonewalk_s01_is_solvable.ret.enc (Codec.app PySem.Challenge.rw_stonewalk_s01_is_solvable.args PySem.Challenge.rw_stonewalk_s01_is_solvable.f a))) fun _ _ _ => False := by
  obtain ⟨n, es, bs, u⟩ := a
  cases hx with
  | cons h1 hx =>
    cases hx with
    | cons h2 hx =>
      cases hx with
      | cons h3 hx =>
        cases hx
        cases h1
        cases h2 with
        | @lst ad2 xs2 ds2 hs2 ha2 =>
          cases h3 with
          | @lst ad3 xs3 ds3 hs3 ha3 =>
            have e2 := L2.ints_dw es _ ha2
            have e3 := L2.ints_dw bs _ ha3
            subst e2 e3
            have q : (Codec.inInt 0 4294967295 n && ((Codec.inLen 0 22 es && es.all (Codec.inInt 0 4294967295)) && ((Codec.inLen 0 7 bs && bs.all (Codec.inInt 0 4294967295)) && true))) = true := hwi
            simp only [Bool.and_eq_true] at q
            obtain ⟨q1, ⟨q2, q3⟩, ⟨q4, q5⟩, _⟩ := q
            have hn := cod_int q1
            have he : toZ (es.map Int.toNat) = es := nat_toZ (cod_pos q3)
            have hb : toZ (bs.map Int.toNat) = bs := nat_toZ (cod_pos q5)
            have v2 : iv (es.map Int.toNat) = es.map V.int := by rw [iv_ints]; exact congrArg _ he
            have v3 : iv (bs.map Int.toNat) = bs.map V.int := by rw [iv_ints]; exact congrArg _ hb
            refine ⟨n.toNat, ad2, ad3, es.map Int.toNat, bs.map Int.toNat, ?_, ?_, ?_, ?_, ?_⟩
            · show _ = [V.int ((n.toNat : Nat) : Int), _, _]
              rw [hn]
            · rw [v2]
              exact hs2
            · rw [v3]
              exact hs3
            · rw [List.length_map]
              exact (Codec.inNat_iff.mp q2).2
            · intro H' p hp
              rw [hn, he, hb] at hp
              exact .lst (L2.SqL.of hp) (L2.dw_ints _)
end SW

/-! ### what the top has written -/
namespace SW
open PySem PySem.Spec PyProof.Rows L2
theorem all_mk {P : Program} {w : World} {K : PySem.W.Frag} {h : Heap} {mg : Str → Option Value} {fa : Addr} {t_OUTSIDE_LIMITS : Tok} {t_MOST_VERTICES : Tok} {t_MOST_PEBBLES : Tok} (X : K.In h) (G : h.Ns mainGlobals mg) (hfa : mg "is_solvable" = some (.ref fa))
    {f_is_solvable : Addr} {od_is_solvable an_is_solvable : Option Addr} {sl_is_solvable : Array (Option Value)} {oc_is_solvable kV_is_solvable dc_is_solvable pm_is_solvable cd_is_solvable ct_is_solvable : Value}
    (a_is_solvable : PySem.W.nsIn K mainGlobals "is_solvable" = some (some (.ref f_is_solvable))) (l_is_solvable : K.lookup f_is_solvable = some ⟨oc_is_solvable, od_is_solvable, .func (PySem.W.fnOf "is_solvable" "is_solvable" (defArgs s_is_solvable) (defBody s_is_solvable) (defScope s_is_solvable) .none kV_is_solvable dc_is_solvable pm_is_solvable an_is_solvable cd_is_solvable ct_is_solvable), sl_is_solvable⟩) (c_is_solvable : PySem.W.codeIn K cd_is_solvable "is_solvable" = true) (k_is_solvable : PySem.W.keepIn K (.ref f_is_solvable) = true)
    {f_graph_fits : Addr} {od_graph_fits an_graph_fits : Option Addr} {sl_graph_fits : Array (Option Value)} {oc_graph_fits kV_graph_fits dc_graph_fits pm_graph_fits cd_graph_fits ct_graph_fits : Value}
    (a_graph_fits : PySem.W.nsIn K mainGlobals "graph_fits" = some (some (.ref f_graph_fits))) (l_graph_fits : K.lookup f_graph_fits = some ⟨oc_graph_fits, od_graph_fits, .func (PySem.W.fnOf "graph_fits" "graph_fits" (defArgs s_graph_fits) (defBody s_graph_fits) (defScope s_graph_fits) .none kV_graph_fits dc_graph_fits pm_graph_fits an_graph_fits cd_graph_fits ct_graph_fits), sl_graph_fits⟩) (c_graph_fits : PySem.W.codeIn K cd_graph_fits "graph_fits" = true) (k_graph_fits : PySem.W.keepIn K (.ref f_graph_fits) = true)
    {f_edge_pairs : Addr} {od_edge_pairs an_edge_pairs : Option Addr} {sl_edge_pairs : Array (Option Value)} {oc_edge_pairs kV_edge_pairs dc_edge_pairs pm_edge_pairs cd_edge_pairs ct_edge_pairs : Value}
    (a_edge_pairs : PySem.W.nsIn K mainGlobals "edge_pairs" = some (some (.ref f_edge_pairs))) (l_edge_pairs : K.lookup f_edge_pairs = some ⟨oc_edge_pairs, od_edge_pairs, .func (PySem.W.fnOf "edge_pairs" "edge_pairs" (defArgs s_edge_pairs) (defBody s_edge_pairs) (defScope s_edge_pairs) .none kV_edge_pairs dc_edge_pairs pm_edge_pairs an_edge_pairs cd_edge_pairs ct_edge_pairs), sl_edge_pairs⟩) (c_edge_pairs : PySem.W.codeIn K cd_edge_pairs "edge_pairs" = true) (k_edge_pairs : PySem.W.keepIn K (.ref f_edge_pairs) = true)
    {f_edges_fit : Addr} {od_edges_fit an_edges_fit : Option Addr} {sl_edges_fit : Array (Option Value)} {oc_edges_fit kV_edges_fit dc_edges_fit pm_edges_fit cd_edges_fit ct_edges_fit : Value}
    (a_edges_fit : PySem.W.nsIn K mainGlobals "edges_fit" = some (some (.ref f_edges_fit))) (l_edges_fit : K.lookup f_edges_fit = some ⟨oc_edges_fit, od_edges_fit, .func (PySem.W.fnOf "edges_fit" "edges_fit" (defArgs s_edges_fit) (defBody s_edges_fit) (defScope s_edges_fit) .none kV_edges_fit dc_edges_fit pm_edges_fit an_edges_fit cd_edges_fit ct_edges_fit), sl_edges_fit⟩) (c_edges_fit : PySem.W.codeIn K cd_edges_fit "edges_fit" = true) (k_edges_fit : PySem.W.keepIn K (.ref f_edges_fit) = true)
    {f_configuration_fits : Addr} {od_configuration_fits an_configuration_fits : Option Addr} {sl_configuration_fits : Array (Option Value)} {oc_configuration_fits kV_configuration_fits dc_configuration_fits pm_configuration_fits cd_configuration_fits ct_configuration_fits : Value}
    (a_configuration_fits : PySem.W.nsIn K mainGlobals "configuration_fits" = some (some (.ref f_configuration_fits))) (l_configuration_fits : K.lookup f_configuration_fits = some ⟨oc_configuration_fits, od_configuration_fits, .func (PySem.W.fnOf "configuration_fits" "configuration_fits" (defArgs s_configuration_fits) (defBody s_configuration_fits) (defScope s_configuration_fits) .none kV_configuration_fits dc_configuration_fits pm_configuration_fits an_configuration_fits cd_configuration_fits ct_configuration_fits), sl_configuration_fits⟩) (c_configuration_fits : PySem.W.codeIn K cd_configuration_fits "configuration_fits" = true) (k_configuration_fits : PySem.W.keepIn K (.ref f_configuration_fits) = true)
    {f_reachable_marks : Addr} {od_reachable_marks an_reachable_marks : Option Addr} {sl_reachable_marks : Array (Option Value)} {oc_reachable_marks kV_reachable_marks dc_reachable_marks pm_reachable_marks cd_reachable_marks ct_reachable_marks : Value}
    (a_reachable_marks : PySem.W.nsIn K mainGlobals "reachable_marks" = some (some (.ref f_reachable_marks))) (l_reachable_marks : K.lookup f_reachable_marks = some ⟨oc_reachable_marks, od_reachable_marks, .func (PySem.W.fnOf "reachable_marks" "reachable_marks" (defArgs s_reachable_marks) (defBody s_reachable_marks) (defScope s_reachable_marks) .none kV_reachable_marks dc_reachable_marks pm_reachable_marks an_reachable_marks cd_reachable_marks ct_reachable_marks), sl_reachable_marks⟩) (c_reachable_marks : PySem.W.codeIn K cd_reachable_marks "reachable_marks" = true) (k_reachable_marks : PySem.W.keepIn K (.ref f_reachable_marks) = true)
    {f_configurations_from : Addr} {od_configurations_from an_configurations_from : Option Addr} {sl_configurations_from : Array (Option Value)} {oc_configurations_from kV_configurations_from dc_configurations_from pm_configurations_from cd_configurations_from ct_configurations_from : Value}
    (a_configurations_from : PySem.W.nsIn K mainGlobals "configurations_from" = some (some (.ref f_configurations_from))) (l_configurations_from : K.lookup f_configurations_from = some ⟨oc_configurations_from, od_configurations_from, .func (PySem.W.fnOf "configurations_from" "configurations_from" (defArgs s_configurations_from) (defBody s_configurations_from) (defScope s_configurations_from) .none kV_configurations_from dc_configurations_from pm_configurations_from an_configurations_from cd_configurations_from ct_configurations_from), sl_configurations_from⟩) (c_configurations_from : PySem.W.codeIn K cd_configurations_from "configurations_from" = true) (k_configurations_from : PySem.W.keepIn K (.ref f_configurations_from) = true)
    {f_configurations_after_a_move : Addr} {od_configurations_after_a_move an_configurations_after_a_move : Option Addr} {sl_configurations_after_a_move : Array (Option Value)} {oc_configurations_after_a_move kV_configurations_after_a_move dc_configurations_after_a_move pm_configurations_after_a_move cd_configurations_after_a_move ct_configurations_after_a_move : Value}
    (a_configurations_after_a_move : PySem.W.nsIn K mainGlobals "configurations_after_a_move" = some (some (.ref f_configurations_after_a_move))) (l_configurations_after_a_move : K.lookup f_configurations_after_a_move = some ⟨oc_configurations_after_a_move, od_configurations_after_a_move, .func (PySem.W.fnOf "configurations_after_a_move" "configurations_after_a_move" (defArgs s_configurations_after_a_move) (defBody s_configurations_after_a_move) (defScope s_configurations_after_a_move) .none kV_configurations_after_a_move dc_configurations_after_a_move pm_configurations_after_a_move an_configurations_after_a_move cd_configurations_after_a_move ct_configurations_after_a_move), sl_configurations_after_a_move⟩) (c_configurations_after_a_move : PySem.W.codeIn K cd_configurations_after_a_move "configurations_after_a_move" = true) (k_configurations_after_a_move : PySem.W.keepIn K (.ref f_configurations_after_a_move) = true)
    {f_moved : Addr} {od_moved an_moved : Option Addr} {sl_moved : Array (Option Value)} {oc_moved kV_moved dc_moved pm_moved cd_moved ct_moved : Value}
    (a_moved : PySem.W.nsIn K mainGlobals "moved" = some (some (.ref f_moved))) (l_moved : K.lookup f_moved = some ⟨oc_moved, od_moved, .func (PySem.W.fnOf "moved" "moved" (defArgs s_moved) (defBody s_moved) (defScope s_moved) .none kV_moved dc_moved pm_moved an_moved cd_moved ct_moved), sl_moved⟩) (c_moved : PySem.W.codeIn K cd_moved "moved" = true) (k_moved : PySem.W.keepIn K (.ref f_moved) = true)
    (v_OUTSIDE_LIMITS : PySem.W.nsIn K mainGlobals "OUTSIDE_LIMITS" = some (some (.int (-22) t_OUTSIDE_LIMITS)))
    (v_MOST_VERTICES : PySem.W.nsIn K mainGlobals "MOST_VERTICES" = some (some (.int 5 t_MOST_VERTICES)))
    (v_MOST_PEBBLES : PySem.W.nsIn K mainGlobals "MOST_PEBBLES" = some (some (.int 12 t_MOST_PEBBLES)))
    (z_all : PySem.W.nsIn K mainGlobals "all" = some none)
    (z_enumerate : PySem.W.nsIn K mainGlobals "enumerate" = some none)
    (z_len : PySem.W.nsIn K mainGlobals "len" = some none)
    (z_list : PySem.W.nsIn K mainGlobals "list" = some none)
    (z_range : PySem.W.nsIn K mainGlobals "range" = some none)
    (z_sum : PySem.W.nsIn K mainGlobals "sum" = some none)
    (z_tuple : PySem.W.nsIn K mainGlobals "tuple" = some none)
    : ∃ fd : FuncData, (∀ (s : Shared) (us : List Value), us.length = (["vertex_count", "edges", "pebbles"] : List Str).length → BindsTo s fd ⟨us, []⟩ ((["vertex_count", "edges", "pebbles"] : List Str).zip us)) ∧ ∀ base : Heap, K.In base → base.Ns mainGlobals mg → FnOk P w K mg base CX0 5 fa fd ["vertex_count", "edges", "pebbles"] (spMain K) := by
  have e : f_is_solvable = fa := Value.ref.inj (Option.some.inj ((PySem.W.mg_of X G a_is_solvable).symm.trans hfa))
  subst e
  let T : Txt K mg := {
    f_is_solvable := f_is_solvable, d_is_solvable := _, F_is_solvable := fun_mk (st := s_is_solvable) l_is_solvable c_is_solvable k_is_solvable, b_is_solvable := (fun_mk (st := s_is_solvable) l_is_solvable c_is_solvable k_is_solvable).binds (ps := ["vertex_count", "edges", "pebbles"]) (fun _ _ _ _ _ _ us hl => match us, hl with | [_, _, _], _ => rfl), g_is_solvable := PySem.W.mg_of X G a_is_solvable,
    f_graph_fits := f_graph_fits, d_graph_fits := _, F_graph_fits := fun_mk (st := s_graph_fits) l_graph_fits c_graph_fits k_graph_fits, b_graph_fits := (fun_mk (st := s_graph_fits) l_graph_fits c_graph_fits k_graph_fits).binds (ps := ["vertex_count", "edges"]) (fun _ _ _ _ _ _ us hl => match us, hl with | [_, _], _ => rfl), g_graph_fits := PySem.W.mg_of X G a_graph_fits,
    f_edge_pairs := f_edge_pairs, d_edge_pairs := _, F_edge_pairs := fun_mk (st := s_edge_pairs) l_edge_pairs c_edge_pairs k_edge_pairs, b_edge_pairs := (fun_mk (st := s_edge_pairs) l_edge_pairs c_edge_pairs k_edge_pairs).binds (ps := ["edges"]) (fun _ _ _ _ _ _ us hl => match us, hl with | [_], _ => rfl), g_edge_pairs := PySem.W.mg_of X G a_edge_pairs,
    f_edges_fit := f_edges_fit, d_edges_fit := _, F_edges_fit := fun_mk (st := s_edges_fit) l_edges_fit c_edges_fit k_edges_fit, b_edges_fit := (fun_mk (st := s_edges_fit) l_edges_fit c_edges_fit k_edges_fit).binds (ps := ["vertex_count", "pairs"]) (fun _ _ _ _ _ _ us hl => match us, hl with | [_, _], _ => rfl), g_edges_fit := PySem.W.mg_of X G a_edges_fit,
    f_configuration_fits := f_configuration_fits, d_configuration_fits := _, F_configuration_fits := fun_mk (st := s_configuration_fits) l_configuration_fits c_configuration_fits k_configuration_fits, b_configuration_fits := (fun_mk (st := s_configuration_fits) l_configuration_fits c_configuration_fits k_configuration_fits).binds (ps := ["vertex_count", "pebbles"]) (fun _ _ _ _ _ _ us hl => match us, hl with | [_, _], _ => rfl), g_configuration_fits := PySem.W.mg_of X G a_configuration_fits,
    f_reachable_marks := f_reachable_marks, d_reachable_marks := _, F_reachable_marks := fun_mk (st := s_reachable_marks) l_reachable_marks c_reachable_marks k_reachable_marks, b_reachable_marks := (fun_mk (st := s_reachable_marks) l_reachable_marks c_reachable_marks k_reachable_marks).binds (ps := ["pairs", "pebbles"]) (fun _ _ _ _ _ _ us hl => match us, hl with | [_, _], _ => rfl), g_reachable_marks := PySem.W.mg_of X G a_reachable_marks,
    f_configurations_from := f_configurations_from, d_configurations_from := _, F_configurations_from := fun_mk (st := s_configurations_from) l_configurations_from c_configurations_from k_configurations_from, b_configurations_from := (fun_mk (st := s_configurations_from) l_configurations_from c_configurations_from k_configurations_from).binds (ps := ["pairs", "pebbles"]) (fun _ _ _ _ _ _ us hl => match us, hl with | [_, _], _ => rfl), g_configurations_from := PySem.W.mg_of X G a_configurations_from,
    f_configurations_after_a_move := f_configurations_after_a_move, d_configurations_after_a_move := _, F_configurations_after_a_move := fun_mk (st := s_configurations_after_a_move) l_configurations_after_a_move c_configurations_after_a_move k_configurations_after_a_move, b_configurations_after_a_move := (fun_mk (st := s_configurations_after_a_move) l_configurations_after_a_move c_configurations_after_a_move k_configurations_after_a_move).binds (ps := ["pairs", "configuration"]) (fun _ _ _ _ _ _ us hl => match us, hl with | [_, _], _ => rfl), g_configurations_after_a_move := PySem.W.mg_of X G a_configurations_after_a_move,
    f_moved := f_moved, d_moved := _, F_moved := fun_mk (st := s_moved) l_moved c_moved k_moved, b_moved := (fun_mk (st := s_moved) l_moved c_moved k_moved).binds (ps := ["configuration", "source", "target"]) (fun _ _ _ _ _ _ us hl => match us, hl with | [_, _, _], _ => rfl), g_moved := PySem.W.mg_of X G a_moved,
    t_OUTSIDE_LIMITS := t_OUTSIDE_LIMITS, v_OUTSIDE_LIMITS := PySem.W.mg_of X G v_OUTSIDE_LIMITS,
    t_MOST_VERTICES := t_MOST_VERTICES, v_MOST_VERTICES := PySem.W.mg_of X G v_MOST_VERTICES,
    t_MOST_PEBBLES := t_MOST_PEBBLES, v_MOST_PEBBLES := PySem.W.mg_of X G v_MOST_PEBBLES,
    m_all := PySem.W.mg_none_of X G z_all,
    m_enumerate := PySem.W.mg_none_of X G z_enumerate,
    m_len := PySem.W.mg_none_of X G z_len,
    m_list := PySem.W.mg_none_of X G z_list,
    m_range := PySem.W.mg_none_of X G z_range,
    m_sum := PySem.W.mg_none_of X G z_sum,
    m_tuple := PySem.W.mg_none_of X G z_tuple }
  exact ⟨T.d_is_solvable, fun s us hu => match us, hu with | [_, _, _], _ => .of_eq rfl, fun base _ _ => ok_main T⟩
end SW
open PySem PySem.W PyProof.Rows
set_option maxRecDepth 100000 in
set_option maxHeartbeats 8000000 in
theorem PySem.Challenge.cw_stonewalk_s01_is_solvable_holds : PySem.Challenge.rw_stonewalk_s01_is_solvable.Holds := by
  w_on; k_headS; (case hw => exact ⟨[.int 0, .list [], .list []], by decide +kernel, by decide +kernel⟩)
  k_fillS
  refine L2.walk_specK (r := PySem.Challenge.rw_stonewalk_s01_is_solvable) (k := 5) (CX := L2.CX0) (ps := ["vertex_count", "edges", "pebbles"]) (sp := SW.spMain) (by decide +kernel) rfl rfl ⟨rfl, by decide, by decide⟩ (fun w h Y => PySem.W.kIn_of Y) ?F ?S (fun _ _ _ _ z => z)
  case F =>
    intro w mg fa h Y KX G hmg
    refine' SW.all_mk KX G hmg ?a_is_solvable ?l_is_solvable ?c_is_solvable ?k_is_solvable ?a_graph_fits ?l_graph_fits ?c_graph_fits ?k_graph_fits ?a_edge_pairs ?l_edge_pairs ?c_edge_pairs ?k_edge_pairs ?a_edges_fit ?l_edges_fit ?c_edges_fit ?k_edges_fit ?a_configuration_fits ?l_configuration_fits ?c_configuration_fits ?k_configuration_fits ?a_reachable_marks ?l_reachable_marks ?c_reachable_marks ?k_reachable_marks ?a_configurations_from ?l_configurations_from ?c_configurations_from ?k_configurations_from ?a_configurations_after_a_move ?l_configurations_after_a_move ?c_configurations_after_a_move ?k_configurations_after_a_move ?a_moved ?l_moved ?c_moved ?k_moved ?v_OUTSIDE_LIMITS ?v_MOST_VERTICES ?v_MOST_PEBBLES ?z_all ?z_enumerate ?z_len ?z_list ?z_range ?z_sum ?z_tuple
    (case a_is_solvable => k_is)
    (case l_is_solvable => k_is)
    (case c_is_solvable => k_is)
    (case k_is_solvable => k_is)
    (case a_graph_fits => k_is)
    (case l_graph_fits => k_is)
    (case c_graph_fits => k_is)
    (case k_graph_fits => k_is)
    (case a_edge_pairs => k_is)
    (case l_edge_pairs => k_is)
    (case c_edge_pairs => k_is)
    (case k_edge_pairs => k_is)
    (case a_edges_fit => k_is)
    (case l_edges_fit => k_is)
    (case c_edges_fit => k_is)
    (case k_edges_fit => k_is)
    (case a_configuration_fits => k_is)
    (case l_configuration_fits => k_is)
    (case c_configuration_fits => k_is)
    (case k_configuration_fits => k_is)
    (case a_reachable_marks => k_is)
    (case l_reachable_marks => k_is)
    (case c_reachable_marks => k_is)
    (case k_reachable_marks => k_is)
    (case a_configurations_from => k_is)
    (case l_configurations_from => k_is)
    (case c_configurations_from => k_is)
    (case k_configurations_from => k_is)
    (case a_configurations_after_a_move => k_is)
    (case l_configurations_after_a_move => k_is)
    (case c_configurations_after_a_move => k_is)
    (case k_configurations_after_a_move => k_is)
    (case a_moved => k_is)
    (case l_moved => k_is)
    (case c_moved => k_is)
    (case k_moved => k_is)
    (case v_OUTSIDE_LIMITS => k_is)
    (case v_MOST_VERTICES => k_is)
    (case v_MOST_PEBBLES => k_is)
    (case z_all => k_is)
    (case z_enumerate => k_is)
    (case z_len => k_is)
    (case z_list => k_is)
    (case z_range => k_is)
    (case z_sum => k_is)
    (case z_tuple => k_is)
  case S => exact SW.end_ok
#print axioms PySem.Challenge.cw_stonewalk_s01_is_solvable_holds
