import PyProof.Rows.All
import Wide.All
import OpenK.AllK
import Wide.FinOn
import Open.SpecLaws
import KE.OsGo
import HandS.ForSpec
import HandS.ForMost
import HandS.Conv
import HandS.TupLe
import HandS.Walk
import KE.GoesEnum
import KE.KDictDisplayH
import HandS.WideBits
import PySem.Challenge.RW_stonewalk_s06_cover_number
set_option Elab.async false
set_option linter.all false
set_option maxRecDepth 100000
set_option maxHeartbeats 2000000
/-! The mathematics of stonewalk: edges read, moves, what can be reached. Plain Lean. -/
namespace SW
open Ks577

/-! ### edges -/
/-- two numbers for each edge -/
def pairsOf : List Nat → List (Nat × Nat)
  | u :: v :: r => (u, v) :: pairsOf r
  | _ => []
def ltP (a b : Nat × Nat) : Bool := decide (a.1 < b.1 ∨ (a.1 = b.1 ∧ a.2 < b.2))
/-- the walk of edges_fit behind a pair b -/
def okFrom (n : Nat) : Nat × Nat → List (Nat × Nat) → Bool
  | _, [] => true
  | b, p :: r => decide (p.1 < p.2) && decide (p.2 < n) && ltP b p && okFrom n p r
def fits (n : Nat) : List (Nat × Nat) → Bool
  | [] => true
  | p :: r => decide (p.1 < p.2) && decide (p.2 < n) && okFrom n p r
theorem okFrom_fits (n : Nat) (b : Nat × Nat) : ∀ ps, okFrom n b ps = (fits n ps && match ps with | [] => true | q :: _ => ltP b q)
  | [] => rfl
  | p :: r => by
    simp only [okFrom, fits]
    cases decide (p.1 < p.2) <;> cases decide (p.2 < n) <;> cases ltP b p <;> cases okFrom n p r <;> rfl
theorem okFrom_zero (n : Nat) (ps : List (Nat × Nat)) : okFrom n (0, 0) ps = fits n ps := by
  rw [okFrom_fits]
  cases ps with
  | nil => rfl
  | cons p r =>
    by_cases h : p.1 < p.2
    · have : ltP (0, 0) p = true := by
        unfold ltP
        refine decide_eq_true ?_
        show 0 < p.1 ∨ (0 = p.1 ∧ 0 < p.2)
        omega
      show (fits n (p :: r) && ltP (0, 0) p) = _
      rw [this, Bool.and_true]
    · show (fits n (p :: r) && ltP (0, 0) p) = _
      have e : fits n (p :: r) = false := by
        show (decide (p.1 < p.2) && decide (p.2 < n) && okFrom n p r) = false
        rw [decide_eq_false h]
        rfl
      rw [e]
      rfl
theorem parse_eq (n : Nat) : ∀ l : List Nat, parseEdges n l = if l.length % 2 = 0 ∧ fits n (pairsOf l) = true then some (pairsOf l) else none
  | [] => rfl
  | [x] => by
    have h : ¬ (([x] : List Nat).length % 2 = 0 ∧ fits n (pairsOf [x]) = true) := fun h => absurd h.1 (by rw [List.length_singleton]; decide)
    rw [if_neg h]
    rfl
  | u :: v :: r => by
    have ih := parse_eq n r
    have hl : (u :: v :: r).length % 2 = r.length % 2 := by simp only [List.length_cons]; omega
    have e1 : fits n (pairsOf (u :: v :: r)) = (decide (u < v) && decide (v < n) && okFrom n (u, v) (pairsOf r)) := rfl
    unfold parseEdges
    by_cases h : v ≤ u ∨ n ≤ v
    · rw [if_pos h, if_neg]
      rintro ⟨_, q⟩
      rw [e1] at q
      simp only [Bool.and_eq_true, decide_eq_true_eq] at q
      omega
    · rw [if_neg h, ih, hl, e1]
      have d1 : decide (u < v) = true := decide_eq_true (by omega)
      have d2 : decide (v < n) = true := decide_eq_true (by omega)
      rw [d1, d2, okFrom_fits]
      by_cases h2 : r.length % 2 = 0 ∧ fits n (pairsOf r) = true
      · rw [if_pos h2]
        obtain ⟨a, b⟩ := h2
        cases hp : pairsOf r with
        | nil =>
          rw [hp] at b
          simp only [b, a, Bool.and_true, and_self, if_true]
          show some [(u, v)] = some ((u, v) :: pairsOf r)
          rw [hp]
        | cons q t =>
          rw [hp] at b
          simp only [b, a, Bool.true_and, true_and]
          by_cases h3 : u < q.1 ∨ (u = q.1 ∧ v < q.2)
          · have : ltP (u, v) q = true := decide_eq_true h3
            rw [if_pos h3, if_pos this]
            show _ = some ((u, v) :: pairsOf r)
            rw [hp]
          · have : ltP (u, v) q = false := decide_eq_false h3
            rw [if_neg h3, this, if_neg (by decide)]
      · rw [if_neg h2, if_neg]
        rintro ⟨a, b⟩
        simp only [Bool.and_eq_true] at b
        exact h2 ⟨a, b.2.1⟩
/-- every end is a vertex -/
theorem okFrom_ends {n : Nat} : ∀ {ps : List (Nat × Nat)} {b : Nat × Nat}, okFrom n b ps = true → ∀ p ∈ ps, p.1 < p.2 ∧ p.2 < n
  | [], _, _, _, h => absurd h (by simp)
  | q :: r, b, h, p, hp => by
    simp only [okFrom, Bool.and_eq_true, decide_eq_true_eq] at h
    rcases List.mem_cons.mp hp with e | hp
    · subst e
      exact h.1.1
    · exact okFrom_ends h.2 p hp
theorem fits_ends {n : Nat} {ps : List (Nat × Nat)} (h : fits n ps = true) : ∀ p ∈ ps, p.1 < p.2 ∧ p.2 < n := by
  rw [← okFrom_zero] at h
  exact okFrom_ends h
theorem pairsOf_len : ∀ l : List Nat, (pairsOf l).length = l.length / 2
  | [] => rfl
  | [x] => by
    rw [List.length_singleton]
    rfl
  | u :: v :: r => by
    show (pairsOf r).length + 1 = (r.length + 1 + 1) / 2
    rw [pairsOf_len r]
    omega
theorem pairsOf_get : ∀ (l : List Nat) (i : Nat), l.length % 2 = 0 → i < l.length / 2 → (pairsOf l)[i]? = some (l.getD (2 * i) 0, l.getD (2 * i + 1) 0)
  | [], i, _, h => by simp at h
  | [_], _, h, _ => by simp at h
  | u :: v :: r, 0, _, _ => rfl
  | u :: v :: r, i + 1, h, hi => by
    have ih := pairsOf_get r i (by simp only [List.length_cons] at h; omega) (by simp only [List.length_cons] at hi; omega)
    show (pairsOf r)[i]? = _
    rw [ih]
    show _ = some ((u :: v :: r).getD (2 * i + 2) 0, (u :: v :: r).getD (2 * i + 2 + 1) 0)
    rfl

/-! ### moves -/
abbrev Cfg := List Nat
theorem sum_set : ∀ (l : List Nat) (i a : Nat), i < l.length → (l.set i a).sum + l.getD i 0 = l.sum + a
  | [], _, _, h => by simp at h
  | x :: r, 0, a, _ => by
    show (a :: r).sum + x = (x :: r).sum + a
    simp only [List.sum_cons]
    omega
  | x :: r, i + 1, a, h => by
    have ih := sum_set r i a (by simp only [List.length_cons] at h; omega)
    show (x :: r.set i a).sum + r.getD i 0 = (x :: r).sum + a
    simp only [List.sum_cons]
    omega
theorem getD_lt {l : List Nat} {i k : Nat} (h : k + 1 ≤ l.getD i 0) : i < l.length := by
  refine Nat.lt_of_not_le fun q => ?_
  rw [List.getD_eq_getElem?_getD, List.getElem?_eq_none q] at h
  simp at h
theorem move_len (c : Cfg) (s t : Nat) : (move c s t).length = c.length := by
  unfold move
  simp only [List.length_set]
theorem move_sum {c : Cfg} {s t : Nat} (h : 2 ≤ c.getD s 0) : (move c s t).sum + 1 ≤ c.sum := by
  have hs : s < c.length := getD_lt (k := 1) h
  have e1 := sum_set c s (c.getD s 0 - 2) hs
  unfold move
  show ((c.set s (c.getD s 0 - 2)).set t ((c.set s (c.getD s 0 - 2)).getD t 0 + 1)).sum + 1 ≤ c.sum
  by_cases ht : t < (c.set s (c.getD s 0 - 2)).length
  · have e2 := sum_set (c.set s (c.getD s 0 - 2)) t ((c.set s (c.getD s 0 - 2)).getD t 0 + 1) ht
    omega
  · rw [List.set_eq_of_length_le (by omega)]
    omega
def Step (ps : List (Nat × Nat)) (c d : Cfg) : Prop := ∃ u v, ((u, v) ∈ ps ∨ (v, u) ∈ ps) ∧ 2 ≤ c.getD u 0 ∧ d = move c u v
/-- what the program lists -/
def succ (ps : List (Nat × Nat)) (c : Cfg) : List Cfg :=
  ps.flatMap fun p => (if 2 ≤ c.getD p.1 0 then [move c p.1 p.2] else []) ++ (if 2 ≤ c.getD p.2 0 then [move c p.2 p.1] else [])
theorem mem_succ {ps : List (Nat × Nat)} {c d : Cfg} : d ∈ succ ps c ↔ Step ps c d := by
  unfold succ Step
  simp only [List.mem_flatMap, List.mem_append, Prod.exists]
  constructor
  · rintro ⟨u, v, hm, h | h⟩
    · split at h
      · exact ⟨u, v, .inl hm, ‹_›, by simpa using h⟩
      · simp at h
    · split at h
      · exact ⟨v, u, .inr hm, ‹_›, by simpa using h⟩
      · simp at h
  · rintro ⟨u, v, hm | hm, h2, e⟩
    · exact ⟨u, v, hm, .inl (by rw [if_pos h2]; simpa using e)⟩
    · exact ⟨v, u, hm, .inr (by rw [if_pos h2]; simpa using e)⟩
theorem succ_length (ps : List (Nat × Nat)) (c : Cfg) : (succ ps c).length ≤ 2 * ps.length := by
  unfold succ
  induction ps with
  | nil => simp
  | cons p r ih =>
    rw [List.flatMap_cons, List.length_append, List.length_cons, List.length_append]
    have h1 : (if 2 ≤ c.getD p.1 0 then [move c p.1 p.2] else []).length ≤ 1 := by split <;> simp
    have h2 : (if 2 ≤ c.getD p.2 0 then [move c p.2 p.1] else []).length ≤ 1 := by split <;> simp
    omega
theorem Step.len {ps : List (Nat × Nat)} {c d : Cfg} (h : Step ps c d) : d.length = c.length := by
  obtain ⟨u, v, _, _, rfl⟩ := h
  exact move_len _ _ _
theorem Step.sum {ps : List (Nat × Nat)} {c d : Cfg} (h : Step ps c d) : d.sum + 1 ≤ c.sum := by
  obtain ⟨u, v, _, h, rfl⟩ := h
  exact move_sum h
inductive Reach (ps : List (Nat × Nat)) (c : Cfg) : Cfg → Prop
  | refl : Reach ps c c
  | step {d e : Cfg} : Reach ps c d → Step ps d e → Reach ps c e
theorem Reach.len {ps : List (Nat × Nat)} {c d : Cfg} (h : Reach ps c d) : d.length = c.length := by
  induction h with
  | refl => rfl
  | step _ q ih => rw [q.len, ih]
theorem Reach.sum {ps : List (Nat × Nat)} {c d : Cfg} (h : Reach ps c d) : d.sum ≤ c.sum := by
  induction h with
  | refl => exact Nat.le_refl _
  | step _ q ih => have := q.sum; omega

/-! ### the specification's levels -/
theorem adj_iff {g : Graph} {u v : Nat} : isAdjacent g u v = true ↔ (u, v) ∈ g.edges ∨ (v, u) ∈ g.edges := by
  unfold isAdjacent
  simp only [List.any_eq_true, Bool.or_eq_true, Bool.and_eq_true, beq_iff_eq, Prod.exists]
  constructor
  · rintro ⟨a, b, hm, ⟨rfl, rfl⟩ | ⟨rfl, rfl⟩⟩
    · exact .inl hm
    · exact .inr hm
  · rintro (h | h)
    · exact ⟨u, v, h, .inl ⟨rfl, rfl⟩⟩
    · exact ⟨v, u, h, .inr ⟨rfl, rfl⟩⟩
/-- the edges' ends are vertices -/
def Good (g : Graph) : Prop := ∀ p ∈ g.edges, p.1 < p.2 ∧ p.2 < g.vertexCount
theorem mem_successors {g : Graph} (hg : Good g) {c d : Cfg} : d ∈ successors g c ↔ Step g.edges c d := by
  unfold successors possibleMoves Step
  simp only [List.mem_map, List.mem_flatMap, List.mem_range, List.mem_filter, Prod.exists]
  constructor
  · rintro ⟨a, b, ⟨u, hu, v, ⟨hv, hc⟩, e⟩, rfl⟩
    cases e
    unfold canMove at hc
    simp only [Bool.and_eq_true, decide_eq_true_eq] at hc
    exact ⟨a, b, adj_iff.mp hc.1, hc.2, rfl⟩
  · rintro ⟨u, v, hm, h2, rfl⟩
    have hu : u < g.vertexCount ∧ v < g.vertexCount := by
      rcases hm with hm | hm
      · have := hg _ hm
        simp only at this
        omega
      · have := hg _ hm
        simp only at this
        omega
    refine ⟨u, v, ⟨u, hu.1, v, ⟨hu.2, ?_⟩, rfl⟩, rfl⟩
    unfold canMove
    simp only [Bool.and_eq_true, decide_eq_true_eq]
    exact ⟨adj_iff.mpr hm, h2⟩
inductive StepN (ps : List (Nat × Nat)) : Nat → Cfg → Cfg → Prop
  | zero (c) : StepN ps 0 c c
  | succ {k c d e} : Step ps c d → StepN ps k d e → StepN ps (k + 1) c e
theorem StepN.sum {ps : List (Nat × Nat)} {k : Nat} {c d : Cfg} (h : StepN ps k c d) : d.sum + k ≤ c.sum := by
  induction h with
  | zero => exact Nat.le_refl _
  | succ q _ ih => have := q.sum; omega
theorem StepN.snoc {ps : List (Nat × Nat)} {k : Nat} {c d e : Cfg} (h : StepN ps k c d) (q : Step ps d e) : StepN ps (k + 1) c e := by
  induction h with
  | zero c => exact .succ q (.zero e)
  | succ r _ ih => exact .succ r (ih q)
theorem Reach.toN {ps : List (Nat × Nat)} {c d : Cfg} (h : Reach ps c d) : ∃ k, StepN ps k c d := by
  induction h with
  | refl => exact ⟨0, .zero _⟩
  | step _ q ih =>
    obtain ⟨k, h⟩ := ih
    exact ⟨k + 1, h.snoc q⟩
theorem Reach.head {ps : List (Nat × Nat)} {c d e : Cfg} (q : Step ps c d) (h : Reach ps d e) : Reach ps c e := by
  induction h with
  | refl => exact .step .refl q
  | step _ r ih => exact .step ih r
theorem StepN.reach {ps : List (Nat × Nat)} {k : Nat} {c d : Cfg} (h : StepN ps k c d) : Reach ps c d := by
  induction h with
  | zero => exact .refl
  | succ q _ ih => exact Reach.head q ih
theorem mem_levelsFrom {g : Graph} (hg : Good g) {d : Cfg} : ∀ (fuel : Nat) (lv : List Cfg),
    (∃ L ∈ levelsFrom g lv fuel, d ∈ L) ↔ ∃ j, j < fuel ∧ ∃ c ∈ lv, StepN g.edges j c d
  | 0, lv => by
    constructor
    · rintro ⟨L, h, _⟩
      simp [levelsFrom] at h
    · rintro ⟨j, h, _⟩
      omega
  | fuel + 1, lv => by
    have ih := mem_levelsFrom hg (d := d) fuel ((lv.flatMap (successors g)).eraseDups)
    have next : (∃ c ∈ (lv.flatMap (successors g)).eraseDups, ∃ j, j < fuel ∧ StepN g.edges j c d) ↔ ∃ j, j < fuel ∧ ∃ c ∈ lv, StepN g.edges (j + 1) c d := by
      constructor
      · rintro ⟨c, hc, j, hj, q⟩
        rw [List.mem_eraseDups, List.mem_flatMap] at hc
        obtain ⟨b, hb, hs⟩ := hc
        exact ⟨j, hj, b, hb, .succ ((mem_successors hg).mp hs) q⟩
      · rintro ⟨j, hj, c, hc, q⟩
        cases q with
        | succ h1 h2 =>
          refine ⟨_, ?_, j, hj, h2⟩
          rw [List.mem_eraseDups, List.mem_flatMap]
          exact ⟨c, hc, (mem_successors hg).mpr h1⟩
    unfold levelsFrom
    by_cases he : lv.isEmpty = true
    · rw [if_pos he]
      have e : lv = [] := by simpa using he
      subst e
      constructor
      · rintro ⟨L, h, _⟩
        simp at h
      · rintro ⟨j, _, c, h, _⟩
        simp at h
    · rw [if_neg he]
      constructor
      · rintro ⟨L, h, hd⟩
        rcases List.mem_cons.mp h with e | h
        · subst e
          exact ⟨0, Nat.succ_pos _, d, hd, .zero d⟩
        · obtain ⟨j, hj, c, hc, q⟩ := ih.mp ⟨L, h, hd⟩
          obtain ⟨j2, hj2, c2, hc2, q2⟩ := next.mp ⟨c, hc, j, hj, q⟩
          exact ⟨j2 + 1, by omega, c2, hc2, q2⟩
      · rintro ⟨j, hj, c, hc, q⟩
        cases j with
        | zero =>
          cases q
          exact ⟨lv, List.mem_cons_self .., hc⟩
        | succ j =>
          obtain ⟨c2, hc2, j2, hj2, q2⟩ := next.mpr ⟨j, by omega, c, hc, q⟩
          obtain ⟨L, hL, hd⟩ := ih.mpr ⟨j2, hj2, c2, hc2, q2⟩
          exact ⟨L, List.mem_cons_of_mem _ hL, hd⟩
theorem mem_levels {g : Graph} (hg : Good g) {c d : Cfg} : (∃ L ∈ levels g c, d ∈ L) ↔ Reach g.edges c d := by
  unfold levels
  rw [mem_levelsFrom hg]
  constructor
  · rintro ⟨j, _, b, hb, q⟩
    rw [List.mem_singleton] at hb
    subst hb
    exact q.reach
  · intro h
    obtain ⟨k, q⟩ := h.toN
    exact ⟨k, by have := q.sum; omega, c, List.mem_singleton.mpr rfl, q⟩
theorem canReach_iff {g : Graph} (hg : Good g) {c : Cfg} {v : Nat} : canReach g c v 1 = true ↔ ∃ d, Reach g.edges c d ∧ 0 < d.getD v 0 := by
  unfold canReach minMoves
  rw [List.findIdx?_isSome]
  simp only [List.any_eq_true, decide_eq_true_eq]
  constructor
  · rintro ⟨L, hL, d, hd, h⟩
    exact ⟨d, (mem_levels hg).mp ⟨L, hL, hd⟩, h⟩
  · rintro ⟨d, hd, h⟩
    obtain ⟨L, hL, hm⟩ := (mem_levels hg).mpr hd
    exact ⟨L, hL, d, hm, h⟩
/-- a list of just what can be reached -/
def Lists (ps : List (Nat × Nat)) (c : Cfg) (cs : List Cfg) : Prop := ∀ d, d ∈ cs ↔ Reach ps c d
def hit (cs : List Cfg) (v : Nat) : Bool := cs.any fun d => decide (0 < d.getD v 0)
theorem canReach_hit {g : Graph} (hg : Good g) {c : Cfg} {cs : List Cfg} (h : Lists g.edges c cs) (v : Nat) : canReach g c v 1 = hit cs v := by
  rw [Bool.eq_iff_iff, canReach_iff hg]
  unfold hit
  simp only [List.any_eq_true, decide_eq_true_eq]
  constructor
  · rintro ⟨d, r, q⟩
    exact ⟨d, (h d).mpr r, q⟩
  · rintro ⟨d, r, q⟩
    exact ⟨d, (h d).mp r, q⟩

/-! ### how many configurations there are -/
theorem nodup_lt : ∀ (N : Nat) (l : List Nat), l.Nodup → (∀ x ∈ l, x < N) → l.length ≤ N
  | 0, l, _, h => by
    cases l with
    | nil => exact Nat.le_refl _
    | cons x r => exact absurd (h x (List.mem_cons_self ..)) (by omega)
  | N + 1, l, hn, h => by
    have hn2 : (l.erase N).Nodup := hn.erase N
    have ih := nodup_lt N (l.erase N) hn2 fun x hx => by
      have h1 := (hn.mem_erase_iff).mp hx
      have := h x h1.2
      have := h1.1
      omega
    by_cases hm : N ∈ l
    · rw [List.length_erase_of_mem hm] at ih
      omega
    · rw [List.erase_of_not_mem hm] at ih
      omega
def code : Cfg → Nat
  | [] => 0
  | x :: r => x + 13 * code r
theorem code_lt : ∀ (c : Cfg), c.sum ≤ 12 → code c < 13 ^ c.length
  | [], _ => by decide
  | x :: r, h => by
    rw [List.sum_cons] at h
    have ih := code_lt r (by omega)
    show x + 13 * code r < 13 ^ (r.length + 1)
    rw [Nat.pow_succ]
    omega
theorem code_inj : ∀ (c d : Cfg), c.length = d.length → c.sum ≤ 12 → d.sum ≤ 12 → code c = code d → c = d
  | [], [], _, _, _, _ => rfl
  | [], _ :: _, h, _, _, _ => by simp at h
  | _ :: _, [], h, _, _, _ => by simp at h
  | x :: r, y :: t, h, h1, h2, e => by
    rw [List.sum_cons] at h1 h2
    have e' : x + 13 * code r = y + 13 * code t := e
    have ih := code_inj r t (by simpa using h) (by omega) (by omega) (by omega)
    have : x = y := by omega
    rw [this, ih]
theorem pow_le {k : Nat} (h : k ≤ 5) : 13 ^ k ≤ 371293 := Nat.le_trans (Nat.pow_le_pow_right (by decide) h) (by decide)
theorem few {n : Nat} {l : List Cfg} (hn : l.Nodup) (h : ∀ c ∈ l, c.length = n ∧ c.sum ≤ 12) (h5 : n ≤ 5) : l.length ≤ 371293 := by
  have q := nodup_lt (13 ^ n) (l.map code) (by
    refine List.pairwise_map.mpr (List.Pairwise.imp_of_mem (R := fun a b => a ≠ b) (fun {a b} ha hb hne e => ?_) hn)
    exact hne (code_inj a b ((h a ha).1.trans (h b hb).1.symm) (h a ha).2 (h b hb).2 e)) (fun x hx => by
      obtain ⟨c, hc, rfl⟩ := List.mem_map.mp hx
      have := code_lt c (h c hc).2
      rw [(h c hc).1] at this
      exact this)
  rw [List.length_map] at q
  exact Nat.le_trans q (pow_le h5)

/-! ### the search -/
def addOne (s : List Cfg × List Cfg) (f : Cfg) : List Cfg × List Cfg := if f ∈ s.1 then s else (s.1 ++ [f], s.2 ++ [f])
def weight (l : List Cfg) : Nat := (l.map fun c => 23 ^ c.sum).sum
theorem weight_snoc (l : List Cfg) (c : Cfg) : weight (l ++ [c]) = weight l + 23 ^ c.sum := by
  unfold weight
  rw [List.map_append, List.sum_append]
  simp
/-- seen and waiting, between two turns -/
structure Srch (ps : List (Nat × Nat)) (c : Cfg) (seen wait : List Cfg) : Prop where
  nd : seen.Nodup
  nw : wait.Nodup
  rch : ∀ x ∈ seen, Reach ps c x
  fst : c ∈ seen
  sub : ∀ x ∈ wait, x ∈ seen
  cls : ∀ x ∈ seen, x ∈ wait ∨ ∀ y, Step ps x y → y ∈ seen
theorem Srch.start (ps : List (Nat × Nat)) (c : Cfg) : Srch ps c [c] [c] :=
  ⟨by simp, by simp, fun x h => by rw [List.mem_singleton.mp h]; exact .refl, List.mem_singleton.mpr rfl, fun x h => h, fun x h => .inl h⟩
theorem Srch.done {ps : List (Nat × Nat)} {c : Cfg} {seen : List Cfg} (s : Srch ps c seen []) : Lists ps c seen := fun d => by
  constructor
  · exact s.rch d
  · intro h
    induction h with
    | refl => exact s.fst
    | step _ q ih =>
      rcases s.cls _ ih with h | h
      · simp at h
      · exact h _ q
/-- within a turn: x is taken out, the first of its followers are in -/
structure Turning (ps : List (Nat × Nat)) (c x : Cfg) (fs seen wait : List Cfg) (b : Nat) : Prop where
  nd : seen.Nodup
  nw : wait.Nodup
  rch : ∀ x ∈ seen, Reach ps c x
  fst : c ∈ seen
  xin : x ∈ seen
  sub : ∀ x ∈ wait, x ∈ seen
  cls : ∀ y ∈ seen, y ∈ wait ∨ y = x ∨ ∀ z, Step ps y z → z ∈ seen
  has : ∀ f ∈ fs, f ∈ seen
  wt : weight wait ≤ b + fs.length * 23 ^ (x.sum - 1)
theorem Srch.take {ps : List (Nat × Nat)} {c x : Cfg} {seen wait : List Cfg} (s : Srch ps c seen (wait ++ [x])) : Turning ps c x [] seen wait (weight wait) where
  nd := s.nd
  nw := (List.nodup_append.mp s.nw).1
  rch := s.rch
  fst := s.fst
  xin := s.sub x (by simp)
  sub := fun y h => s.sub y (by simp [h])
  cls := fun y h => by
    rcases s.cls y h with h | h
    · rcases List.mem_append.mp h with h | h
      · exact .inl h
      · exact .inr (.inl (List.mem_singleton.mp h))
    · exact .inr (.inr h)
  has := fun f h => by simp at h
  wt := by simp
theorem Turning.more {ps : List (Nat × Nat)} {c x : Cfg} {fs seen wait : List Cfg} {b : Nat} (t : Turning ps c x fs seen wait b) {f : Cfg} (hf : Step ps x f) :
    Turning ps c x (fs ++ [f]) (addOne (seen, wait) f).1 (addOne (seen, wait) f).2 b := by
  have hw : b + fs.length * 23 ^ (x.sum - 1) + 23 ^ (x.sum - 1) = b + (fs ++ [f]).length * 23 ^ (x.sum - 1) := by
    rw [List.length_append, List.length_singleton, Nat.add_mul, Nat.one_mul, Nat.add_assoc]
  unfold addOne
  by_cases h : f ∈ seen
  · rw [if_pos h]
    exact ⟨t.nd, t.nw, t.rch, t.fst, t.xin, t.sub, t.cls, fun g hg => by
      rcases List.mem_append.mp hg with hg | hg
      · exact t.has g hg
      · rw [List.mem_singleton.mp hg]; exact h, by
        have := t.wt
        show weight wait ≤ _
        rw [← hw]
        exact Nat.le_trans this (Nat.le_add_right _ _)⟩
  · rw [if_neg h]
    have hfw : f ∉ wait := fun q => h (t.sub f q)
    refine ⟨?_, ?_, ?_, ?_, ?_, ?_, ?_, ?_, ?_⟩
    · exact List.nodup_append.mpr ⟨t.nd, by simp, fun a ha b hb e => by rw [List.mem_singleton] at hb; subst hb; subst e; exact h ha⟩
    · exact List.nodup_append.mpr ⟨t.nw, by simp, fun a ha b hb e => by rw [List.mem_singleton] at hb; subst hb; subst e; exact hfw ha⟩
    · intro y hy
      rcases List.mem_append.mp hy with hy | hy
      · exact t.rch y hy
      · rw [List.mem_singleton.mp hy]; exact .step (t.rch x t.xin) hf
    · exact List.mem_append_left _ t.fst
    · exact List.mem_append_left _ t.xin
    · intro y hy
      rcases List.mem_append.mp hy with hy | hy
      · exact List.mem_append_left _ (t.sub y hy)
      · exact List.mem_append_right _ hy
    · intro y hy
      rcases List.mem_append.mp hy with hy | hy
      · rcases t.cls y hy with q | q | q
        · exact .inl (List.mem_append_left _ q)
        · exact .inr (.inl q)
        · exact .inr (.inr fun z hz => List.mem_append_left _ (q z hz))
      · exact .inl (List.mem_append_right _ hy)
    · intro g hg
      rcases List.mem_append.mp hg with hg | hg
      · exact List.mem_append_left _ (t.has g hg)
      · exact List.mem_append_right _ hg
    · show weight (wait ++ [f]) ≤ _
      rw [weight_snoc]
      have h1 := t.wt
      have h2 : 23 ^ f.sum ≤ 23 ^ (x.sum - 1) := Nat.pow_le_pow_right (by decide) (by have := hf.sum; omega)
      omega
theorem Turning.all {ps : List (Nat × Nat)} {c x : Cfg} {wait0 : List Cfg} {fs seen wait : List Cfg} (t : Turning ps c x fs seen wait (weight wait0)) (hfs : ∀ y, Step ps x y → y ∈ fs) (hl : fs.length ≤ 22) (hx : ∀ f ∈ fs, Step ps x f) :
    Srch ps c seen wait ∧ weight wait < weight (wait0 ++ [x]) := by
  refine ⟨⟨t.nd, t.nw, t.rch, t.fst, t.sub, fun y hy => ?_⟩, ?_⟩
  · rcases t.cls y hy with q | q | q
    · exact .inl q
    · subst q
      exact .inr fun z hz => t.has z (hfs z hz)
    · exact .inr q
  · rw [weight_snoc]
    have h1 := t.wt
    cases fs with
    | nil =>
      have : 0 < 23 ^ x.sum := Nat.pow_pos (by decide)
      rw [List.length_nil, Nat.zero_mul] at h1
      omega
    | cons f r =>
      have hs := (hx f (List.mem_cons_self ..)).sum
      have e : 23 ^ x.sum = 23 ^ (x.sum - 1) * 23 := by
        rw [← Nat.pow_succ]
        congr 1
        omega
      have hp : 0 < 23 ^ (x.sum - 1) := Nat.pow_pos (by decide)
      have h2 : (f :: r).length * 23 ^ (x.sum - 1) ≤ 22 * 23 ^ (x.sum - 1) := Nat.mul_le_mul_right _ hl
      omega
theorem Srch.small {ps : List (Nat × Nat)} {c : Cfg} {seen wait : List Cfg} (s : Srch ps c seen wait) (h5 : c.length ≤ 5) (h12 : c.sum ≤ 12) : seen.length ≤ 371293 ∧ wait.length ≤ 371293 :=
  ⟨few s.nd (fun x h => ⟨(s.rch x h).len, Nat.le_trans (s.rch x h).sum h12⟩) h5, few s.nw (fun x h => ⟨(s.rch x (s.sub x h)).len, Nat.le_trans (s.rch x (s.sub x h)).sum h12⟩) h5⟩
theorem Turning.small {ps : List (Nat × Nat)} {c x : Cfg} {fs seen wait : List Cfg} {b : Nat} (s : Turning ps c x fs seen wait b) (h5 : c.length ≤ 5) (h12 : c.sum ≤ 12) : seen.length ≤ 371293 ∧ wait.length ≤ 371293 :=
  ⟨few s.nd (fun x h => ⟨(s.rch x h).len, Nat.le_trans (s.rch x h).sum h12⟩) h5, few s.nw (fun x h => ⟨(s.rch x (s.sub x h)).len, Nat.le_trans (s.rch x (s.sub x h)).sum h12⟩) h5⟩

/-! ### marks -/
def mark (b : Bool) : Nat := if b then 1 else 0
def marksOf (n : Nat) (cs : List Cfg) : List Nat := (List.range n).map fun v => mark (hit cs v)
end SW

/-! Four rules that the layer lacks: {t: v} with a tuple for the key, all(ints), enumerate(a tuple), xs[i] op= n. -/
namespace SW
open PySem PySem.Spec PyProof.Rows L2

/-! ### {t: v} -/
def tDispT (tk tv : TE) : TE := fun σ H Q => ∀ p, H p = none → tk σ (upd H p (.dT [])) fun x H1 => tv σ H1 fun y H2 =>
  H2 p = some (.dT []) ∧ ∃ (b : Addr) (ks : List Key), x = .ref b ∧ H2 b = some (.tup (ks.map kV)) ∧ Q (.ref p) (upd H2 p (.dT [(ks, y)]))
theorem pe_dispT {X : Cx} {pos : Pos} {ke ve : Expr} {tk tv : TE} (hu : X.A.units < cLine) (hk : PE X ke tk) (hv : PE X ve tv) : PE X (.Dict [some ke] [ve] pos) (tDispT tk tv) := by
  constructor
  intro pins s σ H Q I q
  have fr : H s.heap.objs.size = none := I.hok.fresh (Nat.le_refl _)
  have J := I.laid (a := s.heap.objs.size) (o := .dT []) (t' := s.toks) (h' := s.heap.push { cls := .type "dict", data := .dict #[] }) (fun _ _ z => Heap.get?_push_of_some _ z) (Nat.le_refl _) (dt_empty s.heap I.big)
  rw [arm_eval_Dict, zip_pairTrees [some ke] [ve] X.env pos rfl rfl, dictDisplay_pairs _ (by intro z; exact nomatch z) (by show 1 < 17; decide)]
  refine wpAny_bind (wpAny_standAt (wpAny_bind ?_))
  refine wpAny_subDictH (knd := tupleKind (mixKind X.prog X.w)) (show X.A.units < cLine from hu) (by show 1 ≤ 15; decide) ?_
  refine pairTrees_cons_walk (thn (hk.run pins _ σ _ _ J (q _ fr)) fun u1 s1 ⟨x, H1, I1, r1, q1⟩ => thn (hv.run pins s1 σ H1 _ I1 q1) fun u2 s2 ⟨y, H2, I2, r2, e, b, ks, ex, eb, q2⟩ => pairTrees_nil_walk ?_)
  subst ex
  cases (show u1 = Value.ref b from r1)
  obtain ⟨_, hd, xs0, rel0, dd⟩ := dt_of I2.hok e
  cases rel0
  refine ⟨[(ks, b, u2)], ⟨rfl, rfl, key_of I2.hok eb, trivial⟩, dd, fun h' tk' dd' hs => wpAny_pure ?_⟩
  obtain ⟨oq, es, ep, h1, h2, h3, h4, _, h5⟩ := dd'
  refine ⟨.ref s.heap.objs.size, upd H2 s.heap.objs.size (.dT [(ks, y)]), ?_, rfl, q2⟩
  refine d_write I2 (by rw [e]; exact True.intro) hs ⟨oq, h1⟩ ⟨by show 1 ≤ sizeLine; decide, hd, [(ks, b, u2)], .cons ⟨rfl, ?_, r2⟩ .nil, oq, es, ep, h1, h2, h3, h4, h5⟩
  rw [upd_ne (ne_of eb e (fun z => nomatch z))]
  exact eb

/-! ### all(xs), xs whole numbers -/
theorem truth_ints {P : Program} {w : World} {A : Around} {ns : List Int} {its : List Value} (e : IntsAre its ns) :
    TruthOf P w A (fun i v => its.toArray[i]? = some v) (fun i => (ns.map (· != 0)).getD i false) := fun i v s Q E hv hq => by
  have hv2 : its[i]? = some v := by simpa using hv
  obtain ⟨x, hx, t, rfl⟩ : ∃ x, ns[i]? = some x ∧ ∃ t, v = .int x t := by
    have rr : Vals (ns.map V.int) its := vals_of_ints e
    cases hn : ns[i]? with
    | none =>
      have z : (ns.map V.int)[i]? = none := by rw [List.getElem?_map, hn]; rfl
      rw [rr.none_of z] at hv2
      cases hv2
    | some x =>
      have z : (ns.map V.int)[i]? = some (.int x) := by rw [List.getElem?_map, hn]; rfl
      obtain ⟨u, hu, ru⟩ := rr.get z
      rw [hu] at hv2
      cases hv2
      exact ⟨x, rfl, ru⟩
  have hg : (ns.map (· != 0)).getD i false = (x != 0) := by
    rw [List.getD_eq_getElem?_getD, List.getElem?_map, hx]
    rfl
  refine PySem.P.truthy_int ?_
  have hq2 : Q ((ns.map (· != 0)).getD i false) s := hq
  rw [hg] at hq2
  exact hq2
def rAllI (K : PySem.W.Frag) : List V → Hp → VK → Prop := fun vs H Q => ∃ (a : Addr) (ns : List Int), vs = [V.ref a] ∧ SqL K H a (ns.map V.int) ∧ Q (.bl (ns.all (· != 0))) H
theorem cr_allI {X : Cx} (hc : X.calm = true) : CallR X (.builtin "all") (rAllI X.K) := by
  intro pins s σ H vs us Q I r h
  obtain ⟨a, ns, rfl, hs, q⟩ := h
  obtain ⟨its, rv, hl, _⟩ := I.list hs
  rw [Vals.ref1 r]
  have hi : IntsAre its ns := Vals.ints rv
  refine call_all_walk (iter_any hl.isList fun s2 e2 st hne => ?_)
  subst e2
  refine ⟨_, _, _, _, _, _, _, rfl, Walks.list (A := X.A.in1) (I.ok.hd hc) _ a hne its.toArray, st, truth_ints hi, fun h' tk hk => ?_⟩
  have K1 : ∀ b o, s.heap.get? b = some o → h'.get? b = some o := fun b o eo => hk b o (fun hm => by
    rcases List.mem_cons.mp hm with z | hm
    · exact absurd (z ▸ Heap.lt_size eo) (Nat.lt_irrefl _)
    · cases hm) (Heap.get?_push_of_some _ eo)
  refine ⟨.bl (ns.all (· != 0)), H, I.kept K1, ?_, q⟩
  show Value.bool _ = Value.bool _
  have hn : its.toArray.size = (ns.map (· != 0)).length := by
    rw [List.size_toArray, List.length_map, ← rv.length, List.length_map]
  rw [hn, L2.all_range, List.all_map]
  rfl

/-! ### enumerate(t), t a tuple -/
theorem meets_enum_new {v : Value} {o : Obj} {C : Heap → Prop} (B : Begins v o C) :
    Meets (Builtin.«enumerate.__new__» ⟨[.type "enumerate", v], []⟩) (fun _ R s => C s.heap ∧
      R (.ok (.ret (.ref (s.heap.push o).objs.size))) { s with heap := (s.heap.push o).push { cls := .type "enumerate", data := .fields #[.none, .bool false, .ref s.heap.objs.size, rawInt 0, .none, .none] } }) :=
  .of_wp fun prog w A R s h => by
    obtain ⟨hp, g, d, tk, os⟩ := s
    obtain ⟨hC, h⟩ := h
    have hsub := sub_enumerate
    have step : ∀ {A2 : Around} {E2 : Value → Shared → Prop} {Q2 : Value → Shared → Prop}, Q2 (.ref hp.objs.size) ⟨hp.push o, g, d, tk, os⟩ → wpAny (model prog w) A2 (pyIter v) Q2 E2 ⟨hp, g, d, tk, os⟩ :=
      fun z => B.iter prog w _ _ ⟨hp, g, d, tk, os⟩ _ hC z
    wp_walk using step
    refine wpAny_stack_any fun st => wpAny_pure ?_
    split
    · rename_i c _ _ _ _ _
      cases (c == Value.type "enumerate")
      · wp_walk using step
        exact ⟨_, rfl, h⟩
      · wp_walk using step
        exact ⟨_, rfl, h⟩
    · wp_walk using step
      exact ⟨_, rfl, h⟩
theorem call_enum_new {P : Program} {w : World} {A : Around} {E : Value → Shared → Prop} {s : Shared} {v : Value} {o : Obj} {C : Heap → Prop} {Q : Value → Shared → Prop} (B : Begins v o C) (hC : C s.heap)
    (h : ∀ h', IsEnum h' (s.heap.objs.size + 1) s.heap.objs.size 0 .none → h'.get? s.heap.objs.size = some o →
      (∀ b q, s.heap.get? b = some q → h'.get? b = some q) → Q (.ref (s.heap.objs.size + 1)) { s with heap := h' }) :
    wpAny (model P w) A (call (.type "enumerate") [v]) Q E s := by
  refine callType_new F.called_enumerate (by decide) (F.typeCall_enumerate_1 _) (F.newCall_enumerate_1 _) (fun obj => F.args_object_init_2 obj _) F.entry_enumerate_new (meets_enum_new B) ⟨hC, ?_⟩
  have hz : (s.heap.push o).objs.size = s.heap.objs.size + 1 := Heap.size_push ..
  show _ ∧ _
  rw [hz]
  have he : IsEnum ((s.heap.push o).push { cls := .type "enumerate", data := .fields #[.none, .bool false, .ref s.heap.objs.size, rawInt 0, .none, .none] }) (s.heap.objs.size + 1) s.heap.objs.size 0 .none := by
    have z := Heap.get?_push_size (s.heap.push o) (o := { cls := .type "enumerate", data := .fields #[.none, .bool false, .ref s.heap.objs.size, rawInt 0, .none, .none] }) rfl
    rw [hz] at z
    exact z
  exact ⟨⟨_, he, rfl⟩, h _ he (Heap.get?_push_of_some _ (Heap.get?_push_size _ B.free)) fun b q x => Heap.get?_push_of_some _ (Heap.get?_push_of_some _ x)⟩
def Iet (K : PySem.W.Frag) (a : Addr) : It :=
  ⟨fun i H => ∃ (xs : List V) (x : V), SqT K H a xs ∧ xs[i]? = some x, fun i H v H' => ∃ T x, v = .ref T ∧ H T = none ∧ H' = upd H T (.tup [.int (i : Nat), x]) ∧ ∀ xs, SqT K H a xs → xs[i]? = some x,
    fun i H => ∃ xs : List V, SqT K H a xs ∧ xs.length = i⟩
theorem turn_enumT {P : Program} {w : World} {K : PySem.W.Frag} {elts : List Expr} {kk : Nat} {tpos : Pos} (a e it : Addr) :
    Turn P w K (.Tuple elts kk tpos) (Iet K a) [e, it] e (fun i h => (∃ old, IsEnum h e it ((i : Nat) : Int) old) ∧ h.IsTupleIter it a i ∧ e ≠ it ∧ e ≠ a ∧ a ≠ it) where
  mem := List.mem_cons_self ..
  obj := fun i h st b hb => by
    obtain ⟨⟨old, he⟩, ⟨o, ho, hc, hd⟩, _⟩ := st
    rcases List.mem_cons.mp hb with z | hb
    · rw [z]; exact ⟨_, he, fun v q => nomatch q⟩
    · rw [List.mem_singleton.mp hb]; exact ⟨o, ho, fun v q => by rw [hd] at q; cases q⟩
  keep := fun i h h' st k => by
    obtain ⟨⟨old, he⟩, hi, r⟩ := st
    exact ⟨⟨old, k e (by simp) _ he⟩, hi.at fun o q => k it (by simp) o q, r⟩
  item := by
    intro X hP hw hK hc i pins s σ H E I hf st hg
    subst hP hw hK
    obtain ⟨⟨old, he⟩, hit, n1, n2, n3⟩ := st
    obtain ⟨xs, x, hq, hx⟩ := hg
    obtain ⟨its, rv, pt, hz⟩ := I.tuple hq
    obtain ⟨u, hu, ru⟩ := rv.get hx
    have hel : e < s.heap.objs.size := Heap.lt_size he
    have hil : it < s.heap.objs.size := by obtain ⟨_, q, _⟩ := hit; exact Heap.lt_size q
    have hlt : i < its.toArray.size := by
      have := (List.getElem?_eq_some_iff.mp hu).1
      simpa using this
    refine wpAny_pyNext_enum_itemC (Draws.tuple (A := X.A.in1) (I.ok.hd hc) it a n3 its.toArray) he ⟨hit, pt⟩ hlt n1 (by simp [n1, n2]) fun y h' tk hy ho hst hT hsz hk => ?_
    have ey : y = u := by
      have hy2 : its[i]? = some y := by simpa using hy
      rw [hu] at hy2
      exact (Option.some.inj hy2).symm
    subst ey
    refine ⟨_, rfl, wpAny_letOwnedTupleGo_enum (s := { s with heap := h', toks := tk + 1 }) ho fun h2 he2 sb => ?_⟩
    have hT2 : h2.get? s.heap.objs.size = some { cls := .type "tuple", data := .seq #[.int i tk, y] } := (sb.2 _ (Nat.ne_of_gt hel)).trans hT
    have new : ObjOk X.prog X.w (upd H s.heap.objs.size (.tup [.int (i : Nat), x])) h2 s.heap.objs.size (.tup [.int (i : Nat), x]) :=
      ⟨by show 2 ≤ sizeLine; decide, [.int i tk, y], .cons ⟨_, rfl⟩ (.cons ru .nil), ⟨_, hT2, rfl, _, rfl⟩⟩
    have I1 : Inv X pins σ (upd H s.heap.objs.size (.tup [.int (i : Nat), x])) { s with heap := h2, toks := tk + 1 } :=
      I.turnedNew (ch := [e, it]) (fun b ob hb q => (sb.2 b (fun z => hb (by simp [z]))).trans (hk b ob (fun z => hb (by simp [z])) (fun z => hb (by simp [z])) q)) hf (Nat.le_refl _) new
    refine ⟨.ref s.heap.objs.size, _, I1, rfl, ⟨_, x, rfl, I.hok.fresh (Nat.le_refl _), rfl, fun ys hy => by rw [I.tuple_inj hy hq]; exact hx⟩, ⟨⟨y, ?_⟩, hst.1.at fun o q => (sb.2 it (Ne.symm n1)).trans q, n1, n2, n3⟩, fun b hb => ?_⟩
    · have e1 : ((i + 1 : Nat) : Int) = (i : Int) + 1 := by omega
      rw [e1]
      exact he2
    · have hb2 : b < s.heap.objs.size := by
        rcases List.mem_cons.mp hb with z | hb
        · rw [z]; exact hel
        · rw [List.mem_singleton.mp hb]; exact hil
      rw [upd_ne (Nat.ne_of_lt hb2)]
      exact (hf b hb).1
  done := by
    intro X hP hw hK hc i pins s σ H E I hf st hg
    subst hP hw hK
    obtain ⟨⟨old, he⟩, hit, n1, n2, n3⟩ := st
    obtain ⟨xs, hq, hx⟩ := hg
    obtain ⟨its, rv, pt, hz⟩ := I.tuple hq
    obtain ⟨f0, f1, f2, f3, f4, f5⟩ := hf it (by simp)
    have hn : its.toArray.size = i := by rw [List.size_toArray, ← rv.length, hx]
    exact wpAny_pyNext_enum_endD (Draws.tuple (A := X.A.in1) (I.ok.hd hc) it a n3 its.toArray) he ⟨by rw [hn]; exact hit, pt⟩ fun h' eb => ⟨rfl, I.turned (t' := s.toks) (fun b o hb q => eb b o hb q) f0 f1 f3 f4 f5⟩
  self := fun A i s Q E st h => by
    obtain ⟨⟨_, he⟩, _⟩ := st
    exact wpAny_pyIter_enum he h
def iEnumT (K : PySem.W.Frag) (ta : TA) : TI := fun σ H R => ta σ H fun vs H1 => ∃ a xs, vs = [.ref a] ∧ SqT K H1 a xs ∧ R (Iet K a) H1
theorem pi_enumT {X : Cx} {e : Expr} {ta : TA} {p pos tpos : Pos} {elts : List Expr} {kk : Nat} (hg : Gl X "enumerate") (hm : X.mg "enumerate" = none) (ha : PA X [e] ta) (hs : starEach [e] X.env = [(false, eval e X.env)] := by rfl) :
    PI X (.Tuple elts kk tpos) (.Call (.Name "enumerate" p) [e] [] pos) (iEnumT X.K ta) := by
  constructor
  intro pins s σ H R I h
  refine Call_ (ld_blt I hg hm boot_enumerate (PyProof.Rows.callWith_type1 (thn (ha.run pos pins s σ H _ I h) fun us s1 ⟨vs, H1, I1, r1, q1⟩ => ?_) hs rfl))
  obtain ⟨a, xs, ex, hq, q⟩ := q1
  subst ex
  obtain ⟨u, eu, ru⟩ := Vals.one r1
  subst eu
  cases (show u = Value.ref a from ru)
  obtain ⟨its, rv, pt, hz⟩ := I1.tuple hq
  have hlt : a < s1.heap.objs.size := pt.lt
  refine call_enum_new (begins_tuple a its.toArray) pt fun h' he hit hk => wpAny_pyIter_enum he ?_
  have I2 : Inv X pins σ H1 { s1 with heap := h' } := I1.kept (t' := s1.toks) hk
  refine ⟨s1.heap.objs.size + 1, [s1.heap.objs.size + 1, s1.heap.objs.size], _, _, H1, rfl, I2, turn_enumT a (s1.heap.objs.size + 1) s1.heap.objs.size, ⟨⟨.none, he⟩, ⟨_, hit, rfl, rfl⟩, Nat.succ_ne_self _, Nat.ne_of_gt (Nat.lt_succ_of_lt hlt), Nat.ne_of_lt hlt⟩, fun b hb => ?_, q⟩
  have hle : s1.heap.objs.size ≤ b := by
    rcases List.mem_cons.mp hb with z | hb
    · rw [z]; exact Nat.le_succ _
    · rw [List.mem_singleton.mp hb]; exact Nat.le_refl _
  exact I1.fpOk hle (I1.hok.fresh hle)
theorem walk_enumT {K : PySem.W.Frag} {a : Addr} {xs : List V} : Walk (Iet K a) xs.length (fun H => SqT K H a xs) (YPair (fun i => some (.int (i : Nat))) (fun i => xs[i]?)) := by
  refine ⟨fun i _ hi q => ⟨xs, xs[i], q, by simp [hi]⟩, fun _ q => ⟨xs, q, rfl⟩, fun i H v H' _ q y => ?_⟩
  obtain ⟨T, x, h1, h2, h3, h4⟩ := y
  exact ⟨T, .int (i : Nat), x, h1, h2, h3, rfl, h4 xs q⟩

/-! ### xs[i] op= n -/
def rGetL (K : PySem.W.Frag) : V → V → Hp → VK → Prop := fun o i H Q => ∃ (p : Addr) (xs : List V) (j : Nat) (v : V), o = .ref p ∧ i = .int (j : Int) ∧ SqL K H p xs ∧ xs[j]? = some v ∧ Q v H
theorem get_list {X : Cx} : PGet X (rGetL X.K) := by
  intro pins s σ H o i ov iv Q I ro ri h
  obtain ⟨p, xs, j, v, rfl, rfl, hq, hj, q⟩ := h
  cases (show ov = Value.ref p from ro)
  obtain ⟨t, rfl⟩ := ri
  obtain ⟨its, rv, pl, hz⟩ := I.list hq
  obtain ⟨u, hu, ru⟩ := rv.get hj
  have hl := rv.length
  have hlt : j < its.length := (List.getElem?_eq_some_iff.mp hu).1
  have hn := line63
  exact wpAny_getItem_list pl.isList (Int.natCast_nonneg j) (by omega) (by simpa using hu) ⟨v, H, I, ru, q⟩
end SW

namespace SW
open PySem PySem.Spec PyProof.Rows L2
open Ks577 (move)
open PySem.W (Codec)
/-! ### the heap's words -/
def nv (n : Nat) : V := V.int (n : Int)
def iv (c : List Nat) : List V := c.map nv
def keyOf (c : List Nat) : List Key := c.map fun (n : Nat) => (Sum.inl (n : Int) : Key)
theorem keyOf_kV (c : List Nat) : (keyOf c).map kV = iv c := by
  unfold keyOf iv
  rw [List.map_map]
  rfl
theorem keyOf_inj : ∀ {c d : List Nat}, keyOf c = keyOf d → c = d
  | [], [], _ => rfl
  | [], _ :: _, h => absurd (congrArg List.length h) (by simp [keyOf])
  | _ :: _, [], h => absurd (congrArg List.length h) (by simp [keyOf])
  | x :: c, y :: d, h0 => by
    have h : (Sum.inl (x : Int) : Key) :: keyOf c = Sum.inl (y : Int) :: keyOf d := h0
    have h1 : (Sum.inl (x : Int) : Key) = Sum.inl (y : Int) := (List.cons.inj h).1
    have h2 : (x : Int) = (y : Int) := Sum.inl.inj h1
    have h3 : x = y := by omega
    rw [h3, keyOf_inj (List.cons.inj h).2]
theorem iv_len (c : List Nat) : (iv c).length = c.length := List.length_map ..
theorem iv_get {c : List Nat} {i : Nat} (h : i < c.length) : (iv c)[i]? = some (nv (c.getD i 0)) := by
  unfold iv
  rw [List.getElem?_map, List.getElem?_eq_getElem h, List.getD_eq_getElem?_getD, List.getElem?_eq_getElem h]
  rfl
theorem iv_set (c : List Nat) (i a : Nat) : (iv c).set i (nv a) = iv (c.set i a) := by
  unfold iv
  rw [List.map_set]
theorem iv_snoc (c : List Nat) (a : Nat) : iv c ++ [nv a] = iv (c ++ [a]) := by
  unfold iv
  rw [List.map_append]
  rfl
theorem ixN_nat {n i : Nat} (h : i < n) : ixN n (i : Int) = some i := by
  unfold ixN
  rw [if_pos (Int.natCast_nonneg i), if_pos (by omega)]
  rfl
/-- the tuples at bs hold cs -/
def Tups (H : Hp) (bs : List Addr) (cs : List Cfg) : Prop := Paired (fun b c => H b = some (.tup (iv c))) bs cs
theorem Tups.same {H H' : Hp} {bs : List Addr} {cs : List Cfg} (t : Tups H bs cs) (s : Same H H') : Tups H' bs cs := Paired.mapP t fun _ _ e => s _ _ e
theorem Tups.len {H : Hp} {bs : List Addr} {cs : List Cfg} (t : Tups H bs cs) : bs.length = cs.length := Paired.length t
theorem Tups.get {H : Hp} {bs : List Addr} {cs : List Cfg} (t : Tups H bs cs) {i : Nat} {b : Addr} (h : bs[i]? = some b) : ∃ c, cs[i]? = some c ∧ H b = some (.tup (iv c)) := paired_get t h
theorem Tups.snoc {H : Hp} {bs : List Addr} {cs : List Cfg} (t : Tups H bs cs) {b : Addr} {c : Cfg} (h : H b = some (.tup (iv c))) : Tups H (bs ++ [b]) (cs ++ [c]) := by
  unfold Tups at t ⊢
  induction t with
  | nil => exact .cons h .nil
  | cons r _ ih => exact .cons r ih
theorem Tups.upd {H : Hp} {bs : List Addr} {cs : List Cfg} (t : Tups H bs cs) {p : Addr} {o u : HO} (h : H p = some o) (ho : ∀ xs, o ≠ .tup xs) : Tups (upd H p u) bs cs :=
  Paired.mapP t fun b c e => by
    rw [upd_ne (ne_of e h (fun z => ho _ z.symm))]
    exact e
def edgeCfg (ps : List (Nat × Nat)) : List Cfg := ps.map fun p => [p.1, p.2]
/-- the list at a holds the pairs' tuples -/
def PairsAt (H : Hp) (a : Addr) (ps : List (Nat × Nat)) : Prop := ∃ bs : List Addr, H a = some (.lst (bs.map V.ref)) ∧ Tups H bs (edgeCfg ps)
theorem PairsAt.same {H H' : Hp} {a : Addr} {ps : List (Nat × Nat)} (t : PairsAt H a ps) (s : Same H H') : PairsAt H' a ps := by
  obtain ⟨bs, h, t⟩ := t
  exact ⟨bs, s _ _ h, t.same s⟩
theorem same_upd {H : Hp} {p : Addr} {o : HO} (h : H p = none) : Same H (upd H p o) := fun b x e => by
  rw [upd_ne (ne_of_none e h)]
  exact e
/-- what was there ahead of p's making -/
theorem same_put {H0 H : Hp} {p : Addr} {o : HO} (s : Same H0 H) (h : H0 p = none) : Same H0 (upd H p o) := fun b x e => by
  rw [upd_ne (ne_of_none e h)]
  exact s b x e
theorem line5 {n : Nat} (h : n ≤ 400000) : n < sizeLine := Nat.lt_of_le_of_lt h (by decide)

theorem succ_snoc (ps : List (Nat × Nat)) (p : Nat × Nat) (c : Cfg) :
    succ (ps ++ [p]) c = (succ ps c ++ if 2 ≤ c.getD p.1 0 then [move c p.1 p.2] else []) ++ (if 2 ≤ c.getD p.2 0 then [move c p.2 p.1] else []) := by
  unfold succ
  rw [List.flatMap_append, List.flatMap_singleton, List.append_assoc]
theorem take_snoc {α : Type} {l : List α} {i : Nat} {x : α} (h : l[i]? = some x) : l.take (i + 1) = l.take i ++ [x] := by
  rw [List.take_add_one, h]
  rfl
theorem edge_get {ps : List (Nat × Nat)} {i : Nat} {c : Cfg} (h : (edgeCfg ps)[i]? = some c) : ∃ p, ps[i]? = some p ∧ c = [p.1, p.2] := by
  unfold edgeCfg at h
  rw [List.getElem?_map] at h
  cases e : ps[i]? with
  | none => rw [e] at h; cases h
  | some p => rw [e] at h; exact ⟨p, rfl, (Option.some.inj h).symm⟩
theorem ref_get {bs : List Addr} {i : Nat} {x : V} (h : (bs.map V.ref)[i]? = some x) : ∃ b, bs[i]? = some b ∧ x = .ref b := by
  rw [List.getElem?_map] at h
  cases e : bs[i]? with
  | none => rw [e] at h; cases h
  | some b => rw [e] at h; exact ⟨b, rfl, (Option.some.inj h).symm⟩
/-! ### the dict of what is seen -/
def kvsOf (seen : List Cfg) : List (List Key × V) := seen.map fun c => (keyOf c, V.bl true)
theorem kvs_in {f : Cfg} : ∀ {seen : List Cfg}, f ∈ seen → valV (kvsOf seen) (keyOf f) = some (V.bl true)
  | [], h => absurd h (by simp)
  | x :: r, h => by
    by_cases e : x = f
    · exact valV_pos (p := (keyOf x, V.bl true)) (by rw [e])
    · have hr : f ∈ r := by
        rcases List.mem_cons.mp h with z | z
        · exact absurd z.symm e
        · exact z
      show valV ((keyOf x, V.bl true) :: kvsOf r) (keyOf f) = _
      rw [valV_neg (fun z => e (keyOf_inj z))]
      exact kvs_in hr
theorem kvs_out {f : Cfg} : ∀ {seen : List Cfg}, f ∉ seen → valV (kvsOf seen) (keyOf f) = none
  | [], _ => rfl
  | x :: r, h => by
    show valV ((keyOf x, V.bl true) :: kvsOf r) (keyOf f) = _
    rw [valV_neg (fun z => h (by rw [keyOf_inj z]; exact List.mem_cons_self ..))]
    exact kvs_out fun z => h (List.mem_cons_of_mem _ z)
theorem kvs_snoc (seen : List Cfg) (f : Cfg) : kvsOf seen ++ [(keyOf f, V.bl true)] = kvsOf (seen ++ [f]) := by
  unfold kvsOf
  rw [List.map_append]
  rfl
theorem kvs_len (seen : List Cfg) : (kvsOf seen).length = seen.length := List.length_map ..
theorem tups_keys {H : Hp} : ∀ {seen : List Cfg} {bs : List Addr}, IsKeys H (kvsOf seen) bs → Tups H bs seen
  | [], _, h => by
    cases h
    exact .nil
  | x :: r, _, h => by
    cases h with
    | cons h1 h2 =>
      refine .cons ?_ (tups_keys h2)
      rw [← keyOf_kV]
      exact h1
theorem Tups.last {H : Hp} {ws : List Addr} {wait : List Cfg} (t : Tups H ws wait) (h : 0 < ws.length) : ∃ ws' b wait' x, ws = ws' ++ [b] ∧ wait = wait' ++ [x] ∧ Tups H ws' wait' ∧ H b = some (.tup (iv x)) := by
  unfold Tups at t
  induction t with
  | nil => exact absurd h (by simp)
  | @cons b x l1 l2 r t ih =>
    cases t with
    | nil => exact ⟨[], b, [], x, rfl, rfl, .nil, r⟩
    | cons r2 t2 =>
      obtain ⟨ws', b', wait', x', e1, e2, t', hb⟩ := ih (by simp)
      exact ⟨b :: ws', b', x :: wait', x', by rw [e1]; rfl, by rw [e2]; rfl, .cons r t', hb⟩
/-! ### marks, one by one -/
def half (n : Nat) (cs : List Cfg) (d : Cfg) (j : Nat) : List Nat := (List.range n).map fun v => mark (hit cs v || (decide (v < j) && decide (0 < d.getD v 0)))
theorem half_zero (n : Nat) (cs : List Cfg) (d : Cfg) : half n cs d 0 = marksOf n cs := by
  unfold half marksOf
  refine List.map_congr_left fun v _ => ?_
  rw [decide_eq_false (Nat.not_lt_zero v), Bool.false_and, Bool.or_false]
theorem hit_snoc (cs : List Cfg) (d : Cfg) (v : Nat) : hit (cs ++ [d]) v = (hit cs v || decide (0 < d.getD v 0)) := by
  unfold hit
  rw [List.any_append]
  simp
theorem half_all (n : Nat) (cs : List Cfg) (d : Cfg) : half n cs d n = marksOf n (cs ++ [d]) := by
  unfold half marksOf
  refine List.map_congr_left fun v hv => ?_
  rw [decide_eq_true (List.mem_range.mp hv), Bool.true_and, hit_snoc]
theorem half_len (n : Nat) (cs : List Cfg) (d : Cfg) (j : Nat) : (half n cs d j).length = n := by
  unfold half
  rw [List.length_map, List.length_range]
theorem half_get {n : Nat} {cs : List Cfg} {d : Cfg} {j v : Nat} (h : v < n) : (half n cs d j)[v]? = some (mark (hit cs v || (decide (v < j) && decide (0 < d.getD v 0)))) := by
  unfold half
  rw [List.getElem?_map, List.getElem?_range h]
  rfl
theorem half_more {n : Nat} {cs : List Cfg} {d : Cfg} {j : Nat} (hj : j < n) : half n cs d (j + 1) = if 0 < d.getD j 0 then (half n cs d j).set j 1 else half n cs d j := by
  apply List.ext_getElem?
  intro v
  by_cases hv : v < n
  · rw [half_get hv]
    by_cases hp : 0 < d.getD j 0
    · rw [if_pos hp]
      by_cases e : j = v
      · subst e
        rw [List.getElem?_set_self (by rw [half_len]; exact hv), decide_eq_true (Nat.lt_succ_self j), decide_eq_true hp, Bool.true_and, Bool.or_true]
        rfl
      · rw [List.getElem?_set_ne e, half_get hv]
        have e2 : decide (v < j + 1) = decide (v < j) := by
          rw [decide_eq_decide]
          omega
        rw [e2]
    · rw [if_neg hp, half_get hv]
      by_cases e : j = v
      · subst e
        rw [decide_eq_false hp, Bool.and_false, Bool.and_false]
      · have e2 : decide (v < j + 1) = decide (v < j) := by
          rw [decide_eq_decide]
          omega
        rw [e2]
  · have z : ∀ {l : List Nat}, l.length = n → l[v]? = none := fun h => List.getElem?_eq_none (by omega)
    rw [z (half_len ..)]
    split
    · rw [z (by rw [List.length_set, half_len])]
    · rw [z (half_len ..)]
theorem marks_nil (n : Nat) : marksOf n [] = List.replicate n 0 := by
  unfold marksOf
  refine List.eq_replicate_iff.mpr ⟨by rw [List.length_map, List.length_range], fun b hb => ?_⟩
  obtain ⟨v, _, rfl⟩ := List.mem_map.mp hb
  rfl
theorem marks_len (n : Nat) (cs : List Cfg) : (marksOf n cs).length = n := by
  unfold marksOf
  rw [List.length_map, List.length_range]
theorem flat_rep (x : V) : ∀ n : Nat, (List.replicate n [x]).flatten = List.replicate n x
  | 0 => rfl
  | n + 1 => by
    rw [List.replicate_succ, List.flatten_cons, flat_rep x n]
    rfl
theorem rg_small : ∀ m : Nat, m ≤ 22 → RgC 0 (m : Int) 2 ((m + 1) / 2) := by
  intro m hm
  refine ⟨by decide, by decide, ?_, ?_⟩
  · have h : ∀ k ∈ List.range 23, Builtin.Range.small 0 ((k : Nat) : Int) 2 = true := by decide
    exact h m (List.mem_range.mpr (by omega))
  · have h : ∀ k ∈ List.range 23, Builtin.Range.rangeSize 0 ((k : Nat) : Int) 2 = (((k + 1) / 2 : Nat) : Int) := by decide
    exact h m (List.mem_range.mpr (by omega))
theorem edge_take_snoc {ps : List (Nat × Nat)} {i : Nat} {p : Nat × Nat} (h : ps[i]? = some p) : edgeCfg (ps.take (i + 1)) = edgeCfg (ps.take i) ++ [[p.1, p.2]] := by
  rw [take_snoc h]
  unfold edgeCfg
  rw [List.map_append]
  rfl
/-- tuples of two numbers, one at most the other -/
theorem le_pair (p b : Nat × Nat) : Ob.lexAt (fun j => decide (([(p.1 : Int), (p.2 : Int)]).getD j 0 = ([(b.1 : Int), (b.2 : Int)]).getD j 0)) (fun j => decide (([(p.1 : Int), (p.2 : Int)]).getD j 0 ≤ ([(b.1 : Int), (b.2 : Int)]).getD j 0))
    (decide (([(p.1 : Int), (p.2 : Int)]).length ≤ ([(b.1 : Int), (b.2 : Int)]).length)) 0 (min ([(p.1 : Int), (p.2 : Int)]).length ([(b.1 : Int), (b.2 : Int)]).length) = !ltP b p := by
  show (if decide ((p.1 : Int) = (b.1 : Int)) = true then (if decide ((p.2 : Int) = (b.2 : Int)) = true then true else decide ((p.2 : Int) ≤ (b.2 : Int))) else decide ((p.1 : Int) ≤ (b.1 : Int))) = !ltP b p
  unfold ltP
  by_cases h1 : (p.1 : Int) = (b.1 : Int)
  · rw [if_pos (decide_eq_true h1)]
    by_cases h2 : (p.2 : Int) = (b.2 : Int)
    · rw [if_pos (decide_eq_true h2), decide_eq_false (by omega)]
      rfl
    · rw [if_neg (by simpa using h2)]
      by_cases h3 : (p.2 : Int) ≤ (b.2 : Int)
      · rw [decide_eq_true h3, decide_eq_false (by omega)]
        rfl
      · rw [decide_eq_false h3, decide_eq_true (by omega)]
        rfl
  · rw [if_neg (by simpa using h1)]
    by_cases h3 : (p.1 : Int) ≤ (b.1 : Int)
    · rw [decide_eq_true h3, decide_eq_false (by omega)]
      rfl
    · rw [decide_eq_false h3, decide_eq_true (by omega)]
      rfl
def gfits (n : Nat) (l : List Nat) : Bool := decide (1 ≤ n) && decide (n ≤ 5) && decide (l.length % 2 = 0) && fits n (pairsOf l)
def cfits (n : Nat) (c : List Nat) : Bool := decide (c.length = n) && decide (c.sum ≤ 12)
theorem sum_cast : ∀ c : List Nat, (c.map fun (n : Nat) => (n : Int)).sum = ((c.sum : Nat) : Int)
  | [] => rfl
  | x :: r => by
    rw [List.map_cons, List.sum_cons, List.sum_cons, sum_cast r]
    omega
theorem iv_ints (c : List Nat) : iv c = (c.map fun (n : Nat) => (n : Int)).map V.int := by
  unfold iv
  rw [List.map_map]
  rfl
def toZ (l : List Nat) : List Int := l.map fun (n : Nat) => (n : Int)
theorem toZ_nat (l : List Nat) : (toZ l).map Int.toNat = l := by
  unfold toZ
  rw [List.map_map]
  exact (List.map_congr_left fun n _ => Int.toNat_natCast n).trans (List.map_id l)
theorem nat_toZ : ∀ {l : List Int}, (∀ x ∈ l, 0 ≤ x) → toZ (l.map Int.toNat) = l
  | [], _ => rfl
  | x :: r, h => by
    show (x.toNat : Int) :: toZ (r.map Int.toNat) = x :: r
    rw [nat_toZ fun y hy => h y (List.mem_cons_of_mem _ hy), Int.toNat_of_nonneg (h x (List.mem_cons_self ..))]
theorem graph_eq (n : Nat) (l : List Nat) : Ks577.parseGraph n l = if gfits n l = true then some ⟨n, pairsOf l⟩ else none := by
  unfold Ks577.parseGraph gfits
  by_cases h : n < 1 ∨ Ks577.maxVertices < n
  · rw [if_pos h, if_neg]
    intro z
    simp only [Bool.and_eq_true, decide_eq_true_eq] at z
    have h5 : Ks577.maxVertices = 5 := rfl
    omega
  · have h5 : Ks577.maxVertices = 5 := rfl
    rw [if_neg h, parse_eq, decide_eq_true (show 1 ≤ n by omega), decide_eq_true (show n ≤ 5 by omega), Bool.true_and, Bool.true_and]
    by_cases h2 : l.length % 2 = 0 ∧ fits n (pairsOf l) = true
    · rw [if_pos h2, if_pos (by rw [decide_eq_true h2.1, h2.2]; rfl)]
      rfl
    · rw [if_neg h2, if_neg]
      · rfl
      · intro z
        simp only [Bool.and_eq_true, decide_eq_true_eq] at z
        exact h2 z
theorem gfits_good {n : Nat} {l : List Nat} (h : gfits n l = true) : Good ⟨n, pairsOf l⟩ ∧ n ≤ 5 ∧ l.length % 2 = 0 := by
  unfold gfits at h
  simp only [Bool.and_eq_true, decide_eq_true_eq] at h
  exact ⟨fits_ends h.2, h.1.1.2, h.1.2⟩
theorem valid_eq (g : Ks577.Graph) (c : Cfg) : Ks577.isValidConfiguration g c = cfits g.vertexCount c := by
  unfold Ks577.isValidConfiguration cfits
  rw [Bool.beq_eq_decide_eq]
  rfl
theorem marks_spec {g : Ks577.Graph} (hg : Good g) {c : Cfg} {cs : List Cfg} (h : Lists g.edges c cs) (n : Nat) : ((List.range n).map fun v => if Ks577.canReach g c v 1 = true then 1 else 0) = marksOf n cs := by
  unfold marksOf
  refine List.map_congr_left fun v _ => ?_
  rw [canReach_hit hg h]
  rfl
theorem solv_spec {g : Ks577.Graph} (hg : Good g) {c : Cfg} {cs : List Cfg} (h : Lists g.edges c cs) : Ks579.isSolvable g c = (toZ (marksOf g.vertexCount cs)).all (· != 0) := by
  unfold Ks579.isSolvable toZ marksOf
  rw [List.all_map, List.all_map]
  congr 1
  funext v
  show Ks577.canReach g c v 1 = (((mark (hit cs v) : Nat) : Int) != 0)
  rw [canReach_hit hg h]
  cases hit cs v <;> rfl
/-! ### the codecs' bounds -/
theorem cod_int {n : Int} (q : Codec.inInt 0 4294967295 n = true) : ((n.toNat : Nat) : Int) = n := by
  unfold Codec.inInt at q
  simp only [Bool.and_eq_true, decide_eq_true_eq] at q
  omega
theorem cod_pos {l : List Int} (h : l.all (Codec.inInt 0 4294967295) = true) : ∀ x ∈ l, 0 ≤ x := fun x hx => by
  have z := List.all_eq_true.mp h x hx
  unfold Codec.inInt at z
  simp only [Bool.and_eq_true, decide_eq_true_eq] at z
  exact z.1
end SW

namespace SW
open PySem PySem.Spec PyProof.Rows L2
/-! ### the text -/
def topS (i : Nat) : Stmt := PySem.Challenge.pw_stonewalk_s06_cover_number.main.body.getD i (.Pass ⟨0, 0, 0, 0⟩)
abbrev s_cover_number : Stmt := topS 4
abbrev s_graph_fits : Stmt := topS 5
abbrev s_edge_pairs : Stmt := topS 6
abbrev s_edges_fit : Stmt := topS 7
abbrev s_is_connected : Stmt := topS 8
abbrev s_cover_number_from : Stmt := topS 9
abbrev s_distances_from : Stmt := topS 10
abbrev s_vertices_beside : Stmt := topS 11
theorem sc_cover_number : FnScope ["vertex_count", "edges", "pairs", "vertex"] ["vertex_count", "edges"] (defScope s_cover_number) := ⟨rfl, rfl, rfl, by decide +kernel, rfl, by decide +kernel, by decide +kernel⟩
theorem sc_graph_fits : FnScope ["vertex_count", "edges"] ["vertex_count", "edges"] (defScope s_graph_fits) := ⟨rfl, rfl, rfl, by decide +kernel, rfl, by decide +kernel, by decide +kernel⟩
theorem sc_edge_pairs : FnScope ["edges", "at"] ["edges"] (defScope s_edge_pairs) := ⟨rfl, rfl, rfl, by decide +kernel, rfl, by decide +kernel, by decide +kernel⟩
theorem sc_edges_fit : FnScope ["vertex_count", "pairs", "before", "pair", "u", "v"] ["vertex_count", "pairs"] (defScope s_edges_fit) := ⟨rfl, rfl, rfl, by decide +kernel, rfl, by decide +kernel, by decide +kernel⟩
theorem sc_is_connected : FnScope ["vertex_count", "pairs"] ["vertex_count", "pairs"] (defScope s_is_connected) := ⟨rfl, rfl, rfl, by decide +kernel, rfl, by decide +kernel, by decide +kernel⟩
theorem sc_cover_number_from : FnScope ["vertex", "pairs", "distance"] ["vertex", "pairs"] (defScope s_cover_number_from) := ⟨rfl, rfl, rfl, by decide +kernel, rfl, by decide +kernel, by decide +kernel⟩
theorem sc_distances_from : FnScope ["vertex", "pairs", "distances", "farthest", "farther", "here", "there"] ["vertex", "pairs"] (defScope s_distances_from) := ⟨rfl, rfl, rfl, by decide +kernel, rfl, by decide +kernel, by decide +kernel⟩
theorem sc_vertices_beside : FnScope ["vertex", "pairs", "beside", "u", "v"] ["vertex", "pairs"] (defScope s_vertices_beside) := ⟨rfl, rfl, rfl, by decide +kernel, rfl, by decide +kernel, by decide +kernel⟩
/-- what the program's defs and constants are, where they stand; what is Python's own -/
structure Txt (K : PySem.W.Frag) (mg : Str → Option Value) where
  f_cover_number : Addr
  d_cover_number : FuncData
  F_cover_number : Fun K "cover_number" "cover_number" s_cover_number f_cover_number d_cover_number
  b_cover_number : Binds K d_cover_number ["vertex_count", "edges"] []
  g_cover_number : mg "cover_number" = some (.ref f_cover_number)
  f_graph_fits : Addr
  d_graph_fits : FuncData
  F_graph_fits : Fun K "graph_fits" "graph_fits" s_graph_fits f_graph_fits d_graph_fits
  b_graph_fits : Binds K d_graph_fits ["vertex_count", "edges"] []
  g_graph_fits : mg "graph_fits" = some (.ref f_graph_fits)
  f_edge_pairs : Addr
  d_edge_pairs : FuncData
  F_edge_pairs : Fun K "edge_pairs" "edge_pairs" s_edge_pairs f_edge_pairs d_edge_pairs
  b_edge_pairs : Binds K d_edge_pairs ["edges"] []
  g_edge_pairs : mg "edge_pairs" = some (.ref f_edge_pairs)
  f_edges_fit : Addr
  d_edges_fit : FuncData
  F_edges_fit : Fun K "edges_fit" "edges_fit" s_edges_fit f_edges_fit d_edges_fit
  b_edges_fit : Binds K d_edges_fit ["vertex_count", "pairs"] []
  g_edges_fit : mg "edges_fit" = some (.ref f_edges_fit)
  f_is_connected : Addr
  d_is_connected : FuncData
  F_is_connected : Fun K "is_connected" "is_connected" s_is_connected f_is_connected d_is_connected
  b_is_connected : Binds K d_is_connected ["vertex_count", "pairs"] []
  g_is_connected : mg "is_connected" = some (.ref f_is_connected)
  f_cover_number_from : Addr
  d_cover_number_from : FuncData
  F_cover_number_from : Fun K "cover_number_from" "cover_number_from" s_cover_number_from f_cover_number_from d_cover_number_from
  b_cover_number_from : Binds K d_cover_number_from ["vertex", "pairs"] []
  g_cover_number_from : mg "cover_number_from" = some (.ref f_cover_number_from)
  f_distances_from : Addr
  d_distances_from : FuncData
  F_distances_from : Fun K "distances_from" "distances_from" s_distances_from f_distances_from d_distances_from
  b_distances_from : Binds K d_distances_from ["vertex", "pairs"] []
  g_distances_from : mg "distances_from" = some (.ref f_distances_from)
  f_vertices_beside : Addr
  d_vertices_beside : FuncData
  F_vertices_beside : Fun K "vertices_beside" "vertices_beside" s_vertices_beside f_vertices_beside d_vertices_beside
  b_vertices_beside : Binds K d_vertices_beside ["vertex", "pairs"] []
  g_vertices_beside : mg "vertices_beside" = some (.ref f_vertices_beside)
  t_OUTSIDE_LIMITS : Tok
  v_OUTSIDE_LIMITS : mg "OUTSIDE_LIMITS" = some (.int (-22) t_OUTSIDE_LIMITS)
  t_NOT_CONNECTED : Tok
  v_NOT_CONNECTED : mg "NOT_CONNECTED" = some (.int (-33) t_NOT_CONNECTED)
  t_MOST_VERTICES : Tok
  v_MOST_VERTICES : mg "MOST_VERTICES" = some (.int 5 t_MOST_VERTICES)
  m_len : mg "len" = none
  m_max : mg "max" = none
  m_range : mg "range" = none
  m_sum : mg "sum" = none
end SW

namespace SW
open PySem PySem.Spec PyProof.Rows L2
open Ks577 (move)
section
variable {P : Program} {w : World} {K : PySem.W.Frag} {mg : Str → Option Value} {base : Heap}
/-! ### edge_pairs -/
def spEpairs (K : PySem.W.Frag) : Sp := fun vs H Q _ => ∃ (a : Addr) (l : List Nat), vs = [.ref a] ∧ SqL K H a (iv l) ∧ l.length % 2 = 0 ∧ l.length ≤ 22 ∧ ∀ H' p, Same H H' → H p = none → PairsAt H' p (pairsOf l) → Q (.ref p) H'
theorem ok_epairs (T : Txt K mg) {k : Nat} : FnOk P w K mg base CX0 (k + 1) T.f_edge_pairs T.d_edge_pairs ["edges"] (spEpairs K) := by
  refine T.F_edge_pairs.ok sc_edge_pairs (fun vs H Q E h => ?_) (fun cdv A outer s H vs Q E hr h => ?_)
  · obtain ⟨a, l, rfl, _⟩ := h
    rfl
  · obtain ⟨a, l, rfl, hA, hev, h22, q⟩ := h
    refine ⟨_, pss_one (ps_ret (pe_lc (own := [("at", 1)]) (g := gName 1) (tt := tYes) rfl sc_edge_pairs.nd (pi_range3 (by rfl) T.m_range (pa_cons pe_int (pa_cons (pe_callB call_len_seq (by rfl) T.m_len PySem.boot_len (pa_cons (pv 0) pa_nil)) (pa_cons pe_int pa_nil))))
      (blkOk_by (N := ["edges", "at"]) (sc := defScope s_edge_pairs) (by decide +kernel)) (fun _ _ _ _ _ => pg_name (i := 1) sc_edge_pairs.nd rfl (Or.inl rfl)) (fun _ _ _ _ _ => pts_nil)
      (fun _ _ _ _ _ => pe_tup (pa_cons (pe_ix (r := rIxL K) (by exact ix_list) (pv 0) (pv 1) (fun _ _ => rfl)) (pa_cons (pe_ix (r := rIxL K) (by exact ix_list) (pv 0) (pe_op op_add (pv 1) pe_int) (fun _ _ => rfl)) pa_nil))))), ?_⟩
    have hn : (pairsOf l).length = (l.length + 1) / 2 := by
      rw [pairsOf_len]
      omega
    have e22 : ((iv l).length : Int) = ((l.length : Nat) : Int) := by rw [iv_len]
    refine ⟨.ref a, rfl, a, iv l, rfl, .inl hA, 0, ((iv l).length : Int), 2, (l.length + 1) / 2, rfl, by rw [e22]; exact rg_small l.length h22, fun D nD => ?_⟩
    refine lc_it walk_rangeC (fun i H' => Same H H' ∧ ∃ bs : List Addr, H' D = some (.lst (bs.map V.ref)) ∧ Tups H' bs (edgeCfg ((pairsOf l).take i))) ⟨same_upd nD, [], upd_same, .nil⟩ (fun _ _ _ _ => trivial) ?_ ?_
    · rintro i x H1 H2 hi ⟨s1, bs, hD, ht⟩ ⟨rfl, rfl⟩
      have hi2 : i < l.length / 2 := by omega
      have gp := pairsOf_get l i hev hi2
      have g1 : (iv l)[2 * i]? = some (nv (l.getD (2 * i) 0)) := iv_get (by omega)
      have g2 : (iv l)[2 * i + 1]? = some (nv (l.getD (2 * i + 1) 0)) := iv_get (by omega)
      refine ⟨rfl, ?_⟩
      refine ⟨.ref a, rfl, .int (0 + (i : Nat) * 2), rfl, a, iv l, _, _, rfl, rfl, s1.seq hA, at_of (j := 2 * i) (by omega) g1, .ref a, rfl, .int (0 + (i : Nat) * 2), rfl, _, _, rfl, rfl, a, iv l, _, _, rfl, rfl, s1.seq hA, at_of (j := 2 * i + 1) (by omega) g2, by show 2 ≤ sizeLine; decide, fun t nt => ?_⟩
      have sT : Same H2 (upd H2 t (.tup [nv (l.getD (2 * i) 0), nv (l.getD (2 * i + 1) 0)])) := same_upd nt
      have hz : bs.length ≤ 22 := by
        rw [ht.len]
        unfold edgeCfg
        rw [List.length_map, List.length_take]
        omega
      refine ⟨_, sT _ _ hD, by rw [List.length_map]; exact small1000 (by omega), same_put (s1.trans sT) nD, bs ++ [t], ?_, ?_⟩
      · rw [upd_same, List.map_append]
        rfl
      · rw [edge_take_snoc gp]
        exact ((ht.same sT).snoc upd_same).upd (sT _ _ hD) (fun _ z => nomatch z)
    · rintro H1 ⟨s1, bs, hD, ht⟩
      rw [← hn, List.take_length] at ht
      exact q H1 D s1 nD ⟨bs, hD, ht⟩
/-! ### edges_fit -/
def spEfit : Sp := fun vs H Q _ => ∃ (n : Nat) (a : Addr) (ps : List (Nat × Nat)), vs = [nv n, .ref a] ∧ PairsAt H a ps ∧ ∀ H', Same H H' → Q (.bl (fits n ps)) H'
theorem ok_efit (T : Txt K mg) {k : Nat} : FnOk P w K mg base CX0 (k + 1) T.f_edges_fit T.d_edges_fit ["vertex_count", "pairs"] spEfit := by
  refine T.F_edges_fit.ok sc_edges_fit (fun vs H Q E h => ?_) (fun cdv A outer s H vs Q E hr h => ?_)
  · obtain ⟨n, a, ps, rfl, _⟩ := h
    rfl
  · obtain ⟨n, a, ps, rfl, ⟨as, ha, hta⟩, q⟩ := h
    refine ⟨_, pss_cons (ps_set (i := 2) sc_edges_fit.nd rfl (.inl rfl) (pe_tup (pa_cons pe_int (pa_cons pe_int pa_nil))))
      (pss_cons (ps_for PassesOwn.never rfl (pi_list (pv 1)) (pg_name (i := 3) sc_edges_fit.nd rfl (.inl rfl))
        (pss_cons (ps_asg (pv 3) (pg_tup (by rfl) (pgs_cons (pg_name (i := 4) sc_edges_fit.nd rfl (.inl rfl)) (pgs_cons (pg_name (i := 5) sc_edges_fit.nd rfl (.inl rfl)) pgs_nil))))
        (pss_cons (ps_if (PW.pt (pw_or (pt_cmpR op_ge (pv 4) (pv 5) (nomark _)) (pw_or (pt_cmpR op_ge (pv 5) (pv 0) (nomark _)) (pw_or1 (pt_cmpR (op_leT hr.units0) (pv 3) (pv 2) (nomark _)))))) (pss_one (ps_ret pe_bl)) pss_nil)
        (pss_one (ps_set (i := 2) sc_edges_fit.nd rfl (.inl rfl) (pv 3))))))
      (pss_one (ps_ret pe_bl))), ?_⟩
    have ls : as.length = ps.length := by rw [hta.len]; exact List.length_map ..
    -- before = (0, 0)
    refine ⟨by show 2 ≤ sizeLine; decide, fun t nt => ?_⟩
    have s1 : Same H (upd H t (.tup [nv 0, nv 0])) := same_upd nt
    refine ⟨.ref a, rfl, a, rfl, ⟨_, s1.seq (.inl (.inl ha))⟩, for_it (walk_list (xs := as.map V.ref)) (fun i σ H' => ∃ y3 y4 y5, ∃ bb : Addr, ∃ b : Nat × Nat, σ = [some (nv n), some (.ref a), some (.ref bb), y3, y4, y5] ∧ Same H H' ∧ H' bb = some (.tup (iv [b.1, b.2])) ∧ fits n ps = okFrom n b (ps.drop i))
      ⟨none, none, none, t, (0, 0), rfl, s1, upd_same, (okFrom_zero n ps).symm⟩ (fun i σ H' _ ⟨_, _, _, _, _, _, h, _⟩ => h.seq (.inl (.inl ha))) ?_ ?_⟩
    · rintro i x σ H1 H2 hi ⟨y3, y4, y5, bb, b, rfl, q2, hb, hf⟩ ⟨rfl, hx⟩
      obtain ⟨tt, et, rfl⟩ := ref_get hx
      obtain ⟨cc, ec, hT⟩ := hta.get et
      obtain ⟨p, ep, rfl⟩ := edge_get ec
      have hi2 : i < ps.length := (List.getElem?_eq_some_iff.mp ep).1
      have hdrop : ps.drop i = p :: ps.drop (i + 1) := by
        rw [List.drop_eq_getElem_cons hi2]
        congr 1
        exact (List.getElem?_eq_some_iff.mp ep).2
      rw [hdrop] at hf
      have hf2 : fits n ps = (decide (p.1 < p.2) && decide (p.2 < n) && ltP b p && okFrom n p (ps.drop (i + 1))) := hf
      have hT2 := q2 _ _ hT
      -- u, v = pair
      refine ⟨.ref tt, rfl, tt, iv [p.1, p.2], rfl, .inl (.inl hT2), rfl, nv p.1, [nv p.2], rfl, nv p.2, [], rfl, rfl, ?_⟩
      -- u >= v or v >= vertex_count or pair <= before
      refine ⟨nv p.1, rfl, nv p.2, rfl, (p.1 : Int), (p.2 : Int), rfl, rfl, _, rfl, ite2 (fun e => ?_) (fun e => ?_)⟩
      · have g := of_decide_eq_true e
        rw [decide_eq_false (show ¬ p.1 < p.2 by omega), Bool.false_and, Bool.false_and, Bool.false_and] at hf2
        refine iteT ?_
        have z := q H2 q2
        rw [hf2] at z
        exact z
      · have g : p.1 < p.2 := by
          have z : ¬ ((p.2 : Int) ≤ (p.1 : Int)) := fun z => e (decide_eq_true z)
          omega
        refine ⟨nv p.2, rfl, nv n, rfl, (p.2 : Int), (n : Int), rfl, rfl, _, rfl, ite2 (fun e1 => ?_) (fun e1 => ?_)⟩
        · have g1 := of_decide_eq_true e1
          rw [decide_eq_false (show ¬ p.2 < n by omega), Bool.and_false, Bool.false_and, Bool.false_and] at hf2
          refine iteT ?_
          have z := q H2 q2
          rw [hf2] at z
          exact z
        · have g1 : p.2 < n := by
            have z : ¬ ((n : Int) ≤ (p.2 : Int)) := fun z => e1 (decide_eq_true z)
            omega
          refine ⟨.ref tt, rfl, .ref bb, rfl, tt, bb, [(p.1 : Int), (p.2 : Int)], [(b.1 : Int), (b.2 : Int)], rfl, rfl, .inl (.inl hT2), .inl (.inl hb), _, rfl, ?_⟩
          rw [le_pair]
          rw [decide_eq_true g, decide_eq_true g1, Bool.true_and, Bool.true_and] at hf2
          cases hlt : ltP b p with
          | false =>
            refine iteT ?_
            rw [hlt, Bool.false_and] at hf2
            have z := q H2 q2
            rw [hf2] at z
            exact z
          | true =>
            refine iteF ?_
            rw [hlt, Bool.true_and] at hf2
            -- before = pair
            exact ⟨.ref tt, rfl, some (.ref tt), some (nv p.1), some (nv p.2), tt, p, rfl, q2, hT2, hf2⟩
    · rintro σ H1 ⟨y3, y4, y5, bb, b, rfl, q2, hb, hf⟩
      rw [List.length_map, ls, List.drop_length] at hf
      have hf2 : fits n ps = true := hf
      have z := q H1 q2
      rw [hf2] at z
      exact z
/-! ### graph_fits -/
def spGfits (K : PySem.W.Frag) : Sp := fun vs H Q _ => ∃ (n : Nat) (a : Addr) (l : List Nat), vs = [nv n, .ref a] ∧ SqL K H a (iv l) ∧ l.length ≤ 22 ∧ ∀ H', Same H H' → Q (.bl (gfits n l)) H'
theorem ok_gfits (T : Txt K mg) {k : Nat} : FnOk P w K mg base CX0 (k + 2) T.f_graph_fits T.d_graph_fits ["vertex_count", "edges"] (spGfits K) := by
  have GE : FnOk P w K mg base CX0 (k + 1) T.f_edges_fit T.d_edges_fit ["vertex_count", "pairs"] spEfit := ok_efit T
  have GP : FnOk P w K mg base CX0 (k + 1) T.f_edge_pairs T.d_edge_pairs ["edges"] (spEpairs K) := ok_epairs T
  refine T.F_graph_fits.ok sc_graph_fits (fun vs H Q E h => ?_) (fun cdv A outer s H vs Q E hr h => ?_)
  · obtain ⟨n, a, l, rfl, _⟩ := h
    rfl
  · obtain ⟨n, a, l, rfl, hA, h22, q⟩ := h
    refine ⟨_, pss_cons (ps_if (PW.pt (pw_or (pt_cmpR op_lt (pv 0) pe_int (nomark _)) (pw_or1 (pt_cmpR op_gt (pv 0) (pe_glob (v := .int 5) rfl T.v_MOST_VERTICES ⟨_, rfl⟩) (nomark _))))) (pss_one (ps_ret pe_bl)) pss_nil)
      (pss_cons (ps_if (pt_cmpR op_ne (pe_op op_mod (pe_callB call_len_seq (by rfl) T.m_len PySem.boot_len (pa_cons (pv 1) pa_nil)) pe_int) pe_int (nomark _)) (pss_one (ps_ret pe_bl)) pss_nil)
      (pss_one (ps_ret (pe_call GE hr (by rfl) T.g_edges_fit T.F_edges_fit.kp T.b_edges_fit .nil pass0 (pa_cons (pv 0) (pa_cons (pe_call GP hr (by rfl) T.g_edge_pairs T.F_edge_pairs.kp T.b_edge_pairs .nil pass0 (pa_cons (pv 1) pa_nil)) pa_nil)))))), ?_⟩
    have z := q H (Same.refl H)
    unfold gfits at z q
    refine ⟨nv n, rfl, (n : Int), 1, rfl, rfl, _, rfl, ite2 (fun e => ?_) (fun e => ?_)⟩
    · have g := of_decide_eq_true e
      rw [decide_eq_false (show ¬ 1 ≤ n by omega), Bool.false_and, Bool.false_and, Bool.false_and] at z
      exact z
    · have g : 1 ≤ n := by
        have y : ¬ ((n : Int) < 1) := fun y => e (decide_eq_true y)
        omega
      refine ⟨nv n, rfl, (n : Int), 5, rfl, rfl, _, rfl, ite2 (fun e1 => ?_) (fun e1 => ?_)⟩
      · have g1 := of_decide_eq_true e1
        rw [decide_eq_false (show ¬ n ≤ 5 by omega), Bool.and_false, Bool.false_and, Bool.false_and] at z
        exact z
      · have g1 : n ≤ 5 := by
          have y : ¬ ((5 : Int) < (n : Int)) := fun y => e1 (decide_eq_true y)
          omega
        rw [decide_eq_true g, decide_eq_true g1, Bool.true_and, Bool.true_and] at z q
        -- len(edges) % 2 != 0
        refine ⟨.ref a, rfl, a, iv l, rfl, .inl hA, _, 2, rfl, rfl, by show (0 : Int) < 2; decide, rfl, _, rfl, ?_⟩
        by_cases hev : l.length % 2 = 0
        · have e2 : decide (V.int (((iv l).length : Int) % 2) = V.int 0) = true := decide_eq_true (congrArg V.int (by rw [iv_len]; omega))
          rw [e2]
          refine iteF ?_
          rw [decide_eq_true hev, Bool.true_and] at q
          refine ⟨nv n, rfl, .ref a, rfl, a, l, rfl, hA, hev, h22, fun H1 p s1 np hp => ⟨n, p, pairsOf l, rfl, hp, fun H2 s2 => q H2 (s1.trans s2)⟩⟩
        · have e2 : decide (V.int (((iv l).length : Int) % 2) = V.int 0) = false := decide_eq_false fun y => hev (by
            rw [iv_len] at y
            have := V.int.inj y
            omega)
          rw [e2]
          refine iteT ?_
          rw [decide_eq_false hev, Bool.false_and] at z
          exact z
end
end SW

/-! Covering; walks and distances. Plain Lean. -/
namespace SW
open Ks577 (Graph neighbourhood distance isAdjacent)
/-! ### covering -/
def covered (d : Cfg) : Bool := d.all fun x => decide (1 ≤ x)
theorem canCover_iff {g : Graph} (hg : Good g) {c : Cfg} : Ks579.canCover g c = true ↔ ∃ d, Reach g.edges c d ∧ covered d = true := by
  unfold Ks579.canCover covered
  simp only [List.any_eq_true]
  constructor
  · rintro ⟨L, hL, d, hd, h⟩
    exact ⟨d, (mem_levels hg).mp ⟨L, hL, hd⟩, h⟩
  · rintro ⟨d, hd, h⟩
    obtain ⟨L, hL, hm⟩ := (mem_levels hg).mpr hd
    exact ⟨L, hL, d, hm, h⟩
theorem canCover_any {g : Graph} (hg : Good g) {c : Cfg} {cs : List Cfg} (h : Lists g.edges c cs) : Ks579.canCover g c = cs.any covered := by
  rw [Bool.eq_iff_iff, canCover_iff hg, List.any_eq_true]
  constructor
  · rintro ⟨d, r, q⟩
    exact ⟨d, (h d).mpr r, q⟩
  · rintro ⟨d, r, q⟩
    exact ⟨d, (h d).mp r, q⟩
/-! ### walks -/
def Adj (ps : List (Nat × Nat)) (x y : Nat) : Prop := (x, y) ∈ ps ∨ (y, x) ∈ ps
theorem Adj.symm {ps : List (Nat × Nat)} {x y : Nat} (h : Adj ps x y) : Adj ps y x := Or.symm h
theorem adj_spec {g : Graph} {x y : Nat} : isAdjacent g x y = true ↔ Adj g.edges x y := adj_iff
theorem Adj.lt {g : Graph} (hg : Good g) {x y : Nat} (h : Adj g.edges x y) : x < g.vertexCount ∧ y < g.vertexCount := by
  rcases h with h | h
  · have := hg _ h
    simp only at this
    omega
  · have := hg _ h
    simp only at this
    omega
inductive Go (ps : List (Nat × Nat)) : Nat → Nat → Nat → Prop
  | zero (u) : Go ps 0 u u
  | succ {k u x y} : Go ps k u x → Adj ps x y → Go ps (k + 1) u y
theorem Go.cons {ps : List (Nat × Nat)} {k x y v : Nat} (a : Adj ps x y) (h : Go ps k y v) : Go ps (k + 1) x v := by
  induction h with
  | zero u => exact .succ (.zero x) a
  | succ _ b ih => exact .succ (ih a) b
theorem Go.symm {ps : List (Nat × Nat)} {k u v : Nat} (h : Go ps k u v) : Go ps k v u := by
  induction h with
  | zero u => exact .zero u
  | succ _ b ih => exact .cons b.symm ih
theorem Go.app {ps : List (Nat × Nat)} {j k u x v : Nat} (h : Go ps j u x) (q : Go ps k x v) : Go ps (j + k) u v := by
  induction q with
  | zero => exact h
  | succ _ b ih => exact .succ (ih h) b
theorem Go.lt {g : Graph} (hg : Good g) {k u v : Nat} (hu : u < g.vertexCount) (h : Go g.edges k u v) : v < g.vertexCount := by
  cases h with
  | zero => exact hu
  | succ _ b => exact (b.lt hg).2
/-- in at most k steps -/
def Ball (ps : List (Nat × Nat)) (k u v : Nat) : Prop := ∃ j, j ≤ k ∧ Go ps j u v
theorem mem_nb {g : Graph} (hg : Good g) {v : Nat} : ∀ (k : Nat) (vs : List Nat), (∀ x ∈ vs, x < g.vertexCount) → (v ∈ neighbourhood g k vs ↔ ∃ u ∈ vs, Ball g.edges k u v)
  | 0, vs, _ => by
    unfold neighbourhood
    constructor
    · intro h
      exact ⟨v, h, 0, Nat.le_refl _, .zero v⟩
    · rintro ⟨u, hu, j, hj, q⟩
      have : j = 0 := by omega
      subst this
      cases q
      exact hu
  | k + 1, vs, hv => by
    unfold neighbourhood
    have key : ∀ x, x ∈ ((List.range g.vertexCount).filter fun v => vs.contains v || vs.any fun u => isAdjacent g u v) ↔ x ∈ vs ∨ ∃ u ∈ vs, Adj g.edges u x := fun x => by
      simp only [List.mem_filter, List.mem_range, Bool.or_eq_true, List.contains_iff_mem, List.any_eq_true, adj_spec]
      constructor
      · exact fun h => h.2
      · intro h
        refine ⟨?_, h⟩
        rcases h with h | ⟨u, _, h⟩
        · exact hv x h
        · exact (h.lt hg).2
    rw [mem_nb hg k _ (fun x hx => List.mem_range.mp (List.mem_filter.mp hx).1)]
    constructor
    · rintro ⟨x, hx, j, hj, q⟩
      rcases (key x).mp hx with h | ⟨u, hu, h⟩
      · exact ⟨x, h, j, by omega, q⟩
      · exact ⟨u, hu, j + 1, by omega, .cons h q⟩
    · rintro ⟨u, hu, j, hj, q⟩
      by_cases hk : j ≤ k
      · exact ⟨u, (key u).mpr (.inl hu), j, hk, q⟩
      · have e : j = k + 1 := by omega
        subst e
        obtain ⟨x, a, r⟩ : ∃ x, Adj g.edges u x ∧ Go g.edges k x v := by
          have s := q.symm
          cases s with
          | succ h b => exact ⟨_, b.symm, h.symm⟩
        exact ⟨x, (key x).mpr (.inr ⟨u, hu, a⟩), k, Nat.le_refl _, r⟩
theorem mem_ball {g : Graph} (hg : Good g) {k u v : Nat} (hu : u < g.vertexCount) : (neighbourhood g k [u]).contains v = true ↔ Ball g.edges k u v := by
  rw [List.contains_iff_mem, mem_nb hg k [u] (fun x hx => by rw [List.mem_singleton.mp hx]; exact hu)]
  simp only [List.mem_singleton, exists_eq_left]
/-- the fewest steps -/
def Least (ps : List (Nat × Nat)) (d u v : Nat) : Prop := Go ps d u v ∧ ∀ j, j < d → ¬ Go ps j u v
theorem Least.symm {ps : List (Nat × Nat)} {d u v : Nat} (h : Least ps d u v) : Least ps d v u := ⟨h.1.symm, fun j hj q => h.2 j hj q.symm⟩
theorem Least.uniq {ps : List (Nat × Nat)} {d e u v : Nat} (h : Least ps d u v) (q : Least ps e u v) : d = e := by
  refine Nat.le_antisymm (Nat.le_of_not_lt fun z => h.2 e z q.1) (Nat.le_of_not_lt fun z => q.2 d z h.1)
theorem Go.least {ps : List (Nat × Nat)} {u v : Nat} : ∀ (k : Nat), Go ps k u v → ∃ d, d ≤ k ∧ Least ps d u v := by
  intro k
  induction k using Nat.strongRecOn with
  | _ k ih =>
    intro h
    by_cases q : ∃ j, j < k ∧ Go ps j u v
    · obtain ⟨j, hj, hq⟩ := q
      obtain ⟨d, hd, hl⟩ := ih j hj hq
      exact ⟨d, by omega, hl⟩
    · exact ⟨k, Nat.le_refl _, h, fun j hj hq => q ⟨j, hj, hq⟩⟩
theorem Least.path {g : Graph} (hg : Good g) {u : Nat} (hu : u < g.vertexCount) : ∀ (d : Nat) (v : Nat), Least g.edges d u v → ∃ l : List Nat, l.length = d + 1 ∧ l.Nodup ∧ ∀ x ∈ l, x < g.vertexCount ∧ ∃ i, i ≤ d ∧ Least g.edges i u x
  | 0, v, h => ⟨[v], rfl, by simp, fun x hx => by
      rw [List.mem_singleton.mp hx]
      exact ⟨h.1.lt hg hu, 0, Nat.le_refl _, h⟩⟩
  | d + 1, v, h => by
    obtain ⟨y, hy, a⟩ : ∃ y, Go g.edges d u y ∧ Adj g.edges y v := by
      cases h.1 with
      | succ q b => exact ⟨_, q, b⟩
    have ly : Least g.edges d u y := ⟨hy, fun j hj q => h.2 (j + 1) (by omega) (.succ q a)⟩
    obtain ⟨l, e1, e2, e3⟩ := Least.path hg hu d y ly
    refine ⟨v :: l, by rw [List.length_cons, e1], List.nodup_cons.mpr ⟨fun hm => ?_, e2⟩, fun x hx => ?_⟩
    · obtain ⟨_, i, hi, q⟩ := e3 v hm
      have := q.uniq h
      omega
    · rcases List.mem_cons.mp hx with z | z
      · subst z
        exact ⟨h.1.lt hg hu, d + 1, Nat.le_refl _, h⟩
      · obtain ⟨q1, i, hi, q⟩ := e3 x z
        exact ⟨q1, i, by omega, q⟩
theorem Least.lt {g : Graph} (hg : Good g) {d u v : Nat} (hu : u < g.vertexCount) (h : Least g.edges d u v) : d < g.vertexCount := by
  obtain ⟨l, e1, e2, e3⟩ := Least.path hg hu d v h
  have z := nodup_lt g.vertexCount l e2 fun x hx => (e3 x hx).1
  omega
/-! ### the specification's distance -/
theorem dist_some {g : Graph} (hg : Good g) {d u v : Nat} (hu : u < g.vertexCount) : distance g u v = some d ↔ Least g.edges d u v := by
  unfold distance
  rw [List.find?_range_eq_some]
  simp only [mem_ball hg hu, Bool.not_eq_true', Bool.eq_false_iff, List.mem_range, ne_eq]
  constructor
  · rintro ⟨⟨j, hj, q⟩, _, h⟩
    obtain ⟨e, he, l⟩ := q.least
    have hd : d ≤ e := Nat.le_of_not_lt fun z => h e z ⟨e, Nat.le_refl _, l.1⟩
    have : e = d := by omega
    rw [← this]
    exact l
  · intro l
    refine ⟨⟨d, Nat.le_refl _, l.1⟩, l.lt hg hu, ?_⟩
    rintro j hj ⟨i, hi, q⟩
    exact l.2 i (by omega) q
theorem dist_isSome {g : Graph} (hg : Good g) {u v : Nat} (hu : u < g.vertexCount) : (distance g u v).isSome = true ↔ ∃ k, Go g.edges k u v := by
  rw [Option.isSome_iff_exists]
  constructor
  · rintro ⟨d, h⟩
    exact ⟨d, ((dist_some hg hu).mp h).1⟩
  · rintro ⟨k, h⟩
    obtain ⟨d, _, l⟩ := h.least
    exact ⟨d, (dist_some hg hu).mpr l⟩
theorem dist_symm {g : Graph} (hg : Good g) {u v : Nat} (hu : u < g.vertexCount) (hv : v < g.vertexCount) : distance g u v = distance g v u := by
  apply Option.ext
  intro d
  rw [dist_some hg hu, dist_some hg hv]
  exact ⟨Least.symm, Least.symm⟩
theorem connected_iff {g : Graph} (hg : Good g) (h1 : 1 ≤ g.vertexCount) : Ks578.isConnected g = true ↔ ∀ v, v < g.vertexCount → ∃ k, Go g.edges k 0 v := by
  unfold Ks578.isConnected
  rw [List.all_eq_true]
  constructor
  · intro h v hv
    exact (dist_isSome hg h1).mp (h v (List.mem_range.mpr hv))
  · intro h v hv
    exact (dist_isSome hg h1).mpr (h v (List.mem_range.mp hv))
/-- connected: from any vertex, not from 0 alone -/
theorem connected_from {g : Graph} (hg : Good g) (h1 : 1 ≤ g.vertexCount) {u : Nat} (hu : u < g.vertexCount) : Ks578.isConnected g = true ↔ ∀ v, v < g.vertexCount → ∃ k, Go g.edges k u v := by
  rw [connected_iff hg h1]
  constructor
  · intro h v hv
    obtain ⟨j, a⟩ := h u hu
    obtain ⟨k, b⟩ := h v hv
    exact ⟨j + k, a.symm.app b⟩
  · intro h v hv
    obtain ⟨j, a⟩ := h 0 h1
    obtain ⟨k, b⟩ := h v hv
    exact ⟨j + k, a.symm.app b⟩
end SW

/-! Cover numbers out of distances; rounds of a search by steps. Plain Lean. -/
namespace SW
open Ks577 (Graph distance)
/-! ### cover numbers -/
/-- for each vertex the fewest steps from v -/
def Dists (g : Graph) (v : Nat) (ds : List Nat) : Prop := ds.length = g.vertexCount ∧ ∀ u d, ds[u]? = some d → Least g.edges d v u
theorem cover_sum {g : Graph} (hg : Good g) {v : Nat} {ds : List Nat} (h : Dists g v ds) : Ks579.coverFrom g v = (ds.map (2 ^ ·)).sum := by
  unfold Ks579.coverFrom
  congr 1
  apply List.ext_getElem?
  intro u
  rw [List.getElem?_map, List.getElem?_map]
  by_cases hu : u < g.vertexCount
  · have hu2 : u < ds.length := by rw [h.1]; exact hu
    rw [List.getElem?_range hu, List.getElem?_eq_getElem hu2]
    have z := (h.2 u _ (List.getElem?_eq_getElem hu2)).symm
    rw [← dist_some hg hu] at z
    show some (2 ^ (distance g u v).getD 0) = some (2 ^ ds[u])
    rw [z]
    rfl
  · have hu2 : ¬ u < ds.length := by rw [h.1]; exact hu
    rw [List.getElem?_eq_none (by rw [List.length_range]; omega), List.getElem?_eq_none (by omega)]
    rfl
theorem cover_max {g : Graph} (f : Nat → Nat) (h : ∀ v, v < g.vertexCount → Ks579.coverFrom g v = f v) : Ks579.coverNumber g = ((List.range g.vertexCount).map f).foldl max 0 := by
  unfold Ks579.coverNumber
  rw [List.map_congr_left fun v hv => h v (List.mem_range.mp hv)]
theorem Dists.connected {g : Graph} (hg : Good g) {v : Nat} (hv : v < g.vertexCount) {ds : List Nat} (h : Dists g v ds) : Ks578.isConnected g = true := by
  rw [connected_from hg (by omega) hv]
  intro u hu
  have hu2 : u < ds.length := by rw [h.1]; exact hu
  exact ⟨_, (h.2 u _ (List.getElem?_eq_getElem hu2)).1⟩
/-! ### rounds -/
theorem Ball.mono {ps : List (Nat × Nat)} {j k u v : Nat} (hjk : j ≤ k) (h : Ball ps j u v) : Ball ps k u v := by
  obtain ⟨i, hi, q⟩ := h
  exact ⟨i, by omega, q⟩
theorem ball_zero {ps : List (Nat × Nat)} {u v : Nat} : Ball ps 0 u v ↔ v = u := by
  constructor
  · rintro ⟨j, hj, q⟩
    have : j = 0 := by omega
    subst this
    cases q
    rfl
  · rintro rfl
    exact ⟨0, Nat.le_refl _, .zero _⟩
theorem ball_succ {ps : List (Nat × Nat)} {k u y : Nat} : Ball ps (k + 1) u y ↔ Ball ps k u y ∨ ∃ x, Ball ps k u x ∧ Adj ps x y := by
  constructor
  · rintro ⟨j, hj, q⟩
    by_cases h : j ≤ k
    · exact .inl ⟨j, h, q⟩
    · have e : j = k + 1 := by omega
      subst e
      cases q with
      | succ r a => exact .inr ⟨_, ⟨k, Nat.le_refl _, r⟩, a⟩
  · rintro (⟨j, hj, q⟩ | ⟨x, ⟨j, hj, q⟩, a⟩)
    · exact ⟨j, by omega, q⟩
    · exact ⟨j + 1, by omega, .succ q a⟩
theorem least_zero {ps : List (Nat × Nat)} {u v : Nat} : Least ps 0 u v ↔ v = u := by
  constructor
  · rintro ⟨q, _⟩
    cases q
    rfl
  · rintro rfl
    exact ⟨.zero _, fun j hj => absurd hj (Nat.not_lt_zero _)⟩
theorem least_ball {ps : List (Nat × Nat)} {k u v : Nat} : Least ps (k + 1) u v ↔ Ball ps (k + 1) u v ∧ ¬ Ball ps k u v := by
  constructor
  · rintro ⟨q, h⟩
    exact ⟨⟨k + 1, Nat.le_refl _, q⟩, fun ⟨j, hj, r⟩ => h j (by omega) r⟩
  · rintro ⟨⟨j, hj, q⟩, h⟩
    have e : j = k + 1 := Nat.le_antisymm hj (Nat.lt_of_not_le fun z => h ⟨j, z, q⟩)
    subst e
    exact ⟨q, fun i hi r => h ⟨i, by omega, r⟩⟩
theorem ball_least {ps : List (Nat × Nat)} {k u v : Nat} : Ball ps k u v ↔ ∃ d, d ≤ k ∧ Least ps d u v := by
  constructor
  · rintro ⟨j, hj, q⟩
    obtain ⟨d, hd, l⟩ := q.least
    exact ⟨d, by omega, l⟩
  · rintro ⟨d, hd, l⟩
    exact ⟨d, hd, l.1⟩
theorem least_succ {ps : List (Nat × Nat)} {k u y : Nat} : Least ps (k + 1) u y ↔ ¬ Ball ps k u y ∧ ∃ x, Least ps k u x ∧ Adj ps x y := by
  constructor
  · intro h
    refine ⟨(least_ball.mp h).2, ?_⟩
    cases h.1 with
    | succ q a => exact ⟨_, ⟨q, fun j hj r => h.2 (j + 1) (by omega) (.succ r a)⟩, a⟩
  · rintro ⟨h, x, l, a⟩
    exact least_ball.mpr ⟨⟨k + 1, Nat.le_refl _, .succ l.1 a⟩, h⟩
/-- where a round adds nothing, no later one does -/
theorem ball_stop {ps : List (Nat × Nat)} {k u : Nat} (h : ∀ y, ¬ Least ps (k + 1) u y) {j y : Nat} (q : Go ps j u y) : Ball ps k u y := by
  obtain ⟨d, hd, l⟩ := q.least
  clear q hd j
  induction d generalizing y with
  | zero => exact ⟨0, Nat.zero_le _, l.1⟩
  | succ d ih =>
    obtain ⟨_, x, lx, a⟩ := least_succ.mp l
    have b := ih lx
    by_cases z : d + 1 ≤ k
    · exact ⟨d + 1, z, l.1⟩
    · obtain ⟨i, hi, r⟩ := b
      have hd : d ≤ i := Nat.le_of_not_lt fun w => lx.2 i w r
      have e : d = k := by omega
      subst e
      exact absurd l (h y)
/-- rounds as many as vertices reach all that can be reached -/
theorem go_ball {g : Graph} (hg : Good g) {u j y : Nat} (hu : u < g.vertexCount) (q : Go g.edges j u y) : Ball g.edges (g.vertexCount - 1) u y := by
  obtain ⟨d, _, l⟩ := q.least
  exact ⟨d, by have := l.lt hg hu; omega, l.1⟩
end SW

/-! A search round by round, and what its list of distances tells. Plain Lean. -/
namespace SW
open Ks577 (Graph distance)
/-! ### beside a vertex -/
def beside (ps : List (Nat × Nat)) (v : Nat) : List Nat := ps.flatMap fun p => (if p.1 = v then [p.2] else []) ++ if p.2 = v then [p.1] else []
theorem mem_beside {ps : List (Nat × Nat)} {v y : Nat} : y ∈ beside ps v ↔ Adj ps v y := by
  unfold beside Adj
  rw [List.mem_flatMap]
  constructor
  · rintro ⟨⟨a, b⟩, hp, h⟩
    rcases List.mem_append.mp h with h | h
    · by_cases z : a = v
      · rw [if_pos z] at h
        rw [List.mem_singleton.mp h, ← z]
        exact .inl hp
      · rw [if_neg z] at h
        cases h
    · by_cases z : b = v
      · rw [if_pos z] at h
        rw [List.mem_singleton.mp h, ← z]
        exact .inr hp
      · rw [if_neg z] at h
        cases h
  · rintro (h | h)
    · exact ⟨_, h, List.mem_append.mpr (.inl (by rw [if_pos rfl]; exact List.mem_singleton.mpr rfl))⟩
    · exact ⟨_, h, List.mem_append.mpr (.inr (by rw [if_pos rfl]; exact List.mem_singleton.mpr rfl))⟩
theorem beside_snoc (ps : List (Nat × Nat)) (p : Nat × Nat) (v : Nat) : beside (ps ++ [p]) v = (beside ps v ++ if p.1 = v then [p.2] else []) ++ if p.2 = v then [p.1] else [] := by
  unfold beside
  rw [List.flatMap_append, List.flatMap_singleton, List.append_assoc]
theorem beside_len (v : Nat) : ∀ ps : List (Nat × Nat), (beside ps v).length ≤ 2 * ps.length
  | [] => Nat.le_refl _
  | p :: r => by
    have ih := beside_len v r
    have e : beside (p :: r) v = ((if p.1 = v then [p.2] else []) ++ if p.2 = v then [p.1] else []) ++ beside r v := by
      unfold beside
      rw [List.flatMap_cons]
    rw [e, List.length_append, List.length_append, List.length_cons]
    split <;> split <;> simp <;> omega
/-! ### a round -/
abbrev keys (ds : List (Nat × Nat)) : List Nat := ds.map Prod.fst
/-- what a round has found among those that it has asked -/
structure New (ds : List (Nat × Nat)) (asked new : List Nat) : Prop where
  nd : new.Nodup
  mem : ∀ y, y ∈ new ↔ y ∈ asked ∧ y ∉ keys ds
theorem New.start (ds : List (Nat × Nat)) : New ds [] [] := ⟨List.nodup_nil, fun y => by simp⟩
theorem New.more {ds : List (Nat × Nat)} {asked new : List Nat} (h : New ds asked new) {y : Nat} (h1 : y ∉ keys ds) (h2 : y ∉ new) : New ds (asked ++ [y]) (new ++ [y]) := by
  refine ⟨List.nodup_append.mpr ⟨h.nd, by simp, fun a ha b hb e => ?_⟩, fun x => ?_⟩
  · rw [List.mem_singleton] at hb
    subst hb
    subst e
    exact h2 ha
  · rw [List.mem_append, List.mem_append, h.mem x, List.mem_singleton]
    constructor
    · rintro (⟨a, b⟩ | rfl)
      · exact ⟨.inl a, b⟩
      · exact ⟨.inr rfl, h1⟩
    · rintro ⟨a | a, b⟩
      · exact .inl ⟨a, b⟩
      · exact .inr a
theorem New.skip {ds : List (Nat × Nat)} {asked new : List Nat} (h : New ds asked new) {y : Nat} (h1 : y ∈ keys ds ∨ y ∈ new) : New ds (asked ++ [y]) new := by
  refine ⟨h.nd, fun x => ?_⟩
  rw [h.mem x, List.mem_append, List.mem_singleton]
  constructor
  · rintro ⟨a, b⟩
    exact ⟨.inl a, b⟩
  · rintro ⟨a | rfl, b⟩
    · exact ⟨a, b⟩
    · rcases h1 with z | z
      · exact absurd z b
      · exact (h.mem x).mp z
/-- where k rounds have come to -/
structure Round (ps : List (Nat × Nat)) (u k : Nat) (ds : List (Nat × Nat)) (fs : List Nat) : Prop where
  nd : (keys ds).Nodup
  ds : ∀ y d, (y, d) ∈ ds ↔ d ≤ k ∧ Least ps d u y
  fs : ∀ y, y ∈ fs ↔ Least ps k u y
theorem Round.start (ps : List (Nat × Nat)) (u : Nat) : Round ps u 0 [(u, 0)] [u] := by
  refine ⟨by simp, fun y d => ?_, fun y => ?_⟩
  · rw [List.mem_singleton, Prod.mk.injEq]
    constructor
    · rintro ⟨rfl, rfl⟩
      exact ⟨Nat.le_refl _, least_zero.mpr rfl⟩
    · rintro ⟨h, l⟩
      have e : d = 0 := by omega
      subst e
      exact ⟨least_zero.mp l, rfl⟩
  · rw [List.mem_singleton, least_zero]
theorem Round.key {ps : List (Nat × Nat)} {u k : Nat} {ds : List (Nat × Nat)} {fs : List Nat} (h : Round ps u k ds fs) {y : Nat} : y ∈ keys ds ↔ Ball ps k u y := by
  rw [ball_least, List.mem_map]
  constructor
  · rintro ⟨⟨a, d⟩, m, rfl⟩
    exact ⟨d, (h.ds a d).mp m⟩
  · rintro ⟨d, m⟩
    exact ⟨(y, d), (h.ds y d).mpr m, rfl⟩
theorem keys_more (ds : List (Nat × Nat)) (new : List Nat) (k : Nat) : keys (ds ++ new.map fun y => (y, k)) = keys ds ++ new := by
  unfold keys
  rw [List.map_append, List.map_map]
  congr 1
  exact (List.map_congr_left fun _ _ => rfl).trans (List.map_id new)
theorem Round.next {ps : List (Nat × Nat)} {u k : Nat} {ds : List (Nat × Nat)} {fs new : List Nat} (h : Round ps u k ds fs) (n : New ds (fs.flatMap (beside ps)) new) : Round ps u (k + 1) (ds ++ new.map fun y => (y, k + 1)) new := by
  have hm : ∀ y, y ∈ new ↔ Least ps (k + 1) u y := fun y => by
    rw [n.mem y, h.key, least_succ, List.mem_flatMap]
    constructor
    · rintro ⟨⟨x, hx, a⟩, b⟩
      exact ⟨b, x, (h.fs x).mp hx, mem_beside.mp a⟩
    · rintro ⟨b, x, l, a⟩
      exact ⟨⟨x, (h.fs x).mpr l, mem_beside.mpr a⟩, b⟩
  refine ⟨?_, fun y d => ?_, hm⟩
  · rw [keys_more]
    exact List.nodup_append.mpr ⟨h.nd, n.nd, fun a ha b hb e => ((n.mem b).mp hb).2 (e ▸ ha)⟩
  · rw [List.mem_append, h.ds y d, List.mem_map]
    constructor
    · rintro (⟨a, b⟩ | ⟨z, hz, e⟩)
      · exact ⟨by omega, b⟩
      · rw [Prod.mk.injEq] at e
        obtain ⟨rfl, rfl⟩ := e
        exact ⟨Nat.le_refl _, (hm z).mp hz⟩
    · rintro ⟨a, b⟩
      by_cases z : d ≤ k
      · exact .inl ⟨z, b⟩
      · have e : d = k + 1 := by omega
        subst e
        exact .inr ⟨y, (hm y).mpr b, rfl⟩
/-- no more keys than vertices, at any place in a round -/
theorem Round.small {g : Graph} (hg : Good g) {u k : Nat} (hu : u < g.vertexCount) {ds : List (Nat × Nat)} {fs : List Nat} (h : Round g.edges u k ds fs) : ds.length ≤ g.vertexCount := by
  rw [← List.length_map (as := ds) Prod.fst]
  refine nodup_lt _ _ h.nd fun x hx => ?_
  obtain ⟨j, _, q⟩ := h.key.mp hx
  exact q.lt hg hu
theorem Round.room {g : Graph} (hg : Good g) {u k : Nat} (hu : u < g.vertexCount) {ds : List (Nat × Nat)} {fs asked new : List Nat} (h : Round g.edges u k ds fs) (n : New ds asked new) (ha : ∀ y ∈ asked, y < g.vertexCount) : ds.length + new.length ≤ g.vertexCount := by
  rw [← List.length_map (as := ds) Prod.fst, ← List.length_append]
  refine nodup_lt _ _ (List.nodup_append.mpr ⟨h.nd, n.nd, fun a ha b hb e => ((n.mem b).mp hb).2 (e ▸ ha)⟩) fun x hx => ?_
  rcases List.mem_append.mp hx with hx | hx
  · obtain ⟨j, _, q⟩ := h.key.mp hx
    exact q.lt hg hu
  · exact ha x ((n.mem x).mp hx).1
theorem Round.lt {g : Graph} (hg : Good g) {u k : Nat} (hu : u < g.vertexCount) {ds : List (Nat × Nat)} {fs : List Nat} (h : Round g.edges u k ds fs) {x : Nat} (hx : x ∈ fs) : x < g.vertexCount := ((h.fs x).mp hx).1.lt hg hu
/-! ### at the end -/
/-- each vertex that can be reached, once, with its distance -/
def Near (ps : List (Nat × Nat)) (u : Nat) (ds : List (Nat × Nat)) : Prop := (keys ds).Nodup ∧ ∀ y d, (y, d) ∈ ds ↔ Least ps d u y
theorem Round.done {ps : List (Nat × Nat)} {u k : Nat} {ds : List (Nat × Nat)} (h : Round ps u k ds []) : Near ps u ds := by
  refine ⟨h.nd, fun y d => ⟨fun m => ((h.ds y d).mp m).2, fun l => (h.ds y d).mpr ⟨?_, l⟩⟩⟩
  cases k with
  | zero => exact absurd ((h.fs u).mpr (least_zero.mpr rfl)) (by simp)
  | succ k =>
    obtain ⟨j, hj, q⟩ := ball_stop (fun z l => absurd ((h.fs z).mpr l) (by simp)) l.1
    exact Nat.le_of_not_lt fun z => l.2 j (by omega) q
theorem Near.key {ps : List (Nat × Nat)} {u : Nat} {ds : List (Nat × Nat)} (h : Near ps u ds) {y : Nat} : y ∈ keys ds ↔ ∃ k, Go ps k u y := by
  rw [List.mem_map]
  constructor
  · rintro ⟨⟨a, d⟩, m, rfl⟩
    exact ⟨d, ((h.2 a d).mp m).1⟩
  · rintro ⟨k, q⟩
    obtain ⟨d, _, l⟩ := q.least
    exact ⟨(y, d), (h.2 y d).mpr l, rfl⟩
theorem Near.len {g : Graph} (hg : Good g) {u : Nat} (hu : u < g.vertexCount) {ds : List (Nat × Nat)} (h : Near g.edges u ds) : ds.length ≤ g.vertexCount := by
  rw [← List.length_map (as := ds) Prod.fst]
  refine nodup_lt _ _ h.1 fun x hx => ?_
  obtain ⟨j, q⟩ := h.key.mp hx
  exact q.lt hg hu
theorem Near.connected {g : Graph} (hg : Good g) (h1 : 1 ≤ g.vertexCount) {ds : List (Nat × Nat)} (h : Near g.edges 0 ds) : Ks578.isConnected g = true ↔ ds.length = g.vertexCount := by
  rw [connected_iff hg h1]
  constructor
  · intro c
    refine Nat.le_antisymm (h.len hg h1) ?_
    have z := List.Nodup.length_le_of_subset (l₁ := List.range g.vertexCount) (l₂ := keys ds) List.nodup_range fun v hv => h.key.mpr (c v (List.mem_range.mp hv))
    rw [List.length_range, List.length_map] at z
    exact z
  · intro e v hv
    refine h.key.mp (Classical.byContradiction fun z => ?_)
    have w := nodup_lt g.vertexCount (v :: keys ds) (List.nodup_cons.mpr ⟨z, h.1⟩) fun x hx => by
      rcases List.mem_cons.mp hx with rfl | hx
      · exact hv
      · obtain ⟨j, q⟩ := h.key.mp hx
        exact q.lt hg h1
    rw [List.length_cons, List.length_map] at w
    omega
theorem Near.lt {g : Graph} (hg : Good g) {u : Nat} (hu : u < g.vertexCount) {ds : List (Nat × Nat)} (h : Near g.edges u ds) {p : Nat × Nat} (hp : p ∈ ds) : p.2 < g.vertexCount := ((h.2 p.1 p.2).mp hp).lt hg hu
theorem Near.cover {g : Graph} (hg : Good g) (hc : Ks578.isConnected g = true) {u : Nat} (hu : u < g.vertexCount) {ds : List (Nat × Nat)} (h : Near g.edges u ds) : Ks579.coverFrom g u = (ds.map fun p => 2 ^ p.2).sum := by
  have hgo := (connected_from hg (show 1 ≤ g.vertexCount by omega) hu).mp hc
  have hp : ((List.range g.vertexCount).map fun y => (y, (distance g y u).getD 0)).Perm ds := by
    refine (List.perm_ext_iff_of_nodup ?_ ?_).mpr ?_
    · refine List.pairwise_map.mpr (List.nodup_range.imp fun z e => z (congrArg Prod.fst e))
    · exact (List.pairwise_map.mp h.1).imp fun z e => z (congrArg Prod.fst e)
    · rintro ⟨y, d⟩
      rw [h.2 y d, List.mem_map]
      constructor
      · rintro ⟨x, hx, e⟩
        rw [Prod.mk.injEq] at e
        obtain ⟨rfl, rfl⟩ := e
        have hx := List.mem_range.mp hx
        obtain ⟨k, q⟩ := hgo x hx
        obtain ⟨d, _, l⟩ := q.least
        rw [(dist_some hg hx).mpr l.symm]
        exact l
      · intro l
        have hy := l.1.lt hg hu
        refine ⟨y, List.mem_range.mpr hy, ?_⟩
        rw [(dist_some hg hy).mpr l.symm]
        rfl
  have z := (hp.map fun p => 2 ^ p.2).sum_nat
  rw [← z, List.map_map]
  rfl
/-! ### the largest -/
theorem foldl_max {l : List Nat} : ∀ {a m : Nat}, (m = a ∨ m ∈ l) → a ≤ m → (∀ y ∈ l, y ≤ m) → l.foldl max a = m := by
  induction l with
  | nil =>
    intro a m h _ _
    rcases h with h | h
    · exact h.symm
    · cases h
  | cons x r ih =>
    intro a m h ha hy
    rw [List.foldl_cons]
    have hx := hy x (List.mem_cons_self ..)
    refine ih ?_ (Nat.max_le.mpr ⟨ha, hx⟩) fun y h => hy y (List.mem_cons_of_mem _ h)
    rcases h with h | h
    · subst h
      exact .inl (Nat.max_eq_left hx).symm
    · rcases List.mem_cons.mp h with h | h
      · subst h
        exact .inl (Nat.max_eq_right ha).symm
      · exact .inr h
theorem cover_largest {g : Graph} {m : Nat} (h1 : m ∈ (List.range g.vertexCount).map (Ks579.coverFrom g)) (h2 : ∀ y ∈ (List.range g.vertexCount).map (Ks579.coverFrom g), y ≤ m) : Ks579.coverNumber g = m := by
  rw [cover_max (Ks579.coverFrom g) fun _ _ => rfl]
  exact foldl_max (.inr h1) (Nat.zero_le _) h2
end SW

namespace SW
open PySem PySem.Spec PyProof.Rows L2
/-! ### a dict that is made within the expression that walks it: it is locked for good -/
def tNewLock (t : TE) : TE := fun σ H Q => t σ H fun x H1 => ∃ d kvs, x = .ref d ∧ H1 d = some (.dK kvs) ∧ ∀ od, Q x (upd H1 d (.frz od (.dK kvs)))
theorem pe_newLock {X : Cx} {e : Expr} {t : TE} (h : PE X e t) : PE X e (tNewLock t) := by
  refine ⟨fun pins s σ H Q I hw => ?_⟩
  refine thn (h.run pins s σ H _ I hw) fun v s1 ⟨x, H1, I1, r, d, kvs, ex, hd, q⟩ => ?_
  obtain ⟨od, I2⟩ := I1.lock hd True.intro
  exact ⟨x, _, I2, r, q od⟩
end SW

namespace SW
open PySem PySem.Spec PyProof.Rows L2
/-! ### the dict of distances -/
def kvD (ds : List (Nat × Nat)) : List (Key × V) := ds.map fun p => ((Sum.inl (p.1 : Int) : Key), nv p.2)
theorem kvD_len (ds : List (Nat × Nat)) : (kvD ds).length = ds.length := List.length_map ..
theorem kvD_snoc (ds : List (Nat × Nat)) (y d : Nat) : kvD ds ++ [((Sum.inl (y : Int) : Key), nv d)] = kvD (ds ++ [(y, d)]) := by
  unfold kvD
  rw [List.map_append]
  rfl
theorem inl_ne {x y : Nat} (h : x ≠ y) : ¬ (Sum.inl (x : Int) : Key) = Sum.inl (y : Int) := fun z => h (by have := Sum.inl.inj z; omega)
theorem kvD_in {y d : Nat} : ∀ {ds : List (Nat × Nat)}, (keys ds).Nodup → (y, d) ∈ ds → valV (kvD ds) (Sum.inl (y : Int)) = some (nv d)
  | [], _, h => absurd h (by simp)
  | (x, e) :: r, hn, h => by
    show valV ((Sum.inl (x : Int), nv e) :: kvD r) (Sum.inl (y : Int)) = _
    have hn2 : (x :: keys r).Nodup := hn
    by_cases z : x = y
    · subst z
      rw [valV_pos (p := ((Sum.inl (x : Int) : Key), nv e)) rfl]
      rcases List.mem_cons.mp h with q | q
      · rw [(Prod.mk.inj q).2]
      · exact absurd (List.mem_map.mpr ⟨_, q, rfl⟩) (List.nodup_cons.mp hn2).1
    · rw [valV_neg (p := ((Sum.inl (x : Int) : Key), nv e)) (inl_ne z)]
      rcases List.mem_cons.mp h with q | q
      · exact absurd (Prod.mk.inj q).1.symm z
      · exact kvD_in (List.nodup_cons.mp hn2).2 q
theorem kvD_out {y : Nat} : ∀ {ds : List (Nat × Nat)}, y ∉ keys ds → valV (kvD ds) (Sum.inl (y : Int)) = none
  | [], _ => rfl
  | (x, e) :: r, h => by
    show valV ((Sum.inl (x : Int), nv e) :: kvD r) (Sum.inl (y : Int)) = _
    have h2 : ¬ (y = x ∨ y ∈ keys r) := fun z => h (List.mem_cons.mpr z)
    rw [valV_neg (p := ((Sum.inl (x : Int) : Key), nv e)) (inl_ne fun z => h2 (.inl z.symm))]
    exact kvD_out fun z => h2 (.inr z)
theorem kvD_some {y : Nat} {ds : List (Nat × Nat)} (hn : (keys ds).Nodup) (h : y ∈ keys ds) : ∃ d, valV (kvD ds) (Sum.inl (y : Int)) = some (nv d) := by
  obtain ⟨⟨a, d⟩, m, rfl⟩ := List.mem_map.mp h
  exact ⟨d, kvD_in hn m⟩
theorem kvD_get {ds : List (Nat × Nat)} {i : Nat} {k : Key} {x : V} (h : (kvD ds)[i]? = some (k, x)) : ∃ p, ds[i]? = some p ∧ x = nv p.2 := by
  unfold kvD at h
  rw [List.getElem?_map] at h
  cases e : ds[i]? with
  | none => rw [e] at h; cases h
  | some p =>
    rw [e] at h
    exact ⟨p, rfl, (Prod.mk.inj (Option.some.inj h)).2.symm⟩
theorem iv_at {c : List Nat} {i : Nat} {x : V} (h : (iv c)[i]? = some x) : ∃ n, c[i]? = some n ∧ x = nv n := by
  unfold iv at h
  rw [List.getElem?_map] at h
  cases e : c[i]? with
  | none => rw [e] at h; cases h
  | some p =>
    rw [e] at h
    exact ⟨p, rfl, (Option.some.inj h).symm⟩
section
variable {P : Program} {w : World} {K : PySem.W.Frag} {mg : Str → Option Value} {base : Heap}
/-! ### vertices_beside -/
def spBeside : Sp := fun vs H Q _ => ∃ (x : Nat) (a : Addr) (ps : List (Nat × Nat)), vs = [nv x, .ref a] ∧ PairsAt H a ps ∧ ps.length ≤ 11 ∧
  ∀ H' p, Same H H' → H p = none → H' p = some (.lst (iv (beside ps x))) → Q (.ref p) H'
theorem ok_beside (T : Txt K mg) {k : Nat} : FnOk P w K mg base CX0 (k + 1) T.f_vertices_beside T.d_vertices_beside ["vertex", "pairs"] spBeside := by
  refine T.F_vertices_beside.ok sc_vertices_beside (fun vs H Q E h => ?_) (fun cdv A outer s H vs Q E hr h => ?_)
  · obtain ⟨x, a, ps, rfl, _⟩ := h
    rfl
  · obtain ⟨x, a, ps, rfl, ⟨as, ha, hta⟩, h11, q⟩ := h
    refine ⟨_, pss_cons (ps_set (i := 2) sc_vertices_beside.nd rfl (.inl rfl) (pe_lst pa_nil))
      (pss_cons (ps_for PassesOwn.never rfl (pi_list (pv 1)) (pg_tup rfl (pgs_cons (pg_name (i := 3) sc_vertices_beside.nd rfl (.inl rfl)) (pgs_cons (pg_name (i := 4) sc_vertices_beside.nd rfl (.inl rfl)) pgs_nil)))
        (pss_cons (ps_if (pt_cmpR op_eq (pv 3) (pv 0) (nomark _))
            (pss_one (ps_expr (pe_bm PySem.F.plainAttrs_list PySem.F.slot_list_append PySem.F.type_list_append mt_append (pv 2) (pa_cons (pv 4) pa_nil)))) pss_nil)
        (pss_one (ps_if (pt_cmpR op_eq (pv 4) (pv 0) (nomark _))
            (pss_one (ps_expr (pe_bm PySem.F.plainAttrs_list PySem.F.slot_list_append PySem.F.type_list_append mt_append (pv 2) (pa_cons (pv 3) pa_nil)))) pss_nil))))
      (pss_one (ps_ret (pv 2)))), ?_⟩
    -- beside = []
    refine ⟨Nat.zero_le _, fun r nr => ?_⟩
    have ls : as.length = ps.length := by rw [hta.len]; exact List.length_map ..
    refine ⟨.ref a, rfl, a, rfl, ⟨_, (same_upd nr).seq (.inl (.inl ha))⟩, for_it (walk_list (xs := as.map V.ref)) (fun i σ H' => ∃ y3 y4, σ = [some (nv x), some (.ref a), some (.ref r), y3, y4] ∧ Same H H' ∧ H' r = some (.lst (iv (beside (ps.take i) x))))
      ⟨none, none, rfl, same_upd nr, upd_same⟩ (fun i σ H' _ ⟨_, _, _, s1, _⟩ => s1.seq (.inl (.inl ha))) ?_ ?_⟩
    · rintro i v σ H1 H2 hi ⟨y3, y4, rfl, s1, hR⟩ ⟨rfl, hx⟩
      obtain ⟨t, et, rfl⟩ := ref_get hx
      obtain ⟨cc, ec, hT⟩ := hta.get et
      obtain ⟨p, ep, rfl⟩ := edge_get ec
      have hz : (beside (ps.take i) x).length ≤ 22 := by
        refine Nat.le_trans (beside_len x _) ?_
        rw [List.length_take]
        omega
      -- one end, then the other
      refine ⟨t, iv [p.1, p.2], rfl, .inl (.inl (s1 _ _ hT)), rfl, nv p.1, [nv p.2], rfl, nv p.2, [], rfl, rfl, ?_⟩
      refine ⟨nv p.1, rfl, nv x, rfl, rfl, _, rfl, ite2 (fun e => ?_) (fun e => ?_)⟩
      · have g1 : p.1 = x := by
          have z := V.int.inj (of_decide_eq_true e)
          omega
        refine ⟨.ref r, rfl, .inl ⟨rfl, _, .inl (.inl hR)⟩, nv p.2, rfl, r, _, nv p.2, rfl, rfl, hR, by rw [iv_len]; exact small1000 (by omega), ?_⟩
        rw [iv_snoc]
        have s2 : Same H (upd H2 r (.lst (iv (beside (ps.take i) x ++ [p.2])))) := same_put s1 nr
        refine ⟨nv p.2, rfl, nv x, rfl, rfl, _, rfl, ite2 (fun e2 => ?_) (fun e2 => ?_)⟩
        · have g2 : p.2 = x := by
            have z := V.int.inj (of_decide_eq_true e2)
            omega
          refine ⟨.ref r, rfl, .inl ⟨rfl, _, .inl (.inl upd_same)⟩, nv p.1, rfl, r, _, nv p.1, rfl, rfl, upd_same, by rw [iv_len, List.length_append]; exact small1000 (by simp; omega), ?_⟩
          rw [iv_snoc, upd_upd]
          refine ⟨some (nv p.1), some (nv p.2), rfl, same_put s1 nr, ?_⟩
          rw [upd_same, take_snoc ep, beside_snoc, if_pos g1, if_pos g2]
        · have g2 : ¬ p.2 = x := fun z => e2 (decide_eq_true (congrArg nv z))
          refine ⟨some (nv p.1), some (nv p.2), rfl, s2, ?_⟩
          rw [upd_same, take_snoc ep, beside_snoc, if_pos g1, if_neg g2, List.append_nil]
      · have g1 : ¬ p.1 = x := fun z => e (decide_eq_true (congrArg nv z))
        refine ⟨nv p.2, rfl, nv x, rfl, rfl, _, rfl, ite2 (fun e2 => ?_) (fun e2 => ?_)⟩
        · have g2 : p.2 = x := by
            have z := V.int.inj (of_decide_eq_true e2)
            omega
          refine ⟨.ref r, rfl, .inl ⟨rfl, _, .inl (.inl hR)⟩, nv p.1, rfl, r, _, nv p.1, rfl, rfl, hR, by rw [iv_len]; exact small1000 (by omega), ?_⟩
          rw [iv_snoc]
          refine ⟨some (nv p.1), some (nv p.2), rfl, same_put s1 nr, ?_⟩
          rw [upd_same, take_snoc ep, beside_snoc, if_neg g1, if_pos g2, List.append_nil]
        · have g2 : ¬ p.2 = x := fun z => e2 (decide_eq_true (congrArg nv z))
          refine ⟨some (nv p.1), some (nv p.2), rfl, s1, ?_⟩
          rw [hR, take_snoc ep, beside_snoc, if_neg g1, if_neg g2, List.append_nil, List.append_nil]
    · rintro σ H1 ⟨y3, y4, rfl, s1, hR⟩
      rw [List.length_map, ls, List.take_length] at hR
      exact ⟨.ref r, rfl, q H1 r s1 nr hR⟩
/-! ### distances_from -/
def spDistances : Sp := fun vs H Q _ => ∃ (n u : Nat) (a : Addr) (ps : List (Nat × Nat)), vs = [nv u, .ref a] ∧ PairsAt H a ps ∧ Good ⟨n, ps⟩ ∧ u < n ∧ n ≤ 5 ∧ ps.length ≤ 11 ∧
  ∀ H' p ds, Same H H' → H p = none → H' p = some (.dK (kvD ds)) → Near ps u ds → Q (.ref p) H'
theorem ok_distances (T : Txt K mg) {k : Nat} : FnOk P w K mg base CX0 (k + 2) T.f_distances_from T.d_distances_from ["vertex", "pairs"] spDistances := by
  have GB : FnOk P w K mg base CX0 (k + 1) T.f_vertices_beside T.d_vertices_beside ["vertex", "pairs"] spBeside := ok_beside T
  refine T.F_distances_from.ok sc_distances_from (fun vs H Q E h => ?_) (fun cdv A outer s H vs Q E hr h => ?_)
  · obtain ⟨n, u, a, ps, rfl, _⟩ := h
    rfl
  · obtain ⟨n, u, a, ps, rfl, hA, hg, hu, h5, h11, q⟩ := h
    refine ⟨_, pss_cons (ps_set (i := 2) sc_distances_from.nd rfl (.inl rfl) (pe_disp (pps_cons (pv 0) pe_int pps_nil) rfl rfl (by intro z; cases z) (by decide)))
      (pss_cons (ps_set (i := 3) sc_distances_from.nd rfl (.inl rfl) (pe_lst (pa_cons (pv 0) pa_nil)))
      (pss_cons (ps_while PassesOwn.never (pt_cmpR op_gt (pe_callB call_len_seq (by rfl) T.m_len PySem.boot_len (pa_cons (pv 3) pa_nil)) pe_int (nomark _))
        (pss_cons (ps_set (i := 4) sc_distances_from.nd rfl (.inl rfl) (pe_lst pa_nil))
        (pss_cons (ps_for PassesOwn.never rfl (pi_list (pv 3)) (pg_name (i := 5) sc_distances_from.nd rfl (.inl rfl))
          (pss_one (ps_for PassesOwn.never rfl (pi_list (pe_call GB hr (by rfl) T.g_vertices_beside T.F_vertices_beside.kp T.b_vertices_beside .nil pass0 (pa_cons (pv 5) (pa_cons (pv 1) pa_nil)))) (pg_name (i := 6) sc_distances_from.nd rfl (.inl rfl))
            (pss_one (ps_if (pt_cmp (pc_dnotin (hu_of hr) (pv 6) (pv 2)))
              (pss_cons (ps_dput (hu_of hr) (pv 2) (pv 6) (pe_op op_add (pe_dget (hu_of hr) (pv 2) (pv 5) (fun _ _ => rfl)) pe_int) rfl)
              (pss_one (ps_expr (pe_bm PySem.F.plainAttrs_list PySem.F.slot_list_append PySem.F.type_list_append mt_append (pv 4) (pa_cons (pv 6) pa_nil))))) pss_nil)))))
        (pss_one (ps_set (i := 3) sc_distances_from.nd rfl (.inl rfl) (pv 4))))))
      (pss_one (ps_ret (pv 2))))), ?_⟩
    -- distances = {vertex: 0}
    intro d nd
    refine ⟨nv u, rfl, upd_same, [(Sum.inl (u : Int), nv 0)], rfl, by show 1 ≤ 15; decide, ?_⟩
    rw [upd_upd]
    have s1 : Same H (upd H d (.dK (kvD [(u, 0)]))) := same_upd nd
    -- farthest = [vertex]
    refine ⟨nv u, rfl, by show 1 ≤ sizeLine; decide, fun f nf => ?_⟩
    have s2 : Same H (upd (upd H d (.dK (kvD [(u, 0)]))) f (.lst (iv [u]))) := s1.trans (same_upd nf)
    have ndf : d ≠ f := fun z => by rw [← z, upd_same] at nf; cases nf
    -- while len(farthest) > 0
    refine ⟨fun m σ H' => ∃ (r : Nat) (ds : List (Nat × Nat)) (fs : List Nat) (f : Addr) (y4 y5 y6 : Option V), σ = [some (nv u), some (.ref a), some (.ref d), some (.ref f), y4, y5, y6] ∧ Same H H' ∧ H' d = some (.dK (kvD ds)) ∧ H' f = some (.lst (iv fs)) ∧ Round ps u r ds fs ∧ m = n - ds.length + fs.length,
      ⟨_, 0, [(u, 0)], [u], f, none, none, none, rfl, s2, by rw [upd_ne ndf, upd_same]; rfl, upd_same, Round.start ps u, rfl⟩, ?_⟩
    rintro m σ H1 ⟨r, ds, fs, f, y4, y5, y6, rfl, q1, hd, hf, hR, rfl⟩
    have hds : ds.length ≤ n := hR.small (g := ⟨n, ps⟩) hg hu
    refine ⟨.ref f, rfl, f, _, rfl, .inl (.inl (.inl hf)), _, 0, rfl, rfl, _, rfl, ite2 (fun e => ?_) (fun e => ?_)⟩
    · have hpos : 0 < fs.length := by
        have z := of_decide_eq_true e
        rw [iv_len] at z
        omega
      refine ⟨fun σ' H' => ∃ m', m' < n - ds.length + fs.length ∧ ∃ (r : Nat) (ds : List (Nat × Nat)) (fs : List Nat) (f : Addr) (y4 y5 y6 : Option V), σ' = [some (nv u), some (.ref a), some (.ref d), some (.ref f), y4, y5, y6] ∧ Same H H' ∧ H' d = some (.dK (kvD ds)) ∧ H' f = some (.lst (iv fs)) ∧ Round ps u r ds fs ∧ m' = n - ds.length + fs.length, fun σ' H' hN => hN, ?_⟩
      -- farther = []
      refine ⟨Nat.zero_le _, fun g ng => ?_⟩
      have ng0 : H g = none := q1.free ng
      have gf : g ≠ f := fun z => by rw [z, hf] at ng; cases ng
      have gd : g ≠ d := fun z => by rw [z, hd] at ng; cases ng
      have df : d ≠ f := ne_of hd hf (fun z => nomatch z)
      have aske : ∀ {i : Nat} {y : Nat}, y ∈ (fs.take i).flatMap (beside ps) → y < n := fun {i y} hy => by
        obtain ⟨x, _, hx⟩ := List.mem_flatMap.mp hy
        exact ((mem_beside.mp hx).lt (g := ⟨n, ps⟩) hg).2
      have askb : ∀ {x j y : Nat}, y ∈ (beside ps x).take j → y < n := fun {x j y} hy => ((mem_beside.mp (List.mem_of_mem_take hy)).lt (g := ⟨n, ps⟩) hg).2
      refine ⟨.ref f, rfl, f, rfl, ⟨_, .inl (.inl (by rw [upd_ne (Ne.symm gf)]; exact hf))⟩, for_it (walk_list (xs := iv fs)) (fun i σ H' => ∃ (new : List Nat) (y5 y6 : Option V), σ = [some (nv u), some (.ref a), some (.ref d), some (.ref f), some (.ref g), y5, y6] ∧ Same H H' ∧ H' f = some (.lst (iv fs)) ∧
          H' d = some (.dK (kvD (ds ++ new.map fun y => (y, r + 1)))) ∧ H' g = some (.lst (iv new)) ∧ New ds ((fs.take i).flatMap (beside ps)) new)
        ⟨[], y5, y6, rfl, same_put q1 ng0, by rw [upd_ne (Ne.symm gf)]; exact hf, by rw [upd_ne (Ne.symm gd), List.map_nil, List.append_nil]; exact hd, upd_same, New.start ds⟩ (fun i σ H' _ ⟨_, _, _, _, _, h, _⟩ => .inl (.inl h)) ?_ ?_⟩
      · -- for here in farthest
        rintro i v σ H2 H3 hi ⟨new, y5, y6, rfl, q2, hf2, hd2, hg2, hN⟩ ⟨rfl, hv⟩
        obtain ⟨x, ex, rfl⟩ := iv_at hv
        have hxr : Least ps r u x := (hR.fs x).mp (List.mem_of_getElem? ex)
        have hxd : (x, r) ∈ ds := (hR.ds x r).mpr ⟨Nat.le_refl _, hxr⟩
        -- for there in vertices_beside(here, pairs)
        refine ⟨nv x, rfl, .ref a, rfl, x, a, ps, rfl, hA.same q2, h11, fun H4 p s4 np hp => ?_⟩
        have pf : p ≠ f := fun z => by rw [z, hf2] at np; cases np
        have pd : p ≠ d := fun z => by rw [z, hd2] at np; cases np
        have pg : p ≠ g := fun z => by rw [z, hg2] at np; cases np
        refine ⟨p, rfl, ⟨_, .inl (.inl hp)⟩, for_it (walk_list (xs := iv (beside ps x))) (fun j σ H' => ∃ (new : List Nat) (y6 : Option V), σ = [some (nv u), some (.ref a), some (.ref d), some (.ref f), some (.ref g), some (nv x), y6] ∧ Same H H' ∧ H' f = some (.lst (iv fs)) ∧
            H' d = some (.dK (kvD (ds ++ new.map fun y => (y, r + 1)))) ∧ H' g = some (.lst (iv new)) ∧ H' p = some (.lst (iv (beside ps x))) ∧ New ds ((fs.take i).flatMap (beside ps) ++ (beside ps x).take j) new)
          ⟨new, y6, rfl, q2.trans s4, s4 _ _ hf2, s4 _ _ hd2, s4 _ _ hg2, hp, by rw [List.take_zero, List.append_nil]; exact hN⟩ (fun j σ H' _ ⟨_, _, _, _, _, _, _, h, _⟩ => .inl (.inl h)) ?_ ?_⟩
        · rintro j v σ H5 H6 hj ⟨new, y6, rfl, q5, hf5, hd5, hg5, hp5, hN5⟩ ⟨rfl, hv⟩
          obtain ⟨y, ey, rfl⟩ := iv_at hv
          have hnk : (keys (ds ++ new.map fun y => (y, r + 1))).Nodup := by
            rw [keys_more]
            exact List.nodup_append.mpr ⟨hR.nd, hN5.nd, fun a ha b hb e => ((hN5.mem b).mp hb).2 (e ▸ ha)⟩
          have hroom : ds.length + new.length ≤ n := hR.room (g := ⟨n, ps⟩) hg hu hN5 fun z hz => by
            rcases List.mem_append.mp hz with hz | hz
            · exact aske hz
            · exact askb hz
          -- if there not in distances
          refine ⟨nv y, rfl, .ref d, rfl, d, _, rfl, DGet.k (k := Sum.inl (y : Int)) hd5, _, rfl, ?_⟩
          by_cases hin : y ∈ keys (ds ++ new.map fun y => (y, r + 1))
          · obtain ⟨c, hc⟩ := kvD_some hnk hin
            rw [hc]
            refine iteF ⟨new, some (nv y), rfl, q5, hf5, hd5, hg5, hp5, ?_⟩
            rw [take_snoc ey, ← List.append_assoc]
            rw [keys_more] at hin
            exact hN5.skip (List.mem_append.mp hin)
          · rw [kvD_out hin]
            refine iteT ?_
            have hxk : valV (kvD (ds ++ new.map fun y => (y, r + 1))) (Sum.inl (x : Int)) = some (nv r) := kvD_in hnk (List.mem_append.mpr (.inl hxd))
            have hxg : DGet H6 d (nv x) (some (nv r)) := by
              rw [← hxk]
              exact DGet.k (k := Sum.inl (x : Int)) hd5
            -- distances[there] = distances[here] + 1
            refine ⟨.ref d, rfl, nv x, rfl, d, nv r, rfl, hxg, (r : Int), 1, rfl, rfl, .ref d, rfl, nv y, rfl, d, _, rfl, DPut.k (k := Sum.inl (y : Int)) hd5 (by rw [kvD_len, List.length_append, List.length_map]; exact small1000 (by omega)), ?_⟩
            rw [putK_new _ (kvD_out hin)]
            have ek : kvD (ds ++ new.map fun y => (y, r + 1)) ++ [((Sum.inl (y : Int) : Key), V.int ((r : Int) + 1))] = kvD (ds ++ (new ++ [y]).map fun y => (y, r + 1)) := by
              rw [List.map_append, ← List.append_assoc]
              exact kvD_snoc _ y (r + 1)
            rw [ek]
            -- farther.append(there)
            have hg6 : upd H6 d (.dK (kvD (ds ++ (new ++ [y]).map fun y => (y, r + 1)))) g = some (.lst (iv new)) := by rw [upd_ne gd]; exact hg5
            refine ⟨.ref g, rfl, .inl ⟨rfl, _, .inl (.inl hg6)⟩, nv y, rfl, g, _, nv y, rfl, rfl, hg6, by rw [iv_len]; exact small1000 (by omega), ?_⟩
            rw [iv_snoc]
            refine ⟨new ++ [y], some (nv y), rfl, same_put (same_put q5 nd) ng0, ?_, ?_, upd_same, ?_, ?_⟩
            · rw [upd_ne (Ne.symm gf), upd_ne (Ne.symm df)]
              exact hf5
            · rw [upd_ne (Ne.symm gd), upd_same]
            · rw [upd_ne pg, upd_ne pd]
              exact hp5
            · rw [keys_more] at hin
              rw [take_snoc ey, ← List.append_assoc]
              exact hN5.more (fun z => hin (List.mem_append.mpr (.inl z))) (fun z => hin (List.mem_append.mpr (.inr z)))
        · rintro σ H5 ⟨new, y6, rfl, q5, hf5, hd5, hg5, hp5, hN5⟩
          refine ⟨new, some (nv x), y6, rfl, q5, hf5, hd5, hg5, ?_⟩
          rw [iv_len, List.take_length] at hN5
          rw [take_snoc ex, List.flatMap_append, List.flatMap_singleton]
          exact hN5
      · -- farthest = farther
        rintro σ H2 ⟨new, y5, y6, rfl, q2, hf2, hd2, hg2, hN⟩
        rw [iv_len, List.take_length] at hN
        have hroom : ds.length + new.length ≤ n := hR.room (g := ⟨n, ps⟩) hg hu hN fun z hz => aske (i := fs.length) (by rw [List.take_length]; exact hz)
        refine ⟨.ref g, rfl, n - (ds ++ new.map fun y => (y, r + 1)).length + new.length, ?_, r + 1, _, new, g, some (.ref g), y5, y6, rfl, q2, hd2, hg2, hR.next hN, rfl⟩
        rw [List.length_append, List.length_map]
        omega
    · have h0 : fs = [] := by
        cases fs with
        | nil => rfl
        | cons z r =>
          refine absurd (decide_eq_true ?_) e
          rw [iv_len, List.length_cons]
          omega
      subst h0
      -- return distances
      exact ⟨.ref d, rfl, q H1 d ds q1 nd hd hR.done⟩
/-! ### is_connected -/
def spConn : Sp := fun vs H Q _ => ∃ (n : Nat) (a : Addr) (ps : List (Nat × Nat)), vs = [nv n, .ref a] ∧ PairsAt H a ps ∧ Good ⟨n, ps⟩ ∧ 1 ≤ n ∧ n ≤ 5 ∧ ps.length ≤ 11 ∧ ∀ H', Same H H' → Q (.bl (Ks578.isConnected ⟨n, ps⟩)) H'
theorem ok_conn (T : Txt K mg) {k : Nat} : FnOk P w K mg base CX0 (k + 3) T.f_is_connected T.d_is_connected ["vertex_count", "pairs"] spConn := by
  have GD : FnOk P w K mg base CX0 (k + 2) T.f_distances_from T.d_distances_from ["vertex", "pairs"] spDistances := ok_distances T
  refine T.F_is_connected.ok sc_is_connected (fun vs H Q E h => ?_) (fun cdv A outer s H vs Q E hr h => ?_)
  · obtain ⟨n, a, ps, rfl, _⟩ := h
    rfl
  · obtain ⟨n, a, ps, rfl, hA, hg, h1, h5, h11, q⟩ := h
    refine ⟨_, pss_one (ps_ret (pe_cmpR op_eq (pe_callB call_lenD (by rfl) T.m_len PySem.boot_len (pa_cons (pe_call GD hr (by rfl) T.g_distances_from T.F_distances_from.kp T.b_distances_from .nil pass0 (pa_cons pe_int (pa_cons (pv 1) pa_nil))) pa_nil)) (pv 0) (nomark _))), ?_⟩
    refine ⟨.ref a, rfl, n, 0, a, ps, rfl, hA, hg, h1, h5, h11, fun H1 p ds s1 np hp hN => ⟨p, _, rfl, hp, nv n, rfl, rfl, ?_⟩⟩
    have z := q H1 s1
    have e : Ks578.isConnected ⟨n, ps⟩ = decide (V.int ((kvD ds).length : Int) = nv n) := by
      rw [Bool.eq_iff_iff, hN.connected (g := ⟨n, ps⟩) hg h1, decide_eq_true_iff, kvD_len]
      constructor
      · intro y
        exact congrArg nv y
      · intro y
        have w := V.int.inj y
        show ds.length = n
        omega
    rw [e] at z
    exact z
/-! ### cover_number_from -/
def spCover : Sp := fun vs H Q _ => ∃ (n u : Nat) (a : Addr) (ps : List (Nat × Nat)), vs = [nv u, .ref a] ∧ PairsAt H a ps ∧ Good ⟨n, ps⟩ ∧ u < n ∧ n ≤ 5 ∧ ps.length ≤ 11 ∧ Ks578.isConnected ⟨n, ps⟩ = true ∧ ∀ H', Same H H' → Q (nv (Ks579.coverFrom ⟨n, ps⟩ u)) H'
theorem ok_cover (T : Txt K mg) {k : Nat} : FnOk P w K mg base CX0 (k + 3) T.f_cover_number_from T.d_cover_number_from ["vertex", "pairs"] spCover := by
  have GD : FnOk P w K mg base CX0 (k + 2) T.f_distances_from T.d_distances_from ["vertex", "pairs"] spDistances := ok_distances T
  refine T.F_cover_number_from.ok sc_cover_number_from (fun vs H Q E h => ?_) (fun cdv A outer s H vs Q E hr h => ?_)
  · obtain ⟨n, u, a, ps, rfl, _⟩ := h
    rfl
  · obtain ⟨n, u, a, ps, rfl, hA, hg, hu, h5, h11, hc, q⟩ := h
    refine ⟨_, pss_one (ps_ret (pe_callB (r := rSum K) (by exact cr_sum rfl) (by rfl) T.m_sum (by decide +kernel) (pa_cons
      (pe_lc (own := [("distance", 2)]) (g := gName 2) (tt := tYes) rfl sc_cover_number_from.nd (pi_values (pe_newLock (pe_call GD hr (by rfl) T.g_distances_from T.F_distances_from.kp T.b_distances_from .nil pass0 (pa_cons (pv 0) (pa_cons (pv 1) pa_nil)))))
        (blkOk_by (N := ["vertex", "pairs", "distance"]) (sc := defScope s_cover_number_from) (by decide +kernel)) (fun _ _ _ _ _ => pg_name (i := 2) sc_cover_number_from.nd rfl (Or.inl rfl)) (fun _ _ _ _ _ => pts_nil)
        (fun _ _ _ _ _ => pe_op op_oneShl pe_int (pv 2))) pa_nil))), ?_⟩
    -- distances_from(vertex, pairs).values()
    refine ⟨nv u, rfl, .ref a, rfl, n, u, a, ps, rfl, hA, hg, hu, h5, h11, fun H1 d ds s1 nd hd hN => ⟨d, kvD ds, rfl, hd, fun od => ⟨d, od, kvD ds, rfl, upd_same, fun D nD => ?_⟩⟩⟩
    have s2 : Same H (upd H1 d (.frz od (.dK (kvD ds)))) := same_put s1 nd
    have nDH : H D = none := s2.free nD
    have dD : d ≠ D := fun z => by rw [← z, upd_same] at nD; cases nD
    refine lc_it walk_values (fun i H' => H' d = some (.frz od (.dK (kvD ds))) ∧ Same H H' ∧ H' D = some (.lst (iv ((ds.take i).map fun p => 2 ^ p.2)))) ⟨by rw [upd_ne dD, upd_same], same_put s2 nDH, upd_same⟩ (fun i H' _ h => h.1) ?_ ?_
    · rintro i x H2 H3 hi ⟨hd2, q2, hD⟩ ⟨rfl, kk, hk⟩
      obtain ⟨p, ep, rfl⟩ := kvD_get hk
      have hp2 : p.2 < n := hN.lt (g := ⟨n, ps⟩) hg hu (List.mem_of_getElem? ep)
      refine ⟨rfl, ?_⟩
      refine ⟨nv p.2, rfl, p.2, rfl, rfl, by omega, _, hD, ?_, ?_, same_put q2 nDH, ?_⟩
      · rw [iv_len, List.length_map, List.length_take]
        have := hN.len (g := ⟨n, ps⟩) hg hu
        simp only at this
        exact small1000 (by omega)
      · rw [upd_ne dD]
        exact hd2
      · have e : V.int ((2 : Int) ^ p.2) = nv (2 ^ p.2) := congrArg V.int (by rw [Int.natCast_pow]; rfl)
        rw [upd_same, take_snoc ep, List.map_append, e, iv_snoc]
        rfl
    · rintro H2 ⟨hd2, q2, hD⟩
      rw [kvD_len, List.take_length] at hD
      -- sum
      refine ⟨D, (ds.map fun p => 2 ^ p.2).map fun (n : Nat) => (n : Int), rfl, by rw [← iv_ints]; exact .inl (.inl hD), ?_⟩
      rw [sum_cast, ← hN.cover (g := ⟨n, ps⟩) hg hc hu]
      exact q H2 q2
end
end SW

namespace SW
open PySem PySem.Spec PyProof.Rows L2
/-! ### what is due -/
theorem due5_wrong {n v : Nat} {l : List Nat} (h : gfits n l = false) : PyKs579.cover_from (n : Int) (v : Int) (toZ l) = [-22] := by
  show Ks579Neutral.integers (Ks579.answer (.coverFrom ((n : Int).toNat) ((v : Int).toNat) ((toZ l).map Int.toNat))) = [-22]
  rw [toZ_nat, Int.toNat_natCast, Int.toNat_natCast]
  show Ks579Neutral.integers (match Ks577.parseGraph n l with | none => Ks577.number (-22) | some g => _) = [-22]
  rw [graph_eq, if_neg (by rw [h]; decide)]
  rfl
theorem due5_right {n v : Nat} {l : List Nat} (h : gfits n l = true) : PyKs579.cover_from (n : Int) (v : Int) (toZ l) =
    [if Ks578.isConnected ⟨n, pairsOf l⟩ = false then -33 else if n ≤ v then -2 else (Ks579.coverFrom ⟨n, pairsOf l⟩ v : Int)] := by
  show Ks579Neutral.integers (Ks579.answer (.coverFrom ((n : Int).toNat) ((v : Int).toNat) ((toZ l).map Int.toNat))) = _
  rw [toZ_nat, Int.toNat_natCast, Int.toNat_natCast]
  show Ks579Neutral.integers (match Ks577.parseGraph n l with
    | none => Ks577.number (-22)
    | some g => (if Ks578.isConnected g = false then Ks579.number (-33) else if n ≤ v then Ks579.number (-2) else Ks579.number (Ks579.coverFrom g v))) = _
  rw [graph_eq, if_pos h]
  show Ks579Neutral.integers (if Ks578.isConnected ⟨n, pairsOf l⟩ = false then Ks579.number (-33) else if n ≤ v then Ks579.number (-2) else Ks579.number (Ks579.coverFrom ⟨n, pairsOf l⟩ v)) = _
  split
  · rfl
  · split <;> rfl
theorem due6_wrong {n : Nat} {l : List Nat} (h : gfits n l = false) : PyKs579.cover_number (n : Int) (toZ l) = [-22] := by
  show Ks579Neutral.integers (Ks579.answer (.coverNumber ((n : Int).toNat) ((toZ l).map Int.toNat))) = [-22]
  rw [toZ_nat, Int.toNat_natCast]
  show Ks579Neutral.integers (match Ks577.parseGraph n l with | none => Ks577.number (-22) | some g => _) = [-22]
  rw [graph_eq, if_neg (by rw [h]; decide)]
  rfl
theorem due6_right {n : Nat} {l : List Nat} (h : gfits n l = true) : PyKs579.cover_number (n : Int) (toZ l) =
    [if Ks578.isConnected ⟨n, pairsOf l⟩ = false then -33 else (Ks579.coverNumber ⟨n, pairsOf l⟩ : Int)] := by
  show Ks579Neutral.integers (Ks579.answer (.coverNumber ((n : Int).toNat) ((toZ l).map Int.toNat))) = _
  rw [toZ_nat, Int.toNat_natCast]
  show Ks579Neutral.integers (match Ks577.parseGraph n l with
    | none => Ks577.number (-22)
    | some g => (if Ks578.isConnected g = false then Ks579.number (-33) else Ks579.number (Ks579.coverNumber g))) = _
  rw [graph_eq, if_pos h]
  show Ks579Neutral.integers (if Ks578.isConnected ⟨n, pairsOf l⟩ = false then Ks579.number (-33) else Ks579.number (Ks579.coverNumber ⟨n, pairsOf l⟩)) = _
  split <;> rfl
end SW

namespace SW
open PySem PySem.Spec PyProof.Rows L2
open PySem.W (Codec)
section
variable {P : Program} {w : World} {K : PySem.W.Frag} {mg : Str → Option Value} {base : Heap}
/-! ### cover_number -/
def spMain (K : PySem.W.Frag) : Sp := fun vs H Q _ => ∃ (n : Nat) (a : Addr) (l : List Nat), vs = [nv n, .ref a] ∧ SqL K H a (iv l) ∧ l.length ≤ 22 ∧
  ∀ H' p, H' p = some (.lst ((PyKs579.cover_number (n : Int) (toZ l)).map V.int)) → Q (.ref p) H'
theorem ok_main (T : Txt K mg) : FnOk P w K mg base CX0 4 T.f_cover_number T.d_cover_number ["vertex_count", "edges"] (spMain K) := by
  have GG : FnOk P w K mg base CX0 3 T.f_graph_fits T.d_graph_fits ["vertex_count", "edges"] (spGfits K) := ok_gfits T (k := 1)
  have GP : FnOk P w K mg base CX0 3 T.f_edge_pairs T.d_edge_pairs ["edges"] (spEpairs K) := ok_epairs T (k := 2)
  have GC : FnOk P w K mg base CX0 3 T.f_is_connected T.d_is_connected ["vertex_count", "pairs"] spConn := ok_conn T (k := 0)
  have GV : FnOk P w K mg base CX0 3 T.f_cover_number_from T.d_cover_number_from ["vertex", "pairs"] spCover := ok_cover T (k := 0)
  refine T.F_cover_number.ok sc_cover_number (fun vs H Q E h => ?_) (fun cdv A outer s H vs Q E hr h => ?_)
  · obtain ⟨n, a, l, rfl, _⟩ := h
    rfl
  · obtain ⟨n, a, l, rfl, hA, h22, q⟩ := h
    refine ⟨_, pss_cons (ps_if (pt_not (pt_val (pe_call GG hr (by rfl) T.g_graph_fits T.F_graph_fits.kp T.b_graph_fits .nil pass0 (pa_cons (pv 0) (pa_cons (pv 1) pa_nil))))) (pss_one (ps_ret (pe_lst (pa_cons (pe_glob (v := .int (-22)) rfl T.v_OUTSIDE_LIMITS ⟨_, rfl⟩) pa_nil)))) pss_nil)
      (pss_cons (ps_set (i := 2) sc_cover_number.nd rfl (.inr rfl) (pe_call GP hr (by rfl) T.g_edge_pairs T.F_edge_pairs.kp T.b_edge_pairs .nil pass0 (pa_cons (pv 1) pa_nil)))
      (pss_cons (ps_if (pt_not (pt_val (pe_call GC hr (by rfl) T.g_is_connected T.F_is_connected.kp T.b_is_connected .nil pass0 (pa_cons (pv 0) (pa_cons (pv 2) pa_nil))))) (pss_one (ps_ret (pe_lst (pa_cons (pe_glob (v := .int (-33)) rfl T.v_NOT_CONNECTED ⟨_, rfl⟩) pa_nil)))) pss_nil)
      (pss_one (ps_ret (pe_lst (pa_cons (pe_callB (r := rMax K) (by exact cr_max rfl) (by rfl) T.m_max (by decide +kernel) (pa_cons
        (pe_lc (own := [("vertex", 3)]) (g := gName 3) (tt := tYes) rfl sc_cover_number.nd (pi_range1 (by rfl) T.m_range (pa_cons (pv 0) pa_nil))
          (blkOk_by (N := ["vertex_count", "edges", "pairs", "vertex"]) (sc := defScope s_cover_number) (by decide +kernel)) (fun _ _ _ _ _ => pg_name (i := 3) sc_cover_number.nd rfl (Or.inl rfl)) (fun _ _ _ _ _ => pts_nil)
          (fun _ _ _ _ _ => pe_call (sp := spCover) (by exact GV) (by exact hr) (by rfl) (by exact T.g_cover_number_from) (by exact T.F_cover_number_from.kp) (by exact T.b_cover_number_from) .nil pass0 (pa_cons (pv 3) (pa_cons (pv 2) pa_nil)))) pa_nil)) pa_nil)))))), ?_⟩
    -- if not graph_fits(vertex_count, edges)
    refine ⟨nv n, rfl, .ref a, rfl, n, a, l, rfl, hA, h22, fun H1 s1 => ⟨_, rfl, ?_⟩⟩
    cases hG : gfits n l with
    | false =>
      refine ⟨by show 1 ≤ sizeLine; decide, fun r nr => q _ r ?_⟩
      rw [upd_same, due6_wrong hG]
      rfl
    | true =>
      obtain ⟨hg, h5, hev⟩ := gfits_good hG
      have h1 : 1 ≤ n := by
        have z := hG
        unfold gfits at z
        simp only [Bool.and_eq_true, decide_eq_true_eq] at z
        exact z.1.1.1
      have due := due6_right hG
      have h11 : (pairsOf l).length ≤ 11 := by rw [pairsOf_len]; omega
      -- pairs = edge_pairs(edges)
      refine ⟨.ref a, rfl, a, l, rfl, s1.seq hA, hev, h22, fun H2 b s2 nb hB => ?_⟩
      -- if not is_connected(vertex_count, pairs)
      refine ⟨nv n, rfl, .ref b, rfl, n, b, pairsOf l, rfl, hB, hg, h1, h5, h11, fun H3 s3 => ⟨_, rfl, ?_⟩⟩
      cases hc : Ks578.isConnected ⟨n, pairsOf l⟩ with
      | false =>
        refine ⟨by show 1 ≤ sizeLine; decide, fun r nr => q _ r ?_⟩
        rw [if_pos hc] at due
        rw [upd_same, due]
        rfl
      | true =>
        rw [if_neg (by rw [hc]; decide)] at due
        -- max([cover_number_from(vertex, pairs) for vertex in range(vertex_count)])
        refine ⟨nv n, rfl, (n : Int), rfl, by omega, by omega, fun D nD => ?_⟩
        rw [Int.toNat_natCast]
        refine lc_it walk_range (fun i H' => Same H3 H' ∧ H' D = some (.lst (iv ((List.range i).map (Ks579.coverFrom ⟨n, pairsOf l⟩))))) ⟨same_upd nD, upd_same⟩ (fun _ _ _ _ => trivial) ?_ ?_
        · rintro i x H4 H5 hi ⟨s4, hD⟩ ⟨rfl, rfl⟩
          refine ⟨rfl, ?_⟩
          refine ⟨.int (0 + (i : Nat)), rfl, .ref b, rfl, n, i, b, pairsOf l, by rw [Int.zero_add]; rfl, hB.same (s3.trans s4), hg, hi, h5, h11, hc, fun H6 s6 => ?_⟩
          refine ⟨_, s6 _ _ hD, by rw [iv_len, List.length_map, List.length_range]; exact small1000 (by omega), same_put (s4.trans s6) nD, ?_⟩
          rw [upd_same, iv_snoc, List.range_succ, List.map_append]
          rfl
        · rintro H4 ⟨s4, hD⟩
          refine ⟨D, ((List.range n).map (Ks579.coverFrom ⟨n, pairsOf l⟩)).map fun (n : Nat) => (n : Int), rfl, by rw [← iv_ints]; exact .inl (.inl hD), by rw [List.length_map, List.length_map, List.length_range]; omega, fun m hm hy => ?_⟩
          obtain ⟨x, hx, rfl⟩ := List.mem_map.mp hm
          have hb : Ks579.coverNumber ⟨n, pairsOf l⟩ = x := cover_largest (g := ⟨n, pairsOf l⟩) hx fun y h => by
            have z := hy _ (List.mem_map.mpr ⟨y, h, rfl⟩)
            omega
          refine ⟨by show 1 ≤ sizeLine; decide, fun r nr => q _ r ?_⟩
          rw [upd_same, due, hb]
          rfl
end
theorem end_ok (K : PySem.W.Frag) (H : Hp) (xs : List V) (a : Codec.denoteAll PySem.Challenge.rw_stonewalk_s06_cover_number.args) (hO : OnlyF H) (hwi : Codec.withinAll PySem.Challenge.rw_stonewalk_s06_cover_number.args a = true)
    (hask : Codec.app PySem.Challenge.rw_stonewalk_s06_cover_number.args PySem.Challenge.rw_stonewalk_s06_cover_number.asked a = true) (hx : DwAll K H xs (Codec.encAll PySem.Challenge.rw_stonewalk_s06_cover_number.args a)) :
    spMain K xs H (fun v H' => Dw K H' v (PySem.Challenge.rw_stonewalk_s06_cover_number.ret.enc (Codec.app PySem.Challenge.rw_stonewalk_s06_cover_number.args PySem.Challenge.rw_stonewalk_s06_cover_number.f a))) fun _ _ _ => False := by
  obtain ⟨n, es, u⟩ := a
  cases hx with
  | cons h1 hx =>
    cases hx with
    | cons h2 hx =>
      cases hx
      cases h1
      cases h2 with
      | @lst ad2 xs2 ds2 hs2 ha2 =>
        have e2 := L2.ints_dw es _ ha2
        subst e2
        have q : (Codec.inInt 0 4294967295 n && ((Codec.inLen 0 22 es && es.all (Codec.inInt 0 4294967295)) && true)) = true := hwi
        simp only [Bool.and_eq_true] at q
        obtain ⟨q1, ⟨q2, q3⟩, _⟩ := q
        have hn := cod_int q1
        have he : toZ (es.map Int.toNat) = es := nat_toZ (cod_pos q3)
        have v2 : iv (es.map Int.toNat) = es.map V.int := by rw [iv_ints]; exact congrArg _ he
        refine ⟨n.toNat, ad2, es.map Int.toNat, ?_, ?_, ?_, ?_⟩
        · show _ = [V.int ((n.toNat : Nat) : Int), _]
          rw [hn]
        · rw [v2]
          exact hs2
        · rw [List.length_map]
          exact (Codec.inNat_iff.mp q2).2
        · intro H' p hp
          rw [hn, he] at hp
          exact .lst (L2.SqL.of hp) (L2.dw_ints _)
end SW

/-! ### what the top has written -/
namespace SW
open PySem PySem.Spec PyProof.Rows L2
theorem all_mk {P : Program} {w : World} {K : PySem.W.Frag} {h : Heap} {mg : Str → Option Value} {fa : Addr} {t_OUTSIDE_LIMITS : Tok} {t_NOT_CONNECTED : Tok} {t_MOST_VERTICES : Tok} (X : K.In h) (G : h.Ns mainGlobals mg) (hfa : mg "cover_number" = some (.ref fa))
    {f_cover_number : Addr} {od_cover_number an_cover_number : Option Addr} {sl_cover_number : Array (Option Value)} {oc_cover_number kV_cover_number dc_cover_number pm_cover_number cd_cover_number ct_cover_number : Value}
    (a_cover_number : PySem.W.nsIn K mainGlobals "cover_number" = some (some (.ref f_cover_number))) (l_cover_number : K.lookup f_cover_number = some ⟨oc_cover_number, od_cover_number, .func (PySem.W.fnOf "cover_number" "cover_number" (defArgs s_cover_number) (defBody s_cover_number) (defScope s_cover_number) .none kV_cover_number dc_cover_number pm_cover_number an_cover_number cd_cover_number ct_cover_number), sl_cover_number⟩) (c_cover_number : PySem.W.codeIn K cd_cover_number "cover_number" = true) (k_cover_number : PySem.W.keepIn K (.ref f_cover_number) = true)
    {f_graph_fits : Addr} {od_graph_fits an_graph_fits : Option Addr} {sl_graph_fits : Array (Option Value)} {oc_graph_fits kV_graph_fits dc_graph_fits pm_graph_fits cd_graph_fits ct_graph_fits : Value}
    (a_graph_fits : PySem.W.nsIn K mainGlobals "graph_fits" = some (some (.ref f_graph_fits))) (l_graph_fits : K.lookup f_graph_fits = some ⟨oc_graph_fits, od_graph_fits, .func (PySem.W.fnOf "graph_fits" "graph_fits" (defArgs s_graph_fits) (defBody s_graph_fits) (defScope s_graph_fits) .none kV_graph_fits dc_graph_fits pm_graph_fits an_graph_fits cd_graph_fits ct_graph_fits), sl_graph_fits⟩) (c_graph_fits : PySem.W.codeIn K cd_graph_fits "graph_fits" = true) (k_graph_fits : PySem.W.keepIn K (.ref f_graph_fits) = true)
    {f_edge_pairs : Addr} {od_edge_pairs an_edge_pairs : Option Addr} {sl_edge_pairs : Array (Option Value)} {oc_edge_pairs kV_edge_pairs dc_edge_pairs pm_edge_pairs cd_edge_pairs ct_edge_pairs : Value}
    (a_edge_pairs : PySem.W.nsIn K mainGlobals "edge_pairs" = some (some (.ref f_edge_pairs))) (l_edge_pairs : K.lookup f_edge_pairs = some ⟨oc_edge_pairs, od_edge_pairs, .func (PySem.W.fnOf "edge_pairs" "edge_pairs" (defArgs s_edge_pairs) (defBody s_edge_pairs) (defScope s_edge_pairs) .none kV_edge_pairs dc_edge_pairs pm_edge_pairs an_edge_pairs cd_edge_pairs ct_edge_pairs), sl_edge_pairs⟩) (c_edge_pairs : PySem.W.codeIn K cd_edge_pairs "edge_pairs" = true) (k_edge_pairs : PySem.W.keepIn K (.ref f_edge_pairs) = true)
    {f_edges_fit : Addr} {od_edges_fit an_edges_fit : Option Addr} {sl_edges_fit : Array (Option Value)} {oc_edges_fit kV_edges_fit dc_edges_fit pm_edges_fit cd_edges_fit ct_edges_fit : Value}
    (a_edges_fit : PySem.W.nsIn K mainGlobals "edges_fit" = some (some (.ref f_edges_fit))) (l_edges_fit : K.lookup f_edges_fit = some ⟨oc_edges_fit, od_edges_fit, .func (PySem.W.fnOf "edges_fit" "edges_fit" (defArgs s_edges_fit) (defBody s_edges_fit) (defScope s_edges_fit) .none kV_edges_fit dc_edges_fit pm_edges_fit an_edges_fit cd_edges_fit ct_edges_fit), sl_edges_fit⟩) (c_edges_fit : PySem.W.codeIn K cd_edges_fit "edges_fit" = true) (k_edges_fit : PySem.W.keepIn K (.ref f_edges_fit) = true)
    {f_is_connected : Addr} {od_is_connected an_is_connected : Option Addr} {sl_is_connected : Array (Option Value)} {oc_is_connected kV_is_connected dc_is_connected pm_is_connected cd_is_connected ct_is_connected : Value}
    (a_is_connected : PySem.W.nsIn K mainGlobals "is_connected" = some (some (.ref f_is_connected))) (l_is_connected : K.lookup f_is_connected = some ⟨oc_is_connected, od_is_connected, .func (PySem.W.fnOf "is_connected" "is_connected" (defArgs s_is_connected) (defBody s_is_connected) (defScope s_is_connected) .none kV_is_connected dc_is_connected pm_is_connected an_is_connected cd_is_connected ct_is_connected), sl_is_connected⟩) (c_is_connected : PySem.W.codeIn K cd_is_connected "is_connected" = true) (k_is_connected : PySem.W.keepIn K (.ref f_is_connected) = true)
    {f_cover_number_from : Addr} {od_cover_number_from an_cover_number_from : Option Addr} {sl_cover_number_from : Array (Option Value)} {oc_cover_number_from kV_cover_number_from dc_cover_number_from pm_cover_number_from cd_cover_number_from ct_cover_number_from : Value}
    (a_cover_number_from : PySem.W.nsIn K mainGlobals "cover_number_from" = some (some (.ref f_cover_number_from))) (l_cover_number_from : K.lookup f_cover_number_from = some ⟨oc_cover_number_from, od_cover_number_from, .func (PySem.W.fnOf "cover_number_from" "cover_number_from" (defArgs s_cover_number_from) (defBody s_cover_number_from) (defScope s_cover_number_from) .none kV_cover_number_from dc_cover_number_from pm_cover_number_from an_cover_number_from cd_cover_number_from ct_cover_number_from), sl_cover_number_from⟩) (c_cover_number_from : PySem.W.codeIn K cd_cover_number_from "cover_number_from" = true) (k_cover_number_from : PySem.W.keepIn K (.ref f_cover_number_from) = true)
    {f_distances_from : Addr} {od_distances_from an_distances_from : Option Addr} {sl_distances_from : Array (Option Value)} {oc_distances_from kV_distances_from dc_distances_from pm_distances_from cd_distances_from ct_distances_from : Value}
    (a_distances_from : PySem.W.nsIn K mainGlobals "distances_from" = some (some (.ref f_distances_from))) (l_distances_from : K.lookup f_distances_from = some ⟨oc_distances_from, od_distances_from, .func (PySem.W.fnOf "distances_from" "distances_from" (defArgs s_distances_from) (defBody s_distances_from) (defScope s_distances_from) .none kV_distances_from dc_distances_from pm_distances_from an_distances_from cd_distances_from ct_distances_from), sl_distances_from⟩) (c_distances_from : PySem.W.codeIn K cd_distances_from "distances_from" = true) (k_distances_from : PySem.W.keepIn K (.ref f_distances_from) = true)
    {f_vertices_beside : Addr} {od_vertices_beside an_vertices_beside : Option Addr} {sl_vertices_beside : Array (Option Value)} {oc_vertices_beside kV_vertices_beside dc_vertices_beside pm_vertices_beside cd_vertices_beside ct_vertices_beside : Value}
    (a_vertices_beside : PySem.W.nsIn K mainGlobals "vertices_beside" = some (some (.ref f_vertices_beside))) (l_vertices_beside : K.lookup f_vertices_beside = some ⟨oc_vertices_beside, od_vertices_beside, .func (PySem.W.fnOf "vertices_beside" "vertices_beside" (defArgs s_vertices_beside) (defBody s_vertices_beside) (defScope s_vertices_beside) .none kV_vertices_beside dc_vertices_beside pm_vertices_beside an_vertices_beside cd_vertices_beside ct_vertices_beside), sl_vertices_beside⟩) (c_vertices_beside : PySem.W.codeIn K cd_vertices_beside "vertices_beside" = true) (k_vertices_beside : PySem.W.keepIn K (.ref f_vertices_beside) = true)
    (v_OUTSIDE_LIMITS : PySem.W.nsIn K mainGlobals "OUTSIDE_LIMITS" = some (some (.int (-22) t_OUTSIDE_LIMITS)))
    (v_NOT_CONNECTED : PySem.W.nsIn K mainGlobals "NOT_CONNECTED" = some (some (.int (-33) t_NOT_CONNECTED)))
    (v_MOST_VERTICES : PySem.W.nsIn K mainGlobals "MOST_VERTICES" = some (some (.int 5 t_MOST_VERTICES)))
    (z_len : PySem.W.nsIn K mainGlobals "len" = some none)
    (z_max : PySem.W.nsIn K mainGlobals "max" = some none)
    (z_range : PySem.W.nsIn K mainGlobals "range" = some none)
    (z_sum : PySem.W.nsIn K mainGlobals "sum" = some none)
    : ∃ fd : FuncData, (∀ (s : Shared) (us : List Value), us.length = (["vertex_count", "edges"] : List Str).length → BindsTo s fd ⟨us, []⟩ ((["vertex_count", "edges"] : List Str).zip us)) ∧ ∀ base : Heap, K.In base → base.Ns mainGlobals mg → FnOk P w K mg base CX0 4 fa fd ["vertex_count", "edges"] (spMain K) := by
  have e : f_cover_number = fa := Value.ref.inj (Option.some.inj ((PySem.W.mg_of X G a_cover_number).symm.trans hfa))
  subst e
  let T : Txt K mg := {
    f_cover_number := f_cover_number, d_cover_number := _, F_cover_number := fun_mk (st := s_cover_number) l_cover_number c_cover_number k_cover_number, b_cover_number := (fun_mk (st := s_cover_number) l_cover_number c_cover_number k_cover_number).binds (ps := ["vertex_count", "edges"]) (fun _ _ _ _ _ _ us hl => match us, hl with | [_, _], _ => rfl), g_cover_number := PySem.W.mg_of X G a_cover_number,
    f_graph_fits := f_graph_fits, d_graph_fits := _, F_graph_fits := fun_mk (st := s_graph_fits) l_graph_fits c_graph_fits k_graph_fits, b_graph_fits := (fun_mk (st := s_graph_fits) l_graph_fits c_graph_fits k_graph_fits).binds (ps := ["vertex_count", "edges"]) (fun _ _ _ _ _ _ us hl => match us, hl with | [_, _], _ => rfl), g_graph_fits := PySem.W.mg_of X G a_graph_fits,
    f_edge_pairs := f_edge_pairs, d_edge_pairs := _, F_edge_pairs := fun_mk (st := s_edge_pairs) l_edge_pairs c_edge_pairs k_edge_pairs, b_edge_pairs := (fun_mk (st := s_edge_pairs) l_edge_pairs c_edge_pairs k_edge_pairs).binds (ps := ["edges"]) (fun _ _ _ _ _ _ us hl => match us, hl with | [_], _ => rfl), g_edge_pairs := PySem.W.mg_of X G a_edge_pairs,
    f_edges_fit := f_edges_fit, d_edges_fit := _, F_edges_fit := fun_mk (st := s_edges_fit) l_edges_fit c_edges_fit k_edges_fit, b_edges_fit := (fun_mk (st := s_edges_fit) l_edges_fit c_edges_fit k_edges_fit).binds (ps := ["vertex_count", "pairs"]) (fun _ _ _ _ _ _ us hl => match us, hl with | [_, _], _ => rfl), g_edges_fit := PySem.W.mg_of X G a_edges_fit,
    f_is_connected := f_is_connected, d_is_connected := _, F_is_connected := fun_mk (st := s_is_connected) l_is_connected c_is_connected k_is_connected, b_is_connected := (fun_mk (st := s_is_connected) l_is_connected c_is_connected k_is_connected).binds (ps := ["vertex_count", "pairs"]) (fun _ _ _ _ _ _ us hl => match us, hl with | [_, _], _ => rfl), g_is_connected := PySem.W.mg_of X G a_is_connected,
    f_cover_number_from := f_cover_number_from, d_cover_number_from := _, F_cover_number_from := fun_mk (st := s_cover_number_from) l_cover_number_from c_cover_number_from k_cover_number_from, b_cover_number_from := (fun_mk (st := s_cover_number_from) l_cover_number_from c_cover_number_from k_cover_number_from).binds (ps := ["vertex", "pairs"]) (fun _ _ _ _ _ _ us hl => match us, hl with | [_, _], _ => rfl), g_cover_number_from := PySem.W.mg_of X G a_cover_number_from,
    f_distances_from := f_distances_from, d_distances_from := _, F_distances_from := fun_mk (st := s_distances_from) l_distances_from c_distances_from k_distances_from, b_distances_from := (fun_mk (st := s_distances_from) l_distances_from c_distances_from k_distances_from).binds (ps := ["vertex", "pairs"]) (fun _ _ _ _ _ _ us hl => match us, hl with | [_, _], _ => rfl), g_distances_from := PySem.W.mg_of X G a_distances_from,
    f_vertices_beside := f_vertices_beside, d_vertices_beside := _, F_vertices_beside := fun_mk (st := s_vertices_beside) l_vertices_beside c_vertices_beside k_vertices_beside, b_vertices_beside := (fun_mk (st := s_vertices_beside) l_vertices_beside c_vertices_beside k_vertices_beside).binds (ps := ["vertex", "pairs"]) (fun _ _ _ _ _ _ us hl => match us, hl with | [_, _], _ => rfl), g_vertices_beside := PySem.W.mg_of X G a_vertices_beside,
    t_OUTSIDE_LIMITS := t_OUTSIDE_LIMITS, v_OUTSIDE_LIMITS := PySem.W.mg_of X G v_OUTSIDE_LIMITS,
    t_NOT_CONNECTED := t_NOT_CONNECTED, v_NOT_CONNECTED := PySem.W.mg_of X G v_NOT_CONNECTED,
    t_MOST_VERTICES := t_MOST_VERTICES, v_MOST_VERTICES := PySem.W.mg_of X G v_MOST_VERTICES,
    m_len := PySem.W.mg_none_of X G z_len,
    m_max := PySem.W.mg_none_of X G z_max,
    m_range := PySem.W.mg_none_of X G z_range,
    m_sum := PySem.W.mg_none_of X G z_sum }
  exact ⟨T.d_cover_number, fun s us hu => match us, hu with | [_, _], _ => .of_eq rfl, fun base _ _ => ok_main T⟩
end SW
open PySem PySem.W PyProof.Rows
set_option maxRecDepth 100000 in
set_option maxHeartbeats 8000000 in
theorem PySem.Challenge.cw_stonewalk_s06_cover_number_holds : PySem.Challenge.rw_stonewalk_s06_cover_number.Holds := by
  w_on; k_headS; (case hw => exact ⟨[.int 0, .list []], by decide +kernel, by decide +kernel⟩)
  k_fillS
  refine L2.walk_specK (r := PySem.Challenge.rw_stonewalk_s06_cover_number) (k := 4) (CX := L2.CX0) (ps := ["vertex_count", "edges"]) (sp := SW.spMain) (by decide +kernel) rfl rfl ⟨rfl, by decide, by decide⟩ (fun w h Y => PySem.W.kIn_of Y) ?F ?S (fun _ _ _ _ z => z)
  case F =>
    intro w mg fa h Y KX G hmg
    refine' SW.all_mk KX G hmg ?a_cover_number ?l_cover_number ?c_cover_number ?k_cover_number ?a_graph_fits ?l_graph_fits ?c_graph_fits ?k_graph_fits ?a_edge_pairs ?l_edge_pairs ?c_edge_pairs ?k_edge_pairs ?a_edges_fit ?l_edges_fit ?c_edges_fit ?k_edges_fit ?a_is_connected ?l_is_connected ?c_is_connected ?k_is_connected ?a_cover_number_from ?l_cover_number_from ?c_cover_number_from ?k_cover_number_from ?a_distances_from ?l_distances_from ?c_distances_from ?k_distances_from ?a_vertices_beside ?l_vertices_beside ?c_vertices_beside ?k_vertices_beside ?v_OUTSIDE_LIMITS ?v_NOT_CONNECTED ?v_MOST_VERTICES ?z_len ?z_max ?z_range ?z_sum
    (case a_cover_number => k_is)
    (case l_cover_number => k_is)
    (case c_cover_number => k_is)
    (case k_cover_number => k_is)
    (case a_graph_fits => k_is)
    (case l_graph_fits => k_is)
    (case c_graph_fits => k_is)
    (case k_graph_fits => k_is)
    (case a_edge_pairs => k_is)
    (case l_edge_pairs => k_is)
    (case c_edge_pairs => k_is)
    (case k_edge_pairs => k_is)
    (case a_edges_fit => k_is)
    (case l_edges_fit => k_is)
    (case c_edges_fit => k_is)
    (case k_edges_fit => k_is)
    (case a_is_connected => k_is)
    (case l_is_connected => k_is)
    (case c_is_connected => k_is)
    (case k_is_connected => k_is)
    (case a_cover_number_from => k_is)
    (case l_cover_number_from => k_is)
    (case c_cover_number_from => k_is)
    (case k_cover_number_from => k_is)
    (case a_distances_from => k_is)
    (case l_distances_from => k_is)
    (case c_distances_from => k_is)
    (case k_distances_from => k_is)
    (case a_vertices_beside => k_is)
    (case l_vertices_beside => k_is)
    (case c_vertices_beside => k_is)
    (case k_vertices_beside => k_is)
    (case v_OUTSIDE_LIMITS => k_is)
    (case v_NOT_CONNECTED => k_is)
    (case v_MOST_VERTICES => k_is)
    (case z_len => k_is)
    (case z_max => k_is)
    (case z_range => k_is)
    (case z_sum => k_is)
  case S => exact SW.end_ok
#print axioms PySem.Challenge.cw_stonewalk_s06_cover_number_holds
