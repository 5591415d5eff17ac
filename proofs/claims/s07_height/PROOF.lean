import PyProof.Rows.All
import Wide.All
import OpenK.AllK
import Wide.FinOn
import Open.SpecLaws
import KE.OsHead
import KE.OsGo
import HandS.ForSpec
import HandS.Iter
import HandS.Comp
import HandS.SetFor
import PySem.Challenge.RW_likelyorders_s07_height
set_option Elab.async false
set_option linter.all false
set_option maxRecDepth 100000
set_option maxHeartbeats 2000000
namespace Lo
open Kzx4 (Order okPairs pairs closeOn closed ahead okOrder rowsOn place before readPairs)

/-! ### The mirror, over plain lists of natural numbers -/
/-- the pairs of a list, two by two -/
def pairsOf : List Nat → List (Nat × Nat)
  | a :: b :: l => (a, b) :: pairsOf l
  | _ => []
def pairOk (t : Nat) (row : List Nat) (y : Nat × Nat) : Bool := !(y.2 == t && !row.contains y.1)
def mcn (t : Nat) (row os : List Nat) : Bool := !row.contains t && (pairsOf os).all (pairOk t row)
def pairIn (n : Nat) (y : Nat × Nat) : Bool := decide (y.1 < n) && decide (y.2 < n) && y.1 != y.2
def areP (n : Nat) (os : List Nat) : Bool := os.length % 2 == 0 && (pairsOf os).all (pairIn n)
def ext (n : Nat) (os row : List Nat) : List (List Nat) := ((List.range n).filter fun t => mcn t row os).map fun t => row ++ [t]
def lbo (n : Nat) (os : List Nat) (begun : List (List Nat)) : List (List Nat) := begun.flatMap (ext n os)
def lev (n : Nat) (os : List Nat) : Nat → List (List Nat) → List (List Nat)
  | 0, s => s
  | k + 1, s => lev n os k (lbo n os s)
def findR (n : Nat) (os : List Nat) : List (List Nat) := if n < 1 ∨ 6 < n ∨ areP n os = false then [] else lev n os n [[]]

/-! ### Pairs -/
theorem readPairs_even : ∀ (os : List Nat), os.length % 2 = 0 → readPairs os = some (pairsOf os)
  | [], _ => rfl
  | [_], h => by simp at h
  | a :: b :: l, h => by
    have h' : l.length % 2 = 0 := by simp only [List.length_cons] at h; omega
    show (readPairs l).map _ = _
    rw [readPairs_even l h']
    rfl
theorem readPairs_odd : ∀ (os : List Nat), os.length % 2 ≠ 0 → readPairs os = none
  | [], h => by simp at h
  | [_], _ => rfl
  | a :: b :: l, h => by
    have h' : l.length % 2 ≠ 0 := by simp only [List.length_cons] at h; omega
    show (readPairs l).map _ = _
    rw [readPairs_odd l h']
    rfl
theorem pairsOf_get : ∀ (os : List Nat) (i a b : Nat), os[2 * i]? = some a → os[2 * i + 1]? = some b → (pairsOf os)[i]? = some (a, b)
  | [], i, a, b, h, _ => by simp at h
  | [x], i, a, b, _, h => by simp at h
  | x :: y :: l, 0, a, b, h1, h2 => by
    simp at h1 h2
    subst h1 h2
    rfl
  | x :: y :: l, i + 1, a, b, h1, h2 => by
    have e1 : 2 * (i + 1) = 2 * i + 1 + 1 := by omega
    rw [e1] at h1 h2
    simp only [List.getElem?_cons_succ] at h1 h2
    exact pairsOf_get l i a b h1 h2
theorem pairsOf_len : ∀ (os : List Nat), (pairsOf os).length = os.length / 2
  | [] => rfl
  | [_] => by simp [pairsOf]
  | a :: b :: l => by
    show (pairsOf l).length + 1 = _
    rw [pairsOf_len l]
    simp only [List.length_cons]
    omega
theorem okPairs_eq (n : Nat) (ps : Order) : okPairs n ps = ps.all (pairIn n) := rfl

/-! ### Level by level is thing by thing -/
theorem lev_append (n : Nat) (os : List Nat) : ∀ (k : Nat) (s u : List (List Nat)), lev n os k (s ++ u) = lev n os k s ++ lev n os k u
  | 0, _, _ => rfl
  | k + 1, s, u => by
    show lev n os k (lbo n os (s ++ u)) = _
    have e : lbo n os (s ++ u) = lbo n os s ++ lbo n os u := by simp [lbo]
    rw [e, lev_append n os k]
    rfl
theorem lev_nil (n : Nat) (os : List Nat) : ∀ (k : Nat), lev n os k [] = []
  | 0 => rfl
  | k + 1 => lev_nil n os k
theorem lev_flat (n : Nat) (os : List Nat) (k : Nat) : ∀ (s : List (List Nat)), lev n os k s = s.flatMap fun r => lev n os k [r]
  | [] => lev_nil n os k
  | r :: s => by
    have e : r :: s = [r] ++ s := rfl
    rw [e, lev_append, lev_flat n os k s]
    simp
theorem lev_one (n : Nat) (os : List Nat) (k : Nat) (r : List Nat) :
    lev n os (k + 1) [r] = ((List.range n).filter fun t => mcn t r os).flatMap fun t => lev n os k [r ++ [t]] := by
  show lev n os k (lbo n os [r]) = _
  have e : lbo n os [r] = ext n os r := by simp [lbo]
  rw [e, lev_flat, ext, List.flatMap_map]

def leftOf (n : Nat) (l : List Nat) : List Nat := (List.range n).filter fun t => !l.contains t
theorem mem_leftOf {n : Nat} {l : List Nat} {t : Nat} : t ∈ leftOf n l ↔ t < n ∧ t ∉ l := by
  simp [leftOf]
theorem contains_left {n : Nat} {l : List Nat} {t : Nat} (h : t < n) : (leftOf n l).contains t = !l.contains t := by
  rw [Bool.eq_iff_iff]
  simp [mem_leftOf, h]
theorem left_next (n : Nat) (l : List Nat) (x : Nat) : (leftOf n l).filter (fun y => y != x) = leftOf n (x :: l) := by
  unfold leftOf
  rw [List.filter_filter]
  refine List.filter_congr fun t _ => ?_
  rw [Bool.eq_iff_iff]
  simp
theorem left_free (n : Nat) (os l : List Nat) (h : (pairsOf os).all (pairIn n) = true) :
    (leftOf n l).filter (fun x => !((pairsOf os).any fun y => y.2 == x && (leftOf n l).contains y.1)) = (List.range n).filter fun t => mcn t l.reverse os := by
  show ((List.range n).filter _).filter _ = _
  rw [List.filter_filter]
  refine List.filter_congr fun t _ => ?_
  have e : ((pairsOf os).any fun y => y.2 == t && (leftOf n l).contains y.1) = !(pairsOf os).all (pairOk t l.reverse) := by
    rw [List.not_all_eq_any_not]
    rw [Bool.eq_iff_iff, List.any_eq_true, List.any_eq_true]
    constructor
    · rintro ⟨y, hy, q⟩
      refine ⟨y, hy, ?_⟩
      have hn := List.all_eq_true.mp h y hy
      have h1 : y.1 < n := by simp [pairIn] at hn; exact hn.1.1
      rw [contains_left h1] at q
      simpa [pairOk] using q
    · rintro ⟨y, hy, q⟩
      refine ⟨y, hy, ?_⟩
      have hn := List.all_eq_true.mp h y hy
      have h1 : y.1 < n := by simp [pairIn] at hn; exact hn.1.1
      rw [contains_left h1]
      simpa [pairOk] using q
  rw [e]
  simp [mcn, Bool.and_comm]
theorem rowsOn_lev (n : Nat) (os : List Nat) (h : (pairsOf os).all (pairIn n) = true) :
    ∀ (k : Nat) (l : List Nat), rowsOn (pairsOf os) k (leftOf n l) l = lev n os k [l.reverse]
  | 0, l => rfl
  | k + 1, l => by
    show ((leftOf n l).filter _).flatMap _ = _
    rw [left_free n os l h, lev_one]
    refine congrArg (List.flatMap · _) (funext fun t => ?_)
    rw [left_next, rowsOn_lev n os h k (t :: l), List.reverse_cons]
theorem leftOf_nil (n : Nat) : leftOf n [] = List.range n := by
  unfold leftOf
  rw [List.filter_eq_self]
  intro a _
  rfl
theorem rows_lev (n : Nat) (os : List Nat) (h : (pairsOf os).all (pairIn n) = true) : Kzx4.rows n (pairsOf os) = lev n os n [[]] := by
  have e := rowsOn_lev n os h n []
  rw [leftOf_nil] at e
  exact e

/-! ### A row keeps to the order -/
structure Good (n : Nat) (ps : Order) (s : List Nat) : Prop where
  nd : s.Nodup
  lt : ∀ x ∈ s, x < n
  has : ∀ y ∈ ps, y.2 ∈ s → y.1 ∈ s ∧ place s y.1 < place s y.2
theorem place_lt {s : List Nat} {x : Nat} (h : x ∈ s) : place s x < s.length := by
  unfold place
  exact List.findIdx_lt_length_of_exists ⟨x, h, by simp⟩
theorem place_snoc_old {s : List Nat} {x t : Nat} (h : x ∈ s) : place (s ++ [t]) x = place s x := by
  have q := place_lt h
  unfold place at *
  rw [List.findIdx_append, if_pos q]
theorem place_snoc_new {s : List Nat} {t : Nat} (h : t ∉ s) : place (s ++ [t]) t = s.length := by
  have q : s.findIdx (fun y => y == t) = s.length := by
    rw [List.findIdx_eq_length]
    intro x hx
    simp
    intro e
    exact h (e ▸ hx)
  unfold place
  rw [List.findIdx_append, q, if_neg (Nat.lt_irrefl _)]
  simp
theorem mcn_iff {t : Nat} {r os : List Nat} : mcn t r os = true ↔ t ∉ r ∧ ∀ y ∈ pairsOf os, y.2 = t → y.1 ∈ r := by
  unfold mcn
  rw [Bool.and_eq_true, List.all_eq_true]
  constructor
  · rintro ⟨h1, h2⟩
    refine ⟨by simpa using h1, fun y hy e => ?_⟩
    have q := h2 y hy
    simp [pairOk] at q
    exact q.elim (fun z => absurd e z) id
  · rintro ⟨h1, h2⟩
    refine ⟨by simpa using h1, fun y hy => ?_⟩
    simp [pairOk]
    by_cases c : y.2 = t
    · exact .inr (h2 y hy c)
    · exact .inl c
theorem Good.snoc {n : Nat} {os s : List Nat} {t : Nat} (G : Good n (pairsOf os) s) (ht : t < n) (h : mcn t s os = true) : Good n (pairsOf os) (s ++ [t]) := by
  obtain ⟨h1, h2⟩ := mcn_iff.mp h
  refine ⟨?_, ?_, ?_⟩
  · rw [List.nodup_append]
    refine ⟨G.nd, by simp, ?_⟩
    intro a ha b hb e
    simp at hb
    subst hb
    exact h1 (e ▸ ha)
  · intro x hx
    rw [List.mem_append] at hx
    cases hx with
    | inl hx => exact G.lt x hx
    | inr hx => simp at hx; omega
  · intro y hy hm
    rw [List.mem_append] at hm
    by_cases c : y.2 ∈ s
    · obtain ⟨a1, a2⟩ := G.has y hy c
      refine ⟨List.mem_append_left _ a1, ?_⟩
      rw [place_snoc_old a1, place_snoc_old c]
      exact a2
    · have e : y.2 = t := by
        cases hm with
        | inl z => exact absurd z c
        | inr z => simpa using z
      have a1 := h2 y hy e
      refine ⟨List.mem_append_left _ a1, ?_⟩
      rw [place_snoc_old a1, e, place_snoc_new h1]
      exact place_lt a1
theorem lev_good {n : Nat} {os : List Nat} : ∀ (k : Nat) (s r : List Nat), Good n (pairsOf os) s → r ∈ lev n os k [s] → Good n (pairsOf os) r ∧ r.length = s.length + k
  | 0, s, r, G, h => by
    have e : r = s := by
      have h' : r ∈ [s] := h
      simpa using h'
    subst e
    exact ⟨G, rfl⟩
  | k + 1, s, r, G, h => by
    rw [lev_one, List.mem_flatMap] at h
    obtain ⟨t, ht, hr⟩ := h
    rw [List.mem_filter, List.mem_range] at ht
    obtain ⟨G', e⟩ := lev_good k (s ++ [t]) r (G.snoc ht.1 ht.2) hr
    refine ⟨G', ?_⟩
    rw [e]
    simp
    omega
theorem good_nil (n : Nat) (ps : Order) : Good n ps [] := ⟨by simp, by simp, by simp⟩
theorem rows_good {n : Nat} {os r : List Nat} (h : r ∈ lev n os n [[]]) : Good n (pairsOf os) r ∧ r.length = n := by
  obtain ⟨G, e⟩ := lev_good n [] r (good_nil n _) h
  exact ⟨G, by simpa using e⟩
theorem full {n : Nat} {s : List Nat} (nd : s.Nodup) (lt : ∀ x ∈ s, x < n) (len : s.length = n) {x : Nat} (hx : x < n) : x ∈ s := by
  refine Classical.byContradiction fun c => ?_
  have q : (x :: s).length ≤ (List.range n).length := List.Nodup.length_le_of_subset (List.nodup_cons.mpr ⟨c, nd⟩) fun a ha => by
    rw [List.mem_cons] at ha
    rw [List.mem_range]
    cases ha with
    | inl e => omega
    | inr e => exact lt a e
  simp at q
  omega
theorem mem_pairs {n : Nat} {z : Nat × Nat} : z ∈ pairs n ↔ z.1 < n ∧ z.2 < n := by
  obtain ⟨a, b⟩ := z
  simp [pairs]
theorem closeOn_mono {n : Nat} {ps : Order} {f : Nat → Nat} (hf : ∀ y ∈ ps, f y.1 < f y.2) : ∀ (k : Nat) (z : Nat × Nat), z ∈ closeOn n ps k → f z.1 < f z.2
  | 0, z, h => by
    have h' : z ∈ (pairs n).filter ps.contains := h
    rw [List.mem_filter] at h'
    exact hf z (by simpa using h'.2)
  | k + 1, z, h => by
    have h' : z ∈ (pairs n).filter (fun z => (closeOn n ps k).contains z || (List.range n).any fun y => (closeOn n ps k).contains (z.1, y) && (closeOn n ps k).contains (y, z.2)) := h
    rw [List.mem_filter, Bool.or_eq_true] at h'
    cases h'.2 with
    | inl q => exact closeOn_mono hf k z (by simpa using q)
    | inr q =>
      rw [List.any_eq_true] at q
      obtain ⟨y, _, q⟩ := q
      rw [Bool.and_eq_true] at q
      have a := closeOn_mono hf k (z.1, y) (by simpa using q.1)
      have b := closeOn_mono hf k (y, z.2) (by simpa using q.2)
      exact Nat.lt_trans a b
/-- where there's a row there's no ring -/
theorem no_ring {n : Nat} {os r : List Nat} (hp : (pairsOf os).all (pairIn n) = true) (h : r ∈ lev n os n [[]]) : ((List.range n).all fun x => !ahead n (pairsOf os) x x) = true := by
  obtain ⟨G, len⟩ := rows_good h
  rw [List.all_eq_true]
  intro x hx
  rw [List.mem_range] at hx
  rw [Bool.not_eq_true']
  refine Classical.byContradiction fun c => ?_
  have c' : (x, x) ∈ closeOn n (pairsOf os) n := by
    have z : ahead n (pairsOf os) x x = true := by simpa using c
    simpa [ahead, closed] using z
  have q := closeOn_mono (f := place r) (fun y hy => by
    have hn := List.all_eq_true.mp hp y hy
    simp [pairIn] at hn
    exact (G.has y hy (full G.nd G.lt len hn.1.2)).2) n (x, x) c'
  exact Nat.lt_irrefl _ q

/-! ### Where there's no ring there's a row -/
theorem walk_close {n : Nat} {ps : Order} {w : Nat → Nat} (hw : ∀ i, w i < n) (hp : ∀ i, (w (i + 1), w i) ∈ ps) : ∀ (k i j : Nat), i < j → j - i ≤ 2 ^ k → (w j, w i) ∈ closeOn n ps k
  | 0, i, j, h1, h2 => by
    have e : j = i + 1 := by simp at h2; omega
    subst e
    show _ ∈ (pairs n).filter ps.contains
    rw [List.mem_filter, mem_pairs]
    exact ⟨⟨hw _, hw _⟩, by simpa using hp i⟩
  | k + 1, i, j, h1, h2 => by
    show _ ∈ (pairs n).filter (fun z => (closeOn n ps k).contains z || (List.range n).any fun y => (closeOn n ps k).contains (z.1, y) && (closeOn n ps k).contains (y, z.2))
    rw [List.mem_filter, mem_pairs, Bool.or_eq_true]
    refine ⟨⟨hw _, hw _⟩, ?_⟩
    by_cases c : j - i ≤ 2 ^ k
    · exact .inl (by simpa using walk_close hw hp k i j h1 c)
    · have pos : 0 < 2 ^ k := Nat.pow_pos (by decide)
      have e : 2 ^ (k + 1) = 2 ^ k + 2 ^ k := by rw [Nat.pow_succ]; omega
      refine .inr ?_
      rw [List.any_eq_true]
      refine ⟨w (i + 2 ^ k), List.mem_range.mpr (hw _), ?_⟩
      rw [Bool.and_eq_true]
      exact ⟨by simpa using walk_close hw hp k (i + 2 ^ k) j (by omega) (by omega), by simpa using walk_close hw hp k i (i + 2 ^ k) (by omega) (by omega)⟩
theorem twice {n : Nat} {w : Nat → Nat} (hw : ∀ i, w i < n) : ∃ i j, i < j ∧ j ≤ n ∧ w i = w j := by
  refine Classical.byContradiction fun c => ?_
  have nd : ((List.range (n + 1)).map w).Nodup := by
    unfold List.Nodup
    rw [List.pairwise_iff_getElem]
    intro i j hi hj hij e
    simp at hi hj e
    exact c ⟨i, j, hij, by omega, e⟩
  have q := List.Nodup.length_le_of_subset (l₂ := List.range n) nd fun a ha => by
    rw [List.mem_map] at ha
    obtain ⟨i, _, rfl⟩ := ha
    exact List.mem_range.mpr (hw i)
  simp at q
  omega
theorem lt_two_pow : ∀ (n : Nat), n ≤ 2 ^ n
  | 0 => by decide
  | n + 1 => by
    have := lt_two_pow n
    have pos : 0 < 2 ^ n := Nat.pow_pos (by decide)
    rw [Nat.pow_succ]
    omega
/-- a begun row that isn't whole goes on -/
theorem goes_on {n : Nat} {os s : List Nat} (hp : (pairsOf os).all (pairIn n) = true) (hr : ((List.range n).all fun x => !ahead n (pairsOf os) x x) = true) (len : s.length < n) (lt : ∀ x ∈ s, x < n) :
    ∃ t, t < n ∧ mcn t s os = true := by
  refine Classical.byContradiction fun c => ?_
  have step : ∀ (t : Nat), t < n ∧ t ∉ s → ∃ a, (a < n ∧ a ∉ s) ∧ (a, t) ∈ pairsOf os := by
    intro t ht
    refine Classical.byContradiction fun d => ?_
    refine c ⟨t, ht.1, mcn_iff.mpr ⟨ht.2, fun y hy e => ?_⟩⟩
    refine Classical.byContradiction fun f => ?_
    have hn := List.all_eq_true.mp hp y hy
    simp [pairIn] at hn
    refine d ⟨y.1, ⟨hn.1.1, f⟩, ?_⟩
    have e2 : (y.1, t) = y := by rw [← e]
    rw [e2]
    exact hy
  have start : ∃ t, t < n ∧ t ∉ s := by
    refine Classical.byContradiction fun d => ?_
    have q := List.Nodup.length_le_of_subset (l₁ := List.range n) (l₂ := s) List.nodup_range fun a ha => by
      rw [List.mem_range] at ha
      refine Classical.byContradiction fun f => d ⟨a, ha, f⟩
    simp at q
    omega
  obtain ⟨t0, h0⟩ := start
  let T := { t : Nat // t < n ∧ t ∉ s }
  let nx : T → T := fun t => ⟨Classical.choose (step t.1 t.2), (Classical.choose_spec (step t.1 t.2)).1⟩
  have nxp : ∀ t : T, ((nx t).1, t.1) ∈ pairsOf os := fun t => (Classical.choose_spec (step t.1 t.2)).2
  let v : Nat → T := fun i => Nat.rec ⟨t0, h0⟩ (fun _ t => nx t) i
  have hv : ∀ i, v (i + 1) = nx (v i) := fun _ => rfl
  obtain ⟨i, j, hij, hj, e⟩ := twice (n := n) (w := fun i => (v i).1) fun i => (v i).2.1
  have q := walk_close (n := n) (ps := pairsOf os) (w := fun i => (v i).1) (fun i => (v i).2.1) (fun i => by show ((v (i + 1)).1, (v i).1) ∈ _; rw [hv]; exact nxp _) n i j hij (by have := lt_two_pow n; omega)
  have q' : ((v i).1, (v i).1) ∈ closeOn n (pairsOf os) n := by
    have e' : (v i).1 = (v j).1 := e
    have q2 : ((v j).1, (v i).1) ∈ closeOn n (pairsOf os) n := q
    rw [← e'] at q2
    exact q2
  have r := List.all_eq_true.mp hr (v i).1 (List.mem_range.mpr (v i).2.1)
  have : ahead n (pairsOf os) (v i).1 (v i).1 = true := by simpa [ahead, closed] using q'
  rw [this] at r
  simp at r
theorem lev_some {n : Nat} {os : List Nat} (hp : (pairsOf os).all (pairIn n) = true) (hr : ((List.range n).all fun x => !ahead n (pairsOf os) x x) = true) :
    ∀ (k : Nat) (s : List Nat), s.length + k = n → Good n (pairsOf os) s → ∃ r, r ∈ lev n os k [s]
  | 0, s, _, _ => ⟨s, by show s ∈ [s]; simp⟩
  | k + 1, s, h, G => by
    obtain ⟨t, h1, h2⟩ := goes_on (s := s) hp hr (by omega) G.lt
    obtain ⟨r, hr'⟩ := lev_some hp hr k (s ++ [t]) (by simp; omega) (G.snoc h1 h2)
    refine ⟨r, ?_⟩
    rw [lev_one, List.mem_flatMap]
    exact ⟨t, List.mem_filter.mpr ⟨List.mem_range.mpr h1, h2⟩, hr'⟩

/-! ### What is found is what is due -/
/-- either all is well, and what is found are the rows, of which there is one; or nothing is found, and it is to be refused -/
theorem found (n : Nat) (os : List Nat) :
    (∃ ps, readPairs os = some ps ∧ okOrder n ps = true ∧ findR n os = Kzx4.rows n ps ∧ findR n os ≠ [] ∧ 1 ≤ n ∧ n ≤ 6) ∨
    ((readPairs os = none ∨ ∃ ps, readPairs os = some ps ∧ okOrder n ps = false) ∧ findR n os = []) := by
  by_cases hn : n < 1 ∨ 6 < n
  · right
    refine ⟨?_, by unfold findR; rw [if_pos (hn.elim .inl fun z => .inr (.inl z))]⟩
    cases e : readPairs os with
    | none => exact .inl rfl
    | some ps =>
      refine .inr ⟨ps, rfl, ?_⟩
      unfold okOrder
      have : (decide (1 ≤ n) && decide (n ≤ 6)) = false := by
        rw [Bool.and_eq_false_iff]
        rcases hn with z | z
        · exact .inl (decide_eq_false (by omega))
        · exact .inr (decide_eq_false (by omega))
      rw [this]
      simp
  · by_cases he : os.length % 2 = 0
    · have er := readPairs_even os he
      by_cases hp : (pairsOf os).all (pairIn n) = true
      · have ha : areP n os = true := by unfold areP; rw [hp, he]; rfl
        have ef : findR n os = lev n os n [[]] := by
          unfold findR
          rw [if_neg]
          rintro (z | z | z)
          · exact hn (.inl z)
          · exact hn (.inr z)
          · rw [ha] at z; cases z
        have e6 : (decide (1 ≤ n) && decide (n ≤ 6)) = true := by
          rw [Bool.and_eq_true]
          exact ⟨decide_eq_true (by omega), decide_eq_true (by omega)⟩
        by_cases hr : ((List.range n).all fun x => !ahead n (pairsOf os) x x) = true
        · left
          obtain ⟨r, hr'⟩ := lev_some hp hr n [] (by simp) (good_nil n _)
          refine ⟨_, er, ?_, ?_, ?_, by omega, by omega⟩
          · unfold okOrder
            rw [e6, okPairs_eq, hp, hr]
            rfl
          · rw [ef, rows_lev n os hp]
          · rw [ef]
            intro z
            rw [z] at hr'
            simp at hr'
        · right
          refine ⟨.inr ⟨_, er, ?_⟩, ?_⟩
          · unfold okOrder
            rw [e6, okPairs_eq, hp]
            simpa using hr
          · rw [ef]
            refine List.eq_nil_iff_forall_not_mem.mpr fun r h => ?_
            exact hr (no_ring hp h)
      · right
        refine ⟨.inr ⟨_, er, ?_⟩, ?_⟩
        · unfold okOrder
          have : okPairs n (pairsOf os) = false := by rw [okPairs_eq]; simpa using hp
          rw [this]
          simp
        · unfold findR
          rw [if_pos]
          refine .inr (.inr ?_)
          unfold areP
          have : (pairsOf os).all (pairIn n) = false := by simpa using hp
          rw [this]
          simp
    · right
      refine ⟨.inl (readPairs_odd os he), ?_⟩
      unfold findR
      rw [if_pos]
      refine .inr (.inr ?_)
      unfold areP
      simp [he]
end Lo
namespace Lo
open Kzx4 (Order okPairs pairs closeOn closed ahead okOrder rowsOn place before readPairs often atPlace lowest withO)

/-! ### What is due where the order is to be refused, and where not -/
theorem due_with (n : Nat) (os : List Nat) (h : Order → Kzx1.Ans) (r : List Int)
    (h1 : ∀ ps, readPairs os = some ps → okOrder n ps = true → Kzx4.rows n ps = findR n os → findR n os ≠ [] → 1 ≤ n → n ≤ 6 → (h ps).value :: (h ps).nums = r) :
    (withO n os h).value :: (withO n os h).nums = if findR n os = [] then [-22] else r := by
  unfold Kzx4.withO
  rcases found n os with ⟨ps, a1, a2, a3, a4, a5, a6⟩ | ⟨q | ⟨ps, a1, a2⟩, a3⟩
  · rw [a1, if_neg a4]
    dsimp only
    rw [if_pos a2]
    exact h1 ps a1 a2 a3.symm a4 a5 a6
  · rw [q, if_pos a3]
    rfl
  · rw [a1, if_pos a3]
    dsimp only
    rw [a2, if_neg Bool.false_ne_true]
    rfl
theorem findR_good {n : Nat} {os r : List Nat} (h : r ∈ findR n os) : Good n (pairsOf os) r ∧ r.length = n := by
  unfold findR at h
  split at h
  · cases h
  · exact rows_good h
theorem findR_has {n : Nat} {os r : List Nat} (h : r ∈ findR n os) {x : Nat} (hx : x < n) : x ∈ r := by
  obtain ⟨G, len⟩ := findR_good h
  exact full G.nd G.lt len hx
theorem findR_n {n : Nat} {os : List Nat} (h : findR n os ≠ []) : n ≤ 6 := by
  refine Classical.byContradiction fun c => h ?_
  unfold findR
  rw [if_pos (.inr (.inl (by omega)))]

/-! ### Places -/
theorem place_get {r : List Nat} {x : Nat} (h : x ∈ r) : r[place r x]? = some x := by
  have q := place_lt h
  have e : (r[place r x] == x) = true := by
    unfold place at q ⊢
    exact List.findIdx_getElem (w := q)
  rw [List.getElem?_eq_getElem q]
  simpa using e
theorem place_ahead {r : List Nat} {x m z : Nat} (h : m < place r x) (hz : r[m]? = some z) : z ≠ x := by
  intro e
  subst e
  obtain ⟨h1, h2⟩ := List.getElem?_eq_some_iff.mp hz
  unfold place at h
  have q := List.not_of_lt_findIdx h
  rw [h2] at q
  simp at q
theorem at_place {r : List Nat} {x i : Nat} (nd : r.Nodup) (h : x ∈ r) : (r[i]? == some x) = (place r x == i) := by
  rw [Bool.eq_iff_iff]
  simp only [beq_iff_eq]
  constructor
  · intro e
    rcases Nat.lt_trichotomy (place r x) i with c | c | c
    · have p := place_get h
      obtain ⟨h1, h2⟩ := List.getElem?_eq_some_iff.mp p
      obtain ⟨h3, h4⟩ := List.getElem?_eq_some_iff.mp e
      have q := List.pairwise_iff_getElem.mp nd _ _ h1 h3 c
      rw [h2, h4] at q
      exact absurd rfl q
    · exact c
    · exact absurd rfl (place_ahead c e)
  · intro e
    subst e
    exact place_get h

/-! ### Different things -/
def diffP (n : Nat) (xs : List Nat) : Bool := xs.all fun t => decide (t < n) && decide (xs.count t ≤ 1)
theorem diff_one (n x : Nat) : diffP n [x] = !decide (n ≤ x) := by
  rw [Bool.eq_iff_iff]
  simp [diffP]
theorem count2 {x y : Nat} (h : x ≠ y) : ¬ y = x := fun e => h e.symm
theorem diff_two (n x y : Nat) : diffP n [x, y] = !decide (n ≤ x ∨ n ≤ y ∨ x = y) := by
  rw [Bool.eq_iff_iff]
  by_cases c : x = y
  · subst c
    simp [diffP]
  · have c' := count2 c
    simp [diffP, List.count_cons, c, c']
theorem diff_three (n x y z : Nat) : diffP n [x, y, z] = !decide (n ≤ x ∨ n ≤ y ∨ n ≤ z ∨ x = y ∨ x = z ∨ y = z) := by
  rw [Bool.eq_iff_iff]
  by_cases c : x = y
  · subst c
    simp [diffP, List.count_cons]
  by_cases d : x = z
  · subst d
    simp [diffP, List.count_cons, c]
  by_cases e : y = z
  · subst e
    simp [diffP, List.count_cons, c]
  have c' := count2 c
  have d' := count2 d
  have e' := count2 e
  simp [diffP, List.count_cons, c, d, e, c', d', e']

/-! ### Lowest terms -/
theorem lowest_eq {a b g : Nat} (hb : 0 < b) (h : g = Nat.gcd b a) : lowest a b = [((a / g : Nat) : Int), ((b / g : Nat) : Int)] := by
  have e : Nat.gcd a b = g := by rw [h, Nat.gcd_comm]
  have p : g ≠ 0 := by
    rw [h]
    intro z
    have := Nat.gcd_eq_zero_iff.mp z
    omega
  unfold lowest
  dsimp only
  rw [e, if_neg p]
theorem gcd_step {s r : Nat} : Nat.gcd r (s % r) = Nat.gcd s r := by
  rw [Nat.gcd_comm r, ← Nat.gcd_rec r s, Nat.gcd_comm]

/-! ### What is due -/
def aheadIn (rs : List (List Nat)) (x y : Nat) : List (List Nat) := rs.filter fun r => before r x y
def countAt (rs : List (List Nat)) (x i : Nat) : Nat := (rs.filter fun r => r[i]? == some x).length
theorem often_eq {n : Nat} {ps : Order} {os : List Nat} (h : Kzx4.rows n ps = findR n os) (p : List Nat → Bool) : often n ps p = ((findR n os).filter p).length := by
  unfold often
  rw [h]
theorem ahead_both (rs : List (List Nat)) (x y z : Nat) : aheadIn (aheadIn rs x y) x z = rs.filter fun r => before r x y && before r x z := by
  unfold aheadIn
  rw [List.filter_filter]
  refine List.filter_congr fun r _ => ?_
  rw [Bool.and_comm]
theorem atPlace_eq {n : Nat} {ps : Order} {os : List Nat} (h : Kzx4.rows n ps = findR n os) {x : Nat} (hx : x < n) : atPlace n ps x = (List.range n).map fun i => countAt (findR n os) x i := by
  unfold atPlace
  refine List.map_congr_left fun i _ => ?_
  rw [often_eq h]
  unfold countAt
  congr 1
  refine List.filter_congr fun r hr => ?_
  rw [at_place (findR_good hr).1.nd (findR_has hr hx)]
end Lo
namespace Lo
open Kzx4 (Order okPairs pairs closeOn closed ahead okOrder rowsOn place before readPairs)

/-! ### Ahead: by pairs, one behind another -/
/-- from a to b by m pairs -/
def way (ps : Order) : Nat → Nat → Nat → Prop
  | 0, a, b => a = b
  | m + 1, a, b => ∃ c, (a, c) ∈ ps ∧ way ps m c b
theorem way_split {ps : Order} : ∀ (i j a b : Nat), way ps (i + j) a b → ∃ c, way ps i a c ∧ way ps j c b
  | 0, j, a, b, h => by
    rw [Nat.zero_add] at h
    exact ⟨a, rfl, h⟩
  | i + 1, j, a, b, h => by
    rw [show i + 1 + j = (i + j) + 1 by omega] at h
    obtain ⟨c, h1, h2⟩ := h
    obtain ⟨d, h3, h4⟩ := way_split i j c b h2
    exact ⟨d, ⟨c, h1, h3⟩, h4⟩
theorem way_join {ps : Order} : ∀ (i j a b c : Nat), way ps i a c → way ps j c b → way ps (i + j) a b
  | 0, j, a, b, c, h1, h2 => by
    have e : a = c := h1
    subst e
    rw [Nat.zero_add]
    exact h2
  | i + 1, j, a, b, c, h1, h2 => by
    obtain ⟨d, h3, h4⟩ := h1
    rw [show i + 1 + j = (i + j) + 1 by omega]
    exact ⟨d, h3, way_join i j d b c h4 h2⟩
theorem way_rises {ps : Order} {f : Nat → Nat} (hf : ∀ y ∈ ps, f y.1 < f y.2) : ∀ (m a b : Nat), way ps m a b → f a + m ≤ f b
  | 0, a, b, h => by
    have e : a = b := h
    subst e
    exact Nat.le_refl _
  | m + 1, a, b, h => by
    obtain ⟨c, h1, h2⟩ := h
    have q := way_rises hf m c b h2
    have p : f a < f c := hf (a, c) h1
    omega
theorem way_lt {n : Nat} {ps : Order} (hp : ps.all (pairIn n) = true) : ∀ (m a b : Nat), 0 < m → way ps m a b → a < n ∧ b < n
  | 0, _, _, h, _ => absurd h (Nat.lt_irrefl 0)
  | m + 1, a, b, _, h => by
    obtain ⟨c, h1, h2⟩ := h
    have q := List.all_eq_true.mp hp (a, c) h1
    simp [pairIn] at q
    refine ⟨q.1.1, ?_⟩
    cases m with
    | zero =>
      have e : c = b := h2
      subst e
      exact q.1.2
    | succ m => exact (way_lt hp (m + 1) c b (Nat.succ_pos m) h2).2
theorem way_close {n : Nat} {ps : Order} (hp : ps.all (pairIn n) = true) : ∀ (k m a b : Nat), 0 < m → m ≤ 2 ^ k → way ps m a b → (a, b) ∈ closeOn n ps k
  | 0, m, a, b, h0, h1, h => by
    have e : m = 1 := by
      have : 2 ^ 0 = 1 := rfl
      omega
    subst e
    obtain ⟨c, h2, h3⟩ := h
    have e : c = b := h3
    subst e
    have q := List.all_eq_true.mp hp (a, c) h2
    simp [pairIn] at q
    show _ ∈ (pairs n).filter ps.contains
    rw [List.mem_filter, mem_pairs]
    exact ⟨⟨q.1.1, q.1.2⟩, by simpa using h2⟩
  | k + 1, m, a, b, h0, h1, h => by
    have ab := way_lt hp m a b h0 h
    show _ ∈ (pairs n).filter (fun z => (closeOn n ps k).contains z || (List.range n).any fun y => (closeOn n ps k).contains (z.1, y) && (closeOn n ps k).contains (y, z.2))
    rw [List.mem_filter, mem_pairs, Bool.or_eq_true]
    refine ⟨ab, ?_⟩
    by_cases c : m ≤ 2 ^ k
    · exact .inl (by simpa using way_close hp k m a b h0 c h)
    · have pos : 0 < 2 ^ k := Nat.pow_pos (by decide)
      have e : 2 ^ (k + 1) = 2 ^ k + 2 ^ k := by rw [Nat.pow_succ]; omega
      rw [show m = 2 ^ k + (m - 2 ^ k) by omega] at h
      obtain ⟨d, h2, h3⟩ := way_split _ _ _ _ h
      refine .inr ?_
      rw [List.any_eq_true]
      refine ⟨d, List.mem_range.mpr (way_lt hp _ a d pos h2).2, ?_⟩
      rw [Bool.and_eq_true]
      exact ⟨by simpa using way_close hp k _ a d pos (Nat.le_refl _) h2, by simpa using way_close hp k _ d b (by omega) (by omega) h3⟩
theorem close_way {n : Nat} {ps : Order} : ∀ (k : Nat) (z : Nat × Nat), z ∈ closeOn n ps k → ∃ m, 0 < m ∧ way ps m z.1 z.2
  | 0, z, h => by
    have h' : z ∈ (pairs n).filter ps.contains := h
    rw [List.mem_filter] at h'
    exact ⟨1, by decide, z.2, by simpa using h'.2, rfl⟩
  | k + 1, z, h => by
    have h' : z ∈ (pairs n).filter (fun z => (closeOn n ps k).contains z || (List.range n).any fun y => (closeOn n ps k).contains (z.1, y) && (closeOn n ps k).contains (y, z.2)) := h
    rw [List.mem_filter, Bool.or_eq_true] at h'
    cases h'.2 with
    | inl q => exact close_way k z (by simpa using q)
    | inr q =>
      rw [List.any_eq_true] at q
      obtain ⟨y, _, q⟩ := q
      rw [Bool.and_eq_true] at q
      obtain ⟨i, hi, a⟩ := close_way k (z.1, y) (by simpa using q.1)
      obtain ⟨j, hj, b⟩ := close_way k (y, z.2) (by simpa using q.2)
      exact ⟨i + j, by omega, way_join i j _ _ _ a b⟩
/-- a row keeps to every pair -/
theorem row_keeps {n : Nat} {os r : List Nat} (hp : (pairsOf os).all (pairIn n) = true) (h : r ∈ lev n os n [[]]) : ∀ y ∈ pairsOf os, place r y.1 < place r y.2 := by
  intro y hy
  obtain ⟨G, len⟩ := rows_good h
  have hn := List.all_eq_true.mp hp y hy
  simp [pairIn] at hn
  exact (G.has y hy (full G.nd G.lt len hn.1.2)).2
/-- where there's a row, ahead is: there's a way -/
theorem ahead_way {n : Nat} {os r : List Nat} (hp : (pairsOf os).all (pairIn n) = true) (h : r ∈ lev n os n [[]]) {x y : Nat} : ahead n (pairsOf os) x y = true ↔ ∃ m, 0 < m ∧ way (pairsOf os) m x y := by
  constructor
  · intro a
    have a' : (x, y) ∈ closeOn n (pairsOf os) n := by simpa [ahead, closed] using a
    exact close_way n (x, y) a'
  · rintro ⟨m, h0, w⟩
    have ab := way_lt hp m x y h0 w
    obtain ⟨G, len⟩ := rows_good h
    have q := way_rises (f := place r) (row_keeps hp h) m x y w
    have p := place_lt (full G.nd G.lt len ab.2)
    have e := lt_two_pow n
    have c := way_close hp n m x y h0 (by omega) w
    simpa [ahead, closed] using c

/-! ### What is not ahead may come behind -/
/-- a begun row goes on within what is asked first -/
theorem goes_in {n : Nat} {os s : List Nat} (hp : (pairsOf os).all (pairIn n) = true) (hr : ((List.range n).all fun x => !ahead n (pairsOf os) x x) = true) {D : Nat → Prop}
    (down : ∀ y ∈ pairsOf os, D y.2 → D y.1) {t0 : Nat} (d0 : D t0) (l0 : t0 < n) (n0 : t0 ∉ s) : ∃ t, t < n ∧ D t ∧ mcn t s os = true := by
  refine Classical.byContradiction fun c => ?_
  have step : ∀ (t : Nat), t < n ∧ t ∉ s ∧ D t → ∃ a, (a < n ∧ a ∉ s ∧ D a) ∧ (a, t) ∈ pairsOf os := by
    intro t ht
    refine Classical.byContradiction fun d => ?_
    refine c ⟨t, ht.1, ht.2.2, mcn_iff.mpr ⟨ht.2.1, fun y hy e => ?_⟩⟩
    refine Classical.byContradiction fun f => ?_
    have hn := List.all_eq_true.mp hp y hy
    simp [pairIn] at hn
    refine d ⟨y.1, ⟨hn.1.1, f, down y hy (by rw [e]; exact ht.2.2)⟩, ?_⟩
    have e2 : (y.1, t) = y := by rw [← e]
    rw [e2]
    exact hy
  let T := { t : Nat // t < n ∧ t ∉ s ∧ D t }
  let nx : T → T := fun t => ⟨Classical.choose (step t.1 t.2), (Classical.choose_spec (step t.1 t.2)).1⟩
  have nxp : ∀ t : T, ((nx t).1, t.1) ∈ pairsOf os := fun t => (Classical.choose_spec (step t.1 t.2)).2
  let v : Nat → T := fun i => Nat.rec ⟨t0, l0, n0, d0⟩ (fun _ t => nx t) i
  have hv : ∀ i, v (i + 1) = nx (v i) := fun _ => rfl
  obtain ⟨i, j, hij, hj, e⟩ := twice (n := n) (w := fun i => (v i).1) fun i => (v i).2.1
  have q := walk_close (n := n) (ps := pairsOf os) (w := fun i => (v i).1) (fun i => (v i).2.1) (fun i => by show ((v (i + 1)).1, (v i).1) ∈ _; rw [hv]; exact nxp _) n i j hij (by have := lt_two_pow n; omega)
  have q' : ((v i).1, (v i).1) ∈ closeOn n (pairsOf os) n := by
    have e' : (v i).1 = (v j).1 := e
    have q2 : ((v j).1, (v i).1) ∈ closeOn n (pairsOf os) n := q
    rw [← e'] at q2
    exact q2
  have r := List.all_eq_true.mp hr (v i).1 (List.mem_range.mpr (v i).2.1)
  have : ahead n (pairsOf os) (v i).1 (v i).1 = true := by simpa [ahead, closed] using q'
  rw [this] at r
  simp at r
theorem good_len {n : Nat} {ps : Order} {s : List Nat} (G : Good n ps s) : s.length ≤ n := by
  have q := List.Nodup.length_le_of_subset (l₂ := List.range n) G.nd fun a ha => List.mem_range.mpr (G.lt a ha)
  simpa using q
/-- a row in which all of D comes first, as far as to y -/
theorem row_in {n : Nat} {os : List Nat} (hp : (pairsOf os).all (pairIn n) = true) (hr : ((List.range n).all fun x => !ahead n (pairsOf os) x x) = true) {D : Nat → Prop}
    (down : ∀ y ∈ pairsOf os, D y.2 → D y.1) {y : Nat} (dy : D y) (hy : y < n) : ∀ (k : Nat) (s : List Nat), s.length + k = n → Good n (pairsOf os) s → (∀ t ∈ s, D t) → y ∉ s →
      ∃ (u r : List Nat), r ∈ lev n os k [s] ∧ u ++ [y] <+: r ∧ ∀ t ∈ u, D t
  | 0, s, h, G, _, ny => by
    exact absurd (full G.nd G.lt (by omega) hy) ny
  | k + 1, s, h, G, hd, ny => by
    obtain ⟨t, h1, h2, h3⟩ := goes_in hp hr down dy hy ny
    have G' := G.snoc h1 h3
    by_cases c : t = y
    · subst c
      obtain ⟨r, hr'⟩ := lev_some hp hr k (s ++ [t]) (by simp; omega) G'
      refine ⟨s, r, ?_, ?_, hd⟩
      · rw [lev_one, List.mem_flatMap]
        exact ⟨t, List.mem_filter.mpr ⟨List.mem_range.mpr h1, h3⟩, hr'⟩
      · exact lev_pre k (s ++ [t]) r hr'
    · obtain ⟨u, r, a1, a2, a3⟩ := row_in hp hr down dy hy k (s ++ [t]) (by simp; omega) G' (fun z hz => by
        rw [List.mem_append] at hz
        cases hz with
        | inl z1 => exact hd z z1
        | inr z1 => simp at z1; subst z1; exact h2) (fun z => by
        rw [List.mem_append] at z
        cases z with
        | inl z1 => exact ny z1
        | inr z1 => simp at z1; exact c z1.symm)
      refine ⟨u, r, ?_, a2, a3⟩
      rw [lev_one, List.mem_flatMap]
      exact ⟨t, List.mem_filter.mpr ⟨List.mem_range.mpr h1, h3⟩, a1⟩
where
  lev_pre : ∀ (k : Nat) (s r : List Nat), r ∈ lev n os k [s] → s <+: r
    | 0, s, r, h => by
      have h' : r ∈ [s] := h
      simp at h'
      subst h'
      exact List.prefix_refl _
    | k + 1, s, r, h => by
      rw [lev_one, List.mem_flatMap] at h
      obtain ⟨t, _, hr⟩ := h
      exact List.IsPrefix.trans (List.prefix_append s [t]) (lev_pre k (s ++ [t]) r hr)
theorem place_pre {u r : List Nat} {x y : Nat} (h : u ++ [y] <+: r) (hx : x ∉ u) (ne : x ≠ y) (m : x ∈ r) : place r y < place r x := by
  obtain ⟨v, e⟩ := h
  have g := place_get m
  refine Classical.byContradiction fun c => ?_
  have ly : place r y ≤ u.length := by
    refine Classical.byContradiction fun d => ?_
    refine place_ahead (r := r) (x := y) (m := u.length) (z := y) (by omega) ?_ rfl
    rw [← e]
    simp
  have lx : place r x < (u ++ [y]).length := by simp; omega
  rw [← e, List.getElem?_append_left (by rw [e]; exact lx), e] at g
  have mem := List.mem_of_getElem? g
  simp at mem
  rcases mem with z | z
  · exact hx z
  · exact ne z
/-- ahead is: ahead in every row -/
theorem ahead_rows {n : Nat} {os : List Nat} (hp : (pairsOf os).all (pairIn n) = true) (ne : lev n os n [[]] ≠ []) {x y : Nat} (hx : x < n) (hy : y < n) :
    ahead n (pairsOf os) x y = true ↔ ∀ r ∈ lev n os n [[]], place r x < place r y := by
  obtain ⟨r0, h0⟩ := List.exists_mem_of_ne_nil _ ne
  constructor
  · intro a r hr
    obtain ⟨m, h1, w⟩ := (ahead_way hp h0).mp a
    have q := way_rises (f := place r) (row_keeps hp hr) m x y w
    omega
  · intro h
    refine Classical.byContradiction fun c => ?_
    have nxy : x ≠ y := fun e => by
      have := h r0 h0
      rw [e] at this
      exact Nat.lt_irrefl _ this
    obtain ⟨u, r, a1, a2, a3⟩ := row_in (D := fun t => ∃ m, way (pairsOf os) m t y) hp (no_ring hp h0) (fun z hz ⟨m, w⟩ => ⟨m + 1, z.2, hz, w⟩) (y := y) ⟨0, rfl⟩ hy n [] (by simp) (good_nil n _) (by simp) (by simp)
    obtain ⟨G, len⟩ := rows_good a1
    have nu : x ∉ u := fun z => by
      obtain ⟨m, w⟩ := a3 x z
      cases m with
      | zero => exact nxy w
      | succ m => exact c ((ahead_way hp h0).mpr ⟨m + 1, Nat.succ_pos m, w⟩)
    have p := place_pre a2 nu nxy (full G.nd G.lt len hx)
    have q := h r a1
    omega
end Lo
namespace Lo
open Kzx4 (Order okPairs pairs closeOn closed ahead okOrder rowsOn place before readPairs often atPlace lowest withO free apart)

/-! ### Where there's a row -/
theorem findR_pairs {n : Nat} {os : List Nat} (h : findR n os ≠ []) : (pairsOf os).all (pairIn n) = true ∧ findR n os = lev n os n [[]] ∧ readPairs os = some (pairsOf os) := by
  by_cases c : n < 1 ∨ 6 < n ∨ areP n os = false
  · refine absurd ?_ h
    unfold findR
    rw [if_pos c]
  · have ha : areP n os = true := by
      cases e : areP n os with
      | false => exact absurd (.inr (.inr e)) c
      | true => rfl
    unfold areP at ha
    rw [Bool.and_eq_true] at ha
    refine ⟨ha.2, ?_, readPairs_even os (by simpa using ha.1)⟩
    unfold findR
    rw [if_neg c]
/-- in all of the rows -/
def surely (rs : List (List Nat)) (x y : Nat) : Bool := decide ((aheadIn rs x y).length = rs.length)
theorem surely_iff {rs : List (List Nat)} {x y : Nat} : surely rs x y = true ↔ ∀ r ∈ rs, place r x < place r y := by
  unfold surely aheadIn
  rw [decide_eq_true_iff, List.length_filter_eq_length_iff]
  simp [before]
theorem ahead_sure {n : Nat} {os : List Nat} (h : findR n os ≠ []) {x y : Nat} (hx : x < n) (hy : y < n) : ahead n (pairsOf os) x y = surely (findR n os) x y := by
  obtain ⟨a1, a2, a3⟩ := findR_pairs h
  rw [Bool.eq_iff_iff, surely_iff, a2]
  exact ahead_rows a1 (by rw [← a2]; exact h) hx hy

/-! ### The places together -/
def heightIn (rs : List (List Nat)) (x : Nat) : Nat := (rs.map fun l => place l x + 1).foldl (· + ·) 0
theorem height_eq {n : Nat} {ps : Order} {os : List Nat} (h : Kzx4.rows n ps = findR n os) (x : Nat) : Kzx4.height n ps x = heightIn (findR n os) x := by
  unfold Kzx4.height heightIn
  rw [h]
theorem fold_sum : ∀ (l : List Nat) (a : Nat), ((l.foldl (· + ·) a : Nat) : Int) = (a : Int) + (l.map fun (x : Nat) => (x : Int)).sum
  | [], a => by simp
  | x :: l, a => by
    rw [List.foldl_cons, fold_sum l (a + x), List.map_cons, List.sum_cons]
    omega
theorem height_sum (rs : List (List Nat)) (x : Nat) : (rs.map fun r => ((place r x + 1 : Nat) : Int)).sum = ((heightIn rs x : Nat) : Int) := by
  unfold heightIn
  rw [fold_sum, List.map_map]
  simp only [Function.comp_def]
  omega

/-! ### The nearest to a half -/
def offH (rs : List (List Nat)) (y : Nat × Nat) : Nat := apart (2 * (aheadIn rs y.1 y.2).length) rs.length
def stepN (rs : List (List Nat)) (s : Option (Nat × Nat) × Nat) (y : Nat × Nat) : Option (Nat × Nat) × Nat := if offH rs y < s.2 then (some y, offH rs y) else s
def innN (rs : List (List Nat)) (x k : Nat) (s : Option (Nat × Nat) × Nat) : Option (Nat × Nat) × Nat := (List.range k).foldl (fun s j => stepN rs s (x, x + 1 + j)) s
def outN (rs : List (List Nat)) (n i : Nat) : Option (Nat × Nat) × Nat := (List.range i).foldl (fun s x => innN rs x (n - (x + 1)) s) (none, rs.length)
theorem innN_succ (rs : List (List Nat)) (x k : Nat) (s : Option (Nat × Nat) × Nat) : innN rs x (k + 1) s = stepN rs (innN rs x k s) (x, x + 1 + k) := by
  unfold innN
  rw [List.range_succ, List.foldl_append]
  rfl
theorem outN_succ (rs : List (List Nat)) (n i : Nat) : outN rs n (i + 1) = innN rs i (n - (i + 1)) (outN rs n i) := by
  unfold outN
  rw [List.range_succ, List.foldl_append]
  rfl
/-- all two things, the lesser first -/
def twos (n : Nat) : List (Nat × Nat) := (List.range n).flatMap fun x => (List.range (n - (x + 1))).map fun j => (x, x + 1 + j)
theorem outN_twos (rs : List (List Nat)) (n : Nat) : outN rs n n = (twos n).foldl (stepN rs) (none, rs.length) := by
  unfold outN twos innN
  rw [List.foldl_flatMap]
  congr 1
  funext s x
  rw [List.foldl_map]
theorem mem_twos {n : Nat} {y : Nat × Nat} (h : y ∈ twos n) : y.1 < y.2 ∧ y.2 < n := by
  unfold twos at h
  rw [List.mem_flatMap] at h
  obtain ⟨x, hx, h⟩ := h
  rw [List.mem_map] at h
  obtain ⟨j, hj, rfl⟩ := h
  rw [List.mem_range] at hx hj
  constructor
  · show x < x + 1 + j
    omega
  · show x + 1 + j < n
    omega
def isFree (n : Nat) (ps : Order) (y : Nat × Nat) : Bool := !ahead n ps y.1 y.2 && !ahead n ps y.2 y.1
theorem free_twos (n : Nat) (ps : Order) : free n ps = (twos n).filter (isFree n ps) := by
  unfold free twos
  rw [List.filter_flatMap]
  rw [List.flatMap_def, List.flatMap_def]
  congr 1
  refine List.map_congr_left fun x hx => ?_
  rw [List.mem_range] at hx
  have e : List.range n = List.range (x + 1) ++ (List.range (n - (x + 1))).map fun j => x + 1 + j := by
    have q := List.range_add (n := x + 1) (m := n - (x + 1))
    rw [show x + 1 + (n - (x + 1)) = n by omega] at q
    exact q
  rw [e, List.filter_append]
  have e0 : (List.range (x + 1)).filter (fun y => decide (x < y) && !ahead n ps x y && !ahead n ps y x) = [] := by
    rw [List.filter_eq_nil_iff]
    intro y hy
    rw [List.mem_range] at hy
    have : ¬ x < y := by omega
    simp [this]
  rw [e0, List.nil_append, List.filter_map, List.filter_map, List.map_map]
  have ef : (List.range (n - (x + 1))).filter ((fun y => decide (x < y) && !ahead n ps x y && !ahead n ps y x) ∘ fun j => x + 1 + j) = (List.range (n - (x + 1))).filter (isFree n ps ∘ fun j => (x, x + 1 + j)) := by
    refine List.filter_congr fun j _ => ?_
    have : x < x + 1 + j := by omega
    simp [isFree, this]
  rw [ef]
  rfl
/-- one of two must come ahead: just so far off; neither: nearer -/
theorem off_facts {n : Nat} {os : List Nat} (h : findR n os ≠ []) {y : Nat × Nat} (hy : y ∈ twos n) :
    (isFree n (pairsOf os) y = true → offH (findR n os) y < (findR n os).length) ∧ (isFree n (pairsOf os) y = false → offH (findR n os) y = (findR n os).length) := by
  obtain ⟨h1, h2⟩ := mem_twos hy
  have hx : y.1 < n := by omega
  obtain ⟨r0, hr0⟩ := List.exists_mem_of_ne_nil _ h
  have hpos : 0 < (findR n os).length := List.length_pos_iff.mpr h
  have ne : ∀ r ∈ findR n os, place r y.1 ≠ place r y.2 := fun r hr e => by
    have p1 := place_get (findR_has hr hx)
    have p2 := place_get (findR_has hr h2)
    rw [e, p2] at p1
    have := Option.some.inj p1
    omega
  have le : (aheadIn (findR n os) y.1 y.2).length ≤ (findR n os).length := List.length_filter_le _ _
  unfold isFree offH apart
  rw [ahead_sure h hx h2, ahead_sure h h2 hx]
  constructor
  · intro q
    rw [Bool.and_eq_true] at q
    have q1 : ¬ surely (findR n os) y.1 y.2 = true := by simpa using q.1
    have q2 : ¬ surely (findR n os) y.2 y.1 = true := by simpa using q.2
    have l1 : (aheadIn (findR n os) y.1 y.2).length ≠ (findR n os).length := fun e => q1 (by unfold surely; exact decide_eq_true e)
    have l2 : 0 < (aheadIn (findR n os) y.1 y.2).length := by
      refine Classical.byContradiction fun c => q2 (surely_iff.mpr fun r hr => ?_)
      have z : aheadIn (findR n os) y.1 y.2 = [] := List.eq_nil_of_length_eq_zero (by omega)
      have nb : ¬ before r y.1 y.2 = true := by
        unfold aheadIn at z
        exact List.filter_eq_nil_iff.mp z r hr
      unfold before at nb
      rw [decide_eq_true_iff] at nb
      have := ne r hr
      omega
    omega
  · intro q
    rw [Bool.and_eq_false_iff] at q
    rcases q with q | q
    · have q1 : surely (findR n os) y.1 y.2 = true := by simpa using q
      have l1 : (aheadIn (findR n os) y.1 y.2).length = (findR n os).length := of_decide_eq_true q1
      omega
    · have q1 : surely (findR n os) y.2 y.1 = true := by simpa using q
      have l1 : (aheadIn (findR n os) y.1 y.2).length = 0 := by
        rw [List.length_eq_zero_iff]
        unfold aheadIn
        rw [List.filter_eq_nil_iff]
        intro r hr
        have := surely_iff.mp q1 r hr
        unfold before
        rw [decide_eq_true_iff]
        omega
      omega
def stepS (rs : List (List Nat)) (v : Option (Nat × Nat)) (y : Nat × Nat) : Option (Nat × Nat) := match v with
  | none => some y
  | some z => if offH rs y < offH rs z then some y else v
theorem split_fold {n : Nat} {ps : Order} {os : List Nat} (h : Kzx4.rows n ps = findR n os) : Kzx4.split n ps = (free n ps).foldl (stepS (findR n os)) none := by
  have ef : (fun w : Nat × Nat => apart (2 * often n ps fun l => before l w.1 w.2) (Kzx4.rows n ps).length) = offH (findR n os) := by
    funext w
    rw [often_eq h, h]
    rfl
  unfold Kzx4.split
  congr 1
  funext v y
  cases v with
  | none => rfl
  | some z =>
    show (if _ < _ then _ else _) = (if _ < _ then _ else _)
    rw [ef]
/-- what is held while two after two is looked at -/
def heldN (rs : List (List Nat)) (s : Option (Nat × Nat) × Nat) : Prop := match s.1 with
  | none => s.2 = rs.length
  | some z => s.2 = offH rs z ∧ offH rs z < rs.length
theorem fold_near {rs : List (List Nat)} {fr : Nat × Nat → Bool} : ∀ (l : List (Nat × Nat)) (s : Option (Nat × Nat) × Nat),
    (∀ y ∈ l, (fr y = true → offH rs y < rs.length) ∧ (fr y = false → offH rs y = rs.length)) → heldN rs s →
    (l.filter fr).foldl (stepS rs) s.1 = (l.foldl (stepN rs) s).1
  | [], _, _, _ => rfl
  | y :: l, s, hl, hs => by
    obtain ⟨f1, f2⟩ := hl y List.mem_cons_self
    have hl' : ∀ y ∈ l, (fr y = true → offH rs y < rs.length) ∧ (fr y = false → offH rs y = rs.length) := fun z hz => hl z (List.mem_cons_of_mem _ hz)
    rw [List.foldl_cons]
    obtain ⟨v, m⟩ := s
    cases e : fr y with
    | false =>
      have q := f2 e
      have es : stepN rs (v, m) y = (v, m) := by
        unfold stepN
        rw [if_neg]
        show ¬ offH rs y < m
        cases v with
        | none =>
          have hs' : m = rs.length := hs
          omega
        | some z =>
          have hs' : m = offH rs z ∧ offH rs z < rs.length := hs
          omega
      rw [List.filter_cons_of_neg (by rw [e]; exact Bool.false_ne_true), es]
      exact fold_near l (v, m) hl' hs
    | true =>
      have q := f1 e
      rw [List.filter_cons_of_pos e, List.foldl_cons]
      cases v with
      | none =>
        have hs' : m = rs.length := hs
        have es : stepN rs (none, m) y = (some y, offH rs y) := by
          unfold stepN
          rw [if_pos]
          show offH rs y < m
          omega
        rw [es]
        exact fold_near l (some y, offH rs y) hl' ⟨rfl, q⟩
      | some z =>
        have hs' : m = offH rs z ∧ offH rs z < rs.length := hs
        obtain ⟨rfl, hz⟩ := hs'
        by_cases c : offH rs y < offH rs z
        · have es : stepN rs (some z, offH rs z) y = (some y, offH rs y) := by
            unfold stepN
            rw [if_pos c]
          have e1 : stepS rs (some z) y = some y := by
            unfold stepS
            dsimp only
            rw [if_pos c]
          rw [es]
          show (l.filter fr).foldl (stepS rs) (stepS rs (some z) y) = _
          rw [e1]
          exact fold_near l (some y, offH rs y) hl' ⟨rfl, q⟩
        · have es : stepN rs (some z, offH rs z) y = (some z, offH rs z) := by
            unfold stepN
            rw [if_neg c]
          have e1 : stepS rs (some z) y = some z := by
            unfold stepS
            dsimp only
            rw [if_neg c]
          rw [es]
          show (l.filter fr).foldl (stepS rs) (stepS rs (some z) y) = _
          rw [e1]
          exact fold_near l (some z, offH rs z) hl' ⟨rfl, hz⟩
def nearN (n : Nat) (rs : List (List Nat)) : Option (Nat × Nat) := (outN rs n n).1
theorem split_near {n : Nat} {os : List Nat} (h : Kzx4.rows n (pairsOf os) = findR n os) (ne : findR n os ≠ []) : Kzx4.split n (pairsOf os) = nearN n (findR n os) := by
  rw [split_fold h, free_twos]
  unfold nearN
  rw [outN_twos]
  exact fold_near (twos n) (none, (findR n os).length) (fun y hy => off_facts ne hy) rfl
/-- what is held, for two in the midst -/
theorem step_in {n : Nat} {rs : List (List Nat)} {s : Option (Nat × Nat) × Nat} {y : Nat × Nat} (hs : ∀ z, s.1 = some z → z.1 < n ∧ z.2 < n) (h1 : y.1 < n) (h2 : y.2 < n) : ∀ z, (stepN rs s y).1 = some z → z.1 < n ∧ z.2 < n := by
  intro z e
  unfold stepN at e
  split at e
  · have := Option.some.inj e
    subst this
    exact ⟨h1, h2⟩
  · exact hs z e
theorem inn_in {n : Nat} {rs : List (List Nat)} {s : Option (Nat × Nat) × Nat} {x : Nat} (hs : ∀ z, s.1 = some z → z.1 < n ∧ z.2 < n) : ∀ (k : Nat), k ≤ n - (x + 1) → ∀ z, (innN rs x k s).1 = some z → z.1 < n ∧ z.2 < n
  | 0, _ => hs
  | k + 1, h => by
    rw [innN_succ]
    exact step_in (inn_in hs k (by omega)) (show x < n by omega) (show x + 1 + k < n by omega)
theorem out_in {n : Nat} {rs : List (List Nat)} : ∀ (i : Nat), ∀ z, (outN rs n i).1 = some z → z.1 < n ∧ z.2 < n
  | 0 => fun z e => by cases e
  | i + 1 => by
    rw [outN_succ]
    exact inn_in (out_in i) _ (Nat.le_refl _)
/-- the two as a list -/
def nearL : Option (Nat × Nat) → List Nat
  | none => []
  | some y => [y.1, y.2]
theorem off_int (a b : Nat) : (if 2 * (a : Int) - (b : Int) < 0 then -(2 * (a : Int) - (b : Int)) else 2 * (a : Int) - (b : Int)) = ((apart (2 * a) b : Nat) : Int) := by
  unfold apart
  split <;> omega
end Lo
namespace Lo
open PySem
def top (i : Nat) : Stmt := PySem.Challenge.pw_likelyorders_s07_height.main.body.getD i (.Pass ⟨0, 0, 0, 0⟩)
abbrev sAns : Stmt := top 4
abbrev sFind : Stmt := top 5
abbrev sAre : Stmt := top 6
abbrev sLbo : Stmt := top 7
abbrev sMcn : Stmt := top 8
abbrev sDiff : Stmt := top 9
abbrev sLow : Stmt := top 10
end Lo
/-! ### Heaps and lists -/
namespace Lo
open PySem PySem.Spec PyProof.Rows L2
open PySem.W (Codec)
/-- a list of natural numbers as values -/
def nv (l : List Nat) : List V := l.map fun (x : Nat) => V.int (x : Int)
theorem nv_len (l : List Nat) : (nv l).length = l.length := List.length_map _
theorem nv_append (l m : List Nat) : nv (l ++ m) = nv l ++ nv m := List.map_append
theorem nv_get {l : List Nat} {i x : Nat} (h : l[i]? = some x) : (nv l)[i]? = some (V.int (x : Int)) := by
  unfold nv
  rw [List.getElem?_map, h]
  rfl
theorem nv_flat : ∀ (l : List Nat), (nv l).all flatV = true
  | [] => rfl
  | _ :: l => nv_flat l
theorem inV_nv (t : Nat) : ∀ (l : List Nat), inV (V.int (t : Int)) (nv l) = l.contains t
  | [] => rfl
  | x :: l => by
    show ((((x : Nat) : Int) == ((t : Nat) : Int)) || inV (V.int (t : Int)) (nv l)) = _
    rw [inV_nv t l, List.contains_cons]
    congr 1
    rw [Bool.eq_iff_iff]
    simp only [beq_iff_eq]
    omega
theorem same_new {H : Hp} {p : Addr} (h : H p = none) (o : HO) : Same H (upd H p o) := fun b u q => by rw [upd_ne (ne_of_none q h)]; exact q
theorem small6 {n : Nat} (h : n ≤ 100000) : n < sizeLine := Nat.lt_of_le_of_lt h (by decide)
theorem range2 (len : Nat) (h : len ≤ 1000) : RgC 0 ((len : Nat) : Int) 2 ((len + 1) / 2) := by
  have e : Builtin.Range.rangeSize 0 ((len : Nat) : Int) 2 = (((len + 1) / 2 : Nat) : Int) := by
    unfold Builtin.Range.rangeSize
    simp only [show (2 : Int) > 0 by decide, if_true]
    split <;> omega
  refine ⟨by decide, by decide, ?_, e⟩
  have fits : ∀ z : Int, -100000 ≤ z → z ≤ 100000 → Builtin.Range.rangeFitsLong z = true := fun z h1 h2 => by
    unfold Builtin.Range.rangeFitsLong
    rw [decide_eq_true (by omega), decide_eq_true (by omega)]
    rfl
  unfold Builtin.Range.small
  rw [e, if_pos (show (2 : Int) > 0 by decide), fits 0 (by omega) (by omega), fits (len : Int) (by omega) (by omega), fits 2 (by omega) (by omega), fits (((len + 1) / 2 : Nat) : Int) (by omega) (by omega), fits ((len : Int) + (2 - 1)) (by omega) (by omega)]
  simp
/-- at as stand rows -/
structure Al (H : Hp) (as : List Addr) (rs : List (List Nat)) : Prop where
  len : as.length = rs.length
  at_ : ∀ (i : Nat) (c : Addr), as[i]? = some c → ∃ r, rs[i]? = some r ∧ H c = some (.lst (nv r))
theorem Al.same {H H' : Hp} {as : List Addr} {rs : List (List Nat)} (s : Same H H') (A : Al H as rs) : Al H' as rs :=
  ⟨A.len, fun i c h => by obtain ⟨r, h1, h2⟩ := A.at_ i c h; exact ⟨r, h1, s _ _ h2⟩⟩
theorem Al.put {H : Hp} {as : List Addr} {rs : List (List Nat)} {q : Addr} {o : HO} (h : q ∉ as) (A : Al H as rs) : Al (upd H q o) as rs :=
  ⟨A.len, fun i c hc => by
    obtain ⟨r, h1, h2⟩ := A.at_ i c hc
    refine ⟨r, h1, ?_⟩
    rw [upd_ne (show c ≠ q from fun e => h (by rw [← e]; exact List.mem_of_getElem? hc))]
    exact h2⟩
theorem Al.snoc {H : Hp} {as : List Addr} {rs : List (List Nat)} {c : Addr} {r : List Nat} (A : Al H as rs) (h : H c = some (.lst (nv r))) : Al H (as ++ [c]) (rs ++ [r]) := by
  refine ⟨by simp [A.len], fun i d hd => ?_⟩
  by_cases hi : i < as.length
  · rw [List.getElem?_append_left hi] at hd
    obtain ⟨r', h1, h2⟩ := A.at_ i d hd
    refine ⟨r', ?_, h2⟩
    rw [List.getElem?_append_left (by rw [← A.len]; exact hi)]
    exact h1
  · rw [List.getElem?_append_right (by omega)] at hd
    have e : i = as.length := by
      have := (List.getElem?_eq_some_iff.mp hd).1
      simp at this
      omega
    subst e
    simp at hd
    subst hd
    refine ⟨r, ?_, h⟩
    rw [List.getElem?_append_right (by rw [A.len]; exact Nat.le_refl _), A.len]
    simp
theorem Al.nil (H : Hp) : Al H [] [] := ⟨rfl, fun i c h => by simp at h⟩
/-- at p stands a list of rows -/
def RowsAt (H : Hp) (p : Addr) (rs : List (List Nat)) : Prop := ∃ as : List Addr, H p = some (.lst (as.map V.ref)) ∧ Al H as rs
theorem RowsAt.same {H H' : Hp} {p : Addr} {rs : List (List Nat)} (s : Same H H') : RowsAt H p rs → RowsAt H' p rs
  | ⟨as, h, A⟩ => ⟨as, s _ _ h, A.same s⟩

/-! ### More of the mirror: sizes, one thing more -/
def extTo (j : Nat) (os row : List Nat) : List (List Nat) := ((List.range j).filter fun t => mcn t row os).map fun t => row ++ [t]
theorem extTo_yes {j : Nat} {os row : List Nat} (h : mcn j row os = true) : extTo (j + 1) os row = extTo j os row ++ [row ++ [j]] := by
  unfold extTo
  rw [List.range_succ, List.filter_append, List.map_append]
  simp [h]
theorem extTo_no {j : Nat} {os row : List Nat} (h : mcn j row os = false) : extTo (j + 1) os row = extTo j os row := by
  unfold extTo
  rw [List.range_succ, List.filter_append, List.map_append]
  simp [h]
theorem extTo_len (j : Nat) (os row : List Nat) : (extTo j os row).length ≤ j := by
  unfold extTo
  rw [List.length_map]
  refine Nat.le_trans (List.length_filter_le _ _) ?_
  simp
theorem lbo_len (n : Nat) (os : List Nat) : ∀ (s : List (List Nat)), (lbo n os s).length ≤ s.length * n
  | [] => by simp [lbo]
  | r :: s => by
    have e : lbo n os (r :: s) = ext n os r ++ lbo n os s := by simp [lbo]
    rw [e, List.length_append, List.length_cons, Nat.succ_mul]
    have := lbo_len n os s
    have := extTo_len n os r
    unfold extTo at this
    unfold ext
    omega
theorem lbo_snoc (n : Nat) (os : List Nat) (s : List (List Nat)) (r : List Nat) : lbo n os (s ++ [r]) = lbo n os s ++ extTo n os r := by
  unfold lbo
  rw [List.flatMap_append]
  simp [ext, extTo]
theorem lev_out (n : Nat) (os : List Nat) : ∀ (k : Nat) (s : List (List Nat)), lev n os (k + 1) s = lbo n os (lev n os k s)
  | 0, _ => rfl
  | k + 1, s => lev_out n os k (lbo n os s)
theorem lev_len {n : Nat} {os : List Nat} (hn : n ≤ 6) : ∀ (k : Nat), (lev n os k [[]]).length ≤ 6 ^ k
  | 0 => by simp [lev]
  | k + 1 => by
    rw [lev_out]
    refine Nat.le_trans (lbo_len n os _) ?_
    rw [Nat.pow_succ]
    exact Nat.mul_le_mul (lev_len hn k) hn
theorem lev_each {n : Nat} {os r : List Nat} {k : Nat} (h : r ∈ lev n os k [[]]) : r.length = k := by
  have := (lev_good k [] r (good_nil n _) h).2
  simpa using this
theorem pairs_take {os : List Nat} {i a b : Nat} (h1 : os[2 * i]? = some a) (h2 : os[2 * i + 1]? = some b) : (pairsOf os).take (i + 1) = (pairsOf os).take i ++ [(a, b)] := by
  rw [List.take_add_one, pairsOf_get os i a b h1 h2]
  rfl
theorem all_snoc {α : Type} {l : List α} {x : α} {p : α → Bool} (h1 : l.all p = true) (h2 : p x = true) : (l ++ [x]).all p = true := by
  rw [List.all_append, h1]
  simp [h2]
theorem all_break {os : List Nat} {i a b : Nat} {p : Nat × Nat → Bool} (h1 : os[2 * i]? = some a) (h2 : os[2 * i + 1]? = some b) (h : p (a, b) = false) : (pairsOf os).all p = false := by
  rw [Bool.eq_false_iff]
  intro c
  have q := List.all_eq_true.mp c (a, b) (List.mem_of_getElem? (pairsOf_get os i a b h1 h2))
  rw [h] at q
  cases q
theorem pairs_all {os : List Nat} {p : Nat × Nat → Bool} (he : os.length % 2 = 0) (h : ((pairsOf os).take ((os.length + 1) / 2)).all p = true) : (pairsOf os).all p = true := by
  rw [List.take_of_length_le (by rw [pairsOf_len]; omega)] at h
  exact h

/-! ### The promises -/
/-- o, an order's numbers, at a -/
structure Ord (K : PySem.W.Frag) (H : Hp) (a : Addr) (os : List Nat) : Prop where
  sq : SqL K H a (nv os)
  most : os.length ≤ 40
theorem Ord.same {K : PySem.W.Frag} {H H' : Hp} {a : Addr} {os : List Nat} (O : Ord K H a os) (s : Same H H') : Ord K H' a os := ⟨s.seq O.sq, O.most⟩
def spMcn (K : PySem.W.Frag) : Sp := fun vs H Q _ => ∃ (t : Nat) (r a : Addr) (row os : List Nat), vs = [.int (t : Int), .ref r, .ref a] ∧ SqL K H r (nv row) ∧ Ord K H a os ∧ os.length % 2 = 0 ∧ Q (.bl (mcn t row os)) H
def spAre (K : PySem.W.Frag) : Sp := fun vs H Q _ => ∃ (n : Nat) (a : Addr) (os : List Nat), vs = [.int (n : Int), .ref a] ∧ Ord K H a os ∧ Q (.bl (areP n os)) H
def spLbo (K : PySem.W.Frag) : Sp := fun vs H Q _ => ∃ (n : Nat) (a b : Addr) (os : List Nat) (begun : List (List Nat)), vs = [.int (n : Int), .ref a, .ref b] ∧ Ord K H a os ∧ os.length % 2 = 0 ∧ n ≤ 6 ∧ RowsAt H b begun ∧ begun.length ≤ 7776 ∧ (∀ r ∈ begun, r.length ≤ 6) ∧
  ∀ (H' : Hp) (p : Addr), Same H H' → RowsAt H' p (lbo n os begun) → Q (.ref p) H'
def spFind (K : PySem.W.Frag) : Sp := fun vs H Q _ => ∃ (n : Nat) (a : Addr) (os : List Nat), vs = [.int (n : Int), .ref a] ∧ Ord K H a os ∧
  ∀ (H' : Hp) (p : Addr), Same H H' → RowsAt H' p (findR n os) → Q (.ref p) H'

section
variable {P : Program} {w : World} {K : PySem.W.Frag} {mg : Str → Option Value} {base : Heap}
/-! ### may_come_next -/
theorem scM : FnScope ["thing", "row", "o", "k"] ["thing", "row", "o"] (defScope sMcn) := ⟨rfl, rfl, rfl, by decide +kernel, rfl, by decide +kernel, by decide +kernel⟩
theorem ok_mcn {f : Addr} {fd : FuncData} (F : Fun K "may_come_next" "may_come_next" sMcn f fd) (ml : mg "len" = none) (mr : mg "range" = none) : FnOk P w K mg base CX0 1 f fd ["thing", "row", "o"] (spMcn K) := by
  refine F.ok scM (fun vs H Q E h => ?_) (fun cdv A outer s H vs Q E hr h => ?_)
  · obtain ⟨t, r, a, row, os, rfl, _⟩ := h
    rfl
  obtain ⟨t, r, a, row, os, rfl, hR, O, he, q⟩ := h
  refine ⟨_, pss_cons (ps_if (pt_cmpR op_in_seq (pv 0) (pv 1) (by with_unfolding_all rfl)) (pss_one (ps_ret pe_bl)) pss_nil)
    (pss_cons (ps_for PassesOwn.never rfl (pi_range3 rfl mr (pa_cons pe_int (pa_cons (pe_callB call_len_seq rfl ml PySem.boot_len (pa_cons (pv 2) pa_nil)) (pa_cons pe_int pa_nil)))) (pg_name (i := 3) scM.nd rfl (Or.inl rfl))
      (pss_one (ps_if (PW.pt (pw_and (pt_cmpR op_eq (pe_ix ix_list (pv 2) (pe_op op_add (pv 3) pe_int) (fun _ _ => rfl)) (pv 0) (nomark _)) (pw_and1 (pt_cmpR op_notIn_seq (pe_ix ix_list (pv 2) (pv 3) (fun _ _ => rfl)) (pv 1) (by with_unfolding_all rfl)))))
        (pss_one (ps_ret pe_bl)) pss_nil)))
    (pss_one (ps_ret pe_bl))), ?_⟩
  -- thing in row
  refine ⟨_, rfl, _, rfl, r, _, rfl, .inl hR, rfl, nv_flat row, _, rfl, ?_⟩
  refine ite2 (fun c => ?_) (fun c => ?_)
  · have c' : row.contains t = true := by rw [← inV_nv]; exact c
    have e : mcn t row os = false := by unfold mcn; rw [c']; rfl
    rw [e] at q
    exact q
  have c' : row.contains t = false := by rw [← inV_nv]; exact Bool.eq_false_iff.mpr c
  refine ⟨_, rfl, a, _, rfl, .inl O.sq, 0, _, 2, (os.length + 1) / 2, rfl, ?_, ?_⟩
  · rw [nv_len]
    exact range2 _ (Nat.le_trans O.most (by decide))
  refine for_rangeC (fun i σ H' => ∃ v : Option V, σ = [some (.int (t : Int)), some (.ref r), some (.ref a), v] ∧ H' = H ∧ ((pairsOf os).take i).all (pairOk t row) = true) ⟨none, rfl, rfl, rfl⟩ ?_ ?_
  · rintro i σ H' hi ⟨v, rfl, rfl, ih⟩
    have h1 : 2 * i < os.length := by omega
    have h2 : 2 * i + 1 < os.length := by omega
    obtain ⟨x, hx⟩ : ∃ x, os[2 * i]? = some x := ⟨_, List.getElem?_eq_getElem h1⟩
    obtain ⟨y, hy⟩ : ∃ y, os[2 * i + 1]? = some y := ⟨_, List.getElem?_eq_getElem h2⟩
    refine ⟨_, rfl, _, rfl, _, _, rfl, rfl, a, _, _, _, rfl, rfl, O.sq, at_of (j := 2 * i + 1) (by omega) (nv_get hy), _, rfl, rfl, _, rfl, ?_⟩
    refine ite2 (fun c2 => ?_) (fun c2 => ?_)
    · have ey : y = t := by
        have z : V.int (y : Int) = V.int (t : Int) := of_decide_eq_true c2
        injection z with z
        omega
      refine ⟨_, rfl, _, rfl, a, _, _, _, rfl, rfl, O.sq, at_of (j := 2 * i) (by omega) (nv_get hx), _, rfl, r, _, rfl, .inl hR, rfl, nv_flat row, _, rfl, ?_⟩
      refine ite2 (fun c3 => ?_) (fun c3 => ?_)
      · have c4 : row.contains x = false := by
          have z : (!inV (V.int (x : Int)) (nv row)) = true := c3
          rw [inV_nv] at z
          simpa using z
        have e : (pairsOf os).all (pairOk t row) = false := all_break hx hy (by unfold pairOk; rw [ey, c4]; simp)
        have e2 : mcn t row os = false := by unfold mcn; rw [e]; simp
        rw [e2] at q
        exact q
      · have c4 : row.contains x = true := by
          have z : ¬ (!inV (V.int (x : Int)) (nv row)) = true := c3
          rw [inV_nv] at z
          simpa using z
        refine ⟨_, rfl, rfl, ?_⟩
        rw [pairs_take hx hy]
        exact all_snoc ih (by unfold pairOk; rw [c4]; simp)
    · have ey : y ≠ t := by
        intro z
        subst z
        exact c2 (decide_eq_true rfl)
      refine iteF ?_
      refine ⟨_, rfl, rfl, ?_⟩
      rw [pairs_take hx hy]
      exact all_snoc ih (by unfold pairOk; simp [ey])
  · rintro σ H' ⟨v, rfl, rfl, ih⟩
    have e : mcn t row os = true := by unfold mcn; rw [c', pairs_all he ih]; rfl
    rw [e] at q
    exact q
/-! ### are_pairs -/
theorem scA : FnScope ["n", "o", "k"] ["n", "o"] (defScope sAre) := ⟨rfl, rfl, rfl, by decide +kernel, rfl, by decide +kernel, by decide +kernel⟩
theorem ok_are {f : Addr} {fd : FuncData} (F : Fun K "are_pairs" "are_pairs" sAre f fd) (ml : mg "len" = none) (mr : mg "range" = none) : FnOk P w K mg base CX0 1 f fd ["n", "o"] (spAre K) := by
  refine F.ok scA (fun vs H Q E h => ?_) (fun cdv A outer s H vs Q E hr h => ?_)
  · obtain ⟨n, a, os, rfl, _⟩ := h
    rfl
  obtain ⟨n, a, os, rfl, O, q⟩ := h
  refine ⟨_, pss_cons (ps_if (pt_cmpR op_eq (pe_op op_mod (pe_callB call_len_seq rfl ml PySem.boot_len (pa_cons (pv 1) pa_nil)) pe_int) pe_int (nomark _)) (pss_one (ps_ret pe_bl)) pss_nil)
    (pss_cons (ps_for PassesOwn.never rfl (pi_range3 rfl mr (pa_cons pe_int (pa_cons (pe_callB call_len_seq rfl ml PySem.boot_len (pa_cons (pv 1) pa_nil)) (pa_cons pe_int pa_nil)))) (pg_name (i := 2) scA.nd rfl (Or.inl rfl))
      (pss_one (ps_if (PW.pt (pw_or (pt_cmpR op_ge (pe_ix ix_list (pv 1) (pv 2) (fun _ _ => rfl)) (pv 0) (nomark _)) (pw_or (pt_cmpR op_ge (pe_ix ix_list (pv 1) (pe_op op_add (pv 2) pe_int) (fun _ _ => rfl)) (pv 0) (nomark _)) (pw_or1 (pt_cmpR op_eq (pe_ix ix_list (pv 1) (pv 2) (fun _ _ => rfl)) (pe_ix ix_list (pv 1) (pe_op op_add (pv 2) pe_int) (fun _ _ => rfl)) (nomark _))))))
        (pss_one (ps_ret pe_bl)) pss_nil)))
    (pss_one (ps_ret pe_bl))), ?_⟩
  refine ⟨_, rfl, a, _, rfl, .inl O.sq, _, _, rfl, rfl, (by show (0 : Int) < 2; decide), rfl, _, rfl, ?_⟩
  refine ite2 (fun c => ?_) (fun c => ?_)
  · have c' : os.length % 2 ≠ 0 := by
      have z : V.int ((((nv os).length : Nat) : Int) % 2) = V.int 1 := of_decide_eq_true c
      rw [nv_len] at z
      injection z with z
      omega
    have e : areP n os = false := by unfold areP; simp [c']
    rw [e] at q
    exact q
  have he : os.length % 2 = 0 := by
    refine Classical.byContradiction fun d => c (decide_eq_true ?_)
    rw [nv_len]
    refine congrArg V.int ?_
    omega
  refine ⟨_, rfl, a, _, rfl, .inl O.sq, 0, _, 2, (os.length + 1) / 2, rfl, ?_, ?_⟩
  · rw [nv_len]
    exact range2 _ (Nat.le_trans O.most (by decide))
  refine for_rangeC (fun i σ H' => ∃ v : Option V, σ = [some (.int (n : Int)), some (.ref a), v] ∧ H' = H ∧ ((pairsOf os).take i).all (pairIn n) = true) ⟨none, rfl, rfl, rfl⟩ ?_ ?_
  · rintro i σ H' hi ⟨v, rfl, rfl, ih⟩
    have h1 : 2 * i < os.length := by omega
    have h2 : 2 * i + 1 < os.length := by omega
    obtain ⟨x, hx⟩ : ∃ x, os[2 * i]? = some x := ⟨_, List.getElem?_eq_getElem h1⟩
    obtain ⟨y, hy⟩ : ∃ y, os[2 * i + 1]? = some y := ⟨_, List.getElem?_eq_getElem h2⟩
    have bad : pairIn n (x, y) = false → Q (.bl false) H' := fun hb => by
      have e : (pairsOf os).all (pairIn n) = false := all_break hx hy hb
      have e2 : areP n os = false := by unfold areP; rw [e]; simp
      rw [e2] at q
      exact q
    refine ⟨_, rfl, _, rfl, a, _, _, _, rfl, rfl, O.sq, at_of (j := 2 * i) (by omega) (nv_get hx), _, rfl, _, _, rfl, rfl, _, rfl, ?_⟩
    refine ite2 (fun c2 => ?_) (fun c2 => ?_)
    · have z : ((n : Nat) : Int) ≤ (x : Int) := of_decide_eq_true c2
      refine iteT ?_
      exact bad (by unfold pairIn; simp; omega)
    have z2 : ¬ ((n : Nat) : Int) ≤ (x : Int) := of_decide_eq_false (Bool.eq_false_iff.mpr c2)
    refine ⟨_, rfl, _, rfl, _, _, rfl, rfl, a, _, _, _, rfl, rfl, O.sq, at_of (j := 2 * i + 1) (by omega) (nv_get hy), _, rfl, _, _, rfl, rfl, _, rfl, ?_⟩
    refine ite2 (fun c3 => ?_) (fun c3 => ?_)
    · have z : ((n : Nat) : Int) ≤ (y : Int) := of_decide_eq_true c3
      refine iteT ?_
      exact bad (by unfold pairIn; simp; omega)
    have z3 : ¬ ((n : Nat) : Int) ≤ (y : Int) := of_decide_eq_false (Bool.eq_false_iff.mpr c3)
    refine ⟨_, rfl, _, rfl, a, _, _, _, rfl, rfl, O.sq, at_of (j := 2 * i) (by omega) (nv_get hx), _, rfl, _, rfl, _, _, rfl, rfl, a, _, _, _, rfl, rfl, O.sq, at_of (j := 2 * i + 1) (by omega) (nv_get hy), rfl, _, rfl, ?_⟩
    refine ite2 (fun c4 => ?_) (fun c4 => ?_)
    · have z : V.int (x : Int) = V.int (y : Int) := of_decide_eq_true c4
      injection z with z
      exact bad (by unfold pairIn; simp; omega)
    · have ne : x ≠ y := by
        intro z
        subst z
        exact c4 (decide_eq_true rfl)
      refine ⟨_, rfl, rfl, ?_⟩
      rw [pairs_take hx hy]
      exact all_snoc ih (by unfold pairIn; simp; omega)
  · rintro σ H' ⟨v, rfl, rfl, ih⟩
    have e : areP n os = true := by unfold areP; rw [pairs_all he ih, he]; rfl
    rw [e] at q
    exact q
/-! ### longer_by_one -/
theorem scL : FnScope ["n", "o", "begun", "longer", "row", "thing"] ["n", "o", "begun"] (defScope sLbo) := ⟨rfl, rfl, rfl, by decide +kernel, rfl, by decide +kernel, by decide +kernel⟩
theorem ok_lbo {f fM : Addr} {fd fdM : FuncData} (F : Fun K "longer_by_one" "longer_by_one" sLbo f fd) (GM : FnOk P w K mg base CX0 1 fM fdM ["thing", "row", "o"] (spMcn K)) (bM : Binds K fdM ["thing", "row", "o"] []) (kM : PySem.W.keepIn K (.ref fM) = true) (gM : mg "may_come_next" = some (.ref fM))
    (mr : mg "range" = none) : FnOk P w K mg base CX0 2 f fd ["n", "o", "begun"] (spLbo K) := by
  refine F.ok scL (fun vs H Q E h => ?_) (fun cdv A outer s H vs Q E hr h => ?_)
  · obtain ⟨n, a, b, os, begun, rfl, _⟩ := h
    rfl
  obtain ⟨n, a, b, os, begun, rfl, O, he, hn, ⟨as, hb, AB⟩, hlen, hrow, k⟩ := h
  refine ⟨_, pss_cons (ps_set (i := 3) scL.nd rfl (Or.inl rfl) (pe_lst pa_nil))
    (pss_cons (ps_for PassesOwn.never rfl (pi_list (pv 2)) (pg_name (i := 4) scL.nd rfl (Or.inl rfl))
      (pss_one (ps_for PassesOwn.never rfl (pi_range1 rfl mr (pa_cons (pv 0) pa_nil)) (pg_name (i := 5) scL.nd rfl (Or.inl rfl))
        (pss_one (ps_if (pt_val (pe_call GM hr rfl gM kM bM .nil pass0 (pa_cons (pv 5) (pa_cons (pv 4) (pa_cons (pv 1) pa_nil)))))
          (pss_one (ps_expr (pe_bm PySem.F.plainAttrs_list PySem.F.slot_list_append PySem.F.type_list_append mt_append (pv 3) (pa_cons (pe_op op_cat (pv 4) (pe_lst (pa_cons (pv 5) pa_nil))) pa_nil)))) pss_nil)))))
    (pss_one (ps_ret (pv 3)))), ?_⟩
  -- longer = []
  refine ⟨Nat.zero_le _, fun q hq => ?_⟩
  have s0 : Same H (upd H q (.lst [])) := same_new hq _
  have notq : ∀ c ∈ as, c ≠ q := fun c hc e => by
    obtain ⟨i, hi⟩ := List.getElem?_of_mem hc
    obtain ⟨r, _, h2⟩ := AB.at_ i c hi
    rw [e, hq] at h2
    cases h2
  -- for row in begun
  refine ⟨_, rfl, b, rfl, ⟨_, SqL.of (s0 _ _ hb)⟩, for_list (K := K) (a := b) (xs := as.map V.ref)
    (fun i σ H' => ∃ (v4 v5 : Option V) (bs : List Addr), σ = [some (.int (n : Int)), some (.ref a), some (.ref b), some (.ref q), v4, v5] ∧ Same H H' ∧ q ∉ bs ∧ H' q = some (.lst (bs.map V.ref)) ∧ Al H' bs (lbo n os (begun.take i)))
    ⟨none, none, [], rfl, s0, by simp, upd_same, Al.nil _⟩ (fun i σ H' _ ⟨_, _, _, _, s1, _, _, _⟩ => SqL.of (s1 _ _ hb)) ?_ ?_⟩
  · rintro i y σ H' hi ⟨v4, v5, bs, rfl, s1, nq, hq', AL⟩
    obtain ⟨c, hc, rfl⟩ : ∃ c, as[i]? = some c ∧ y = V.ref c := by
      rw [List.getElem?_map] at hi
      cases e : as[i]? with
      | none => rw [e] at hi; cases hi
      | some c => rw [e] at hi; exact ⟨c, rfl, (Option.some.inj hi).symm⟩
    obtain ⟨row, hr1, hr2⟩ := AB.at_ i c hc
    have hil : i < begun.length := (List.getElem?_eq_some_iff.mp hr1).1
    have et : begun.take (i + 1) = begun.take i ++ [row] := by rw [List.take_add_one, hr1]; rfl
    have hrl : row.length ≤ 6 := hrow row (List.mem_of_getElem? hr1)
    have blen : (lbo n os (begun.take i)).length ≤ 7776 * 6 := by
      refine Nat.le_trans (lbo_len n os _) ?_
      refine Nat.mul_le_mul ?_ hn
      rw [List.length_take]
      omega
    -- for thing in range(n)
    refine ⟨_, rfl, (n : Int), rfl, (by omega), (by omega), ?_⟩
    rw [show ((n : Nat) : Int).toNat = n from Int.toNat_natCast n]
    refine for_range (fun j σ H' => ∃ (v5 : Option V) (bs : List Addr), σ = [some (.int (n : Int)), some (.ref a), some (.ref b), some (.ref q), some (.ref c), v5] ∧ Same H H' ∧ q ∉ bs ∧ H' q = some (.lst (bs.map V.ref)) ∧ Al H' bs (lbo n os (begun.take i) ++ extTo j os row))
      ⟨v5, bs, rfl, s1, nq, hq', by rw [show extTo 0 os row = [] from rfl, List.append_nil]; exact AL⟩ ?_ ?_
    · rintro j σ H1 hj ⟨v5', bs1, rfl, s2, nq1, hq1, AL1⟩
      have ej : (0 : Int) + ((j : Nat) : Int) = ((j : Nat) : Int) := by omega
      rw [ej]
      refine ⟨_, rfl, _, rfl, _, rfl, j, c, a, row, os, rfl, s2.seq (SqL.of hr2), O.same s2, he, _, rfl, ?_⟩
      refine ite2 (fun m1 => ?_) (fun m1 => ?_)
      · -- longer.append(row + [thing])
        refine ⟨_, rfl, .inl ⟨rfl, _, SqL.of hq1⟩, _, rfl, _, rfl, (by show 1 ≤ sizeLine; decide), fun p hp => ?_⟩
        have s3 : Same H1 (upd H1 p (.lst [V.int (j : Int)])) := same_new hp _
        have l1 : ([V.int (j : Int)] : List V).length = 1 := rfl
        refine ⟨c, p, _, _, rfl, rfl, s3 _ _ (s2 _ _ hr2), upd_same, ?_, fun d hd => ?_⟩
        · rw [nv_len, l1]
          exact Nat.le_of_lt (small6 (by omega))
        have s4 : Same H1 (upd (upd H1 p (.lst [V.int (j : Int)])) d (.lst (nv row ++ [V.int (j : Int)]))) := s3.trans (same_new hd _)
        have ndq : d ≠ q := fun e => by
          rw [e, s3 _ _ hq1] at hd
          cases hd
        have AL2 := AL1.same s4
        have hq2 := s4 _ _ hq1
        have hlen1 := AL1.len
        refine ⟨q, _, _, rfl, rfl, hq2, ?_, ?_⟩
        · rw [List.length_map, hlen1, List.length_append]
          have := extTo_len j os row
          exact small6 (by omega)
        refine ⟨_, bs1 ++ [d], rfl, ?_, ?_, ?_, ?_⟩
        · intro b' o' e'
          rw [upd_ne (ne_of_none e' hq)]
          exact s4 _ _ (s2 _ _ e')
        · simp only [List.mem_append, List.mem_singleton, not_or]
          exact ⟨nq1, fun e => ndq e.symm⟩
        · rw [upd_same, List.map_append]
          rfl
        · have e1 : extTo (j + 1) os row = extTo j os row ++ [row ++ [j]] := extTo_yes m1
          rw [e1, ← List.append_assoc]
          refine Al.snoc (AL2.put nq1) ?_
          rw [upd_ne ndq, upd_same, nv_append]
          rfl
      · refine ⟨_, bs1, rfl, s2, nq1, hq1, ?_⟩
        rw [extTo_no (Bool.eq_false_iff.mpr m1)]
        exact AL1
    · rintro σ H1 ⟨v5', bs1, rfl, s2, nq1, hq1, AL1⟩
      refine ⟨_, _, bs1, rfl, s2, nq1, hq1, ?_⟩
      rw [et, lbo_snoc]
      exact AL1
  · rintro σ H' ⟨v4, v5, bs, rfl, s1, nq, hq', AL⟩
    rw [List.length_map, AB.len, List.take_length] at AL
    exact ⟨_, rfl, k H' q s1 ⟨bs, hq', AL⟩⟩
/-! ### find_rows -/
theorem scF : FnScope ["n", "o", "begun", "place"] ["n", "o"] (defScope sFind) := ⟨rfl, rfl, rfl, by decide +kernel, rfl, by decide +kernel, by decide +kernel⟩
theorem ok_find {f fA fL : Addr} {fd fdA fdL : FuncData} {tM : Tok} (F : Fun K "find_rows" "find_rows" sFind f fd)
    (GA : FnOk P w K mg base CX0 1 fA fdA ["n", "o"] (spAre K)) (bA : Binds K fdA ["n", "o"] []) (kA : PySem.W.keepIn K (.ref fA) = true) (gA : mg "are_pairs" = some (.ref fA))
    (GL : FnOk P w K mg base CX0 2 fL fdL ["n", "o", "begun"] (spLbo K)) (bL : Binds K fdL ["n", "o", "begun"] []) (kL : PySem.W.keepIn K (.ref fL) = true) (gL : mg "longer_by_one" = some (.ref fL))
    (mM : mg "MOST_THINGS" = some (.int 6 tM)) (mr : mg "range" = none) : FnOk P w K mg base CX0 3 f fd ["n", "o"] (spFind K) := by
  refine F.ok scF (fun vs H Q E h => ?_) (fun cdv A outer s H vs Q E hr h => ?_)
  · obtain ⟨n, a, os, rfl, _⟩ := h
    rfl
  obtain ⟨n, a, os, rfl, O, k⟩ := h
  refine ⟨_, pss_cons (ps_if (PW.pt (pw_or (pt_cmpR op_lt (pv 0) pe_int (nomark _)) (pw_or (pt_cmpR op_gt (pv 0) (pe_glob (v := .int 6) rfl mM ⟨_, rfl⟩) (nomark _)) (pw_or1 (pt_not (pt_val (pe_call GA (hr.mono (by decide)) rfl gA kA bA .nil pass0 (pa_cons (pv 0) (pa_cons (pv 1) pa_nil)))))))))
      (pss_one (ps_ret (pe_lst pa_nil))) pss_nil)
    (pss_cons (ps_set (i := 2) scF.nd rfl (Or.inl rfl) (pe_lst (pa_cons (pe_lst pa_nil) pa_nil)))
    (pss_cons (ps_for PassesOwn.never rfl (pi_range1 rfl mr (pa_cons (pv 0) pa_nil)) (pg_name (i := 3) scF.nd rfl (Or.inl rfl))
      (pss_one (ps_set (i := 2) scF.nd rfl (Or.inl rfl) (pe_call GL hr rfl gL kL bL .nil pass0 (pa_cons (pv 0) (pa_cons (pv 1) (pa_cons (pv 2) pa_nil)))))))
    (pss_one (ps_ret (pv 2))))), ?_⟩
  have none_ : findR n os = [] → ∀ p, H p = none → Q (.ref p) (upd H p (.lst [])) := fun e p hp => by
    refine k _ p (same_new hp _) ⟨[], upd_same, ?_⟩
    rw [e]
    exact Al.nil _
  refine ⟨_, rfl, _, _, rfl, rfl, _, rfl, ?_⟩
  refine ite2 (fun c1 => ?_) (fun c1 => ?_)
  · have z : ((n : Nat) : Int) < 1 := of_decide_eq_true c1
    refine iteT ?_
    refine ⟨Nat.zero_le _, fun p hp => none_ ?_ p hp⟩
    unfold findR
    rw [if_pos (.inl (by omega))]
  have z1 : ¬ ((n : Nat) : Int) < 1 := of_decide_eq_false (Bool.eq_false_iff.mpr c1)
  refine ⟨_, rfl, _, _, rfl, rfl, _, rfl, ?_⟩
  refine ite2 (fun c2 => ?_) (fun c2 => ?_)
  · have z : (6 : Int) < ((n : Nat) : Int) := of_decide_eq_true c2
    refine iteT ?_
    refine ⟨Nat.zero_le _, fun p hp => none_ ?_ p hp⟩
    unfold findR
    rw [if_pos (.inr (.inl (by omega)))]
  have z2 : ¬ (6 : Int) < ((n : Nat) : Int) := of_decide_eq_false (Bool.eq_false_iff.mpr c2)
  refine ⟨_, rfl, _, rfl, n, a, os, rfl, O, _, rfl, ?_⟩
  refine ite2 (fun c3 => ?_) (fun c3 => ?_)
  · have z : areP n os = false := by simpa using c3
    refine ⟨Nat.zero_le _, fun p hp => none_ ?_ p hp⟩
    unfold findR
    rw [if_pos (.inr (.inr z))]
  have ha : areP n os = true := by simpa using c3
  have he : os.length % 2 = 0 := by
    unfold areP at ha
    rw [Bool.and_eq_true] at ha
    simpa using ha.1
  have ef : findR n os = lev n os n [[]] := by
    unfold findR
    rw [if_neg]
    rintro (z | z | z)
    · omega
    · omega
    · rw [ha] at z; cases z
  have hn : n ≤ 6 := by omega
  -- begun = [[]]
  refine ⟨Nat.zero_le _, fun p hp => ?_⟩
  refine ⟨(by show 1 ≤ sizeLine; decide), fun p2 hp2 => ?_⟩
  have s1 : Same H (upd H p (.lst [])) := same_new hp _
  have s2 : Same (upd H p (.lst [])) (upd (upd H p (.lst [])) p2 (.lst [V.ref p])) := same_new hp2 _
  refine ⟨_, rfl, (n : Int), rfl, (by omega), (by omega), ?_⟩
  rw [show ((n : Nat) : Int).toNat = n from Int.toNat_natCast n]
  refine for_range (fun i σ H' => ∃ (v3 : Option V) (b : Addr), σ = [some (.int (n : Int)), some (.ref a), some (.ref b), v3] ∧ Same H H' ∧ RowsAt H' b (lev n os i [[]]))
    ⟨none, p2, rfl, s1.trans s2, [p], upd_same, ?_⟩ ?_ ?_
  · have e := (Al.nil (upd (upd H p (.lst [])) p2 (.lst [V.ref p]))).snoc (c := p) (r := []) (s2 _ _ upd_same)
    exact e
  · rintro i σ H' hi ⟨v3, b, rfl, s3, R⟩
    refine ⟨_, rfl, _, rfl, _, rfl, n, a, b, os, _, rfl, O.same s3, he, hn, R, ?_, ?_, fun H2 b2 s4 R2 => ?_⟩
    · refine Nat.le_trans (lev_len hn i) ?_
      refine Nat.le_trans (Nat.pow_le_pow_right (by decide) (show i ≤ 5 by omega)) (by decide)
    · intro r hr'
      rw [lev_each hr']
      omega
    · refine ⟨_, b2, rfl, s3.trans s4, ?_⟩
      rw [lev_out]
      exact R2
  · rintro σ H' ⟨v3, b, rfl, s3, R⟩
    refine ⟨_, rfl, k H' b s3 ?_⟩
    rw [ef]
    exact R
end
end Lo
namespace Lo
open PySem PySem.Spec PyProof.Rows L2
open PySem.W (Codec)
theorem nats_back (os : List Nat) : Kzx4Neutral.natsOf (os.map fun (x : Nat) => (x : Int)) = os := by
  unfold Kzx4Neutral.natsOf
  rw [List.map_map]
  induction os with
  | nil => rfl
  | cons x r ih => rw [List.map_cons, ih]; rfl
/-- a list of numbers from 0 up -/
theorem of_ints : ∀ (l : List Int), (∀ x ∈ l, 0 ≤ x) → ∃ os : List Nat, l = os.map fun (x : Nat) => (x : Int)
  | [], _ => ⟨[], rfl⟩
  | x :: l, h => by
    obtain ⟨os, e⟩ := of_ints l fun y hy => h y (List.mem_cons_of_mem _ hy)
    refine ⟨x.toNat :: os, ?_⟩
    rw [List.map_cons, ← e]
    congr 1
    have := h x List.mem_cons_self
    omega
theorem nv_map (os : List Nat) : (os.map fun (x : Nat) => (x : Int)).map V.int = nv os := by
  unfold nv
  rw [List.map_map]
  rfl
end Lo
namespace Lo
open PySem PySem.Spec PyProof.Rows L2
open PySem.W (Codec)
theorem is_empty {as : List Addr} {rs : List (List Nat)} (e : as.length = rs.length) (c : decide (V.int (((as.map V.ref).length : Nat) : Int) = V.int 0) = true) : rs = [] := by
  have z : V.int (((as.map V.ref).length : Nat) : Int) = V.int 0 := of_decide_eq_true c
  rw [List.length_map, e] at z
  injection z with z
  exact List.eq_nil_of_length_eq_zero (by omega)
theorem not_empty {as : List Addr} {rs : List (List Nat)} (e : as.length = rs.length) (c : ¬ decide (V.int (((as.map V.ref).length : Nat) : Int) = V.int 0) = true) : rs ≠ [] := by
  intro z
  refine c (decide_eq_true ?_)
  rw [List.length_map, e, z]
  rfl
theorem ref_get {as : List Addr} {i : Nat} {y : V} (h : (as.map V.ref)[i]? = some y) : ∃ c, as[i]? = some c ∧ y = V.ref c := by
  rw [List.getElem?_map] at h
  cases e : as[i]? with
  | none => rw [e] at h; cases h
  | some c => rw [e] at h; exact ⟨c, rfl, (Option.some.inj h).symm⟩
theorem nv_of {l : List Nat} {i : Nat} {y : V} (h : (nv l)[i]? = some y) : ∃ t, l[i]? = some t ∧ y = V.int (t : Int) := by
  unfold nv at h
  rw [List.getElem?_map] at h
  cases e : l[i]? with
  | none => rw [e] at h; cases h
  | some c => rw [e] at h; exact ⟨c, rfl, (Option.some.inj h).symm⟩
theorem findR_len {n : Nat} {os : List Nat} : (findR n os).length ≤ 46656 := by
  unfold findR
  split
  · exact Nat.zero_le _
  · rename_i h
    have hn : n ≤ 6 := by
      refine Classical.byContradiction fun c => h (.inr (.inl (by omega)))
    refine Nat.le_trans (lev_len hn n) ?_
    exact Nat.le_trans (Nat.pow_le_pow_right (by decide) hn) (by decide)
theorem count_cast (t : Nat) : ∀ (l : List Nat), (l.map fun (x : Nat) => (x : Int)).count (t : Int) = l.count t
  | [] => rfl
  | x :: l => by
    rw [List.map_cons, List.count_cons, List.count_cons, count_cast t l]
    have e : (((x : Nat) : Int) == ((t : Nat) : Int)) = (x == t) := by
      rw [Bool.eq_iff_iff]
      simp only [beq_iff_eq]
      omega
    rw [e]
theorem eq_at {r : List Nat} {x : Nat} : eqV (V.int (x : Int)) (V.int (x : Int)) = true := by
  show ((x : Int) == (x : Int)) = true
  simp
theorem no_ahead {r : List Nat} {x : Nat} : ∀ (m : Nat) (z' : V), m < Kzx4.place r x → (nv r)[m]? = some z' → eqV z' (V.int (x : Int)) = false := by
  intro m z' hm hz
  obtain ⟨t, ht, rfl⟩ := nv_of hz
  have q := place_ahead hm ht
  show ((t : Int) == (x : Int)) = false
  rw [Bool.eq_false_iff]
  simp only [ne_eq, beq_iff_eq]
  omega
/-- a list that is put anew where nothing stood -/
theorem same_put {H H' : Hp} {D : Addr} {o : HO} (s : Same H H') (h : H D = none) : Same H (upd H' D o) := fun b u q => by
  rw [upd_ne (ne_of_none q h)]
  exact s _ _ q
theorem take_snoc {α : Type} {l : List α} {i : Nat} {x : α} (h : l[i]? = some x) : l.take (i + 1) = l.take i ++ [x] := by
  rw [List.take_add_one, h]
  rfl
end Lo
namespace Lo
open PySem PySem.Spec PyProof.Rows L2
open PySem.W (Codec)
/-! ### are_different_things -/
def spDiff (K : PySem.W.Frag) : Sp := fun vs H Q _ => ∃ (n : Nat) (p : Addr) (xs : List Nat), vs = [.int (n : Int), .ref p] ∧ SqL K H p (nv xs) ∧ Q (.bl (diffP n xs)) H
def diffOk (n : Nat) (xs : List Nat) (t : Nat) : Bool := decide (t < n) && decide (xs.count t ≤ 1)
section
variable {P : Program} {w : World} {K : PySem.W.Frag} {mg : Str → Option Value} {base : Heap}
theorem scD : FnScope ["n", "chosen", "thing"] ["n", "chosen"] (defScope sDiff) := ⟨rfl, rfl, rfl, by decide +kernel, rfl, by decide +kernel, by decide +kernel⟩
theorem ok_diff {f : Addr} {fd : FuncData} (F : Fun K "are_different_things" "are_different_things" sDiff f fd) : FnOk P w K mg base CX0 1 f fd ["n", "chosen"] (spDiff K) := by
  refine F.ok scD (fun vs H Q E h => ?_) (fun cdv A outer s H vs Q E hr h => ?_)
  · obtain ⟨n, p, xs, rfl, _⟩ := h
    rfl
  obtain ⟨n, p, xs, rfl, hS, q⟩ := h
  refine ⟨_, pss_cons (ps_for PassesOwn.never rfl (pi_list (pv 1)) (pg_name (i := 2) scD.nd rfl (Or.inl rfl))
      (pss_one (ps_if (PW.pt (pw_or (pt_cmpR op_ge (pv 2) (pv 0) (nomark _)) (pw_or1 (pt_cmpR op_gt (pe_bm PySem.F.plainAttrs_list PySem.F.slot_list_count PySem.F.type_list_count mt_lcount (pv 1) (pa_cons (pv 2) pa_nil)) pe_int (nomark _)))))
        (pss_one (ps_ret pe_bl)) pss_nil)))
    (pss_one (ps_ret pe_bl)), ?_⟩
  refine ⟨_, rfl, p, rfl, ⟨_, hS⟩, for_list (K := K) (a := p) (xs := nv xs)
    (fun i σ H' => ∃ v : Option V, σ = [some (.int (n : Int)), some (.ref p), v] ∧ H' = H ∧ (xs.take i).all (diffOk n xs) = true) ⟨none, rfl, rfl, rfl⟩ (fun i σ H' _ ⟨_, _, e, _⟩ => by rw [e]; exact hS) ?_ ?_⟩
  · rintro i y σ H' hi ⟨v, rfl, rfl, ih⟩
    obtain ⟨t, ht, rfl⟩ := nv_of hi
    have bad : diffOk n xs t = false → Q (.bl false) H' := fun hb => by
      have e : diffP n xs = false := by
        rw [Bool.eq_false_iff]
        intro c
        have z := List.all_eq_true.mp c t (List.mem_of_getElem? ht)
        have hb' : (decide (t < n) && decide (xs.count t ≤ 1)) = false := hb
        rw [hb'] at z
        cases z
      rw [e] at q
      exact q
    refine ⟨_, rfl, _, rfl, _, _, rfl, rfl, _, rfl, ?_⟩
    refine ite2 (fun c => ?_) (fun c => ?_)
    · have z : ((n : Nat) : Int) ≤ ((t : Nat) : Int) := of_decide_eq_true c
      refine iteT ?_
      refine bad ?_
      unfold diffOk
      rw [decide_eq_false (show ¬ t < n by omega)]
      rfl
    have z : ¬ ((n : Nat) : Int) ≤ ((t : Nat) : Int) := of_decide_eq_false (Bool.eq_false_iff.mpr c)
    have hS' : SqL K H' p ((xs.map fun (x : Nat) => (x : Int)).map V.int) := by rw [nv_map]; exact hS
    refine ⟨_, rfl, .inl ⟨rfl, _, hS⟩, _, rfl, p, _, _, rfl, rfl, hS', _, _, rfl, rfl, _, rfl, ?_⟩
    rw [count_cast]
    refine ite2 (fun c2 => ?_) (fun c2 => ?_)
    · have z2 : (1 : Int) < ((xs.count t : Nat) : Int) := of_decide_eq_true c2
      refine bad ?_
      unfold diffOk
      rw [decide_eq_false (show ¬ xs.count t ≤ 1 by omega)]
      simp
    · have z2 : ¬ (1 : Int) < ((xs.count t : Nat) : Int) := of_decide_eq_false (Bool.eq_false_iff.mpr c2)
      refine ⟨_, rfl, rfl, ?_⟩
      rw [take_snoc ht]
      refine all_snoc ih ?_
      unfold diffOk
      rw [decide_eq_true (show t < n by omega), decide_eq_true (show xs.count t ≤ 1 by omega)]
      rfl
  · rintro σ H' ⟨v, rfl, rfl, ih⟩
    rw [nv_len, List.take_length] at ih
    have e : diffP n xs = true := ih
    rw [e] at q
    exact q
end
end Lo
namespace Lo
open PySem PySem.Spec PyProof.Rows L2
open PySem.W (Codec)
/-! ### in_lowest_terms -/
def spLow (K : PySem.W.Frag) : Sp := fun vs H Q _ => ∃ (a b : Nat), vs = [.int (a : Int), .int (b : Int)] ∧ 0 < b ∧ b < 1073741824 ∧
  ∀ (H' : Hp) (p : Addr), Same H H' → H' p = some (.lst ((Kzx4.lowest a b).map V.int)) → Q (.ref p) H'
def restOf (σ : L2.St) : Nat := match σ[3]? with
  | some (some (V.int r)) => r.toNat
  | _ => 0
section
variable {P : Program} {w : World} {K : PySem.W.Frag} {mg : Str → Option Value} {base : Heap}
theorem scG : FnScope ["above", "below", "shared", "rest", "left"] ["above", "below"] (defScope sLow) := ⟨rfl, rfl, rfl, by decide +kernel, rfl, by decide +kernel, by decide +kernel⟩
theorem ok_low {f : Addr} {fd : FuncData} (F : Fun K "in_lowest_terms" "in_lowest_terms" sLow f fd) : FnOk P w K mg base CX0 1 f fd ["above", "below"] (spLow K) := by
  refine F.ok scG (fun vs H Q E h => ?_) (fun cdv A outer s H vs Q E hr h => ?_)
  · obtain ⟨a, b, rfl, _⟩ := h
    rfl
  obtain ⟨a, b, rfl, hb, hb2, k⟩ := h
  refine ⟨_, pss_cons (ps_set (i := 2) scG.nd rfl (Or.inl rfl) (pv 1))
    (pss_cons (ps_set (i := 3) scG.nd rfl (Or.inl rfl) (pv 0))
    (pss_cons (ps_while PassesOwn.never (pt_cmpR op_gt (pv 3) pe_int (nomark _))
      (pss_cons (ps_set (i := 4) scG.nd rfl (Or.inl rfl) (pe_op op_mod (pv 2) (pv 3)))
      (pss_cons (ps_set (i := 2) scG.nd rfl (Or.inl rfl) (pv 3))
      (pss_one (ps_set (i := 3) scG.nd rfl (Or.inl rfl) (pv 4))))))
    (pss_one (ps_ret (pe_lst (pa_cons (pe_op op_fdiv (pv 0) (pv 2)) (pa_cons (pe_op op_fdiv (pv 1) (pv 2)) pa_nil))))))), ?_⟩
  refine ⟨_, rfl, _, rfl, ?_⟩
  refine while_by (fun σ H' => ∃ (s r : Nat) (v : Option V), σ = [some (.int (a : Int)), some (.int (b : Int)), some (.int (s : Int)), some (.int (r : Int)), v] ∧ H' = H ∧ 0 < s ∧ Nat.gcd s r = Nat.gcd b a) (fun σ _ => restOf σ) ⟨b, a, none, rfl, rfl, hb, rfl⟩ ?_ ?_
  · rintro σ H' ⟨s, r, v, rfl, rfl, hs, hg⟩
    refine ⟨_, rfl, _, _, rfl, rfl, _, rfl, ?_⟩
    refine ite2 (fun c => ?_) (fun c => ?_)
    · have z : (0 : Int) < ((r : Nat) : Int) := of_decide_eq_true c
      refine ⟨_, rfl, _, rfl, _, _, rfl, rfl, z, _, rfl, _, rfl, ⟨r, s % r, _, rfl, rfl, by omega, ?_⟩, ?_⟩
      · rw [gcd_step]
        exact hg
      · show ((s : Int) % (r : Int)).toNat < ((r : Nat) : Int).toNat
        rw [Int.toNat_natCast, ← Int.natCast_emod, Int.toNat_natCast]
        exact Nat.mod_lt _ (by omega)
    · have z : ¬ (0 : Int) < ((r : Nat) : Int) := of_decide_eq_false (Bool.eq_false_iff.mpr c)
      have r0 : r = 0 := by omega
      subst r0
      rw [Nat.gcd_zero_right] at hg
      have sl : s ≤ b := by rw [hg]; exact Nat.gcd_le_left a hb
      refine ⟨_, rfl, _, rfl, _, _, rfl, rfl, ⟨(by omega), (by omega)⟩, _, rfl, _, rfl, _, _, rfl, rfl, ⟨(by omega), (by omega)⟩, (by show 2 ≤ sizeLine; decide), fun p hp => k _ p (same_new hp _) ?_⟩
      rw [upd_same, lowest_eq hb hg]
      rfl
  · rintro σ H Q Q' hq ⟨v, e, i, j, e1, e2, c, e3, q⟩
    exact ⟨v, e, i, j, e1, e2, c, e3, hq _ _ q⟩
end
end Lo
namespace Lo
open PySem PySem.Spec PyProof.Rows L2
open PySem.W (Codec)
/-- what is due of height -/
def dueHeight (n x : Nat) (os : List Nat) : List Int := if findR n os = [] then [-22] else if n ≤ x then [-2] else 0 :: Kzx4.lowest (heightIn (findR n os) x) (findR n os).length
theorem due_height (n x : Nat) (os : List Nat) : PyKzx4.height (n : Int) (x : Int) (os.map fun (x : Nat) => (x : Int)) = dueHeight n x os := by
  have e : PyKzx4.height (n : Int) (x : Int) (os.map fun (x : Nat) => (x : Int)) = (Kzx4.answer (.height n x os)).value :: (Kzx4.answer (.height n x os)).nums := by
    show (Kzx4.answer (.height (Int.toNat (n : Int)) (Int.toNat (x : Int)) (Kzx4Neutral.natsOf (os.map fun (x : Nat) => (x : Int))))).value :: (Kzx4.answer (.height (Int.toNat (n : Int)) (Int.toNat (x : Int)) (Kzx4Neutral.natsOf (os.map fun (x : Nat) => (x : Int))))).nums = _
    rw [nats_back, Int.toNat_natCast, Int.toNat_natCast]
  rw [e]
  refine due_with n os _ _ fun ps _ _ h3 _ _ _ => ?_
  by_cases c : n ≤ x
  · rw [if_pos c, if_pos c]
    rfl
  · rw [if_neg c, if_neg c, height_eq h3, h3]
def spAns (K : PySem.W.Frag) : Sp := fun vs H Q _ => ∃ (n x : Nat) (a : Addr) (os : List Nat), vs = [.int (n : Int), .int (x : Int), .ref a] ∧ Ord K H a os ∧
  ∀ (H' : Hp) (p : Addr), H' p = some (.lst ((dueHeight n x os).map V.int)) → Q (.ref p) H'
section
variable {P : Program} {w : World} {K : PySem.W.Frag} {mg : Str → Option Value} {base : Heap}
theorem scR : FnScope ["n", "x", "o", "found", "places_together", "row"] ["n", "x", "o"] (defScope sAns) := ⟨rfl, rfl, rfl, by decide +kernel, rfl, by decide +kernel, by decide +kernel⟩
theorem ok_ans {f fF fD fL : Addr} {fd fdF fdD fdL : FuncData} {tO tT : Tok} (F : Fun K "height" "height" sAns f fd)
    (GF : FnOk P w K mg base CX0 3 fF fdF ["n", "o"] (spFind K)) (bF : Binds K fdF ["n", "o"] []) (kF : PySem.W.keepIn K (.ref fF) = true) (gF : mg "find_rows" = some (.ref fF))
    (GD : FnOk P w K mg base CX0 1 fD fdD ["n", "chosen"] (spDiff K)) (bD : Binds K fdD ["n", "chosen"] []) (kD : PySem.W.keepIn K (.ref fD) = true) (gD : mg "are_different_things" = some (.ref fD))
    (GL : FnOk P w K mg base CX0 1 fL fdL ["above", "below"] (spLow K)) (bL : Binds K fdL ["above", "below"] []) (kL : PySem.W.keepIn K (.ref fL) = true) (gL : mg "in_lowest_terms" = some (.ref fL))
    (mO : mg "ORDER_REFUSED" = some (.int (-22) tO)) (mT : mg "THING_REFUSED" = some (.int (-2) tT)) (ml : mg "len" = none) (ms : mg "sum" = none) : FnOk P w K mg base CX0 4 f fd ["n", "x", "o"] (spAns K) := by
  refine F.ok scR (fun vs H Q E h => ?_) (fun cdv A outer s H vs Q E hr h => ?_)
  · obtain ⟨n, x, a, os, rfl, _⟩ := h
    rfl
  obtain ⟨n, x, a, os, rfl, O, k⟩ := h
  refine ⟨_, pss_cons (ps_set (i := 3) scR.nd rfl (Or.inl rfl) (pe_call GF hr rfl gF kF bF .nil pass0 (pa_cons (pv 0) (pa_cons (pv 2) pa_nil))))
    (pss_cons (ps_if (pt_cmpR op_eq (pe_callB call_len_seq rfl ml PySem.boot_len (pa_cons (pv 3) pa_nil)) pe_int (nomark _)) (pss_one (ps_ret (pe_lst (pa_cons (pe_glob (v := .int (-22)) rfl mO ⟨_, rfl⟩) pa_nil)))) pss_nil)
    (pss_cons (ps_if (pt_not (pt_val (pe_call GD (hr.mono (by decide)) rfl gD kD bD .nil pass0 (pa_cons (pv 0) (pa_cons (pe_lst (pa_cons (pv 1) pa_nil)) pa_nil))))) (pss_one (ps_ret (pe_lst (pa_cons (pe_glob (v := .int (-2)) rfl mT ⟨_, rfl⟩) pa_nil)))) pss_nil)
    (pss_cons (ps_set (i := 4) scR.nd rfl (Or.inl rfl) (pe_callB (cr_sum rfl) rfl ms (by decide +kernel) (pa_cons (pe_lc (own := [("row", 5)]) (g := gName 5) (tt := tYes) (te := tOp (rI0 fun i j => .int (i + j)) (tBM K "list" (rIndex K) (tVar 5) (tCons (tVar 1) tNil)) (tC (.int 1))) rfl scR.nd (pi_list (pv 3)) (blkOk_by (own := [("row", 5)]) (N := ["n", "x", "o", "found", "places_together", "row"]) (sc := defScope sAns) (by decide +kernel))
      (fun _ _ _ _ _ => pg_name (i := 5) scR.nd rfl (Or.inl rfl)) (fun _ _ _ _ _ => pts_nil)
      (fun _ _ _ _ _ => pe_op op_add (pe_bm PySem.F.plainAttrs_list PySem.F.slot_list_index PySem.F.type_list_index mt_index (pv 5) (pa_cons (pv 1) pa_nil)) pe_int)) pa_nil)))
    (pss_one (ps_ret (pe_op op_cat (pe_lst (pa_cons pe_int pa_nil)) (pe_call GL (hr.mono (by decide)) rfl gL kL bL .nil pass0 (pa_cons (pv 4) (pa_cons (pe_callB call_len_seq rfl ml PySem.boot_len (pa_cons (pv 3) pa_nil)) pa_nil))))))))), ?_⟩
  refine ⟨_, rfl, _, rfl, n, a, os, rfl, O, fun H1 p s1 R => ?_⟩
  obtain ⟨as, hp, AL⟩ := R
  refine ⟨_, rfl, p, _, rfl, .inl (SqL.of hp), rfl, _, rfl, ?_⟩
  refine ite2 (fun c => ?_) (fun c => ?_)
  · have e : findR n os = [] := is_empty AL.len c
    refine ⟨(by show 1 ≤ sizeLine; decide), fun p2 hp2 => k _ p2 ?_⟩
    rw [upd_same]
    unfold dueHeight
    rw [if_pos e]
    rfl
  have e : findR n os ≠ [] := not_empty AL.len c
  have hn := findR_n e
  refine ⟨_, rfl, _, rfl, (by show 1 ≤ sizeLine; decide), fun p2 hp2 => ?_⟩
  have s2 : Same H1 (upd H1 p2 (.lst [V.int (x : Int)])) := same_new hp2 _
  refine ⟨n, p2, [x], rfl, SqL.of upd_same, _, rfl, ?_⟩
  refine ite2 (fun c2 => ?_) (fun c2 => ?_)
  · have z : n ≤ x := by
      rw [diff_one] at c2
      simpa using c2
    refine ⟨(by show 1 ≤ sizeLine; decide), fun p3 hp3 => k _ p3 ?_⟩
    rw [upd_same]
    unfold dueHeight
    rw [if_neg e, if_pos z]
    rfl
  have z : ¬ n ≤ x := by
    rw [diff_one] at c2
    simpa using c2
  have hlen := findR_len (n := n) (os := os)
  generalize hH3 : upd H1 p2 (.lst [V.int (x : Int)]) = H3 at s2 ⊢
  -- the places together
  refine ⟨_, rfl, p, rfl, ⟨_, SqL.of (s2 _ _ hp)⟩, fun D hD => lc_list (K := K) (a := p) (xs := as.map V.ref)
    (fun i H' => Same H3 H' ∧ H' D = some (.lst ((((findR n os).take i).map fun r => ((Kzx4.place r x + 1 : Nat) : Int)).map V.int)))
    ⟨same_new hD _, upd_same⟩ (fun i H' _ ⟨s4, _⟩ => SqL.of (s4 _ _ (s2 _ _ hp))) ?_ ?_⟩
  · rintro i v H' hi ⟨s4, hD4⟩
    obtain ⟨c, hc, rfl⟩ := ref_get hi
    obtain ⟨r, hr1, hr2⟩ := AL.at_ i c hc
    have hx := findR_has (List.mem_of_getElem? hr1) (show x < n by omega)
    have hc1 := s4 _ _ (s2 _ _ hr2)
    refine ⟨rfl, ?_⟩
    refine ⟨_, rfl, .inl ⟨rfl, _, SqL.of hc1⟩, _, rfl, c, _, _, Kzx4.place r x, _, rfl, rfl, SqL.of hc1, rfl, nv_flat r, nv_get (place_get hx), eq_at (r := r), no_ahead, ?_⟩
    refine ⟨_, _, rfl, rfl, ?_⟩
    refine ⟨_, hD4, ?_, same_put s4 hD, ?_⟩
    · rw [List.length_map, List.length_map, List.length_take]
      exact small6 (by omega)
    · rw [upd_same, take_snoc hr1, List.map_append, List.map_append]
      rfl
  · rintro H' ⟨s4, hD4⟩
    rw [List.length_map, AL.len, List.take_length] at hD4
    refine ⟨D, _, rfl, SqL.of hD4, ?_⟩
    rw [height_sum]
    refine ⟨(by show 1 ≤ sizeLine; decide), fun p3 hp3 => ?_⟩
    have s5 : Same H' (upd H' p3 (.lst [V.int 0])) := same_new hp3 _
    have hpos : 0 < (findR n os).length := List.length_pos_iff.mpr e
    refine ⟨_, rfl, _, rfl, p, _, rfl, .inl (SqL.of (s5 _ _ (s4 _ _ (s2 _ _ hp)))), ?_⟩
    rw [List.length_map, AL.len]
    refine ⟨_, _, rfl, hpos, (by omega), fun H5 p5 s6 hp5 => ?_⟩
    refine ⟨p3, p5, _, _, rfl, rfl, s6 _ _ upd_same, hp5, ?_, fun p6 hp6 => k _ p6 ?_⟩
    · rw [List.length_map, lowest_eq hpos rfl]
      show 1 + 2 ≤ sizeLine
      decide
    rw [upd_same]
    unfold dueHeight
    rw [if_neg e, if_neg z]
    rfl
end
end Lo
namespace Lo
open PySem PySem.Spec PyProof.Rows L2
theorem all_mk {P : Program} {w : World} {K : PySem.W.Frag} {h : Heap} {mg : Str → Option Value} {fa f1 f2 f3 f4 f5 f6 f7 : Addr} (X : K.In h) (G : h.Ns mainGlobals mg) (hfa : mg "height" = some (.ref fa))
    {od1 an1 od2 an2 od3 an3 od4 an4 od5 an5 od6 an6 od7 an7 : Option Addr} {sl1 sl2 sl3 sl4 sl5 sl6 sl7 : Array (Option Value)} {oc1 kV1 dc1 pm1 cd1 ct1 oc2 kV2 dc2 pm2 cd2 ct2 oc3 kV3 dc3 pm3 cd3 ct3 oc4 kV4 dc4 pm4 cd4 ct4 oc5 kV5 dc5 pm5 cd5 ct5 oc6 kV6 dc6 pm6 cd6 ct6 oc7 kV7 dc7 pm7 cd7 ct7 : Value} {t_ORDER_REFUSED t_THING_REFUSED t_MOST_THINGS : Tok}
    (a1 : PySem.W.nsIn K mainGlobals "height" = some (some (.ref f1))) (l1 : K.lookup f1 = some ⟨oc1, od1, .func (PySem.W.fnOf "height" "height" (defArgs sAns) (defBody sAns) (defScope sAns) .none kV1 dc1 pm1 an1 cd1 ct1), sl1⟩) (c1 : PySem.W.codeIn K cd1 "height" = true) (k1 : PySem.W.keepIn K (.ref f1) = true)
    (a2 : PySem.W.nsIn K mainGlobals "find_rows" = some (some (.ref f2))) (l2 : K.lookup f2 = some ⟨oc2, od2, .func (PySem.W.fnOf "find_rows" "find_rows" (defArgs sFind) (defBody sFind) (defScope sFind) .none kV2 dc2 pm2 an2 cd2 ct2), sl2⟩) (c2 : PySem.W.codeIn K cd2 "find_rows" = true) (k2 : PySem.W.keepIn K (.ref f2) = true)
    (a3 : PySem.W.nsIn K mainGlobals "are_pairs" = some (some (.ref f3))) (l3 : K.lookup f3 = some ⟨oc3, od3, .func (PySem.W.fnOf "are_pairs" "are_pairs" (defArgs sAre) (defBody sAre) (defScope sAre) .none kV3 dc3 pm3 an3 cd3 ct3), sl3⟩) (c3 : PySem.W.codeIn K cd3 "are_pairs" = true) (k3 : PySem.W.keepIn K (.ref f3) = true)
    (a4 : PySem.W.nsIn K mainGlobals "longer_by_one" = some (some (.ref f4))) (l4 : K.lookup f4 = some ⟨oc4, od4, .func (PySem.W.fnOf "longer_by_one" "longer_by_one" (defArgs sLbo) (defBody sLbo) (defScope sLbo) .none kV4 dc4 pm4 an4 cd4 ct4), sl4⟩) (c4 : PySem.W.codeIn K cd4 "longer_by_one" = true) (k4 : PySem.W.keepIn K (.ref f4) = true)
    (a5 : PySem.W.nsIn K mainGlobals "may_come_next" = some (some (.ref f5))) (l5 : K.lookup f5 = some ⟨oc5, od5, .func (PySem.W.fnOf "may_come_next" "may_come_next" (defArgs sMcn) (defBody sMcn) (defScope sMcn) .none kV5 dc5 pm5 an5 cd5 ct5), sl5⟩) (c5 : PySem.W.codeIn K cd5 "may_come_next" = true) (k5 : PySem.W.keepIn K (.ref f5) = true)
    (a6 : PySem.W.nsIn K mainGlobals "are_different_things" = some (some (.ref f6))) (l6 : K.lookup f6 = some ⟨oc6, od6, .func (PySem.W.fnOf "are_different_things" "are_different_things" (defArgs sDiff) (defBody sDiff) (defScope sDiff) .none kV6 dc6 pm6 an6 cd6 ct6), sl6⟩) (c6 : PySem.W.codeIn K cd6 "are_different_things" = true) (k6 : PySem.W.keepIn K (.ref f6) = true)
    (a7 : PySem.W.nsIn K mainGlobals "in_lowest_terms" = some (some (.ref f7))) (l7 : K.lookup f7 = some ⟨oc7, od7, .func (PySem.W.fnOf "in_lowest_terms" "in_lowest_terms" (defArgs sLow) (defBody sLow) (defScope sLow) .none kV7 dc7 pm7 an7 cd7 ct7), sl7⟩) (c7 : PySem.W.codeIn K cd7 "in_lowest_terms" = true) (k7 : PySem.W.keepIn K (.ref f7) = true)
    (c_ORDER_REFUSED : PySem.W.nsIn K mainGlobals "ORDER_REFUSED" = some (some (.int (-22) t_ORDER_REFUSED))) (c_THING_REFUSED : PySem.W.nsIn K mainGlobals "THING_REFUSED" = some (some (.int (-2) t_THING_REFUSED))) (c_MOST_THINGS : PySem.W.nsIn K mainGlobals "MOST_THINGS" = some (some (.int 6 t_MOST_THINGS))) (y_len : PySem.W.nsIn K mainGlobals "len" = some none) (y_range : PySem.W.nsIn K mainGlobals "range" = some none) (y_sum : PySem.W.nsIn K mainGlobals "sum" = some none) :
    ∃ fd : FuncData, (∀ (s : Shared) (us : List Value), us.length = (["n", "x", "o"] : List Str).length → BindsTo s fd ⟨us, []⟩ ((["n", "x", "o"] : List Str).zip us)) ∧ ∀ base : Heap, K.In base → base.Ns mainGlobals mg → FnOk P w K mg base CX0 4 fa fd ["n", "x", "o"] (spAns K) := by
  have e := hfa.symm.trans (PySem.W.mg_of X G a1)
  cases e
  have z_len : mg "len" = none := PySem.W.mg_none_of X G y_len
  have z_range : mg "range" = none := PySem.W.mg_none_of X G y_range
  have z_sum : mg "sum" = none := PySem.W.mg_none_of X G y_sum
  have m_ORDER_REFUSED := PySem.W.mg_of X G c_ORDER_REFUSED
  have m_THING_REFUSED := PySem.W.mg_of X G c_THING_REFUSED
  have m_MOST_THINGS := PySem.W.mg_of X G c_MOST_THINGS
  have F_height := fun_mk (st := sAns) l1 c1 k1
  have g_height := PySem.W.mg_of X G a1
  have k_height := k1
  have b_height := F_height.binds (ps := ["n", "x", "o"]) fun _ _ _ _ _ _ us hl => match us, hl with | [_, _, _], _ => rfl
  have F_find_rows := fun_mk (st := sFind) l2 c2 k2
  have g_find_rows := PySem.W.mg_of X G a2
  have k_find_rows := k2
  have b_find_rows := F_find_rows.binds (ps := ["n", "o"]) fun _ _ _ _ _ _ us hl => match us, hl with | [_, _], _ => rfl
  have F_are_pairs := fun_mk (st := sAre) l3 c3 k3
  have g_are_pairs := PySem.W.mg_of X G a3
  have k_are_pairs := k3
  have b_are_pairs := F_are_pairs.binds (ps := ["n", "o"]) fun _ _ _ _ _ _ us hl => match us, hl with | [_, _], _ => rfl
  have F_longer_by_one := fun_mk (st := sLbo) l4 c4 k4
  have g_longer_by_one := PySem.W.mg_of X G a4
  have k_longer_by_one := k4
  have b_longer_by_one := F_longer_by_one.binds (ps := ["n", "o", "begun"]) fun _ _ _ _ _ _ us hl => match us, hl with | [_, _, _], _ => rfl
  have F_may_come_next := fun_mk (st := sMcn) l5 c5 k5
  have g_may_come_next := PySem.W.mg_of X G a5
  have k_may_come_next := k5
  have b_may_come_next := F_may_come_next.binds (ps := ["thing", "row", "o"]) fun _ _ _ _ _ _ us hl => match us, hl with | [_, _, _], _ => rfl
  have F_are_different_things := fun_mk (st := sDiff) l6 c6 k6
  have g_are_different_things := PySem.W.mg_of X G a6
  have k_are_different_things := k6
  have b_are_different_things := F_are_different_things.binds (ps := ["n", "chosen"]) fun _ _ _ _ _ _ us hl => match us, hl with | [_, _], _ => rfl
  have F_in_lowest_terms := fun_mk (st := sLow) l7 c7 k7
  have g_in_lowest_terms := PySem.W.mg_of X G a7
  have k_in_lowest_terms := k7
  have b_in_lowest_terms := F_in_lowest_terms.binds (ps := ["above", "below"]) fun _ _ _ _ _ _ us hl => match us, hl with | [_, _], _ => rfl
  exact ⟨PySem.W.fnOf "height" "height" (defArgs sAns) (defBody sAns) (defScope sAns) .none kV1 dc1 pm1 an1 cd1 ct1, fun s us hu => match us, hu with | [_, _, _], _ => .of_eq rfl, fun base _ _ =>
    ok_ans F_height (ok_find F_find_rows (ok_are F_are_pairs z_len z_range) b_are_pairs k_are_pairs g_are_pairs (ok_lbo F_longer_by_one (ok_mcn F_may_come_next z_len z_range) b_may_come_next k_may_come_next g_may_come_next z_range) b_longer_by_one k_longer_by_one g_longer_by_one m_MOST_THINGS z_range) b_find_rows k_find_rows g_find_rows (ok_diff F_are_different_things) b_are_different_things k_are_different_things g_are_different_things (ok_low F_in_lowest_terms) b_in_lowest_terms k_in_lowest_terms g_in_lowest_terms m_ORDER_REFUSED m_THING_REFUSED z_len z_sum⟩
end Lo
open PySem PySem.W PyProof.Rows
set_option maxRecDepth 100000 in
set_option maxHeartbeats 0 in
theorem PySem.Challenge.cw_likelyorders_s07_height_holds : PySem.Challenge.rw_likelyorders_s07_height.Holds := by
  w_on; k_headS; (case hw => exact ⟨[.int 1, .int 1, .list []], by decide +kernel, by decide +kernel⟩)
  k_fillS
  refine L2.walk_specK (r := PySem.Challenge.rw_likelyorders_s07_height) (k := 4) (CX := L2.CX0) (ps := ["n", "x", "o"]) (sp := Lo.spAns) (by decide +kernel) rfl rfl ⟨rfl, by decide, by decide⟩ (fun w h Y => PySem.W.kIn_of Y) ?F ?S (fun _ _ _ _ z => z)
  case F =>
    intro w mg fa h Y KX G hmg
    refine' Lo.all_mk KX G hmg ?a1 ?l1 ?c1 ?k1 ?a2 ?l2 ?c2 ?k2 ?a3 ?l3 ?c3 ?k3 ?a4 ?l4 ?c4 ?k4 ?a5 ?l5 ?c5 ?k5 ?a6 ?l6 ?c6 ?k6 ?a7 ?l7 ?c7 ?k7 ?c_ORDER_REFUSED ?c_THING_REFUSED ?c_MOST_THINGS ?y_len ?y_range ?y_sum
    (case a1 => k_is)
    (case l1 => k_is)
    (case c1 => k_is)
    (case k1 => k_is)
    (case a2 => k_is)
    (case l2 => k_is)
    (case c2 => k_is)
    (case k2 => k_is)
    (case a3 => k_is)
    (case l3 => k_is)
    (case c3 => k_is)
    (case k3 => k_is)
    (case a4 => k_is)
    (case l4 => k_is)
    (case c4 => k_is)
    (case k4 => k_is)
    (case a5 => k_is)
    (case l5 => k_is)
    (case c5 => k_is)
    (case k5 => k_is)
    (case a6 => k_is)
    (case l6 => k_is)
    (case c6 => k_is)
    (case k6 => k_is)
    (case a7 => k_is)
    (case l7 => k_is)
    (case c7 => k_is)
    (case k7 => k_is)
    (case c_ORDER_REFUSED => k_is)
    (case c_THING_REFUSED => k_is)
    (case c_MOST_THINGS => k_is)
    (case y_len => k_is)
    (case y_range => k_is)
    (case y_sum => k_is)
  case S =>
    intro K H xs a hO hwi hask hx
    obtain ⟨j_n, j_x, l, u⟩ := a
    have q : (Codec.inInt 0 4294967295 j_n && (Codec.inInt 0 4294967295 j_x && (((Codec.inLen 0 40 l && l.all (Codec.inInt 0 4294967295)) && true)))) = true := hwi
    simp only [Bool.and_eq_true] at q
    obtain ⟨r_n, r_x, ⟨q2, q3⟩, _⟩ := q
    obtain ⟨n_n, rfl⟩ : ∃ m : Nat, j_n = (m : Int) := ⟨Int.toNat j_n, (Int.toNat_of_nonneg (Codec.inInt_iff.mp r_n).1).symm⟩
    obtain ⟨n_x, rfl⟩ : ∃ m : Nat, j_x = (m : Int) := ⟨Int.toNat j_x, (Int.toNat_of_nonneg (Codec.inInt_iff.mp r_x).1).symm⟩
    obtain ⟨os, rfl⟩ := Lo.of_ints l fun x hx => (Codec.inInt_iff.mp (List.all_eq_true.mp q3 x hx)).1
    have hlen := (Codec.inNat_iff.mp q2).2
    rw [List.length_map] at hlen
    cases hx with
    | cons h1 hx =>
      cases h1
      cases hx with
      | cons h1 hx =>
        cases h1
        cases hx with
        | cons h3 h4 =>
          cases h4
          cases h3 with
          | lst hs ha =>
            have e := L2.ints_dw _ _ ha
            subst e
            rw [Lo.nv_map] at hs
            refine ⟨n_n, n_x, _, os, rfl, ⟨hs, hlen⟩, fun H' p hp => ?_⟩
            show L2.Dw K H' (.ref p) (.list ((PyKzx4.height (n_n : Int) (n_x : Int) (os.map fun (x : Nat) => (x : Int))).map WData.int))
            rw [Lo.due_height]
            exact .lst (L2.SqL.of hp) (L2.dw_ints _)
#print axioms PySem.Challenge.cw_likelyorders_s07_height_holds
